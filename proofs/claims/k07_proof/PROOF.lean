import PyProof.Rows.All
import Wide.All
import OpenK.AllK
import Wide.FinOn
import HandS.ForMost
import HandS.StrMore
import HandS.IsInst
import HandS.Codes
import HandS.Strs
import HandS.More
import KE.KCallOwn
import HandS.ClsMeth
import HandS.FStr
import HandS.Walk
import KE.GoesMore
import HandS.DictTup
import KE.KSortTupAny
import PyProof.ReprRoads
import PyProof.ReprLen
import PyProof.FitsInt
import HandS.Gcd
import HandS.Wide
import HandS.Style
import HandS.Set
import HandS.SetKeys
import PyProof.Rows.SortStr
import HandS.SetBool
import HandS.Property
import HandS.RaiseMore
import PySem.Challenge.RW_heirorders_k07_whole_fractions_come_to_o
set_option Elab.async false
set_option linter.all false
set_option maxRecDepth 100000
set_option maxHeartbeats 4000000
namespace He
open PySem PySem.Spec PyProof.Rows L2
def topS (i : Nat) : Stmt := PySem.Challenge.pw_heirorders_k07_whole_fractions_come_to_o.main.body.getD i (.Pass ⟨0, 0, 0, 0⟩)
abbrev sDIsInteger : Stmt := topS 4
abbrev sDIsName : Stmt := topS 5
abbrev sDIsSequence : Stmt := topS 6
abbrev sDIsPair : Stmt := topS 7
abbrev sDReadNumber : Stmt := topS 8
abbrev sDLowest : Stmt := topS 9
abbrev sDPlus : Stmt := topS 10
abbrev sDInvalidWillInit : Stmt := inClass (topS 13) 0
abbrev sDInvalidTextInit : Stmt := inClass (topS 14) 0
abbrev sDWillInit : Stmt := inClass (topS 17) 0
abbrev sDWillRead : Stmt := inClass (topS 17) 1
abbrev sDWillNames : Stmt := inClass (topS 17) 2
abbrev sDWillHeirs : Stmt := inClass (topS 17) 3
abbrev sDWillLen : Stmt := inClass (topS 17) 4
abbrev sDWillEq : Stmt := inClass (topS 17) 5
abbrev sDWillStr : Stmt := inClass (topS 17) 6
abbrev sDAreShares : Stmt := topS 18
abbrev sDIsShare : Stmt := topS 19
abbrev sDIsGroup : Stmt := topS 20
abbrev sDLots : Stmt := topS 21
abbrev sDTakers : Stmt := topS 22
abbrev sDShareText : Stmt := topS 23
abbrev sDReadShare : Stmt := topS 24
abbrev sDLawSeed : Stmt := topS 26
abbrev sDLawChoose : Stmt := topS 27
abbrev sDLawOneOf : Stmt := topS 28
abbrev sDLawMixed : Stmt := topS 29
abbrev sDLawNames : Stmt := topS 30
abbrev sDLawGroup : Stmt := topS 31
abbrev sDLawWill : Stmt := topS 32
abbrev sDLawDivisor : Stmt := topS 33
abbrev sDLawRatio : Stmt := topS 34
abbrev sDLawPlus : Stmt := topS 35
abbrev sDLaw : Stmt := topS 36
theorem scDIsInteger : FnScope ["value"] ["value"] (defScope sDIsInteger) := ⟨rfl, rfl, rfl, by decide +kernel, rfl, by decide +kernel, by decide +kernel⟩
theorem scDIsName : FnScope ["value"] ["value"] (defScope sDIsName) := ⟨rfl, rfl, rfl, by decide +kernel, rfl, by decide +kernel, by decide +kernel⟩
theorem scDIsSequence : FnScope ["value"] ["value"] (defScope sDIsSequence) := ⟨rfl, rfl, rfl, by decide +kernel, rfl, by decide +kernel, by decide +kernel⟩
theorem scDIsPair : FnScope ["value"] ["value"] (defScope sDIsPair) := ⟨rfl, rfl, rfl, by decide +kernel, rfl, by decide +kernel, by decide +kernel⟩
theorem scDReadNumber : FnScope ["word", "digits"] ["word", "digits"] (defScope sDReadNumber) := ⟨rfl, rfl, rfl, by decide +kernel, rfl, by decide +kernel, by decide +kernel⟩
theorem scDLowest : FnScope ["above", "below", "common"] ["above", "below"] (defScope sDLowest) := ⟨rfl, rfl, rfl, by decide +kernel, rfl, by decide +kernel, by decide +kernel⟩
theorem scDPlus : FnScope ["left", "right"] ["left", "right"] (defScope sDPlus) := ⟨rfl, rfl, rfl, by decide +kernel, rfl, by decide +kernel, by decide +kernel⟩
theorem scDInvalidWillInit : FnScope ["self", "word"] ["self", "word"] (defScope sDInvalidWillInit) := ⟨rfl, rfl, rfl, by decide +kernel, rfl, by decide +kernel, by decide +kernel⟩
theorem scDInvalidTextInit : FnScope ["self", "at"] ["self", "at"] (defScope sDInvalidTextInit) := ⟨rfl, rfl, rfl, by decide +kernel, rfl, by decide +kernel, by decide +kernel⟩
theorem scDWillInit : FnScope ["self", "shares", "weight", "groups"] ["self", "shares"] (defScope sDWillInit) := ⟨rfl, rfl, rfl, by decide +kernel, rfl, by decide +kernel, by decide +kernel⟩
theorem scDWillRead : FnScope ["cls", "text", "shares", "at", "part", "share"] ["cls", "text"] (defScope sDWillRead) := ⟨rfl, rfl, rfl, by decide +kernel, rfl, by decide +kernel, by decide +kernel⟩
theorem scDWillNames : FnScope ["self", "_", "groups", "group", "name"] ["self"] (defScope sDWillNames) := ⟨rfl, rfl, rfl, by decide +kernel, rfl, by decide +kernel, by decide +kernel⟩
theorem scDWillHeirs : FnScope ["self", "alive", "total", "weight", "_", "parts", "groups", "takers", "part", "name"] ["self", "alive"] (defScope sDWillHeirs) := ⟨rfl, rfl, rfl, by decide +kernel, rfl, by decide +kernel, by decide +kernel⟩
theorem scDWillLen : FnScope ["self"] ["self"] (defScope sDWillLen) := ⟨rfl, rfl, rfl, by decide +kernel, rfl, by decide +kernel, by decide +kernel⟩
theorem scDWillEq : FnScope ["self", "other"] ["self", "other"] (defScope sDWillEq) := ⟨rfl, rfl, rfl, by decide +kernel, rfl, by decide +kernel, by decide +kernel⟩
theorem scDWillStr : FnScope ["self", "weight", "groups"] ["self"] (defScope sDWillStr) := ⟨rfl, rfl, rfl, by decide +kernel, rfl, by decide +kernel, by decide +kernel⟩
theorem scDAreShares : FnScope ["value", "share"] ["value"] (defScope sDAreShares) := ⟨rfl, rfl, rfl, by decide +kernel, rfl, by decide +kernel, by decide +kernel⟩
theorem scDIsShare : FnScope ["value", "weight", "groups", "group"] ["value"] (defScope sDIsShare) := ⟨rfl, rfl, rfl, by decide +kernel, rfl, by decide +kernel, by decide +kernel⟩
theorem scDIsGroup : FnScope ["value", "name"] ["value"] (defScope sDIsGroup) := ⟨rfl, rfl, rfl, by decide +kernel, rfl, by decide +kernel, by decide +kernel⟩
theorem scDLots : FnScope ["groups", "group"] ["groups"] (defScope sDLots) := ⟨rfl, rfl, rfl, by decide +kernel, rfl, by decide +kernel, by decide +kernel⟩
theorem scDTakers : FnScope ["groups", "alive", "group", "takers", "name"] ["groups", "alive"] (defScope sDTakers) := ⟨rfl, rfl, rfl, by decide +kernel, rfl, by decide +kernel, by decide +kernel⟩
theorem scDShareText : FnScope ["weight", "groups", "told", "group"] ["weight", "groups"] (defScope sDShareText) := ⟨rfl, rfl, rfl, by decide +kernel, rfl, by decide +kernel, by decide +kernel⟩
theorem scDReadShare : FnScope ["part", "word", "space", "told", "weight", "group"] ["part"] (defScope sDReadShare) := ⟨rfl, rfl, rfl, by decide +kernel, rfl, by decide +kernel, by decide +kernel⟩
theorem scDLawSeed : FnScope ["_law_script", "_law_k", "_law_cell"] ["_law_script", "_law_k"] (defScope sDLawSeed) := ⟨rfl, rfl, rfl, by decide +kernel, rfl, by decide +kernel, by decide +kernel⟩
theorem scDLawChoose : FnScope ["_law_box", "_law_many", "_law_digit", "_law_raw"] ["_law_box", "_law_many"] (defScope sDLawChoose) := ⟨rfl, rfl, rfl, by decide +kernel, rfl, by decide +kernel, by decide +kernel⟩
theorem scDLawOneOf : FnScope ["_law_box", "_law_some"] ["_law_box", "_law_some"] (defScope sDLawOneOf) := ⟨rfl, rfl, rfl, by decide +kernel, rfl, by decide +kernel, by decide +kernel⟩
theorem scDLawMixed : FnScope ["_law_box", "_law_some", "_law_left", "_law_found"] ["_law_box", "_law_some"] (defScope sDLawMixed) := ⟨rfl, rfl, rfl, by decide +kernel, rfl, by decide +kernel, by decide +kernel⟩
theorem scDLawNames : FnScope ["_law_box", "_law_many", "_law_pools"] ["_law_box", "_law_many"] (defScope sDLawNames) := ⟨rfl, rfl, rfl, by decide +kernel, rfl, by decide +kernel, by decide +kernel⟩
theorem scDLawGroup : FnScope ["_law_box", "_law_some"] ["_law_box", "_law_some"] (defScope sDLawGroup) := ⟨rfl, rfl, rfl, by decide +kernel, rfl, by decide +kernel, by decide +kernel⟩
theorem scDLawWill : FnScope ["_law_box", "_law_others", "_law_found", "_law_share", "_law_groups", "_law_turn"] ["_law_box", "_law_others"] (defScope sDLawWill) := ⟨rfl, rfl, rfl, by decide +kernel, rfl, by decide +kernel, by decide +kernel⟩
theorem scDLawDivisor : FnScope ["_law_one", "_law_other"] ["_law_one", "_law_other"] (defScope sDLawDivisor) := ⟨rfl, rfl, rfl, by decide +kernel, rfl, by decide +kernel, by decide +kernel⟩
theorem scDLawRatio : FnScope ["_law_upper", "_law_lower", "_law_part"] ["_law_upper", "_law_lower"] (defScope sDLawRatio) := ⟨rfl, rfl, rfl, by decide +kernel, rfl, by decide +kernel, by decide +kernel⟩
theorem scDLawPlus : FnScope ["_law_one", "_law_other"] ["_law_one", "_law_other"] (defScope sDLawPlus) := ⟨rfl, rfl, rfl, by decide +kernel, rfl, by decide +kernel, by decide +kernel⟩
theorem scDLaw : FnScope ["_law_script", "_law_k", "_law_box", "_law_turn", "_law_names_here", "_law_will_here", "_law_made", "_law_alive", "_law_name", "_law_told", "_law_whole", "_law_part", "_law_weight", "_law_groups", "_law_halves", "_law_more", "_law_some", "_law_one"] ["_law_script"] (defScope sDLaw) := ⟨rfl, rfl, rfl, by decide +kernel, rfl, by decide +kernel, by decide +kernel⟩
/-- a def as the top leaves it: at f, with its data fd -/
structure Dn (K : PySem.W.Frag) (mg : Str → Option Value) (x qual : Str) (st : Stmt) (ps : List Str) where
  f : Addr
  fd : FuncData
  F : Fun K x qual st f fd
  b : Binds K fd ps []
  g : mg x = some (.ref f)
/-- a method of the class at C -/
structure Dm (K : PySem.W.Frag) (C : Addr) (x qual : Str) (st : Stmt) (ps : List Str) where
  f : Addr
  fd : FuncData
  F : Fun K x qual st f fd
  b : Binds K fd ps []
  m : Meth K C x f
/-- what the top has written -/
structure TxtG (K : PySem.W.Frag) (mg : Str → Option Value) where
  cHeirError : Addr
  gcHeirError : mg "HeirError" = some (.ref cHeirError)
  cInvalidWill : Addr
  gcInvalidWill : mg "InvalidWill" = some (.ref cInvalidWill)
  cInvalidText : Addr
  gcInvalidText : mg "InvalidText" = some (.ref cInvalidText)
  cWill : Addr
  gcWill : mg "Will" = some (.ref cWill)
  dIsInteger : Dn K mg "is_integer" "is_integer" sDIsInteger ["value"]
  dIsName : Dn K mg "is_name" "is_name" sDIsName ["value"]
  dIsSequence : Dn K mg "is_sequence" "is_sequence" sDIsSequence ["value"]
  dIsPair : Dn K mg "is_pair" "is_pair" sDIsPair ["value"]
  dReadNumber : Dn K mg "read_number" "read_number" sDReadNumber ["word", "digits"]
  dLowest : Dn K mg "lowest" "lowest" sDLowest ["above", "below"]
  dPlus : Dn K mg "plus" "plus" sDPlus ["left", "right"]
  dAreShares : Dn K mg "_are_shares" "_are_shares" sDAreShares ["value"]
  dIsShare : Dn K mg "_is_share" "_is_share" sDIsShare ["value"]
  dIsGroup : Dn K mg "_is_group" "_is_group" sDIsGroup ["value"]
  dLots : Dn K mg "_lots" "_lots" sDLots ["groups"]
  dTakers : Dn K mg "_takers" "_takers" sDTakers ["groups", "alive"]
  dShareText : Dn K mg "_share_text" "_share_text" sDShareText ["weight", "groups"]
  dReadShare : Dn K mg "_read_share" "_read_share" sDReadShare ["part"]
  dLawSeed : Dn K mg "_law_seed" "_law_seed" sDLawSeed ["_law_script", "_law_k"]
  dLawChoose : Dn K mg "_law_choose" "_law_choose" sDLawChoose ["_law_box", "_law_many"]
  dLawOneOf : Dn K mg "_law_one_of" "_law_one_of" sDLawOneOf ["_law_box", "_law_some"]
  dLawMixed : Dn K mg "_law_mixed" "_law_mixed" sDLawMixed ["_law_box", "_law_some"]
  dLawNames : Dn K mg "_law_names" "_law_names" sDLawNames ["_law_box", "_law_many"]
  dLawGroup : Dn K mg "_law_group" "_law_group" sDLawGroup ["_law_box", "_law_some"]
  dLawWill : Dn K mg "_law_will" "_law_will" sDLawWill ["_law_box", "_law_others"]
  dLawDivisor : Dn K mg "_law_divisor" "_law_divisor" sDLawDivisor ["_law_one", "_law_other"]
  dLawRatio : Dn K mg "_law_ratio" "_law_ratio" sDLawRatio ["_law_upper", "_law_lower"]
  dLawPlus : Dn K mg "_law_plus" "_law_plus" sDLawPlus ["_law_one", "_law_other"]
  dLaw : Dn K mg "law" "law" sDLaw ["_law_script"]
  z_abs : mg "abs" = none
  z_all : mg "all" = none
  z_bool : mg "bool" = none
  z_classmethod : mg "classmethod" = none
  z_enumerate : mg "enumerate" = none
  z_int : mg "int" = none
  z_isinstance : mg "isinstance" = none
  z_len : mg "len" = none
  z_list : mg "list" = none
  z_max : mg "max" = none
  z_min : mg "min" = none
  z_property : mg "property" = none
  z_range : mg "range" = none
  z_set : mg "set" = none
  z_sorted : mg "sorted" = none
  z_str : mg "str" = none
  z_sum : mg "sum" = none
  z_tuple : mg "tuple" = none
  k_CROWN : ∃ t, mg "CROWN" = some (.str "crown" t)
  k_LONGEST_NAME : ∃ t, mg "LONGEST_NAME" = some (.int 5 t)
  k_WEIGHT_DIGITS : ∃ t, mg "WEIGHT_DIGITS" = some (.int 6 t)
  m_gcd : mg "gcd" = some (.builtin "math.gcd")
end He

namespace He
open PySem PySem.Spec PyProof.Rows L2
/-! ### heaps where one address is left out -/
def hide (p : Addr) (H : Hp) : Hp := fun b => if b = p then none else H b
theorem hide_ne {p b : Addr} {H : Hp} (h : b ≠ p) : hide p H b = H b := if_neg h
theorem hide_self {p : Addr} {H : Hp} : hide p H p = none := if_pos rfl
theorem hide_le {p : Addr} {H : Hp} : Same (hide p H) H := fun b o e => by
  unfold hide at e
  split at e
  · cases e
  · exact e
theorem hide_same {p : Addr} {H H' : Hp} (h : Same H H') : Same (hide p H) (hide p H') := fun b o e => by
  unfold hide at e ⊢
  split at e
  · cases e
  · rename_i q
    rw [if_neg q]
    exact h b o e
theorem hide_upd {p : Addr} {H : Hp} {o : HO} : Same (hide p H) (hide p (upd H p o)) := fun b u e => by
  have hb : b ≠ p := fun z => by rw [z, hide_self] at e; cases e
  rw [hide_ne hb] at e ⊢
  rw [upd_ne hb]
  exact e
/-- the draws' state: a large number or nought, and a small one -/
def Box (H : Hp) (p : Addr) : Prop := ∃ b0 b1 : Int, H p = some (.lst [.int b0, .int b1]) ∧ 0 ≤ b0 ∧ 0 < b1 ∧ b1 ≤ 2147483629
/-- what a helper that draws leaves: the box, and all else -/
def Bx (p : Addr) (H H' : Hp) : Prop := Box H' p ∧ Same (hide p H) (hide p H')
theorem Box.same {H H' : Hp} {p : Addr} (h : Box H p) (s : Same H H') : Box H' p := by
  obtain ⟨b0, b1, e, r⟩ := h
  exact ⟨b0, b1, s _ _ e, r⟩
theorem Bx.of {H H' : Hp} {p : Addr} (h : Box H p) (s : Same H H') : Bx p H H' := ⟨h.same s, hide_same s⟩
theorem Bx.refl {H : Hp} {p : Addr} (h : Box H p) : Bx p H H := .of h (Same.refl H)
theorem Bx.trans {H H1 H2 : Hp} {p : Addr} (a : Bx p H H1) (b : Bx p H1 H2) : Bx p H H2 := ⟨b.1, a.2.trans b.2⟩
theorem Bx.ne0 {H : Hp} {p : Addr} (h : Box H p) : H p ≠ none := by
  obtain ⟨_, _, e, _⟩ := h
  rw [e]
  exact fun z => nomatch z
theorem same_upd {H : Hp} {p : Addr} {o : HO} (h : H p = none) : Same H (upd H p o) := fun b x e => by
  rw [upd_ne (ne_of_none e h)]
  exact e
theorem sqL_of {K : PySem.W.Frag} {H : Hp} {a : Addr} {xs : List V} (h : H a = some (.lst xs)) : SqL K H a xs := .inl (.inl h)
theorem sqT_of {K : PySem.W.Frag} {H : Hp} {a : Addr} {xs : List V} (h : H a = some (.tup xs)) : SqT K H a xs := .inl (.inl h)
theorem Same.seqT {K : PySem.W.Frag} {H H' : Hp} {a : Addr} {xs : List V} (e : Same H H') (h : SqT K H a xs) : SqT K H' a xs := by
  rcases h with (h | ⟨o, h⟩) | h
  · exact .inl (.inl (e _ _ h))
  · exact .inl (.inr ⟨o, e _ _ h⟩)
  · exact .inr h
end He

namespace He
open PySem PySem.Spec PyProof.Rows L2
section
variable {P : Program} {w : World} {K : PySem.W.Frag} {mg : Str → Option Value} {base : Heap}

theorem callR_imp {X : Cx} {f : Value} {r r' : List V → Hp → VK → Prop} (h : CallR X f r) (i : ∀ xs H Q, r' xs H Q → r xs H Q) : CallR X f r' := fun pins s σ H xs us Q I rv q => h pins s σ H xs us Q I rv (i _ _ _ q)
/-- int(n) of an int -/
theorem call_intI {X : Cx} : CallR X (.type "int") (fun xs H Q => ∃ i, xs = [.int i] ∧ Q (.int i) H) := callR_imp call_int1 fun _ _ _ h => .inl h
/-- len of a list that is read, of a tuple -/
theorem call_lenL {X : Cx} : CallR X (.builtin "len") (fun xs H Q => ∃ p ys, xs = [.ref p] ∧ SqL X.K H p ys ∧ Q (.int ys.length) H) := callR_imp call_len_seq fun _ _ _ ⟨p, ys, e, h, q⟩ => ⟨p, ys, e, .inl h, q⟩
theorem absI (i : Int) : 0 ≤ (if i < 0 then -i else i) := by split <;> omega
theorem cpow18 : CPow 10 18 := ⟨by decide, by decide, by decide⟩
theorem atI_map {ns : List Int} {k : Nat} (h : k < ns.length) : atI (ns.map V.int) (k : Int) = some (V.int ns[k]) := atI_nat (by rw [List.getElem?_map, List.getElem?_eq_getElem h] <;> rfl)
def spSeed (K : PySem.W.Frag) : Sp := fun vs H Q _ => ∃ (a : Addr) (ns : List Int) (k : Nat), vs = [.ref a, .int k] ∧ k ≤ 3 ∧ SqL K H a (ns.map V.int) ∧ ns.length ≤ 63 ∧
  ∀ b0 b1 p, H p = none → 0 ≤ b0 → 0 < b1 → b1 ≤ 2147483629 → Q (.ref p) (upd H p (.lst [.int b0, .int b1]))
theorem ok_seed (T : TxtG K mg) : FnOk P w K mg base CX0 1 T.dLawSeed.f T.dLawSeed.fd ["_law_script", "_law_k"] (spSeed K) := by
  refine T.dLawSeed.F.ok scDLawSeed (fun vs H Q E h => ?_) (fun cdv A outer s H vs Q E hr h => ?_)
  · obtain ⟨a, ns, k, rfl, _⟩ := h
    rfl
  · obtain ⟨a, ns, k, rfl, hk, hS, hn, q⟩ := h
    refine ⟨_, (pss_cons (ps_set (i := 2) scDLawSeed.nd rfl (.inl rfl) (pe_op op_add (pe_op op_mul pe_int (pv 1)) pe_int))
      (pss_cons (ps_if (pt_cmpR op_lt (pv 1) (pe_callB call_len_seq (by rfl) T.z_len (by decide +kernel) (pa_cons (pv 0) pa_nil)) (nomark _))
      (pss_one (ps_set (i := 2) scDLawSeed.nd rfl (.inl rfl) (pe_callB call_abs (by rfl) T.z_abs (by decide +kernel) (pa_cons (pe_ix ix_list (pv 0) (pv 1) (fun _ _ => rfl)) pa_nil))))
      (pss_one (ps_if (pt_cmpR op_gt (pe_callB call_len_seq (by rfl) T.z_len (by decide +kernel) (pa_cons (pv 0) pa_nil)) pe_int (nomark _))
      (pss_one (ps_set (i := 2) scDLawSeed.nd rfl (.inl rfl) (pe_op op_add (pv 2) (pe_op op_mul (pe_op op_mod (pe_callTy call_int1 (by rfl) T.z_int (by decide +kernel) (pa_cons (pe_callB call_abs (by rfl) T.z_abs (by decide +kernel) (pa_cons (pe_ix ix_list (pv 0) (pe_op op_mod (pe_callTy call_int1 (by rfl) T.z_int (by decide +kernel) (pa_cons (pv 1) pa_nil)) (pe_callB call_len_seq (by rfl) T.z_len (by decide +kernel) (pa_cons (pv 0) pa_nil))) (fun _ _ => rfl)) pa_nil)) pa_nil)) pe_int) pe_int))))
      pss_nil)))
      (pss_one (ps_ret (pe_lst (pa_cons (pe_ifExp (pt_cmpR op_ge (pv 2) (pe_op op_pow pe_int pe_int) (nomark _)) (pv 2) pe_int) (pa_cons (pe_op op_add (pe_op op_mod (pe_callTy call_int1 (by rfl) T.z_int (by decide +kernel) (pa_cons (pe_op op_add (pe_op op_mul (pe_op op_mod (pe_callTy call_int1 (by rfl) T.z_int (by decide +kernel) (pa_cons (pv 2) pa_nil)) pe_int) pe_int) (pe_op op_mul pe_int (pv 1))) pa_nil)) pe_int) pe_int) pa_nil))))))), ?_⟩
    simp only [tSeq, tAsg, tOp, tUn, rI, rI0, rU, tVar, tC, gName, L2.start, tIfS, tTest, tB, tCB, tCons, tNil, tIf, tRet, tRetN, tLst, tTup, tNext, tDrop, tNot, tNotV, tAnd, tOr, tAndV, tOrV, tPar, tAug, ipI, rEq, rNe, gSub, rSetL, rIxL, rIxT, tBM, tBM0, rAppend, rPopAt, gTup, gCons, gNil, tCall, tSl, tPart, tNoPart, rSlL, rCat, rEqD, rNeD, rIn, scal, List.map_cons, List.map_nil, List.length_cons, List.length_nil, List.length_map, List.cons_append, List.nil_append, List.append_nil, List.replicate, List.getElem?_cons_zero, List.getElem?_cons_succ, List.set_cons_zero, List.set_cons_succ, Option.some.injEq, exists_eq_left', exists_eq_left, exists_eq_right, exists_and_left, exists_and_right, V.int.injEq, V.ref.injEq, V.str.injEq, V.bl.injEq, reduceCtorEq, false_and, and_false, exists_false, or_false, false_or, true_and, and_true, List.cons.injEq, decide_eq_true_eq, cxOf, if_true, if_false, Bool.false_eq_true, Nat.reduceAdd, Nat.reduceSub, Nat.zero_add, Nat.add_sub_cancel_left, Nat.add_sub_cancel, Nat.sub_self]
    have fin : ∀ c : Int, 0 ≤ c → ∀ p, H p = none → Q (.ref p) (upd H p (.lst [.int c, .int ((c % 2147483629 * 48271 + 35023 * (k : Int)) % 2147483629 + 1)])) := fun c hc p hp => q _ _ p hp hc (by omega) (by omega)
    have fin0 : ∀ c : Int, 0 ≤ c → ∀ p, H p = none → Q (.ref p) (upd H p (.lst [.int 0, .int ((c % 2147483629 * 48271 + 35023 * (k : Int)) % 2147483629 + 1)])) := fun c hc p hp => q _ _ p hp (by decide) (by omega) (by omega)
    refine ⟨.inl ⟨by decide, by decide⟩, _, .inl hS, ?_⟩
    rw [List.length_map]
    by_cases h1 : k < ns.length
    · rw [if_pos (by omega)]
      refine ⟨_, hS, _, atI_map h1, _, rfl, cpow18, ?_⟩
      have ha := absI ns[k]
      generalize (if ns[k] < 0 then -ns[k] else ns[k]) = c at ha ⊢
      split
      · exact ⟨by decide, .inl (by omega), .inl (by omega), by decide, by decide, fin c ha⟩
      · exact ⟨by decide, .inl (by omega), .inl (by omega), by decide, by decide, fin0 c ha⟩
    · rw [if_neg (by omega)]
      refine ⟨_, .inl hS, ?_⟩
      rw [List.length_map]
      by_cases h2 : 0 < ns.length
      · rw [if_pos (by omega)]
        have hm : ((k : Int) % (ns.length : Int)) = ((k % ns.length : Nat) : Int) := by omega
        have hlt : k % ns.length < ns.length := Nat.mod_lt _ h2
        refine ⟨_, .inl hS, by rw [List.length_map]; omega, _, hS, _, by rw [List.length_map, hm]; exact atI_map hlt, _, rfl, by decide, .inl (by omega), cpow18, ?_⟩
        have ha := absI ns[k % ns.length]
        generalize (if ns[k % ns.length] < 0 then -ns[k % ns.length] else ns[k % ns.length]) = c at ha ⊢
        have hc : 0 ≤ 8231 * (k : Int) + 97 + c % 2147483629 * 40093 := by omega
        generalize 8231 * (k : Int) + 97 + c % 2147483629 * 40093 = d at hc ⊢
        split
        · exact ⟨by decide, .inl (by omega), .inl (by omega), by decide, by decide, fin d hc⟩
        · exact ⟨by decide, .inl (by omega), .inl (by omega), by decide, by decide, fin0 d hc⟩
      · rw [if_neg (by omega)]
        have hc : 0 ≤ 8231 * (k : Int) + 97 := by omega
        refine ⟨cpow18, ?_⟩
        split
        · exact ⟨by decide, .inl (by omega), .inl (by omega), by decide, by decide, fin _ hc⟩
        · exact ⟨by decide, .inl (by omega), .inl (by omega), by decide, by decide, fin0 _ hc⟩
/-- choose: a number below many, the box turned -/
def spChoose (K : PySem.W.Frag) : Sp := fun vs H Q _ => ∃ (p : Addr) (m : Int), vs = [.ref p, .int m] ∧ Box H p ∧ 0 < m ∧ m ≤ 1000000 ∧
  ∀ r H', Bx p H H' → 0 ≤ r → r < m → Q (.int r) H'
theorem ok_choose (T : TxtG K mg) : FnOk P w K mg base CX0 1 T.dLawChoose.f T.dLawChoose.fd ["_law_box", "_law_many"] (spChoose K) := by
  refine T.dLawChoose.F.ok scDLawChoose (fun vs H Q E h => ?_) (fun cdv A outer s H vs Q E hr h => ?_)
  · obtain ⟨p, m, rfl, _⟩ := h
    rfl
  · obtain ⟨p, m, rfl, ⟨b0, b1, hp, h0, h1, h2⟩, m0, m1, q⟩ := h
    refine ⟨_, (pss_cons (ps_if (pt_cmpR op_gt (pe_ix ix_list (pv 0) pe_int (fun _ _ => rfl)) pe_int (nomark _))
      (pss_cons (ps_set (i := 2) scDLawChoose.nd rfl (.inl rfl) (pe_op op_mod (pe_callTy call_intI (by rfl) T.z_int (by decide +kernel) (pa_cons (pe_ix ix_list (pv 0) pe_int (fun _ _ => rfl)) pa_nil)) (pv 1)))
      (pss_cons (ps_asg (pe_op op_fdiv (pe_ix ix_list (pv 0) pe_int (fun _ _ => rfl)) (pv 1)) (pg_sub (pv 0) pe_int set_list))
      (pss_one (ps_ret (pv 2)))))
      pss_nil)
      (pss_cons (ps_set (i := 3) scDLawChoose.nd rfl (.inl rfl) (pe_op op_mod (pe_callTy call_intI (by rfl) T.z_int (by decide +kernel) (pa_cons (pe_op op_add (pe_op op_mul (pe_ix ix_list (pv 0) pe_int (fun _ _ => rfl)) pe_int) pe_int) pa_nil)) pe_int))
      (pss_cons (ps_asg (pe_op op_add (pe_op op_mod (pe_callTy call_intI (by rfl) T.z_int (by decide +kernel) (pa_cons (pe_op op_add (pe_op op_mul (pv 3) pe_int) pe_int) pa_nil)) pe_int) pe_int) (pg_sub (pv 0) pe_int set_list))
      (pss_one (ps_ret (pe_op op_mod (pe_callTy call_intI (by rfl) T.z_int (by decide +kernel) (pa_cons (pe_op op_fdiv (pe_op op_add (pe_op op_mul (pv 3) pe_int) (pe_ix ix_list (pv 0) pe_int (fun _ _ => rfl))) pe_int) pa_nil)) (pv 1))))))), ?_⟩
    simp only [and_assoc, tSeq, tAsg, tOp, tUn, rI, rI0, rU, tVar, tC, gName, L2.start, tIfS, tTest, tB, tCB, tCons, tNil, tIf, tRet, tRetN, tLst, tTup, tNext, tDrop, tNot, tNotV, tAnd, tOr, tAndV, tOrV, tPar, tAug, ipI, rEq, rNe, gSub, rSetL, rIxL, rIxT, tBM, tBM0, rAppend, rPopAt, gTup, gCons, gNil, tCall, tSl, tPart, tNoPart, rSlL, rCat, rEqD, rNeD, rIn, scal, List.map_cons, List.map_nil, List.length_cons, List.length_nil, List.length_map, List.cons_append, List.nil_append, List.append_nil, List.replicate, List.getElem?_cons_zero, List.getElem?_cons_succ, List.set_cons_zero, List.set_cons_succ, Option.some.injEq, exists_eq_left', exists_eq_left, exists_eq_right, exists_and_left, exists_and_right, V.int.injEq, V.ref.injEq, V.str.injEq, V.bl.injEq, reduceCtorEq, false_and, and_false, exists_false, or_false, false_or, true_and, and_true, List.cons.injEq, decide_eq_true_eq, cxOf, if_true, if_false, Bool.false_eq_true, Nat.reduceAdd, Nat.reduceSub, Nat.zero_add, Nat.add_sub_cancel_left, Nat.add_sub_cancel, Nat.sub_self]
    have hq : SqL K H p [.int b0, .int b1] := sqL_of hp
    have a0 : atI [V.int b0, V.int b1] 0 = some (.int b0) := rfl
    have a1 : atI [V.int b0, V.int b1] 1 = some (.int b1) := rfl
    refine ⟨_, hq, _, a0, _, rfl, ?_⟩
    by_cases z : 0 < b0
    · rw [if_pos z]
      refine ⟨_, hq, _, a0, _, rfl, m0, _, hq, _, a0, _, rfl, ⟨m0, by omega⟩, _, hp, 0, rfl, ?_⟩
      exact q _ _ ⟨⟨b0 / m, b1, upd_same, Int.ediv_nonneg h0 (by omega), h1, h2⟩, hide_upd⟩ (Int.emod_nonneg _ (by omega)) (Int.emod_lt_of_pos _ m0)
    · rw [if_neg z]
      refine ⟨_, hq, _, a1, _, rfl, .inr (by decide), by decide, .inr (by decide), by decide, _, hp, 1, rfl, .inr (by decide), _, sqL_of upd_same, _, rfl, _, rfl, ⟨by decide, by decide⟩, m0, ?_⟩
      exact q _ _ ⟨⟨b0, _, upd_same, h0, by omega, by omega⟩, hide_upd⟩ (Int.emod_nonneg _ (by omega)) (Int.emod_lt_of_pos _ m0)
/-- one of several things -/
def spOneOf (K : PySem.W.Frag) : Sp := fun vs H Q _ => ∃ (p a : Addr) (xs : List V), vs = [.ref p, .ref a] ∧ Box H p ∧ SqL K (hide p H) a xs ∧ 0 < xs.length ∧ xs.length ≤ 1000 ∧
  ∀ (i : Nat) v H', Bx p H H' → xs[i]? = some v → Q v H'
theorem ok_oneof (T : TxtG K mg) : FnOk P w K mg base CX0 2 T.dLawOneOf.f T.dLawOneOf.fd ["_law_box", "_law_some"] (spOneOf K) := by
  refine T.dLawOneOf.F.ok scDLawOneOf (fun vs H Q E h => ?_) (fun cdv A outer s H vs Q E hr h => ?_)
  · obtain ⟨p, a, xs, rfl, _⟩ := h
    rfl
  · obtain ⟨p, a, xs, rfl, hb, hS, h0, h1, q⟩ := h
    refine ⟨_, (pss_one (ps_ret (pe_ix ix_list (pv 1) (pe_call (ok_choose T) (hr.mono (by decide)) (by rfl) T.dLawChoose.g T.dLawChoose.F.kp T.dLawChoose.b .nil pass0 (pa_cons (pv 0) (pa_cons (pe_callB call_lenL (by rfl) T.z_len (by decide +kernel) (pa_cons (pv 1) pa_nil)) pa_nil))) (fun _ _ => rfl)))), ?_⟩
    simp only [and_assoc, tSeq, tAsg, tOp, tUn, rI, rI0, rU, tVar, tC, gName, L2.start, tIfS, tTest, tB, tCB, tCons, tNil, tIf, tRet, tRetN, tLst, tTup, tNext, tDrop, tNot, tNotV, tAnd, tOr, tAndV, tOrV, tPar, tAug, ipI, rEq, rNe, gSub, rSetL, rIxL, rIxT, tBM, tBM0, rAppend, rPopAt, gTup, gCons, gNil, tCall, tSl, tPart, tNoPart, rSlL, rCat, rEqD, rNeD, rIn, scal, List.map_cons, List.map_nil, List.length_cons, List.length_nil, List.length_map, List.cons_append, List.nil_append, List.append_nil, List.replicate, List.getElem?_cons_zero, List.getElem?_cons_succ, List.set_cons_zero, List.set_cons_succ, Option.some.injEq, exists_eq_left', exists_eq_left, exists_eq_right, exists_and_left, exists_and_right, V.int.injEq, V.ref.injEq, V.str.injEq, V.bl.injEq, reduceCtorEq, false_and, and_false, exists_false, or_false, false_or, true_and, and_true, List.cons.injEq, decide_eq_true_eq, cxOf, if_true, if_false, Bool.false_eq_true, Nat.reduceAdd, Nat.reduceSub, Nat.zero_add, Nat.add_sub_cancel_left, Nat.add_sub_cancel, Nat.sub_self, spChoose]
    have s0 : SqL K H a xs := hide_le.seq hS
    refine ⟨_, s0, hb, by omega, by omega, fun r H' B r0 r1 => ?_⟩
    have s1 : SqL K H' a xs := hide_le.seq (B.2.seq hS)
    obtain ⟨j, rfl⟩ : ∃ j : Nat, r = (j : Int) := ⟨r.toNat, by omega⟩
    have hj : j < xs.length := by omega
    exact ⟨_, s1, _, atI_nat (List.getElem?_eq_getElem hj), q j _ _ B (List.getElem?_eq_getElem hj)⟩

end
end He

namespace He
open PySem PySem.Spec PyProof.Rows L2
section
variable {P : Program} {w : World} {K : PySem.W.Frag} {mg : Str → Option Value} {base : Heap}

theorem Bx.get {p b : Addr} {H H' : Hp} {o : HO} (B : Bx p H H') (hb : b ≠ p) (e : H b = some o) : H' b = some o := by
  have h := B.2 b o (by rw [hide_ne hb]; exact e)
  rwa [hide_ne hb] at h
/-- an object that H does not know may change -/
theorem Bx.mut {p l : Addr} {H H' : Hp} {o : HO} (B : Bx p H H') (nl : H l = none) (lp : l ≠ p) : Bx p H (upd H' l o) := by
  obtain ⟨⟨b0, b1, e, r⟩, s⟩ := B
  refine ⟨⟨b0, b1, by rw [upd_ne lp.symm]; exact e, r⟩, fun b u hb => ?_⟩
  have hbp : b ≠ p := fun z => by rw [z, hide_self] at hb; cases hb
  have h1 := s b u hb
  rw [hide_ne hbp] at hb h1 ⊢
  rw [upd_ne (ne_of_none hb nl)]
  exact h1

/-- a list beside an empty one -/
def rNeNil (K : PySem.W.Frag) : R2 := fun x y H Q => ∃ l e xs, x = .ref l ∧ y = .ref e ∧ SqL K H l xs ∧ SqL K H e [] ∧ Q (.bl (!xs.isEmpty)) H
theorem op_neNil {X : Cx} (hu : X.A.units + 64 < cLine) : OpR X (compareOp .NotEq) (rNeNil X.K) := by
  intro pins s σ H x y v u Q I rx ry h
  obtain ⟨l, e, xs, rfl, rfl, hl, he, q⟩ := h
  cases rx
  cases ry
  obtain ⟨its, r1, p1, _⟩ := I.list hl
  obtain ⟨its2, r2, p2, _⟩ := I.list he
  cases r2
  have hu' : X.A.units < cLine := by omega
  cases r1 with
  | nil => exact SeqAt.RcNeAt.lists (e := fun _ => true) p1.isList p2.isList rfl hu' (fun j h1 => absurd h1 (by simp)) X.prog X.w X.xe _ ⟨.bl false, H, I, rfl, q⟩
  | cons a b => exact SeqAt.RcNeAt.lists_lengths p1.isList p2.isList (by simp) hu' X.prog X.w X.xe _ ⟨.bl true, H, I, rfl, q⟩
def lenAt (H : Hp) (l : Addr) : Nat := match H l with
  | some (.lst xs) => xs.length
  | _ => 0
theorem lenAt_of {H : Hp} {l : Addr} {xs : List V} (h : H l = some (.lst xs)) : lenAt H l = xs.length := by
  unfold lenAt
  rw [h]
theorem erase_perm : ∀ (xs : List V) (k : Nat) (y : V), xs[k]? = some y → (y :: xs.eraseIdx k).Perm xs
  | [], k, y, h => by simp at h
  | x :: xs, 0, y, h => by
    have e : x = y := Option.some.inj h
    rw [e]
    exact List.Perm.refl _
  | x :: xs, k + 1, y, h => (List.Perm.swap x y _).trans ((erase_perm xs k y h).cons x)
theorem perm_pop {xs fs zs : List V} {k : Nat} {y : V} (hy : xs[k]? = some y) (h : (fs ++ xs).Perm zs) : ((fs ++ [y]) ++ xs.eraseIdx k).Perm zs := by
  refine List.Perm.trans ?_ h
  rw [List.append_assoc]
  exact List.Perm.append_left fs (erase_perm xs k y hy)
/-- in some order -/
def spMixed (K : PySem.W.Frag) : Sp := fun vs H Q _ => ∃ (p a : Addr) (zs : List V), vs = [.ref p, .ref a] ∧ Box H p ∧ SqL K (hide p H) a zs ∧ zs.length ≤ 1000 ∧
  ∀ (ys : List V) (r : Addr) (H' : Hp), Bx p H H' → ys.Perm zs → H r = none → H' r = some (.lst ys) → Q (.ref r) H'
theorem ok_mixed (T : TxtG K mg) : FnOk P w K mg base CX0 2 T.dLawMixed.f T.dLawMixed.fd ["_law_box", "_law_some"] (spMixed K) := by
  refine T.dLawMixed.F.ok scDLawMixed (fun vs H Q E h => ?_) (fun cdv A outer s H vs Q E hr h => ?_)
  · obtain ⟨p, a, zs, rfl, _⟩ := h
    rfl
  · obtain ⟨p, a, zs, rfl, hb, hS, h1, q⟩ := h
    refine ⟨_, (pss_cons (ps_par (i := 2) (j := 3) (by rfl) scDLawMixed.nd rfl rfl (by decide) rfl rfl (pa_cons (pe_callTy call_list_of (by rfl) T.z_list (by decide +kernel) (pa_cons (pv 1) pa_nil)) (pa_cons (pe_lst pa_nil) pa_nil)) (by rfl))
      (pss_cons (ps_while PassesOwn.never (pt_cmpR (op_neNil hr.units) (pv 2) (pe_lst pa_nil) (nomark _))
      (pss_one (ps_expr (pe_bm PySem.F.plainAttrs_list PySem.F.slot_list_append PySem.F.type_list_append mt_append (pv 3) (pa_cons (pe_bm PySem.F.plainAttrs_list PySem.F.slot_list_pop PySem.F.type_list_pop mt_popAt (pv 2) (pa_cons (pe_call (ok_choose T) (hr.mono (by decide)) (by rfl) T.dLawChoose.g T.dLawChoose.F.kp T.dLawChoose.b .nil pass0 (pa_cons (pv 0) (pa_cons (pe_callB call_lenL (by rfl) T.z_len (by decide +kernel) (pa_cons (pv 2) pa_nil)) pa_nil))) pa_nil)) pa_nil)))))
      (pss_one (ps_ret (pv 3))))), ?_⟩
    simp only [and_assoc, tSeq, tAsg, tOp, tUn, rI, rI0, rU, tVar, tC, gName, L2.start, tIfS, tTest, tB, tCB, tCons, tNil, tIf, tRet, tRetN, tLst, tTup, tNext, tDrop, tNot, tNotV, tAnd, tOr, tAndV, tOrV, tPar, tAug, ipI, rEq, rNe, gSub, rSetL, rIxL, rIxT, tBM, tBM0, rAppend, rPopAt, gTup, gCons, gNil, tCall, tSl, tPart, tNoPart, rSlL, rCat, rEqD, rNeD, rIn, scal, List.map_cons, List.map_nil, List.length_cons, List.length_nil, List.length_map, List.cons_append, List.nil_append, List.append_nil, List.replicate, List.getElem?_cons_zero, List.getElem?_cons_succ, List.set_cons_zero, List.set_cons_succ, Option.some.injEq, exists_eq_left', exists_eq_left, exists_eq_right, exists_and_left, exists_and_right, V.int.injEq, V.ref.injEq, V.str.injEq, V.bl.injEq, reduceCtorEq, false_and, and_false, exists_false, or_false, false_or, true_and, and_true, List.cons.injEq, decide_eq_true_eq, cxOf, if_true, if_false, Bool.false_eq_true, Nat.reduceAdd, Nat.reduceSub, Nat.zero_add, Nat.add_sub_cancel_left, Nat.add_sub_cancel, Nat.sub_self, spChoose]
    refine ⟨zs, .inl (hide_le.seq hS), fun l nl => ⟨by decide, fun f nf => ?_⟩⟩
    obtain ⟨b0, b1, eb, _⟩ := id hb
    have lp : l ≠ p := fun z => by rw [z, eb] at nl; cases nl
    have fl : f ≠ l := fun z => by rw [z, upd_same] at nf; cases nf
    have nf0 : H f = none := by rw [upd_ne fl] at nf; exact nf
    have fp : f ≠ p := fun z => by rw [z, eb] at nf0; cases nf0
    have s1 : Same H (upd (upd H l (.lst zs)) f (.lst [])) := (same_upd nl).trans (same_upd nf)
    refine while_by (fun σ H1 => ∃ ls fs : List V, σ = [some (.ref p), some (.ref a), some (.ref l), some (.ref f)] ∧ Bx p H H1 ∧ H1 l = some (.lst ls) ∧ H1 f = some (.lst fs) ∧ (fs ++ ls).Perm zs)
      (fun _ H1 => lenAt H1 l) ⟨zs, [], rfl, Bx.of hb s1, by rw [upd_ne fl.symm, upd_same], upd_same, List.Perm.refl _⟩ ?_ ?_
    · rintro σ H1 ⟨ls, fs, rfl, B, el, ef, pm⟩
      simp only [and_assoc, tSeq, tAsg, tOp, tUn, rI, rI0, rU, tVar, tC, gName, L2.start, tIfS, tTest, tB, tCB, tCons, tNil, tIf, tRet, tRetN, tLst, tTup, tNext, tDrop, tNot, tNotV, tAnd, tOr, tAndV, tOrV, tPar, tAug, ipI, rEq, rNe, gSub, rSetL, rIxL, rIxT, tBM, tBM0, rAppend, rPopAt, gTup, gCons, gNil, tCall, tSl, tPart, tNoPart, rSlL, rCat, rEqD, rNeD, rIn, scal, List.map_cons, List.map_nil, List.length_cons, List.length_nil, List.length_map, List.cons_append, List.nil_append, List.append_nil, List.replicate, List.getElem?_cons_zero, List.getElem?_cons_succ, List.set_cons_zero, List.set_cons_succ, Option.some.injEq, exists_eq_left', exists_eq_left, exists_eq_right, exists_and_left, exists_and_right, V.int.injEq, V.ref.injEq, V.str.injEq, V.bl.injEq, reduceCtorEq, false_and, and_false, exists_false, or_false, false_or, true_and, and_true, List.cons.injEq, decide_eq_true_eq, cxOf, if_true, if_false, Bool.false_eq_true, Nat.reduceAdd, Nat.reduceSub, Nat.zero_add, Nat.add_sub_cancel_left, Nat.add_sub_cancel, Nat.sub_self, spChoose, rNeNil]
      refine ⟨by decide, fun e ne => ⟨ls, sqL_of (same_upd ne _ _ el), sqL_of upd_same, ?_⟩⟩
      have B2 : Bx p H (upd H1 e (.lst [])) := B.trans (.of B.1 (same_upd ne))
      have el2 := same_upd (o := .lst []) ne _ _ el
      have ef2 := same_upd (o := .lst []) ne _ _ ef
      have hlen : ls.length ≤ 1000 := by have := pm.length_eq; rw [List.length_append] at this; omega
      have hlen2 : fs.length ≤ 1000 := by have := pm.length_eq; rw [List.length_append] at this; omega
      cases ls with
      | nil =>
        simp only [and_assoc, tSeq, tAsg, tOp, tUn, rI, rI0, rU, tVar, tC, gName, L2.start, tIfS, tTest, tB, tCB, tCons, tNil, tIf, tRet, tRetN, tLst, tTup, tNext, tDrop, tNot, tNotV, tAnd, tOr, tAndV, tOrV, tPar, tAug, ipI, rEq, rNe, gSub, rSetL, rIxL, rIxT, tBM, tBM0, rAppend, rPopAt, gTup, gCons, gNil, tCall, tSl, tPart, tNoPart, rSlL, rCat, rEqD, rNeD, rIn, scal, List.map_cons, List.map_nil, List.length_cons, List.length_nil, List.length_map, List.cons_append, List.nil_append, List.append_nil, List.replicate, List.getElem?_cons_zero, List.getElem?_cons_succ, List.set_cons_zero, List.set_cons_succ, Option.some.injEq, exists_eq_left', exists_eq_left, exists_eq_right, exists_and_left, exists_and_right, V.int.injEq, V.ref.injEq, V.str.injEq, V.bl.injEq, reduceCtorEq, false_and, and_false, exists_false, or_false, false_or, true_and, and_true, List.cons.injEq, decide_eq_true_eq, cxOf, if_true, if_false, Bool.false_eq_true, Nat.reduceAdd, Nat.reduceSub, Nat.zero_add, Nat.add_sub_cancel_left, Nat.add_sub_cancel, Nat.sub_self, List.isEmpty_nil, Bool.not_true]
        have e2 := B2
        refine q fs f _ B2 (by simpa using pm) nf0 ef2
      | cons y ys =>
        simp only [and_assoc, tSeq, tAsg, tOp, tUn, rI, rI0, rU, tVar, tC, gName, L2.start, tIfS, tTest, tB, tCB, tCons, tNil, tIf, tRet, tRetN, tLst, tTup, tNext, tDrop, tNot, tNotV, tAnd, tOr, tAndV, tOrV, tPar, tAug, ipI, rEq, rNe, gSub, rSetL, rIxL, rIxT, tBM, tBM0, rAppend, rPopAt, gTup, gCons, gNil, tCall, tSl, tPart, tNoPart, rSlL, rCat, rEqD, rNeD, rIn, scal, List.map_cons, List.map_nil, List.length_cons, List.length_nil, List.length_map, List.cons_append, List.nil_append, List.append_nil, List.replicate, List.getElem?_cons_zero, List.getElem?_cons_succ, List.set_cons_zero, List.set_cons_succ, Option.some.injEq, exists_eq_left', exists_eq_left, exists_eq_right, exists_and_left, exists_and_right, V.int.injEq, V.ref.injEq, V.str.injEq, V.bl.injEq, reduceCtorEq, false_and, and_false, exists_false, or_false, false_or, true_and, and_true, List.cons.injEq, decide_eq_true_eq, cxOf, if_true, if_false, Bool.false_eq_true, Nat.reduceAdd, Nat.reduceSub, Nat.zero_add, Nat.add_sub_cancel_left, Nat.add_sub_cancel, Nat.sub_self, List.isEmpty_cons, Bool.not_false]
        refine ⟨.inl ⟨rfl, _, sqL_of ef2⟩, .inl ⟨rfl, _, sqL_of el2⟩, _, sqL_of el2, B2.1, by rw [List.length_cons]; omega, by omega, fun r H3 B3 r0 r1 => ?_⟩
        have el3 := B3.get lp el2
        have ef3 := B3.get fp ef2
        obtain ⟨j, rfl⟩ : ∃ j : Nat, r = (j : Int) := ⟨r.toNat, by omega⟩
        have hj : j < (y :: ys).length := by omega
        refine ⟨_, el3, by omega, by omega, j, ?_, _, List.getElem?_eq_getElem hj, fs, by rw [upd_ne fl]; exact ef3, small1000 hlen2, ((B2.trans B3).mut nl lp).mut nf0 fp, ?_, ?_⟩
        · have := seqIndex_of (k := (j : Int)) (n := (y :: ys).length) (by omega) (by omega)
          rw [this, Int.toNat_natCast]
        · exact ⟨_, by rw [upd_ne fl.symm, upd_same], _, upd_same, perm_pop (List.getElem?_eq_getElem hj) pm⟩
        · rw [lenAt_of el, lenAt_of (xs := (y :: ys).eraseIdx j) (by rw [upd_ne fl.symm, upd_same]), List.length_eraseIdx, if_pos hj]
          exact Nat.sub_lt (by rw [List.length_cons]; omega) (by decide)
    · intro σ H1 Q1 Q2 hQ h
      simp only [and_assoc, tSeq, tAsg, tOp, tUn, rI, rI0, rU, tVar, tC, gName, L2.start, tIfS, tTest, tB, tCB, tCons, tNil, tIf, tRet, tRetN, tLst, tTup, tNext, tDrop, tNot, tNotV, tAnd, tOr, tAndV, tOrV, tPar, tAug, ipI, rEq, rNe, gSub, rSetL, rIxL, rIxT, tBM, tBM0, rAppend, rPopAt, gTup, gCons, gNil, tCall, tSl, tPart, tNoPart, rSlL, rCat, rEqD, rNeD, rIn, scal, List.map_cons, List.map_nil, List.length_cons, List.length_nil, List.length_map, List.cons_append, List.nil_append, List.append_nil, List.replicate, List.getElem?_cons_zero, List.getElem?_cons_succ, List.set_cons_zero, List.set_cons_succ, Option.some.injEq, exists_eq_left', exists_eq_left, exists_eq_right, exists_and_left, exists_and_right, V.int.injEq, V.ref.injEq, V.str.injEq, V.bl.injEq, reduceCtorEq, false_and, and_false, exists_false, or_false, false_or, true_and, and_true, List.cons.injEq, decide_eq_true_eq, cxOf, if_true, if_false, Bool.false_eq_true, Nat.reduceAdd, Nat.reduceSub, Nat.zero_add, Nat.add_sub_cancel_left, Nat.add_sub_cancel, Nat.sub_self, rNeNil] at h ⊢
      obtain ⟨v, hv, hz, k⟩ := h
      exact ⟨v, hv, hz, fun e he => let ⟨l, e1, x, a, b, c⟩ := k e he; ⟨l, e1, x, a, b, hQ _ _ c⟩⟩

end
end He

namespace He
open PySem PySem.Spec PyProof.Rows L2
section
variable {P : Program} {w : World} {K : PySem.W.Frag} {mg : Str → Option Value} {base : Heap}

theorem Bx.new {p b : Addr} {H H' : Hp} (B : Bx p H H') (h : H' b = none) : H b = none := by
  cases e : H b with
  | none => rfl
  | some o =>
    have hb : b ≠ p := fun z => by
      obtain ⟨_, _, e2, _⟩ := B.1
      rw [z, e2] at h
      cases h
    rw [B.get hb e] at h
    cases h
theorem Bx.ne {p b : Addr} {H H' : Hp} (B : Bx p H H') (hb : Box H p) (h : H' b = none) : b ≠ p := fun z => by
  obtain ⟨_, _, e2, _⟩ := B.1
  rw [z, e2] at h
  cases h

mutual
theorem dp_mono {K : PySem.W.Frag} {H H' : Hp} (s : Same H H') : ∀ (d : PyData) (v : V), Dp K H v d → Dp K H' v d
  | .none, _, h => by cases h; exact .non
  | .bool b, _, h => by cases h; exact .bl b
  | .int i, _, h => by cases h; exact .int i
  | .str x, _, h => by cases h; exact .str x
  | .list ds, _, h => by
    cases h with
    | lst hs ha => exact .lst (s.seq hs) (dpA_mono s ds _ ha)
  | .tuple ds, _, h => by
    cases h with
    | tup hs ha => exact .tup (Same.seqT s hs) (dpA_mono s ds _ ha)
  | .dict _, _, h => by cases h
theorem dpA_mono {K : PySem.W.Frag} {H H' : Hp} (s : Same H H') : ∀ (ds : List PyData) (vs : List V), DpAll K H vs ds → DpAll K H' vs ds
  | [], _, h => by cases h; exact .nil
  | d :: ds, _, h => by
    cases h with
    | cons a b => exact .cons (dp_mono s d _ a) (dpA_mono s ds _ b)
end
theorem dpA_append {K : PySem.W.Frag} {H : Hp} : ∀ {vs ws : List V} {ds es : List PyData}, DpAll K H vs ds → DpAll K H ws es → DpAll K H (vs ++ ws) (ds ++ es)
  | [], _, _, _, .nil, h => h
  | _ :: _, _, _, _, .cons a b, h => .cons a (dpA_append b h)
theorem dpA_len {K : PySem.W.Frag} {H : Hp} : ∀ {vs : List V} {ds : List PyData}, DpAll K H vs ds → vs.length = ds.length
  | [], _, .nil => rfl
  | _ :: _, _, .cons _ b => congrArg (· + 1) (dpA_len b)
theorem dpA_strs {K : PySem.W.Frag} {H : Hp} : ∀ zs : List Str, DpAll K H (zs.map V.str) (zs.map PyData.str)
  | [] => .nil
  | z :: zs => .cons (.str z) (dpA_strs zs)
theorem dpA_strs_inv {K : PySem.W.Frag} {H : Hp} : ∀ {zs : List Str} {vs : List V}, DpAll K H vs (zs.map PyData.str) → vs = zs.map V.str
  | [], _, h => by cases h; rfl
  | z :: zs, _, h => by
    cases h with
    | cons a b =>
      cases a
      rw [dpA_strs_inv b]
      rfl
theorem dpA_get {K : PySem.W.Frag} {H : Hp} : ∀ {vs : List V} {ds : List PyData} {i : Nat} {v : V}, DpAll K H vs ds → vs[i]? = some v → ∃ d, ds[i]? = some d ∧ Dp K H v d
  | _, _, i, _, .nil, e => by simp at e
  | _, _, 0, _, .cons a _, e => by
    cases (Option.some.inj e)
    exact ⟨_, rfl, a⟩
  | _, _, i + 1, _, .cons _ b, e => dpA_get (i := i) b e
/-! ### names, groups, shares -/
def nameB (x : Str) : Bool := decide (1 ≤ x.cps.size) && decide (x.cps.size ≤ 5) && x.cps.all (fun c => decide (97 ≤ c) && decide (c ≤ 122)) && decide (x ≠ "crown")
abbrev Sh := Int × List (List Str)
structure GrpOk (g : List Str) : Prop where
  ne : g ≠ []
  nd : g.Nodup
  nm : ∀ n ∈ g, nameB n = true
structure ShOk (s : Sh) : Prop where
  w1 : 1 ≤ s.1
  gs : ∀ g ∈ s.2, GrpOk g
structure ShSmall (s : Sh) : Prop where
  w : s.1 ≤ 999999
  l : s.2.length ≤ 3
  g : ∀ g ∈ s.2, g.length ≤ 3
def dGrp (g : List Str) : PyData := .list (g.map PyData.str)
def dSh (s : Sh) : PyData := .tuple [.int s.1, .list (s.2.map dGrp)]
def dWill (shs : List Sh) : PyData := .list (shs.map dSh)
/-! ### pools of names -/
def pools : List (List Str) := [["ann", "bob", "cid", "dan", "eve", "fay", "gus", "hal", "ida"], ["a", "aa", "ab", "b", "ba", "c", "d", "e", "f"], ["first", "will", "crow", "zoe", "x", "y", "z", "yy", "own"]]
structure Names (ns : List Str) : Prop where
  nd : ns.Nodup
  nm : ∀ n ∈ ns, nameB n = true
  pl : ∃ pl ∈ pools, ∀ n ∈ ns, n ∈ pl
theorem pools_ok : ∀ ns ∈ pools, ns.Nodup ∧ (ns.all nameB) = true ∧ ns.length = 9 := by
  decide +kernel
theorem perm_str {ys : List V} {zs : List Str} (h : ys.Perm (zs.map V.str)) : ∃ xs : List Str, ys = xs.map V.str ∧ xs.Perm zs := by
  let un : V → Str := fun v => match v with | .str x => x | _ => Str.empty
  have hu : ∀ l : List Str, (l.map V.str).map un = l := fun l => by
    rw [List.map_map]
    exact (List.map_congr_left fun x _ => rfl).trans (List.map_id l)
  refine ⟨ys.map un, ?_, ?_⟩
  · rw [List.map_map]
    refine ((List.map_congr_left fun x hx => ?_).trans (List.map_id ys)).symm
    obtain ⟨z, _, rfl⟩ := List.mem_map.mp (h.mem_iff.mp hx)
    rfl
  · have := h.map un
    rwa [hu] at this
theorem cut_to (xs : List V) (m : Nat) : cutV xs none (some (m : Int)) = xs.take m := by
  unfold cutV
  rw [HT.sIx_none, HT.sIx_nat, List.drop_zero, Nat.sub_zero]
  by_cases h : m ≤ xs.length
  · rw [Nat.min_eq_left h]
  · rw [Nat.min_eq_right (by omega), List.take_of_length_le (Nat.le_refl _), List.take_of_length_le (by omega)]
/-- so many names of a pool, in some order -/
def spNames (K : PySem.W.Frag) : Sp := fun vs H Q _ => ∃ (p : Addr) (m : Nat), vs = [.ref p, .int (m : Int)] ∧ Box H p ∧ m ≤ 9 ∧
  ∀ (ns : List Str) (r : Addr) (H' : Hp), Bx p H H' → Names ns → ns.length = m → H r = none → H' r = some (.lst (ns.map V.str)) → Q (.ref r) H'
theorem ok_names (T : TxtG K mg) : FnOk P w K mg base CX0 3 T.dLawNames.f T.dLawNames.fd ["_law_box", "_law_many"] (spNames K) := by
  refine T.dLawNames.F.ok scDLawNames (fun vs H Q E h => ?_) (fun cdv A outer s H vs Q E hr h => ?_)
  · obtain ⟨p, m, rfl, _⟩ := h
    rfl
  · obtain ⟨p, m, rfl, hb, hm, q⟩ := h
    refine ⟨_, (pss_cons (ps_set (i := 2) scDLawNames.nd rfl (.inl rfl) (pe_lst (pa_cons (pe_lst (pa_cons pe_str (pa_cons pe_str (pa_cons pe_str (pa_cons pe_str (pa_cons pe_str (pa_cons pe_str (pa_cons pe_str (pa_cons pe_str (pa_cons pe_str pa_nil)))))))))) pa_nil)))
      (pss_cons (ps_expr (pe_bm PySem.F.plainAttrs_list PySem.F.slot_list_append PySem.F.type_list_append mt_append (pv 2) (pa_cons (pe_lst (pa_cons pe_str (pa_cons pe_str (pa_cons pe_str (pa_cons pe_str (pa_cons pe_str (pa_cons pe_str (pa_cons pe_str (pa_cons pe_str (pa_cons pe_str pa_nil)))))))))) pa_nil)))
      (pss_cons (ps_expr (pe_bm PySem.F.plainAttrs_list PySem.F.slot_list_append PySem.F.type_list_append mt_append (pv 2) (pa_cons (pe_lst (pa_cons pe_str (pa_cons pe_str (pa_cons pe_str (pa_cons pe_str (pa_cons pe_str (pa_cons pe_str (pa_cons pe_str (pa_cons pe_str (pa_cons pe_str pa_nil)))))))))) pa_nil)))
      (pss_one (ps_ret (pe_slice sl_list (pe_call (ok_mixed T) (hr.mono (by decide)) (by rfl) T.dLawMixed.g T.dLawMixed.F.kp T.dLawMixed.b .nil pass0 (pa_cons (pv 0) (pa_cons (pe_call (ok_oneof T) (hr.mono (by decide)) (by rfl) T.dLawOneOf.g T.dLawOneOf.F.kp T.dLawOneOf.b .nil pass0 (pa_cons (pv 0) (pa_cons (pv 2) pa_nil))) pa_nil))) po_none (po_some (pv 1)))))))), ?_⟩
    simp only [and_assoc, tSeq, tAsg, tOp, tUn, rI, rI0, rU, tVar, tC, gName, L2.start, tIfS, tTest, tB, tCB, tCons, tNil, tIf, tRet, tRetN, tLst, tTup, tNext, tDrop, tNot, tNotV, tAnd, tOr, tAndV, tOrV, tPar, tAug, ipI, rEq, rNe, gSub, rSetL, rIxL, rIxT, tBM, tBM0, rAppend, rPopAt, gTup, gCons, gNil, tCall, tSl, tPart, tNoPart, rSlL, rCat, rEqD, rNeD, rIn, scal, List.map_cons, List.map_nil, List.length_cons, List.length_nil, List.length_map, List.cons_append, List.nil_append, List.append_nil, List.replicate, List.getElem?_cons_zero, List.getElem?_cons_succ, List.set_cons_zero, List.set_cons_succ, Option.some.injEq, exists_eq_left', exists_eq_left, exists_eq_right, exists_and_left, exists_and_right, V.int.injEq, V.ref.injEq, V.str.injEq, V.bl.injEq, reduceCtorEq, false_and, and_false, exists_false, or_false, false_or, true_and, and_true, List.cons.injEq, decide_eq_true_eq, cxOf, if_true, if_false, Bool.false_eq_true, Nat.reduceAdd, Nat.reduceSub, Nat.zero_add, Nat.add_sub_cancel_left, Nat.add_sub_cancel, Nat.sub_self, spMixed, spOneOf]
    obtain ⟨b0, b1, eb, _⟩ := id hb
    refine ⟨by decide, fun a na => ⟨by decide, fun b nb => ?_⟩⟩
    generalize h1 : upd H a _ = H1 at nb ⊢
    have s1 : Same H H1 := h1 ▸ same_upd na
    have f1 : H1 a = some (.lst ((pools.getD 0 []).map V.str)) := h1 ▸ upd_same
    generalize h2 : upd H1 b _ = H2 at ⊢
    have s2 : Same H1 H2 := h2 ▸ same_upd nb
    have f2 : H2 b = some (.lst [.ref a]) := h2 ▸ upd_same
    refine ⟨.inl ⟨rfl, _, sqL_of f2⟩, by decide, fun c nc => ?_⟩
    generalize h3 : upd H2 c _ = H3 at ⊢
    have s3 : Same H2 H3 := h3 ▸ same_upd nc
    have f3 : H3 c = some (.lst ((pools.getD 1 []).map V.str)) := h3 ▸ upd_same
    have g3 := s3 _ _ f2
    refine ⟨_, g3, (by decide : 1 < sizeLine), .inl ⟨rfl, _, sqL_of upd_same⟩, by decide, fun d nd => ?_⟩
    have nb0 : H b = none := s1.free nb
    have nc0 : H c = none := (s1.trans s2).free nc
    have bp : b ≠ p := fun z => by rw [z, eb] at nb0; cases nb0
    have ba : a ≠ b := fun z => by rw [z, nb] at f1; cases f1
    have bc : c ≠ b := fun z => by rw [z, f2] at nc; cases nc
    have ap : a ≠ p := fun z => by rw [z, eb] at na; cases na
    have cp : c ≠ p := fun z => by rw [z, eb] at nc0; cases nc0
    have B3 : Bx p H H3 := .of hb ((s1.trans s2).trans s3)
    generalize h4 : upd H3 b _ = H4 at nd ⊢
    have B4 : Bx p H H4 := h4 ▸ B3.mut nb0 bp
    have fa4 : H4 a = some (.lst ((pools.getD 0 []).map V.str)) := h4 ▸ (upd_ne ba).trans (s3 _ _ (s2 _ _ f1))
    have fc4 : H4 c = some (.lst ((pools.getD 1 []).map V.str)) := h4 ▸ (upd_ne bc).trans f3
    have fb4 : H4 b = some (.lst ([.ref a] ++ [.ref c])) := h4 ▸ upd_same
    generalize h5 : upd H4 d _ = H5 at ⊢
    have s5 : Same H4 H5 := h5 ▸ same_upd nd
    have fd5 : H5 d = some (.lst ((pools.getD 2 []).map V.str)) := h5 ▸ upd_same
    have db : d ≠ b := fun z => by rw [z, fb4] at nd; cases nd
    have dp : d ≠ p := fun z => by
      obtain ⟨_, _, e4, _⟩ := B4.1
      rw [z, e4] at nd; cases nd
    refine ⟨_, s5 _ _ fb4, (by decide : 2 < sizeLine), ?_⟩
    have B5 : Bx p H H5 := B4.trans (.of B4.1 s5)
    generalize h6 : upd H5 b _ = H6 at ⊢
    have B6 : Bx p H H6 := h6 ▸ B5.mut nb0 bp
    have fa6 : hide p H6 a = some (.lst ((pools.getD 0 []).map V.str)) := by rw [hide_ne ap]; exact h6 ▸ (upd_ne ba).trans (s5 _ _ fa4)
    have fc6 : hide p H6 c = some (.lst ((pools.getD 1 []).map V.str)) := by rw [hide_ne cp]; exact h6 ▸ (upd_ne bc).trans (s5 _ _ fc4)
    have fd6 : hide p H6 d = some (.lst ((pools.getD 2 []).map V.str)) := by rw [hide_ne dp]; exact h6 ▸ (upd_ne db).trans fd5
    have fb6 : hide p H6 b = some (.lst ([.ref a] ++ [.ref c] ++ [.ref d])) := by rw [hide_ne bp]; exact h6 ▸ upd_same
    refine ⟨B6.1, _, sqL_of fb6, (by decide : 0 < 3), (by decide : 3 ≤ 1000), fun i v H7 B7 hi => ?_⟩
    obtain ⟨a', pl, rfl, hp, f7⟩ : ∃ a' pl, v = .ref a' ∧ pl ∈ pools ∧ hide p H7 a' = some (.lst (pl.map V.str)) := by
      match i, hi with
      | 0, hi => exact ⟨a, _, (Option.some.inj hi).symm, by decide, B7.2 _ _ fa6⟩
      | 1, hi => exact ⟨c, _, (Option.some.inj hi).symm, by decide, B7.2 _ _ fc6⟩
      | 2, hi => exact ⟨d, _, (Option.some.inj hi).symm, by decide, B7.2 _ _ fd6⟩
      | i + 3, hi => exact absurd hi (by simp)
    obtain ⟨n1, n2, n3⟩ := pools_ok pl hp
    refine ⟨a', rfl, B7.1, pl.map V.str, sqL_of f7, by rw [List.length_map, n3]; decide, fun ys r H8 B8 pm nr er => ⟨_, sqL_of er, fun t nt => ?_⟩⟩
    obtain ⟨xs, rfl, pm2⟩ := perm_str pm
    have B80 := (B6.trans B7).trans B8
    have nt0 : H t = none := B80.new nt
    refine q (xs.take m) t _ (B80.mut nt0 (B80.ne hb nt)) ⟨(pm2.nodup_iff.mpr n1).sublist (List.take_sublist _ _), fun n hn => ?_, ⟨pl, hp, fun n hn => pm2.mem_iff.mp (List.mem_of_mem_take hn)⟩⟩ ?_ nt0 ?_
    · exact List.all_eq_true.mp n2 n (pm2.mem_iff.mp (List.mem_of_mem_take hn))
    · rw [List.length_take, pm2.length_eq, n3]
      omega
    · rw [upd_same, cut_to, List.map_take]
/-- one to three of them, in some order -/
def spGroup (K : PySem.W.Frag) : Sp := fun vs H Q _ => ∃ (p a : Addr) (ns : List Str), vs = [.ref p, .ref a] ∧ Box H p ∧ SqL K (hide p H) a (ns.map V.str) ∧ ns.length ≤ 1000 ∧ ns ≠ [] ∧
  ∀ (xs : List Str) (n : Nat) (r : Addr) (H' : Hp), Bx p H H' → xs.Perm ns → 1 ≤ n → n ≤ 3 → H r = none → H' r = some (.lst ((xs.take n).map V.str)) → Q (.ref r) H'
theorem ok_group (T : TxtG K mg) : FnOk P w K mg base CX0 3 T.dLawGroup.f T.dLawGroup.fd ["_law_box", "_law_some"] (spGroup K) := by
  refine T.dLawGroup.F.ok scDLawGroup (fun vs H Q E h => ?_) (fun cdv A outer s H vs Q E hr h => ?_)
  · obtain ⟨p, a, ns, rfl, _⟩ := h
    rfl
  · obtain ⟨p, a, ns, rfl, hb, hS, hl, h0, q⟩ := h
    refine ⟨_, (pss_one (ps_ret (pe_slice sl_list (pe_call (ok_mixed T) (hr.mono (by decide)) (by rfl) T.dLawMixed.g T.dLawMixed.F.kp T.dLawMixed.b .nil pass0 (pa_cons (pv 0) (pa_cons (pv 1) pa_nil))) po_none (po_some (pe_op op_add pe_int (pe_call (ok_choose T) (hr.mono (by decide)) (by rfl) T.dLawChoose.g T.dLawChoose.F.kp T.dLawChoose.b .nil pass0 (pa_cons (pv 0) (pa_cons pe_int pa_nil)))))))), ?_⟩
    simp only [and_assoc, tSeq, tAsg, tOp, tUn, rI, rI0, rU, tVar, tC, gName, L2.start, tIfS, tTest, tB, tCB, tCons, tNil, tIf, tRet, tRetN, tLst, tTup, tNext, tDrop, tNot, tNotV, tAnd, tOr, tAndV, tOrV, tPar, tAug, ipI, rEq, rNe, gSub, rSetL, rIxL, rIxT, tBM, tBM0, rAppend, rPopAt, gTup, gCons, gNil, tCall, tSl, tPart, tNoPart, rSlL, rCat, rEqD, rNeD, rIn, scal, List.map_cons, List.map_nil, List.length_cons, List.length_nil, List.length_map, List.cons_append, List.nil_append, List.append_nil, List.replicate, List.getElem?_cons_zero, List.getElem?_cons_succ, List.set_cons_zero, List.set_cons_succ, Option.some.injEq, exists_eq_left', exists_eq_left, exists_eq_right, exists_and_left, exists_and_right, V.int.injEq, V.ref.injEq, V.str.injEq, V.bl.injEq, reduceCtorEq, false_and, and_false, exists_false, or_false, false_or, true_and, and_true, List.cons.injEq, decide_eq_true_eq, cxOf, if_true, if_false, Bool.false_eq_true, Nat.reduceAdd, Nat.reduceSub, Nat.zero_add, Nat.add_sub_cancel_left, Nat.add_sub_cancel, Nat.sub_self, spMixed, spChoose]
    refine ⟨hb, _, hS, by rw [List.length_map]; exact hl, fun ys r H1 B pm nr er => ⟨B.1, by decide, by decide, fun k H2 B2 k0 k1 => ?_⟩⟩
    obtain ⟨xs, rfl, pm2⟩ := perm_str pm
    have rp : r ≠ p := fun z => by
      obtain ⟨_, _, e2, _⟩ := hb
      rw [z, e2] at nr
      cases nr
    refine ⟨_, sqL_of (B2.get rp er), fun t nt => ?_⟩
    obtain ⟨n, hn⟩ : ∃ n : Nat, 1 + k = (n : Int) := ⟨(1 + k).toNat, by omega⟩
    have B3 := B.trans B2
    have nt0 := B3.new nt
    refine q xs n t _ (B3.mut nt0 (B3.ne hb nt)) pm2 (by omega) (by omega) nt0 ?_
    rw [upd_same, hn, cut_to, List.map_take]

end
end He

namespace He
open PySem PySem.Spec PyProof.Rows L2
section
variable {P : Program} {w : World} {K : PySem.W.Frag} {mg : Str → Option Value} {base : Heap}

/-! ### loops and comprehensions, the walked thing apart -/
def ForGoes (J : It) (g : TG) (tb : TS) (D : Ends) (σ : L2.St) (H1 : Hp) : Prop := ∃ W : Nat → Nat → L2.St → Hp → Prop, (∃ m, W 0 m σ H1) ∧ ∀ i m σ H, W i m σ H →
  (J.stop i H ∧ D.nx σ H) ∨ (J.go i H ∧ ∃ N : L2.St → Hp → Prop, (∀ σ' H', N σ' H' → ∃ m', m' < m ∧ W (i + 1) m' σ' H') ∧ ∀ x H', J.yld i H x H' → g x σ H' fun σ2 H2 => tb { D with nx := N, ct := N, bk := D.nx } σ2 H2)
theorem tFor_eq (wi : TI) (g : TG) (tb : TS) (D : Ends) (σ : L2.St) (H : Hp) : tFor wi g tb D σ H = wi σ H (fun J H1 => ForGoes J g tb D σ H1) := rfl
theorem fg_range {lo : Int} {n : Nat} {g : TG} {tb : TS} {D : Ends} {σ : L2.St} {H : Hp} (Pv : Nat → L2.St → Hp → Prop) (h0 : Pv 0 σ H)
    (hs : ∀ i σ H, i < n → Pv i σ H → g (.int (lo + i)) σ H fun σ2 H2 => tb { D with nx := Pv (i + 1), ct := Pv (i + 1), bk := D.nx } σ2 H2) (hd : ∀ σ H, Pv n σ H → D.nx σ H) : ForGoes (Itr lo n) g tb D σ H := for_range Pv h0 hs hd
theorem fg_list {a : Addr} {xs : List V} {g : TG} {tb : TS} {D : Ends} {σ : L2.St} {H : Hp} (Pv : Nat → L2.St → Hp → Prop) (h0 : Pv 0 σ H) (hl : ∀ i σ H, i ≤ xs.length → Pv i σ H → SqL K H a xs)
    (hs : ∀ i x σ H, xs[i]? = some x → Pv i σ H → g x σ H fun σ2 H2 => tb { D with nx := Pv (i + 1), ct := Pv (i + 1), bk := D.nx } σ2 H2) (hd : ∀ σ H, Pv xs.length σ H → D.nx σ H) : ForGoes (Itl K a) g tb D σ H := for_list Pv h0 hl hs hd
theorem fg_tup {a : Addr} {xs : List V} {g : TG} {tb : TS} {D : Ends} {σ : L2.St} {H : Hp} (Pv : Nat → L2.St → Hp → Prop) (h0 : Pv 0 σ H) (hl : ∀ i σ H, i ≤ xs.length → Pv i σ H → SqT K H a xs)
    (hs : ∀ i x σ H, xs[i]? = some x → Pv i σ H → g x σ H fun σ2 H2 => tb { D with nx := Pv (i + 1), ct := Pv (i + 1), bk := D.nx } σ2 H2) (hd : ∀ σ H, Pv xs.length σ H → D.nx σ H) : ForGoes (Itt K a) g tb D σ H := for_tup Pv h0 hl hs hd
def LcGoes (J : It) (g : TG) (tt : TT) (te : TE) (vs : List Nat) (σ : L2.St) (H1 : Hp) (D : Addr) (Q : Hp → Prop) : Prop := ∃ W : Nat → Nat → Hp → Prop, (∃ m, W 0 m (upd H1 D (.lst []))) ∧ ∀ i m H, W i m H →
  (J.stop i H ∧ Q H) ∨ (J.go i H ∧ ∃ Nx : Hp → Prop, (∀ H', Nx H' → ∃ m', m' < m ∧ W (i + 1) m' H') ∧ ∀ x H', J.yld i H x H' → g x (wipe σ vs) H' fun σ2 H2 => wipe σ2 vs = wipe σ vs ∧ tt σ2 H2 fun b H3 =>
    if b = true then te σ2 H3 fun y H4 => ∃ acc, H4 D = some (.lst acc) ∧ acc.length < sizeLine ∧ Nx (upd H4 D (.lst (acc ++ [y]))) else Nx H3)
theorem tLc_eq (wi : TI) (g : TG) (tt : TT) (te : TE) (vs : List Nat) (σ : L2.St) (H : Hp) (Q : VK) : tLc wi g tt te vs σ H Q = wi σ H (fun J H1 => ∀ D, H1 D = none → LcGoes J g tt te vs σ H1 D (fun H => Q (.ref D) H)) := rfl
theorem lg_range {lo : Int} {n : Nat} {g : TG} {tt : TT} {te : TE} {vs : List Nat} {σ : L2.St} {H1 : Hp} {D : Addr} {Qd : Hp → Prop} (Pv : Nat → Hp → Prop) (h0 : Pv 0 (upd H1 D (.lst [])))
    (hs : ∀ i H, i < n → Pv i H → g (.int (lo + i)) (wipe σ vs) H fun σ2 H2 => wipe σ2 vs = wipe σ vs ∧ tt σ2 H2 fun b H3 =>
      if b = true then te σ2 H3 fun y H4 => ∃ acc, H4 D = some (.lst acc) ∧ acc.length < sizeLine ∧ Pv (i + 1) (upd H4 D (.lst (acc ++ [y]))) else Pv (i + 1) H3) (hd : ∀ H, Pv n H → Qd H) : LcGoes (Itr lo n) g tt te vs σ H1 D Qd := lc_range Pv h0 hs hd
theorem lg_list {a : Addr} {xs : List V} {g : TG} {tt : TT} {te : TE} {vs : List Nat} {σ : L2.St} {H1 : Hp} {D : Addr} {Qd : Hp → Prop} (Pv : Nat → Hp → Prop) (h0 : Pv 0 (upd H1 D (.lst []))) (hl : ∀ i H, i ≤ xs.length → Pv i H → SqL K H a xs)
    (hs : ∀ i x H, xs[i]? = some x → Pv i H → g x (wipe σ vs) H fun σ2 H2 => wipe σ2 vs = wipe σ vs ∧ tt σ2 H2 fun b H3 =>
      if b = true then te σ2 H3 fun y H4 => ∃ acc, H4 D = some (.lst acc) ∧ acc.length < sizeLine ∧ Pv (i + 1) (upd H4 D (.lst (acc ++ [y]))) else Pv (i + 1) H3) (hd : ∀ H, Pv xs.length H → Qd H) : LcGoes (Itl K a) g tt te vs σ H1 D Qd := lc_list Pv h0 hl hs hd
theorem lg_tup {a : Addr} {xs : List V} {g : TG} {tt : TT} {te : TE} {vs : List Nat} {σ : L2.St} {H1 : Hp} {D : Addr} {Qd : Hp → Prop} (Pv : Nat → Hp → Prop) (h0 : Pv 0 (upd H1 D (.lst []))) (hl : ∀ i H, i ≤ xs.length → Pv i H → SqT K H a xs)
    (hs : ∀ i x H, xs[i]? = some x → Pv i H → g x (wipe σ vs) H fun σ2 H2 => wipe σ2 vs = wipe σ vs ∧ tt σ2 H2 fun b H3 =>
      if b = true then te σ2 H3 fun y H4 => ∃ acc, H4 D = some (.lst acc) ∧ acc.length < sizeLine ∧ Pv (i + 1) (upd H4 D (.lst (acc ++ [y]))) else Pv (i + 1) H3) (hd : ∀ H, Pv xs.length H → Qd H) : LcGoes (Itt K a) g tt te vs σ H1 D Qd := lc_tup Pv h0 hl hs hd
/-! ### a will, drawn -/
structure WillOk (ns : List Str) (shs : List Sh) : Prop where
  ne : shs ≠ []
  l3 : shs.length ≤ 3
  ok : ∀ s ∈ shs, ShOk s ∧ ShSmall s ∧ ∀ g ∈ s.2, ∀ n ∈ g, n ∈ ns
theorem hide_mut {p f : Addr} {H : Hp} {o : HO} : Same (hide f (hide p H)) (hide f (hide p (upd H f o))) := fun b u e => by
  have hb : b ≠ f := fun z => by rw [z, hide_self] at e; cases e
  rw [hide_ne hb] at e ⊢
  by_cases hp : b = p
  · rw [hp, hide_self] at e
    cases e
  · rw [hide_ne hp] at e ⊢
    rw [upd_ne hb]
    exact e
theorem hide_mut3 {p f d : Addr} {H : Hp} {o : HO} : Same (hide d (hide f (hide p H))) (hide d (hide f (hide p (upd H d o)))) := fun b u e => by
  have hb : b ≠ d := fun z => by rw [z, hide_self] at e; cases e
  rw [hide_ne hb] at e ⊢
  unfold hide at e ⊢
  rw [upd_ne hb]
  exact e
def spWill (K : PySem.W.Frag) : Sp := fun vs H Q _ => ∃ (p a : Addr) (ns : List Str), vs = [.ref p, .ref a] ∧ Box H p ∧ SqL K (hide p H) a (ns.map V.str) ∧ ns.length ≤ 9 ∧ Names ns ∧
  ∀ (shs : List Sh) (vs : List V) (r : Addr) (H' : Hp), Bx p H H' → WillOk ns shs → H r = none → H' r = some (.lst vs) → DpAll K (hide p H') vs (shs.map dSh) → Q (.ref r) H'
theorem ok_will (T : TxtG K mg) : FnOk P w K mg base CX0 4 T.dLawWill.f T.dLawWill.fd ["_law_box", "_law_others"] (spWill K) := by
  refine T.dLawWill.F.ok scDLawWill (fun vs H Q E h => ?_) (fun cdv A outer s H vs Q E hr h => ?_)
  · obtain ⟨p, a, ns, rfl, _⟩ := h
    rfl
  · obtain ⟨p, a, ns, rfl, hb, hS, hl, hN, q⟩ := h
    refine ⟨_, (pss_cons (ps_set (i := 2) scDLawWill.nd rfl (.inl rfl) (pe_lst pa_nil))
      (pss_cons (ps_for PassesOwn.never rfl (pi_range1 (by rfl) T.z_range (pa_cons (pe_op op_add pe_int (pe_call (ok_choose T) (hr.mono (by decide)) (by rfl) T.dLawChoose.g T.dLawChoose.F.kp T.dLawChoose.b .nil pass0 (pa_cons (pv 0) (pa_cons pe_int pa_nil)))) pa_nil)) (pg_name (i := 3) scDLawWill.nd rfl (.inl rfl))
      (pss_cons (ps_set (i := 4) scDLawWill.nd rfl (.inl rfl) (pe_ifExp (pt_cmpR (op_neNil hr.units) (pv 1) (pe_lst pa_nil) (nomark _)) (pe_lc (own := [("_law_turn", 5)]) (g := (gName 5)) (tt := tYes) rfl scDLawWill.nd (pi_range1 (by rfl) T.z_range (pa_cons (pe_call (ok_choose T) (hr.mono (by decide)) (by rfl) T.dLawChoose.g T.dLawChoose.F.kp T.dLawChoose.b .nil pass0 (pa_cons (pv 0) (pa_cons pe_int pa_nil))) pa_nil)) (blkOk_by (N := ["_law_box", "_law_others", "_law_found", "_law_share", "_law_groups", "_law_turn"]) (sc := defScope sDLawWill) (by decide +kernel)) (fun _ _ _ _ _ => (pg_name (i := 5) scDLawWill.nd rfl (.inl rfl))) (fun _ _ _ _ _ => pts_nil) (fun _ _ _ _ _ => (pe_call (ok_group T) (hr.mono (by decide)) (by rfl) T.dLawGroup.g T.dLawGroup.F.kp T.dLawGroup.b .nil pass0 (pa_cons (pv 0) (pa_cons (pv 1) pa_nil))))) (pe_lst pa_nil)))
      (pss_one (ps_expr (pe_bm PySem.F.plainAttrs_list PySem.F.slot_list_append PySem.F.type_list_append mt_append (pv 2) (pa_cons (pe_tup (pa_cons (pe_op op_add pe_int (pe_call (ok_choose T) (hr.mono (by decide)) (by rfl) T.dLawChoose.g T.dLawChoose.F.kp T.dLawChoose.b .nil pass0 (pa_cons (pv 0) (pa_cons pe_int pa_nil)))) (pa_cons (pv 4) pa_nil))) pa_nil))))))
      (pss_one (ps_ret (pv 2))))), ?_⟩
    simp only [and_assoc, tSeq, tAsg, tOp, tUn, rI, rI0, rU, tVar, tC, gName, L2.start, tIfS, tTest, tB, tCB, tCons, tNil, tIf, tRet, tRetN, tLst, tTup, tNext, tDrop, tNot, tNotV, tAnd, tOr, tAndV, tOrV, tPar, tAug, ipI, rEq, rNe, gSub, rSetL, rIxL, rIxT, tBM, tBM0, rAppend, rPopAt, gTup, gCons, gNil, tCall, tSl, tPart, tNoPart, rSlL, rCat, rEqD, rNeD, rIn, scal, List.map_cons, List.map_nil, List.length_cons, List.length_nil, List.length_map, List.cons_append, List.nil_append, List.append_nil, List.replicate, List.getElem?_cons_zero, List.getElem?_cons_succ, List.set_cons_zero, List.set_cons_succ, Option.some.injEq, exists_eq_left', exists_eq_left, exists_eq_right, exists_and_left, exists_and_right, V.int.injEq, V.ref.injEq, V.str.injEq, V.bl.injEq, reduceCtorEq, false_and, and_false, exists_false, or_false, false_or, true_and, and_true, List.cons.injEq, decide_eq_true_eq, cxOf, if_true, if_false, Bool.false_eq_true, Nat.reduceAdd, Nat.reduceSub, Nat.zero_add, Nat.add_sub_cancel_left, Nat.add_sub_cancel, Nat.sub_self, tFor_eq, tLc_eq, iRng1, iRng2, iList, iTup, iEnum, List.map_cons, List.map_nil, spChoose, spGroup, rNeNil]
    obtain ⟨b0, b1, eb, _⟩ := id hb
    refine ⟨by decide, fun f nf => ⟨hb.same (same_upd nf), by decide, by decide, fun k H1 B1 k0 k1 => ⟨by omega, by omega, ?_⟩⟩⟩
    obtain ⟨n, hn⟩ : ∃ n : Nat, 1 + k = (n : Int) := ⟨(1 + k).toNat, by omega⟩
    have fp : f ≠ p := fun z => by rw [z, eb] at nf; cases nf
    have B01 : Bx p H H1 := (Bx.of hb (same_upd nf)).trans B1
    have f1 : H1 f = some (.lst []) := B1.get fp upd_same
    rw [hn, Int.toNat_natCast]
    refine fg_range (fun i σ H2 => ∃ (g t z : Option V) (shs : List Sh) (vs : List V), σ = [some (.ref p), some (.ref a), some (.ref f), g, t, z] ∧ Bx p H H2 ∧ H2 f = some (.lst vs) ∧ shs.length = i ∧ (∀ s ∈ shs, ShOk s ∧ ShSmall s ∧ ∀ g ∈ s.2, ∀ n ∈ g, n ∈ ns) ∧
      DpAll K (hide f (hide p H2)) vs (shs.map dSh)) ⟨none, none, none, [], [], rfl, B01, f1, rfl, fun _ h => (nomatch h), .nil⟩ ?_ ?_
    · rintro i σ H2 hi ⟨g, t, z, shs, vs, rfl, B, ef, hl2, hok, hd⟩
      simp only [and_assoc, tSeq, tAsg, tOp, tUn, rI, rI0, rU, tVar, tC, gName, L2.start, tIfS, tTest, tB, tCB, tCons, tNil, tIf, tRet, tRetN, tLst, tTup, tNext, tDrop, tNot, tNotV, tAnd, tOr, tAndV, tOrV, tPar, tAug, ipI, rEq, rNe, gSub, rSetL, rIxL, rIxT, tBM, tBM0, rAppend, rPopAt, gTup, gCons, gNil, tCall, tSl, tPart, tNoPart, rSlL, rCat, rEqD, rNeD, rIn, scal, List.map_cons, List.map_nil, List.length_cons, List.length_nil, List.length_map, List.cons_append, List.nil_append, List.append_nil, List.replicate, List.getElem?_cons_zero, List.getElem?_cons_succ, List.set_cons_zero, List.set_cons_succ, Option.some.injEq, exists_eq_left', exists_eq_left, exists_eq_right, exists_and_left, exists_and_right, V.int.injEq, V.ref.injEq, V.str.injEq, V.bl.injEq, reduceCtorEq, false_and, and_false, exists_false, or_false, false_or, true_and, and_true, List.cons.injEq, decide_eq_true_eq, cxOf, if_true, if_false, Bool.false_eq_true, Nat.reduceAdd, Nat.reduceSub, Nat.zero_add, Nat.add_sub_cancel_left, Nat.add_sub_cancel, Nat.sub_self, tFor_eq, tLc_eq, iRng1, iRng2, iList, iTup, iEnum, List.map_cons, List.map_nil, spChoose, spGroup, rNeNil]
      have hS2 : SqL K (hide p H2) a (ns.map V.str) := B.2.seq hS
      refine ⟨by decide, fun e ne => ⟨ns.map V.str, (same_upd ne).seq (hide_le.seq hS2), sqL_of upd_same, ?_⟩⟩
      generalize h3 : upd H2 e _ = H3 at ⊢
      have s3 : Same H2 H3 := h3 ▸ same_upd ne
      have B3 : Bx p H H3 := B.trans (.of B.1 s3)
      have ef3 : H3 f = some (.lst vs) := s3 _ _ ef
      have hd3 : DpAll K (hide f (hide p H3)) vs (shs.map dSh) := dpA_mono (hide_same (hide_same s3)) _ _ hd
      have nf3 : ∀ {g : Addr}, H3 g = none → g ≠ f := fun h z => by rw [z, ef3] at h; cases h
      have fin : ∀ (gs : List (List Str)) (D : Addr) (gv : List V) (H4 : Hp), Bx p H3 H4 → gs.length ≤ 3 → (∀ g ∈ gs, GrpOk g ∧ g.length ≤ 3 ∧ ∀ n ∈ g, n ∈ ns) → H3 D = none → H4 D = some (.lst gv) → DpAll K (hide f (hide p H4)) gv (gs.map dGrp) →
          tyV K "list" (.ref f) H4 ∧ Box H4 p ∧ (0 : Int) < 4 ∧ (4 : Int) ≤ 1000000 ∧ ∀ (r : Int) (H' : Hp), Bx p H4 H' → 0 ≤ r → r < 4 → 2 ≤ sizeLine ∧ ∀ (u : Addr), H' u = none →
            ∃ x, upd H' u (.tup [.int (1 + r), .ref D]) f = some (.lst x) ∧ x.length < sizeLine ∧ Bx p H (upd (upd H' u (.tup [.int (1 + r), .ref D])) f (.lst (x ++ [.ref u]))) ∧
              ∃ (x_1 : List Sh) (x_2 : List V), upd (upd H' u (.tup [.int (1 + r), .ref D])) f (.lst (x ++ [.ref u])) f = some (.lst x_2) ∧ x_1.length = i + 1 ∧
                (∀ s : Sh, s ∈ x_1 → ShOk s ∧ ShSmall s ∧ ∀ g : List Str, g ∈ s.snd → ∀ n : Str, n ∈ g → n ∈ ns) ∧
                DpAll K (hide f (hide p (upd (upd H' u (.tup [.int (1 + r), .ref D])) f (.lst (x ++ [.ref u]))))) x_2 (x_1.map dSh) := by
        intro gs D gv H4 B4 hg3 hgo nD eD hgv
        refine ⟨.inl ⟨rfl, _, sqL_of (B4.get fp ef3)⟩, B4.1, by decide, by decide, fun r H5 B5 r0 r1 => ⟨by decide, fun u nu => ?_⟩⟩
        have Dp' : D ≠ p := B3.ne hb nD
        have Df : D ≠ f := nf3 nD
        have ef5 := B5.get fp (B4.get fp ef3)
        have su := same_upd (o := .tup [.int (1 + r), .ref D]) nu
        have uf : u ≠ f := fun z => by rw [z, ef5] at nu; cases nu
        have up : u ≠ p := fun z => by obtain ⟨_, _, e, _⟩ := B5.1; rw [z, e] at nu; cases nu
        have eu : upd H5 u (.tup [.int (1 + r), .ref D]) u = some (.tup [.int (1 + r), .ref D]) := upd_same
        generalize h6 : upd H5 u (.tup [.int (1 + r), .ref D]) = H6 at su eu ⊢
        have B36 : Bx p H3 H6 := (B4.trans B5).trans (.of B5.1 su)
        have B6 : Bx p H H6 := B3.trans B36
        have hvs : vs.length = i := by rw [dpA_len hd, List.length_map]; exact hl2
        refine ⟨vs, su _ _ ef5, small1000 (by omega), B6.mut nf fp, shs ++ [(1 + r, gs)], vs ++ [.ref u], upd_same, by rw [List.length_append, hl2]; rfl, fun s hs => ?_, ?_⟩
        · rcases List.mem_append.mp hs with h | h
          · exact hok s h
          · obtain rfl := List.mem_singleton.mp h
            exact ⟨⟨by show 1 ≤ 1 + r; omega, fun g hg => (hgo g hg).1⟩, ⟨by show 1 + r ≤ 999999; omega, by show gs.length ≤ 3; omega, fun g hg => (hgo g hg).2.1⟩, fun g hg => (hgo g hg).2.2⟩
        · rw [List.map_append]
          have m6 : Same (hide f (hide p H3)) (hide f (hide p H6)) := hide_same B36.2
          have m46 : Same (hide f (hide p H4)) (hide f (hide p H6)) := hide_same (B5.trans (.of B5.1 su)).2
          have eD6 : hide f (hide p H6) D = some (.lst gv) := by
            refine m46 _ _ ?_
            rw [hide_ne Df, hide_ne Dp']
            exact eD
          have eu6 : hide f (hide p H6) u = some (.tup [.int (1 + r), .ref D]) := by rw [hide_ne uf, hide_ne up]; exact eu
          refine dpA_append (dpA_mono hide_mut _ _ (dpA_mono m6 _ _ hd3)) (.cons (dp_mono hide_mut _ _ ?_) .nil)
          exact .tup (sqT_of eu6) (.cons (.int _) (.cons (.lst (sqL_of eD6) (dpA_mono m46 _ _ hgv)) .nil))
      by_cases hne : ns = []
      · rw [show (List.map V.str ns).isEmpty = true by rw [hne]; rfl]
        simp only [and_assoc, tSeq, tAsg, tOp, tUn, rI, rI0, rU, tVar, tC, gName, L2.start, tIfS, tTest, tB, tCB, tCons, tNil, tIf, tRet, tRetN, tLst, tTup, tNext, tDrop, tNot, tNotV, tAnd, tOr, tAndV, tOrV, tPar, tAug, ipI, rEq, rNe, gSub, rSetL, rIxL, rIxT, tBM, tBM0, rAppend, rPopAt, gTup, gCons, gNil, tCall, tSl, tPart, tNoPart, rSlL, rCat, rEqD, rNeD, rIn, scal, List.map_cons, List.map_nil, List.length_cons, List.length_nil, List.length_map, List.cons_append, List.nil_append, List.append_nil, List.replicate, List.getElem?_cons_zero, List.getElem?_cons_succ, List.set_cons_zero, List.set_cons_succ, Option.some.injEq, exists_eq_left', exists_eq_left, exists_eq_right, exists_and_left, exists_and_right, V.int.injEq, V.ref.injEq, V.str.injEq, V.bl.injEq, reduceCtorEq, false_and, and_false, exists_false, or_false, false_or, true_and, and_true, List.cons.injEq, decide_eq_true_eq, cxOf, if_true, if_false, Bool.false_eq_true, Nat.reduceAdd, Nat.reduceSub, Nat.zero_add, Nat.add_sub_cancel_left, Nat.add_sub_cancel, Nat.sub_self, tFor_eq, tLc_eq, iRng1, iRng2, iList, iTup, iEnum, List.map_cons, List.map_nil, Bool.not_true]
        refine ⟨by decide, fun D nD => ?_⟩
        exact fin [] D [] _ (.of B3.1 (same_upd nD)) (by decide) (fun _ h => nomatch h) nD upd_same .nil
      · have hie : ns.isEmpty = false := by cases ns with | nil => exact absurd rfl hne | cons _ _ => rfl
        rw [List.isEmpty_map, hie]
        simp only [and_assoc, tSeq, tAsg, tOp, tUn, rI, rI0, rU, tVar, tC, gName, L2.start, tIfS, tTest, tB, tCB, tCons, tNil, tIf, tRet, tRetN, tLst, tTup, tNext, tDrop, tNot, tNotV, tAnd, tOr, tAndV, tOrV, tPar, tAug, ipI, rEq, rNe, gSub, rSetL, rIxL, rIxT, tBM, tBM0, rAppend, rPopAt, gTup, gCons, gNil, tCall, tSl, tPart, tNoPart, rSlL, rCat, rEqD, rNeD, rIn, scal, List.map_cons, List.map_nil, List.length_cons, List.length_nil, List.length_map, List.cons_append, List.nil_append, List.append_nil, List.replicate, List.getElem?_cons_zero, List.getElem?_cons_succ, List.set_cons_zero, List.set_cons_succ, Option.some.injEq, exists_eq_left', exists_eq_left, exists_eq_right, exists_and_left, exists_and_right, V.int.injEq, V.ref.injEq, V.str.injEq, V.bl.injEq, reduceCtorEq, false_and, and_false, exists_false, or_false, false_or, true_and, and_true, List.cons.injEq, decide_eq_true_eq, cxOf, if_true, if_false, Bool.false_eq_true, Nat.reduceAdd, Nat.reduceSub, Nat.zero_add, Nat.add_sub_cancel_left, Nat.add_sub_cancel, Nat.sub_self, tFor_eq, tLc_eq, iRng1, iRng2, iList, iTup, iEnum, List.map_cons, List.map_nil, Bool.not_false]
        refine ⟨B3.1, by decide, by decide, fun r H4 B4 r0 r1 => ⟨by omega, by omega, fun D nD => ?_⟩⟩
        have nD3 : H3 D = none := B4.new nD
        have Dp' : D ≠ p := B3.ne hb nD3
        have Df : D ≠ f := nf3 nD3
        refine lg_range (fun j H5 => ∃ (gs : List (List Str)) (gv : List V), Bx p H3 H5 ∧ gs.length = j ∧ (∀ g ∈ gs, GrpOk g ∧ g.length ≤ 3 ∧ ∀ n ∈ g, n ∈ ns) ∧ H5 D = some (.lst gv) ∧ DpAll K (hide D (hide f (hide p H5))) gv (gs.map dGrp))
          ⟨[], [], B4.trans (.of B4.1 (same_upd nD)), rfl, fun _ h => (nomatch h), upd_same, .nil⟩ ?_ ?_
        · rintro j H5 hj ⟨gs, gv, B5, hgl, hgo, eD, hgv⟩
          simp only [and_assoc, tSeq, tAsg, tOp, tUn, rI, rI0, rU, tVar, tC, gName, L2.start, tIfS, tTest, tB, tCB, tCons, tNil, tIf, tRet, tRetN, tLst, tTup, tNext, tDrop, tNot, tNotV, tAnd, tOr, tAndV, tOrV, tPar, tAug, ipI, rEq, rNe, gSub, rSetL, rIxL, rIxT, tBM, tBM0, rAppend, rPopAt, gTup, gCons, gNil, tCall, tSl, tPart, tNoPart, rSlL, rCat, rEqD, rNeD, rIn, scal, List.map_cons, List.map_nil, List.length_cons, List.length_nil, List.length_map, List.cons_append, List.nil_append, List.append_nil, List.replicate, List.getElem?_cons_zero, List.getElem?_cons_succ, List.set_cons_zero, List.set_cons_succ, Option.some.injEq, exists_eq_left', exists_eq_left, exists_eq_right, exists_and_left, exists_and_right, V.int.injEq, V.ref.injEq, V.str.injEq, V.bl.injEq, reduceCtorEq, false_and, and_false, exists_false, or_false, false_or, true_and, and_true, List.cons.injEq, decide_eq_true_eq, cxOf, if_true, if_false, Bool.false_eq_true, Nat.reduceAdd, Nat.reduceSub, Nat.zero_add, Nat.add_sub_cancel_left, Nat.add_sub_cancel, Nat.sub_self, tFor_eq, tLc_eq, iRng1, iRng2, iList, iTup, iEnum, List.map_cons, List.map_nil, wipe, tYes, spGroup]
          have B05 : Bx p H H5 := B3.trans B5
          refine ⟨B5.1, ns, B05.2.seq hS, by omega, hne, fun xs m u H6 B6 pm m1 m3 nu eu => ?_⟩
          have eD6 := B6.get Dp' eD
          have B36 := B5.trans B6
          have uD : u ≠ D := fun z => by rw [z, eD] at nu; cases nu
          have uf : u ≠ f := fun z => by rw [z, B5.get fp ef3] at nu; cases nu
          have up : u ≠ p := fun z => by obtain ⟨_, _, e, _⟩ := B5.1; rw [z, e] at nu; cases nu
          have hgv6 : DpAll K (hide D (hide f (hide p H6))) gv (gs.map dGrp) := dpA_mono (hide_same (hide_same B6.2)) _ _ hgv
          have hgl2 : gv.length = j := by rw [dpA_len hgv, List.length_map]; exact hgl
          have eu6 : hide D (hide f (hide p H6)) u = some (.lst ((xs.take m).map V.str)) := by rw [hide_ne uD, hide_ne uf, hide_ne up]; exact eu
          refine ⟨gv, eD6, small1000 (by omega), B36.mut nD3 Dp', gs ++ [xs.take m], by rw [List.length_append, hgl]; rfl, fun g hg => ?_, gv ++ [.ref u], upd_same, ?_⟩
          · rcases List.mem_append.mp hg with h | h
            · exact hgo g h
            · obtain rfl := List.mem_singleton.mp h
              have hx0 : xs ≠ [] := fun z => hne (by rw [z] at pm; exact pm.nil_eq.symm)
              have sub : ∀ n ∈ xs.take m, n ∈ ns := fun n hn => pm.mem_iff.mp (List.mem_of_mem_take hn)
              refine ⟨⟨fun z => ?_, (pm.nodup_iff.mpr hN.nd).sublist (List.take_sublist _ _), fun n hn => hN.nm n (sub n hn)⟩, ?_, sub⟩
              · rcases List.take_eq_nil_iff.mp z with h1 | h1
                · omega
                · exact hx0 h1
              · rw [List.length_take]; omega
          · rw [List.map_append]
            have md : Same (hide D (hide f (hide p H6))) (hide D (hide f (hide p (upd H6 D (.lst (gv ++ [.ref u])))))) := hide_mut3
            exact dpA_append (dpA_mono md _ _ hgv6) (.cons (dp_mono md _ _ (.lst (sqL_of eu6) (dpA_strs _))) .nil)
        · rintro H5 ⟨gs, gv, B5, hgl, hgo, eD, hgv⟩
          exact fin gs D gv H5 B5 (by omega) hgo nD3 eD (dpA_mono hide_le _ _ hgv)
    · rintro σ H2 ⟨g, t, z, shs, vs, rfl, B, ef, hl2, hok, hd⟩
      simp only [and_assoc, tSeq, tAsg, tOp, tUn, rI, rI0, rU, tVar, tC, gName, L2.start, tIfS, tTest, tB, tCB, tCons, tNil, tIf, tRet, tRetN, tLst, tTup, tNext, tDrop, tNot, tNotV, tAnd, tOr, tAndV, tOrV, tPar, tAug, ipI, rEq, rNe, gSub, rSetL, rIxL, rIxT, tBM, tBM0, rAppend, rPopAt, gTup, gCons, gNil, tCall, tSl, tPart, tNoPart, rSlL, rCat, rEqD, rNeD, rIn, scal, List.map_cons, List.map_nil, List.length_cons, List.length_nil, List.length_map, List.cons_append, List.nil_append, List.append_nil, List.replicate, List.getElem?_cons_zero, List.getElem?_cons_succ, List.set_cons_zero, List.set_cons_succ, Option.some.injEq, exists_eq_left', exists_eq_left, exists_eq_right, exists_and_left, exists_and_right, V.int.injEq, V.ref.injEq, V.str.injEq, V.bl.injEq, reduceCtorEq, false_and, and_false, exists_false, or_false, false_or, true_and, and_true, List.cons.injEq, decide_eq_true_eq, cxOf, if_true, if_false, Bool.false_eq_true, Nat.reduceAdd, Nat.reduceSub, Nat.zero_add, Nat.add_sub_cancel_left, Nat.add_sub_cancel, Nat.sub_self, tFor_eq, tLc_eq, iRng1, iRng2, iList, iTup, iEnum, List.map_cons, List.map_nil]
      have hle : Same (hide f (hide p H2)) (hide p H2) := hide_le
      exact q shs vs f H2 B ⟨fun z => by rw [z] at hl2; simp at hl2; omega, by omega, hok⟩ nf ef (dpA_mono hle _ _ hd)

end
end He

namespace He
open PySem PySem.Spec PyProof.Rows L2
theorem tab_alpha : ((List.range 128).all fun c => Unicode.isAlpha c == ((decide (65 ≤ c) && decide (c ≤ 90)) || (decide (97 ≤ c) && decide (c ≤ 122)))) = true := by decide +kernel
theorem tab_lower : ((List.range 128).all fun c => Unicode.isLower c == (decide (97 ≤ c) && decide (c ≤ 122))) = true := by decide +kernel
theorem tab_upper : ((List.range 128).all fun c => (Unicode.isUpper c || Unicode.isTitle c) == (decide (65 ≤ c) && decide (c ≤ 90))) = true := by decide +kernel
theorem at_tab {f g : Nat → Bool} (h : ((List.range 128).all fun c => f c == g c) = true) {c : Nat} (hc : c < 128) : f c = g c := eq_of_beq (List.all_eq_true.mp h c (List.mem_range.mpr hc))
theorem lower_eq (l : List Nat) : (l.all (fun c => decide (c < 128)) && ((decide (l.length > 0) && l.all Unicode.isAlpha) && (l.any Unicode.isLower && !l.any fun c => Unicode.isUpper c || Unicode.isTitle c))) = (decide (1 ≤ l.length) && l.all fun c => decide (97 ≤ c) && decide (c ≤ 122)) := by
  rw [Bool.eq_iff_iff]
  simp only [Bool.and_eq_true, List.all_eq_true, decide_eq_true_eq, List.any_eq_true, Bool.not_eq_true', List.any_eq_false]
  constructor
  · rintro ⟨h1, ⟨h2, h3⟩, h4, h5⟩
    refine ⟨h2, fun c hc => ?_⟩
    have a := at_tab tab_alpha (h1 c hc)
    have u := at_tab tab_upper (h1 c hc)
    have nu := h5 c hc
    rw [h3 c hc] at a
    rw [Bool.not_eq_true] at nu
    rw [nu] at u
    simp at a u
    omega
  · rintro ⟨h1, h2⟩
    have lt : ∀ c ∈ l, c < 128 := fun c hc => by have := h2 c hc; omega
    refine ⟨lt, ⟨h1, fun c hc => ?_⟩, ?_, fun c hc => ?_⟩
    · rw [at_tab tab_alpha (lt c hc)]
      have := h2 c hc
      simp
      omega
    · obtain ⟨c, hc⟩ := List.exists_mem_of_length_pos h1
      refine ⟨c, hc, ?_⟩
      rw [at_tab tab_lower (lt c hc)]
      have := h2 c hc
      simp
      omega
    · have u := at_tab tab_upper (lt c hc)
      have := h2 c hc
      rw [u]
      simp
      omega
/-- what the program asks of a name is what a name is -/
theorem name_eq (x : Str) : (decide (x.length ≤ 5) && decide (x ≠ "crown") && (Txt.isascii x && (Txt.isalpha x && Txt.islower x))) = nameB x := by
  have h := lower_eq x.cps.toList
  have e1 : Txt.isascii x = x.cps.toList.all (fun c => decide (c < 128)) := by unfold Txt.isascii; rw [Array.all_toList]
  have e2 : Txt.isalpha x = (decide (x.cps.toList.length > 0) && x.cps.toList.all Unicode.isAlpha) := by unfold Txt.isalpha; rw [Array.all_toList, Array.length_toList]; rfl
  have e3 : Txt.islower x = (x.cps.toList.any Unicode.isLower && !x.cps.toList.any fun c => Unicode.isUpper c || Unicode.isTitle c) := by unfold Txt.islower; rw [Array.any_toList, Array.any_toList]
  rw [e1, e2, e3, h]
  unfold nameB
  rw [Array.all_toList, Array.length_toList]
  show (decide (x.cps.size ≤ 5) && _ && _) = _
  cases decide (x.cps.size ≤ 5) <;> cases decide (x ≠ "crown") <;> cases decide (1 ≤ x.cps.size) <;> simp
end He

namespace He
open PySem PySem.Spec PyProof.Rows L2
section
variable {P : Program} {w : World} {K : PySem.W.Frag} {mg : Str → Option Value} {base : Heap}

/-! ### any value at all: data, and instances of the program's own classes -/
inductive AD where
  | non | bl (b : Bool) | int (i : Int) | str (x : Str) | lst (ds : List AD) | tup (ds : List AD) | ins (C : Addr)
mutual
inductive Av (K : PySem.W.Frag) (H : Hp) : V → AD → Prop
  | non : Av K H .non .non
  | bl (b : Bool) : Av K H (.bl b) (.bl b)
  | int (i : Int) : Av K H (.int i) (.int i)
  | str (x : Str) : Av K H (.str x) (.str x)
  | lst {a : Addr} {xs : List V} {ds : List AD} : SqL K H a xs → AvAll K H xs ds → Av K H (.ref a) (.lst ds)
  | tup {a : Addr} {xs : List V} {ds : List AD} : SqT K H a xs → AvAll K H xs ds → Av K H (.ref a) (.tup ds)
  | ins {a C dx : Addr} {fs : List (Str × V)} : H a = some (.ins C dx fs) → TyOf K H (.ref a) (.ref C) → Av K H (.ref a) (.ins C)
inductive AvAll (K : PySem.W.Frag) (H : Hp) : List V → List AD → Prop
  | nil : AvAll K H [] []
  | cons {v : V} {vs : List V} {d : AD} {ds : List AD} : Av K H v d → AvAll K H vs ds → AvAll K H (v :: vs) (d :: ds)
end
theorem tyOf_mono {H H' : Hp} (s : Same H H') {v : V} {t : Value} (h : TyOf K H v t) : TyOf K H' v t := by
  cases h with
  | non => exact .non
  | bl b => exact .bl b
  | int i => exact .int i
  | str x => exact .str x
  | flt x => exact .flt x
  | lst e => exact .lst (s _ _ e)
  | frz e => exact .frz (s _ _ e)
  | tup e => exact .tup (s _ _ e)
  | dK e => exact .dK (s _ _ e)
  | dT e => exact .dT (s _ _ e)
  | ins e cl ha hn htk hm => exact .ins (s _ _ e) cl ha hn htk hm
mutual
theorem av_mono {K : PySem.W.Frag} {H H' : Hp} (s : Same H H') : ∀ (d : AD) (v : V), Av K H v d → Av K H' v d
  | .non, _, h => by cases h; exact .non
  | .bl b, _, h => by cases h; exact .bl b
  | .int i, _, h => by cases h; exact .int i
  | .str x, _, h => by cases h; exact .str x
  | .lst ds, _, h => by
    cases h with
    | lst hs ha => exact .lst (s.seq hs) (avA_mono s ds _ ha)
  | .tup ds, _, h => by
    cases h with
    | tup hs ha => exact .tup (Same.seqT s hs) (avA_mono s ds _ ha)
  | .ins C, _, h => by
    cases h with
    | ins e t => exact .ins (s _ _ e) (tyOf_mono s t)
theorem avA_mono {K : PySem.W.Frag} {H H' : Hp} (s : Same H H') : ∀ (ds : List AD) (vs : List V), AvAll K H vs ds → AvAll K H' vs ds
  | [], _, h => by cases h; exact .nil
  | d :: ds, _, h => by
    cases h with
    | cons a b => exact .cons (av_mono s d _ a) (avA_mono s ds _ b)
end
theorem avA_len {H : Hp} : ∀ {vs : List V} {ds : List AD}, AvAll K H vs ds → vs.length = ds.length
  | [], _, .nil => rfl
  | _ :: _, _, .cons _ b => congrArg (· + 1) (avA_len b)
theorem avA_get {H : Hp} : ∀ {vs : List V} {ds : List AD} {i : Nat} {v : V}, AvAll K H vs ds → vs[i]? = some v → ∃ d, ds[i]? = some d ∧ Av K H v d
  | _, _, i, _, .nil, e => by simp at e
  | _, _, 0, _, .cons a _, e => by
    cases (Option.some.inj e)
    exact ⟨_, rfl, a⟩
  | _, _, i + 1, _, .cons _ b, e => avA_get (i := i) b e
mutual
/-- plain data as any value -/
def ad : PyData → AD
  | .none => .non
  | .bool b => .bl b
  | .int i => .int i
  | .str x => .str x
  | .list ds => .lst (adA ds)
  | .tuple ds => .tup (adA ds)
  | .dict _ => .non
def adA : List PyData → List AD
  | [] => []
  | d :: ds => ad d :: adA ds
end
theorem adA_map (ds : List PyData) : adA ds = ds.map ad := by
  induction ds with
  | nil => rfl
  | cons d ds ih => show ad d :: adA ds = _; rw [ih]; rfl
mutual
theorem av_of {K : PySem.W.Frag} {H : Hp} : ∀ (d : PyData) (v : V), Dp K H v d → Av K H v (ad d)
  | .none, _, h => by cases h; exact .non
  | .bool b, _, h => by cases h; exact .bl b
  | .int i, _, h => by cases h; exact .int i
  | .str x, _, h => by cases h; exact .str x
  | .list ds, _, h => by
    cases h with
    | lst hs ha => exact .lst hs (avA_of ds _ ha)
  | .tuple ds, _, h => by
    cases h with
    | tup hs ha => exact .tup hs (avA_of ds _ ha)
  | .dict _, _, h => by cases h
theorem avA_of {K : PySem.W.Frag} {H : Hp} : ∀ (ds : List PyData) (vs : List V), DpAll K H vs ds → AvAll K H vs (adA ds)
  | [], _, h => by cases h; exact .nil
  | d :: ds, _, h => by
    cases h with
    | cons a b => exact .cons (av_of d _ a) (avA_of ds _ b)
end
/-! ### isinstance of any value -/
def tyA : AD → Value
  | .non => .type "NoneType"
  | .bl _ => .type "bool"
  | .int _ => .type "int"
  | .str _ => .type "str"
  | .lst _ => .type "list"
  | .tup _ => .type "tuple"
  | .ins C => .ref C
theorem av_ty {H : Hp} {v : V} {d : AD} (h : Av K H v d) : TyX K H v (tyA d) := by
  cases h with
  | non => exact .base .non
  | bl b => exact .base (.bl b)
  | int i => exact .base (.int i)
  | str x => exact .base (.str x)
  | lst hs ha =>
    rcases hs with (h | ⟨o, h⟩) | ⟨o, its, n, h, c, _⟩
    · exact .base (.lst h)
    · exact .base (.frz h)
    · exact .kList h c
  | tup hs ha =>
    rcases hs with (h | ⟨o, h⟩) | ⟨o, its, n, h, c, _⟩
    · exact .base (.tup h)
    · exact .fTuple h
    · exact .kTuple h c
  | ins e t => exact .base t
/-- of an own class of the program nothing built in -/
structure NoBuilt (K : PySem.W.Frag) (C : Addr) : Prop where
  i : PySem.W.kitOne K (.ref C) (.type "int") = some false
  s : PySem.W.kitOne K (.ref C) (.type "str") = some false
  l : PySem.W.kitOne K (.ref C) (.type "list") = some false
  t : PySem.W.kitOne K (.ref C) (.type "tuple") = some false
mutual
/-- each instance is of such a class -/
def AdOk (K : PySem.W.Frag) : AD → Prop
  | .ins C => NoBuilt K C
  | .lst ds => ds.length < 4000 ∧ AdOkA K ds
  | .tup ds => ds.length < 4000 ∧ AdOkA K ds
  | .str x => x.length ≤ sizeLine
  | _ => True
def AdOkA (K : PySem.W.Frag) : List AD → Prop
  | [] => True
  | d :: ds => AdOk K d ∧ AdOkA K ds
end
def isStrA : AD → Bool | .str _ => true | _ => false
def isIntT : AD → Bool | .int _ => true | .bl _ => true | _ => false
def isBoolA : AD → Bool | .bl _ => true | _ => false
def isIntA : AD → Bool | .int _ => true | _ => false
def isLstA : AD → Bool | .lst _ => true | _ => false
def isTupA : AD → Bool | .tup _ => true | _ => false
def isSeqA : AD → Bool | .lst _ => true | .tup _ => true | _ => false
def isPairA : AD → Bool | .tup [_, _] => true | _ => false
theorem kit_int : ∀ {d : AD}, AdOk K d → PySem.W.kitOne K (tyA d) (.type "int") = some (isIntT d)
  | .non, _ => (kit_ty (by decide +kernel) : PySem.W.kitOne K (.type "NoneType") (.type "int") = some false)
  | .bl _, _ => (kit_ty (by decide +kernel) : PySem.W.kitOne K (.type "bool") (.type "int") = some true)
  | .int _, _ => (kit_ty (by decide +kernel) : PySem.W.kitOne K (.type "int") (.type "int") = some true)
  | .str _, _ => (kit_ty (by decide +kernel) : PySem.W.kitOne K (.type "str") (.type "int") = some false)
  | .lst _, _ => (kit_ty (by decide +kernel) : PySem.W.kitOne K (.type "list") (.type "int") = some false)
  | .tup _, _ => (kit_ty (by decide +kernel) : PySem.W.kitOne K (.type "tuple") (.type "int") = some false)
  | .ins _, h => NoBuilt.i h
theorem kit_str : ∀ {d : AD}, AdOk K d → PySem.W.kitOne K (tyA d) (.type "str") = some (isStrA d)
  | .non, _ => (kit_ty (by decide +kernel) : PySem.W.kitOne K (.type "NoneType") (.type "str") = some false)
  | .bl _, _ => (kit_ty (by decide +kernel) : PySem.W.kitOne K (.type "bool") (.type "str") = some false)
  | .int _, _ => (kit_ty (by decide +kernel) : PySem.W.kitOne K (.type "int") (.type "str") = some false)
  | .str _, _ => (kit_ty (by decide +kernel) : PySem.W.kitOne K (.type "str") (.type "str") = some true)
  | .lst _, _ => (kit_ty (by decide +kernel) : PySem.W.kitOne K (.type "list") (.type "str") = some false)
  | .tup _, _ => (kit_ty (by decide +kernel) : PySem.W.kitOne K (.type "tuple") (.type "str") = some false)
  | .ins _, h => NoBuilt.s h
theorem kit_lst : ∀ {d : AD}, AdOk K d → PySem.W.kitOne K (tyA d) (.type "list") = some (isLstA d)
  | .non, _ => (kit_ty (by decide +kernel) : PySem.W.kitOne K (.type "NoneType") (.type "list") = some false)
  | .bl _, _ => (kit_ty (by decide +kernel) : PySem.W.kitOne K (.type "bool") (.type "list") = some false)
  | .int _, _ => (kit_ty (by decide +kernel) : PySem.W.kitOne K (.type "int") (.type "list") = some false)
  | .str _, _ => (kit_ty (by decide +kernel) : PySem.W.kitOne K (.type "str") (.type "list") = some false)
  | .lst _, _ => (kit_ty (by decide +kernel) : PySem.W.kitOne K (.type "list") (.type "list") = some true)
  | .tup _, _ => (kit_ty (by decide +kernel) : PySem.W.kitOne K (.type "tuple") (.type "list") = some false)
  | .ins _, h => NoBuilt.l h
theorem kit_tup : ∀ {d : AD}, AdOk K d → PySem.W.kitOne K (tyA d) (.type "tuple") = some (isTupA d)
  | .non, _ => (kit_ty (by decide +kernel) : PySem.W.kitOne K (.type "NoneType") (.type "tuple") = some false)
  | .bl _, _ => (kit_ty (by decide +kernel) : PySem.W.kitOne K (.type "bool") (.type "tuple") = some false)
  | .int _, _ => (kit_ty (by decide +kernel) : PySem.W.kitOne K (.type "int") (.type "tuple") = some false)
  | .str _, _ => (kit_ty (by decide +kernel) : PySem.W.kitOne K (.type "str") (.type "tuple") = some false)
  | .lst _, _ => (kit_ty (by decide +kernel) : PySem.W.kitOne K (.type "list") (.type "tuple") = some false)
  | .tup _, _ => (kit_ty (by decide +kernel) : PySem.W.kitOne K (.type "tuple") (.type "tuple") = some true)
  | .ins _, h => NoBuilt.t h
theorem kit_seq {d : AD} (h : AdOk K d) : PySem.W.kitAny K (tyA d) [.type "list", .type "tuple"] = some (isSeqA d) := by
  refine kitAny_cons (kit_lst h) (fun e => kitAny_cons (kit_tup h) (fun e2 => ?_) (fun e2 => ?_)) (fun e => ?_)
  · rw [kitAny_nil]
    cases d <;> first | rfl | (exact nomatch (show true = false from e)) | (exact nomatch (show true = false from e2))
  · cases d <;> first | rfl | (exact nomatch (show false = true from e2))
  · cases d <;> first | rfl | (exact nomatch (show false = true from e))
/-- a test of any value -/
def spIs (K : PySem.W.Frag) (f : AD → Bool) : Sp := fun vs H Q _ => ∃ (v : V) (d : AD), vs = [v] ∧ Av K H v d ∧ AdOk K d ∧ ∀ H', Same H H' → Q (.bl (f d)) H'
theorem ok_isint (T : TxtG K mg) : FnOk P w K mg base CX0 1 T.dIsInteger.f T.dIsInteger.fd ["value"] (spIs K isIntA) := by
  refine T.dIsInteger.F.ok scDIsInteger (fun vs H Q E h => ?_) (fun cdv A outer s H vs Q E hr h => ?_)
  · obtain ⟨v, d, rfl, _⟩ := h
    rfl
  · obtain ⟨v, d, rfl, hv, hd, q⟩ := h
    refine ⟨_, (pss_one (ps_ret (pe_and (pe_callB call_isi (by rfl) T.z_isinstance (by decide +kernel) (pa_cons (pv 0) (pa_cons (pe_bltn (v := .ty "int") (u := .type "int") (by rfl) T.z_int (by decide +kernel) rfl) pa_nil))) (pe_one (pe_not (pe_callB call_isi (by rfl) T.z_isinstance (by decide +kernel) (pa_cons (pv 0) (pa_cons (pe_bltn (v := .ty "bool") (u := .type "bool") (by rfl) T.z_bool (by decide +kernel) rfl) pa_nil)))))))), ?_⟩
    simp only [and_assoc, tSeq, tAsg, tOp, tUn, rI, rI0, rU, tVar, tC, gName, L2.start, tIfS, tTest, tB, tCB, tCons, tNil, tIf, tRet, tRetN, tLst, tTup, tNext, tDrop, tNot, tNotV, tAnd, tOr, tAndV, tOrV, tPar, tAug, ipI, rEq, rNe, gSub, rSetL, rIxL, rIxT, tBM, tBM0, rAppend, rPopAt, gTup, gCons, gNil, tCall, tSl, tPart, tNoPart, rSlL, rCat, rEqD, rNeD, rIn, scal, List.map_cons, List.map_nil, List.length_cons, List.length_nil, List.length_map, List.cons_append, List.nil_append, List.append_nil, List.replicate, List.getElem?_cons_zero, List.getElem?_cons_succ, List.set_cons_zero, List.set_cons_succ, Option.some.injEq, exists_eq_left', exists_eq_left, exists_eq_right, exists_and_left, exists_and_right, V.int.injEq, V.ref.injEq, V.str.injEq, V.bl.injEq, reduceCtorEq, false_and, and_false, exists_false, or_false, false_or, true_and, and_true, List.cons.injEq, decide_eq_true_eq, cxOf, if_true, if_false, Bool.false_eq_true, Nat.reduceAdd, Nat.reduceSub, Nat.zero_add, Nat.add_sub_cancel_left, Nat.add_sub_cancel, Nat.sub_self, tFor_eq, tLc_eq, iRng1, iRng2, iList, iTup, iEnum, rIsi, rIsiT]
    refine ⟨_, _, .ty "int", av_ty hv, _, kit_int hd, ?_⟩
    have kb : PySem.W.kitOne K (tyA d) (.type "bool") = some (isBoolA d) ∨ isIntT d = false := by
      cases d with
      | bl b => exact .inl (kit_ty (by decide +kernel) : PySem.W.kitOne K (.type "bool") (.type "bool") = some true)
      | int i => exact .inl (kit_ty (by decide +kernel) : PySem.W.kitOne K (.type "int") (.type "bool") = some false)
      | non => exact .inr rfl
      | str x => exact .inr rfl
      | lst x => exact .inr rfl
      | tup x => exact .inr rfl
      | ins x => exact .inr rfl
    have q0 := q H (Same.refl H)
    cases e : isIntT d with
    | false =>
      simp only [and_assoc, tSeq, tAsg, tOp, tUn, rI, rI0, rU, tVar, tC, gName, L2.start, tIfS, tTest, tB, tCB, tCons, tNil, tIf, tRet, tRetN, tLst, tTup, tNext, tDrop, tNot, tNotV, tAnd, tOr, tAndV, tOrV, tPar, tAug, ipI, rEq, rNe, gSub, rSetL, rIxL, rIxT, tBM, tBM0, rAppend, rPopAt, gTup, gCons, gNil, tCall, tSl, tPart, tNoPart, rSlL, rCat, rEqD, rNeD, rIn, scal, List.map_cons, List.map_nil, List.length_cons, List.length_nil, List.length_map, List.cons_append, List.nil_append, List.append_nil, List.replicate, List.getElem?_cons_zero, List.getElem?_cons_succ, List.set_cons_zero, List.set_cons_succ, Option.some.injEq, exists_eq_left', exists_eq_left, exists_eq_right, exists_and_left, exists_and_right, V.int.injEq, V.ref.injEq, V.str.injEq, V.bl.injEq, reduceCtorEq, false_and, and_false, exists_false, or_false, false_or, true_and, and_true, List.cons.injEq, decide_eq_true_eq, cxOf, if_true, if_false, Bool.false_eq_true, Nat.reduceAdd, Nat.reduceSub, Nat.zero_add, Nat.add_sub_cancel_left, Nat.add_sub_cancel, Nat.sub_self, tFor_eq, tLc_eq, iRng1, iRng2, iList, iTup, iEnum, rIsi, rIsiT]
      have e2 : isIntA d = false := by cases d <;> first | rfl | (exact nomatch (show true = false from e))
      rw [e2] at q0
      exact q0
    | true =>
      simp only [and_assoc, tSeq, tAsg, tOp, tUn, rI, rI0, rU, tVar, tC, gName, L2.start, tIfS, tTest, tB, tCB, tCons, tNil, tIf, tRet, tRetN, tLst, tTup, tNext, tDrop, tNot, tNotV, tAnd, tOr, tAndV, tOrV, tPar, tAug, ipI, rEq, rNe, gSub, rSetL, rIxL, rIxT, tBM, tBM0, rAppend, rPopAt, gTup, gCons, gNil, tCall, tSl, tPart, tNoPart, rSlL, rCat, rEqD, rNeD, rIn, scal, List.map_cons, List.map_nil, List.length_cons, List.length_nil, List.length_map, List.cons_append, List.nil_append, List.append_nil, List.replicate, List.getElem?_cons_zero, List.getElem?_cons_succ, List.set_cons_zero, List.set_cons_succ, Option.some.injEq, exists_eq_left', exists_eq_left, exists_eq_right, exists_and_left, exists_and_right, V.int.injEq, V.ref.injEq, V.str.injEq, V.bl.injEq, reduceCtorEq, false_and, and_false, exists_false, or_false, false_or, true_and, and_true, List.cons.injEq, decide_eq_true_eq, cxOf, if_true, if_false, Bool.false_eq_true, Nat.reduceAdd, Nat.reduceSub, Nat.zero_add, Nat.add_sub_cancel_left, Nat.add_sub_cancel, Nat.sub_self, tFor_eq, tLc_eq, iRng1, iRng2, iList, iTup, iEnum, rIsi, rIsiT]
      rcases kb with kb | kb
      · refine ⟨_, _, .ty "bool", av_ty hv, _, kb, ?_⟩
        have e2 : isIntA d = !isBoolA d := by cases d <;> first | rfl | (exact nomatch (show false = true from e))
        rw [e2] at q0
        exact q0
      · rw [e] at kb
        cases kb
theorem ok_isseq (T : TxtG K mg) : FnOk P w K mg base CX0 1 T.dIsSequence.f T.dIsSequence.fd ["value"] (spIs K isSeqA) := by
  refine T.dIsSequence.F.ok scDIsSequence (fun vs H Q E h => ?_) (fun cdv A outer s H vs Q E hr h => ?_)
  · obtain ⟨v, d, rfl, _⟩ := h
    rfl
  · obtain ⟨v, d, rfl, hv, hd, q⟩ := h
    refine ⟨_, (pss_one (ps_ret (pe_callB call_isiT (by rfl) T.z_isinstance (by decide +kernel) (pa_cons (pv 0) (pa_cons (pe_tup (pa_cons (pe_bltn (v := .ty "list") (u := .type "list") (by rfl) T.z_list (by decide +kernel) rfl) (pa_cons (pe_bltn (v := .ty "tuple") (u := .type "tuple") (by rfl) T.z_tuple (by decide +kernel) rfl) pa_nil))) pa_nil))))), ?_⟩
    simp only [and_assoc, tSeq, tAsg, tOp, tUn, rI, rI0, rU, tVar, tC, gName, L2.start, tIfS, tTest, tB, tCB, tCons, tNil, tIf, tRet, tRetN, tLst, tTup, tNext, tDrop, tNot, tNotV, tAnd, tOr, tAndV, tOrV, tPar, tAug, ipI, rEq, rNe, gSub, rSetL, rIxL, rIxT, tBM, tBM0, rAppend, rPopAt, gTup, gCons, gNil, tCall, tSl, tPart, tNoPart, rSlL, rCat, rEqD, rNeD, rIn, scal, List.map_cons, List.map_nil, List.length_cons, List.length_nil, List.length_map, List.cons_append, List.nil_append, List.append_nil, List.replicate, List.getElem?_cons_zero, List.getElem?_cons_succ, List.set_cons_zero, List.set_cons_succ, Option.some.injEq, exists_eq_left', exists_eq_left, exists_eq_right, exists_and_left, exists_and_right, V.int.injEq, V.ref.injEq, V.str.injEq, V.bl.injEq, reduceCtorEq, false_and, and_false, exists_false, or_false, false_or, true_and, and_true, List.cons.injEq, decide_eq_true_eq, cxOf, if_true, if_false, Bool.false_eq_true, Nat.reduceAdd, Nat.reduceSub, Nat.zero_add, Nat.add_sub_cancel_left, Nat.add_sub_cancel, Nat.sub_self, tFor_eq, tLc_eq, iRng1, iRng2, iList, iTup, iEnum, rIsi, rIsiT]
    refine ⟨by decide, fun t nt => ⟨_, upd_same, _, _, .cons (.ty "list") (.cons (.ty "tuple") .nil), av_ty (av_mono (same_upd nt) _ _ hv), _, kit_seq hd, ?_⟩⟩
    exact q _ (same_upd nt)
theorem ok_ispair (T : TxtG K mg) : FnOk P w K mg base CX0 1 T.dIsPair.f T.dIsPair.fd ["value"] (spIs K isPairA) := by
  refine T.dIsPair.F.ok scDIsPair (fun vs H Q E h => ?_) (fun cdv A outer s H vs Q E hr h => ?_)
  · obtain ⟨v, d, rfl, _⟩ := h
    rfl
  · obtain ⟨v, d, rfl, hv, hd, q⟩ := h
    refine ⟨_, (pss_one (ps_ret (pe_and (pe_callB call_isi (by rfl) T.z_isinstance (by decide +kernel) (pa_cons (pv 0) (pa_cons (pe_bltn (v := .ty "tuple") (u := .type "tuple") (by rfl) T.z_tuple (by decide +kernel) rfl) pa_nil))) (pe_one (pe_cmpR op_eq (pe_callB call_len_seq (by rfl) T.z_len (by decide +kernel) (pa_cons (pv 0) pa_nil)) pe_int (nomark _)))))), ?_⟩
    simp only [and_assoc, tSeq, tAsg, tOp, tUn, rI, rI0, rU, tVar, tC, gName, L2.start, tIfS, tTest, tB, tCB, tCons, tNil, tIf, tRet, tRetN, tLst, tTup, tNext, tDrop, tNot, tNotV, tAnd, tOr, tAndV, tOrV, tPar, tAug, ipI, rEq, rNe, gSub, rSetL, rIxL, rIxT, tBM, tBM0, rAppend, rPopAt, gTup, gCons, gNil, tCall, tSl, tPart, tNoPart, rSlL, rCat, rEqD, rNeD, rIn, scal, List.map_cons, List.map_nil, List.length_cons, List.length_nil, List.length_map, List.cons_append, List.nil_append, List.append_nil, List.replicate, List.getElem?_cons_zero, List.getElem?_cons_succ, List.set_cons_zero, List.set_cons_succ, Option.some.injEq, exists_eq_left', exists_eq_left, exists_eq_right, exists_and_left, exists_and_right, V.int.injEq, V.ref.injEq, V.str.injEq, V.bl.injEq, reduceCtorEq, false_and, and_false, exists_false, or_false, false_or, true_and, and_true, List.cons.injEq, decide_eq_true_eq, cxOf, if_true, if_false, Bool.false_eq_true, Nat.reduceAdd, Nat.reduceSub, Nat.zero_add, Nat.add_sub_cancel_left, Nat.add_sub_cancel, Nat.sub_self, tFor_eq, tLc_eq, iRng1, iRng2, iList, iTup, iEnum, rIsi, rIsiT]
    refine ⟨_, _, .ty "tuple", av_ty hv, _, kit_tup hd, ?_⟩
    have q0 := q H (Same.refl H)
    cases hv with
    | @tup a xs ds hs ha =>
      simp only [and_assoc, tSeq, tAsg, tOp, tUn, rI, rI0, rU, tVar, tC, gName, L2.start, tIfS, tTest, tB, tCB, tCons, tNil, tIf, tRet, tRetN, tLst, tTup, tNext, tDrop, tNot, tNotV, tAnd, tOr, tAndV, tOrV, tPar, tAug, ipI, rEq, rNe, gSub, rSetL, rIxL, rIxT, tBM, tBM0, rAppend, rPopAt, gTup, gCons, gNil, tCall, tSl, tPart, tNoPart, rSlL, rCat, rEqD, rNeD, rIn, scal, List.map_cons, List.map_nil, List.length_cons, List.length_nil, List.length_map, List.cons_append, List.nil_append, List.append_nil, List.replicate, List.getElem?_cons_zero, List.getElem?_cons_succ, List.set_cons_zero, List.set_cons_succ, Option.some.injEq, exists_eq_left', exists_eq_left, exists_eq_right, exists_and_left, exists_and_right, V.int.injEq, V.ref.injEq, V.str.injEq, V.bl.injEq, reduceCtorEq, false_and, and_false, exists_false, or_false, false_or, true_and, and_true, List.cons.injEq, decide_eq_true_eq, cxOf, if_true, if_false, Bool.false_eq_true, Nat.reduceAdd, Nat.reduceSub, Nat.zero_add, Nat.add_sub_cancel_left, Nat.add_sub_cancel, Nat.sub_self, tFor_eq, tLc_eq, iRng1, iRng2, iList, iTup, iEnum, rIsi, rIsiT, isTupA]
      refine ⟨xs, .inr hs, ?_⟩
      rw [avA_len ha]
      have e : isPairA (.tup ds) = decide ((ds.length : Int) = 2) := by
        match ds with
        | [] => rfl
        | [_] => rfl
        | [_, _] => rfl
        | _ :: _ :: _ :: r => exact (decide_eq_false (by simp only [List.length_cons]; omega)).symm
      rw [e] at q0
      exact q0
    | non => exact q0
    | bl b => exact q0
    | int i => exact q0
    | str x => exact q0
    | lst hs ha => exact q0
    | ins e t => exact q0
def isNameA : AD → Bool | .str x => nameB x | _ => false
theorem ok_isname (T : TxtG K mg) : FnOk P w K mg base CX0 1 T.dIsName.f T.dIsName.fd ["value"] (spIs K isNameA) := by
  refine T.dIsName.F.ok scDIsName (fun vs H Q E h => ?_) (fun cdv A outer s H vs Q E hr h => ?_)
  · obtain ⟨v, d, rfl, _⟩ := h
    rfl
  · obtain ⟨v, d, rfl, hv, hd, q⟩ := h
    refine ⟨_, (pss_cons (ps_if (PW.pt (pw_or (pt_not (pt_val (pe_callB call_isi (by rfl) T.z_isinstance (by decide +kernel) (pa_cons (pv 0) (pa_cons (pe_bltn (v := .ty "str") (u := .type "str") (by rfl) T.z_str (by decide +kernel) rfl) pa_nil))))) (pw_or (pt_cmpR op_gt (pe_callB call_len_str (by rfl) T.z_len (by decide +kernel) (pa_cons (pv 0) pa_nil)) (pe_glob (v := .int 5) (by rfl) T.k_LONGEST_NAME.choose_spec ⟨_, rfl⟩) (nomark _)) (pw_or1 (pt_cmpR op_eq (pv 0) (pe_glob (v := .str "crown") (by rfl) T.k_CROWN.choose_spec ⟨_, rfl⟩) (nomark _))))))
      (pss_one (ps_ret pe_bl))
      pss_nil)
      (pss_one (ps_ret (pe_and (pe_m0 PySem.F.slot_str_isascii PySem.F.type_str_isascii mt_isascii (pv 0)) (pe_and (pe_m0 PySem.F.slot_str_isalpha PySem.F.type_str_isalpha mt_isalpha (pv 0)) (pe_one (pe_m0 PySem.F.slot_str_islower PySem.F.type_str_islower mt_islower (pv 0)))))))), ?_⟩
    have q0 := q H (Same.refl H)
    simp only [and_assoc, tSeq, tAsg, tOp, tUn, rI, rI0, rU, tVar, tC, gName, L2.start, tIfS, tTest, tB, tCB, tCons, tNil, tIf, tRet, tRetN, tLst, tTup, tNext, tDrop, tNot, tNotV, tAnd, tOr, tAndV, tOrV, tPar, tAug, ipI, rEq, rNe, gSub, rSetL, rIxL, rIxT, tBM, tBM0, rAppend, rPopAt, gTup, gCons, gNil, tCall, tSl, tPart, tNoPart, rSlL, rCat, rEqD, rNeD, rIn, scal, List.map_cons, List.map_nil, List.length_cons, List.length_nil, List.length_map, List.cons_append, List.nil_append, List.append_nil, List.replicate, List.getElem?_cons_zero, List.getElem?_cons_succ, List.set_cons_zero, List.set_cons_succ, Option.some.injEq, exists_eq_left', exists_eq_left, exists_eq_right, exists_and_left, exists_and_right, V.int.injEq, V.ref.injEq, V.str.injEq, V.bl.injEq, reduceCtorEq, false_and, and_false, exists_false, or_false, false_or, true_and, and_true, List.cons.injEq, decide_eq_true_eq, cxOf, if_true, if_false, Bool.false_eq_true, Nat.reduceAdd, Nat.reduceSub, Nat.zero_add, Nat.add_sub_cancel_left, Nat.add_sub_cancel, Nat.sub_self, tFor_eq, tLc_eq, iRng1, iRng2, iList, iTup, iEnum, rIsi, rIsiT, tM0]
    refine ⟨_, _, .ty "str", av_ty hv, _, kit_str hd, ?_⟩
    cases hv with
    | str x =>
      simp only [and_assoc, tSeq, tAsg, tOp, tUn, rI, rI0, rU, tVar, tC, gName, L2.start, tIfS, tTest, tB, tCB, tCons, tNil, tIf, tRet, tRetN, tLst, tTup, tNext, tDrop, tNot, tNotV, tAnd, tOr, tAndV, tOrV, tPar, tAug, ipI, rEq, rNe, gSub, rSetL, rIxL, rIxT, tBM, tBM0, rAppend, rPopAt, gTup, gCons, gNil, tCall, tSl, tPart, tNoPart, rSlL, rCat, rEqD, rNeD, rIn, scal, List.map_cons, List.map_nil, List.length_cons, List.length_nil, List.length_map, List.cons_append, List.nil_append, List.append_nil, List.replicate, List.getElem?_cons_zero, List.getElem?_cons_succ, List.set_cons_zero, List.set_cons_succ, Option.some.injEq, exists_eq_left', exists_eq_left, exists_eq_right, exists_and_left, exists_and_right, V.int.injEq, V.ref.injEq, V.str.injEq, V.bl.injEq, reduceCtorEq, false_and, and_false, exists_false, or_false, false_or, true_and, and_true, List.cons.injEq, decide_eq_true_eq, cxOf, if_true, if_false, Bool.false_eq_true, Nat.reduceAdd, Nat.reduceSub, Nat.zero_add, Nat.add_sub_cancel_left, Nat.add_sub_cancel, Nat.sub_self, tFor_eq, tLc_eq, iRng1, iRng2, iList, iTup, iEnum, rIsi, rIsiT, isStrA, Bool.not_true]
      refine ⟨hd, ?_⟩
      have e := name_eq x
      have q0 : Q (.bl (nameB x)) H := q0
      rw [← e] at q0
      by_cases h5 : (5 : Int) < (x.length : Int)
      · rw [if_pos h5]
        rw [decide_eq_false (show ¬ x.length ≤ 5 by omega)] at q0
        exact q0
      · rw [if_neg h5]
        rw [decide_eq_true (show x.length ≤ 5 by omega)] at q0
        by_cases hc : x = Str.ofString "crown"
        · rw [if_pos hc]
          rw [decide_eq_false (show ¬ x ≠ Str.ofString "crown" from fun z => z hc)] at q0
          exact q0
        · rw [if_neg hc]
          rw [decide_eq_true (show x ≠ Str.ofString "crown" from hc)] at q0
          refine ⟨⟨x, rfl⟩, ?_⟩
          cases ea : Txt.isascii x with
          | false =>
            rw [ea] at q0
            exact q0
          | true =>
            rw [ea] at q0
            simp only [and_assoc, tSeq, tAsg, tOp, tUn, rI, rI0, rU, tVar, tC, gName, L2.start, tIfS, tTest, tB, tCB, tCons, tNil, tIf, tRet, tRetN, tLst, tTup, tNext, tDrop, tNot, tNotV, tAnd, tOr, tAndV, tOrV, tPar, tAug, ipI, rEq, rNe, gSub, rSetL, rIxL, rIxT, tBM, tBM0, rAppend, rPopAt, gTup, gCons, gNil, tCall, tSl, tPart, tNoPart, rSlL, rCat, rEqD, rNeD, rIn, scal, List.map_cons, List.map_nil, List.length_cons, List.length_nil, List.length_map, List.cons_append, List.nil_append, List.append_nil, List.replicate, List.getElem?_cons_zero, List.getElem?_cons_succ, List.set_cons_zero, List.set_cons_succ, Option.some.injEq, exists_eq_left', exists_eq_left, exists_eq_right, exists_and_left, exists_and_right, V.int.injEq, V.ref.injEq, V.str.injEq, V.bl.injEq, reduceCtorEq, false_and, and_false, exists_false, or_false, false_or, true_and, and_true, List.cons.injEq, decide_eq_true_eq, cxOf, if_true, if_false, Bool.false_eq_true, Nat.reduceAdd, Nat.reduceSub, Nat.zero_add, Nat.add_sub_cancel_left, Nat.add_sub_cancel, Nat.sub_self, tFor_eq, tLc_eq, iRng1, iRng2, iList, iTup, iEnum, rIsi, rIsiT]
            refine ⟨⟨x, rfl⟩, ?_⟩
            cases eb : Txt.isalpha x with
            | false =>
              rw [eb] at q0
              exact q0
            | true =>
              rw [eb] at q0
              simp only [and_assoc, tSeq, tAsg, tOp, tUn, rI, rI0, rU, tVar, tC, gName, L2.start, tIfS, tTest, tB, tCB, tCons, tNil, tIf, tRet, tRetN, tLst, tTup, tNext, tDrop, tNot, tNotV, tAnd, tOr, tAndV, tOrV, tPar, tAug, ipI, rEq, rNe, gSub, rSetL, rIxL, rIxT, tBM, tBM0, rAppend, rPopAt, gTup, gCons, gNil, tCall, tSl, tPart, tNoPart, rSlL, rCat, rEqD, rNeD, rIn, scal, List.map_cons, List.map_nil, List.length_cons, List.length_nil, List.length_map, List.cons_append, List.nil_append, List.append_nil, List.replicate, List.getElem?_cons_zero, List.getElem?_cons_succ, List.set_cons_zero, List.set_cons_succ, Option.some.injEq, exists_eq_left', exists_eq_left, exists_eq_right, exists_and_left, exists_and_right, V.int.injEq, V.ref.injEq, V.str.injEq, V.bl.injEq, reduceCtorEq, false_and, and_false, exists_false, or_false, false_or, true_and, and_true, List.cons.injEq, decide_eq_true_eq, cxOf, if_true, if_false, Bool.false_eq_true, Nat.reduceAdd, Nat.reduceSub, Nat.zero_add, Nat.add_sub_cancel_left, Nat.add_sub_cancel, Nat.sub_self, tFor_eq, tLc_eq, iRng1, iRng2, iList, iTup, iEnum, rIsi, rIsiT]
              exact ⟨⟨x, rfl⟩, q0⟩
    | non => exact q0
    | bl b => exact q0
    | int i => exact q0
    | lst hs ha => exact q0
    | tup hs ha => exact q0
    | ins e t => exact q0

end
end He

/-! set(xs) of any number of texts, with repetitions -/
namespace He
namespace SetT
open PySem PySem.Spec PyProof.Rows
def put1 (acc : List Str) (x : Str) : List Str := if acc.any (· == x) then acc else acc ++ [x]
/-- each once -/
def once (xs : List Str) : List Str := xs.foldl put1 []
theorem put1_any (acc : List Str) (x k : Str) : (put1 acc x).any (· == k) = (acc.any (· == k) || decide (k = x)) := by
  unfold put1
  by_cases h : acc.any (· == x) = true
  · rw [if_pos h]
    by_cases e : k = x
    · rw [e, h, decide_eq_true rfl]
      rfl
    · rw [decide_eq_false e, Bool.or_false]
  · rw [if_neg h, List.any_append]
    congr 1
    by_cases e : k = x
    · rw [e, decide_eq_true rfl]
      simp
    · rw [decide_eq_false e]
      simp only [List.any_cons, List.any_nil, Bool.or_false]
      exact beq_eq_false_iff_ne.mpr fun z => e z.symm
theorem put1_len (acc : List Str) (x : Str) : (put1 acc x).length = if acc.any (· == x) then acc.length else acc.length + 1 := by
  unfold put1
  split <;> simp
theorem once_snoc (xs : List Str) (x : Str) : once (xs ++ [x]) = put1 (once xs) x := by
  unfold once
  rw [List.foldl_append]
  rfl
theorem fold_len : ∀ (xs acc : List Str), (xs.foldl put1 acc).length ≤ acc.length + xs.length
  | [], acc => Nat.le_refl _
  | x :: xs, acc => by
    have h := fold_len xs (put1 acc x)
    have h2 := put1_len acc x
    show (xs.foldl put1 (put1 acc x)).length ≤ acc.length + (xs.length + 1)
    split at h2 <;> omega
theorem fold_eq : ∀ (xs acc : List Str), (xs.foldl put1 acc).length = acc.length + xs.length ↔ (xs.Nodup ∧ ∀ x ∈ xs, acc.any (· == x) = false)
  | [], acc => by simp
  | x :: xs, acc => by
    have h := fold_eq xs (put1 acc x)
    have hl := fold_len xs (put1 acc x)
    have h2 := put1_len acc x
    show (xs.foldl put1 (put1 acc x)).length = acc.length + (xs.length + 1) ↔ _
    cases e : acc.any (· == x) with
    | true =>
      rw [e, if_pos rfl] at h2
      constructor
      · intro z
        omega
      · rintro ⟨_, z⟩
        have := z x List.mem_cons_self
        rw [e] at this
        cases this
    | false =>
      rw [e, if_neg (by simp)] at h2
      have e3 : ((xs.foldl put1 (put1 acc x)).length = acc.length + (xs.length + 1)) ↔ ((xs.foldl put1 (put1 acc x)).length = (put1 acc x).length + xs.length) := by
        rw [h2]
        omega
      rw [e3, h, List.nodup_cons]
      constructor
      · rintro ⟨nd, z⟩
        refine ⟨⟨fun m => ?_, nd⟩, fun y hy => ?_⟩
        · have := z x m
          rw [put1_any] at this
          simp at this
        · rcases List.mem_cons.mp hy with rfl | hy
          · exact e
          · have := z y hy
            rw [put1_any, Bool.or_eq_false_iff] at this
            exact this.1
      · rintro ⟨⟨nm, nd⟩, z⟩
        refine ⟨nd, fun y hy => ?_⟩
        rw [put1_any, z y (List.mem_cons_of_mem _ hy)]
        simp only [Bool.false_or]
        exact decide_eq_false fun q => nm (q ▸ hy)
theorem once_len (xs : List Str) : (once xs).length = xs.length ↔ xs.Nodup := by
  have h := fold_eq xs []
  simp only [List.length_nil, Nat.zero_add, List.any_nil, implies_true, and_true] at h
  exact h
theorem once_le (xs : List Str) : (once xs).length ≤ xs.length := by
  have h := fold_len xs []
  simp only [List.length_nil, Nat.zero_add] at h
  exact h
/-! ### the loop of the set's making -/
section
variable {pr : Program} {wd : World} {A : Around} {R : Result → Shared → Prop} {it : Addr} {fp wr : List Addr} {G : Array GenState → Array GenState → Prop} {n : Nat} {Y : Nat → Value → Prop} {St : Nat → Shared → Prop}
/-- at z the first i texts, each once -/
def Holds (pr : Program) (wd : World) (h : Heap) (z : Addr) (xs : List Str) (i : Nat) : Prop := h.SetOf (PySem.strKind pr wd) z (fun k => (once (xs.take i)).any (· == k)) (once (xs.take i)).length
theorem Holds.at' {h h' : Heap} {z : Addr} {xs : List Str} {i : Nat} (q : Holds pr wd h z xs i) (k : ∀ o, h.get? z = some o → h'.get? z = some o) : Holds pr wd h' z xs i := by
  obtain ⟨ob, es, ep, tb, e, r⟩ := q
  exact ⟨ob, es, ep, tb, k _ e, r⟩
theorem turns (W : WalksS pr wd A.in1 it fp wr G n Y St) (z : Addr) (hz : z ∉ fp) (xs : List Str) (hx : xs.length = n) (hn : n + 1 < scanBound) (val : ∀ (i : Nat) v, Y i v → ∃ t x, xs[i]? = some x ∧ v = .str x t) :
    ∀ (m i : Nat) (s : Shared), n - i = m → i ≤ n → St i s → Holds pr wd s.heap z xs i →
      (∀ s', Moved (z :: wr) G s s' → Holds pr wd s'.heap z xs n → R (.ok (.ret .none)) s') →
      codeAny (model pr wd) A (.builtin "set.update.loop" ⟨[.ref z, .ref it], []⟩) R s := by
  have nw : z ∉ wr := fun q => hz (W.sub _ q)
  have up : ∀ b ∈ wr, b ∈ z :: wr := fun b q => List.mem_cons_of_mem _ q
  intro m
  induction m with
  | zero =>
    intro i s e le st hd fin
    obtain rfl : i = n := by omega
    refine codeAny_builtin PyProof.Rows.F.entry_set_update_loop (by
      rw [Around.under_plainId PyProof.Rows.F.plain_set_update_loop _]
      show wpAny _ A.in1 (pyNext (.ref it) >>= _) _ _ s
      exact wpAny_bind (W.done s _ _ st fun s2 mv => (show wpAny _ A.in1 (ret Value.none) _ _ s2 from wpAny_pure (fin s2 (mv.mono up) (hd.at' fun o q => mv.heap z o nw q)))))
  | succ m ih =>
    intro i s e le st hd fin
    have lt : i < n := by omega
    refine codeAny_builtin PyProof.Rows.F.entry_set_update_loop (by
      rw [Around.under_plainId PyProof.Rows.F.plain_set_update_loop _]
      show wpAny _ A.in1 (pyNext (.ref it) >>= _) _ _ s
      refine wpAny_bind (W.item i s _ _ lt st fun v s2 hY st2 mv => ?_)
      obtain ⟨t, x, ex, rfl⟩ := val i v hY
      have hd2 : Holds pr wd s2.heap z xs i := hd.at' fun o q => mv.heap z o nw q
      show wpAny _ A.in1 (holding [Value.str x t] (setAdd z (.str x t)) >>= _) _ _ s2
      refine wpAny_bind (wpAny_holding ?_)
      unfold setAdd
      refine wpAny_holding (wpAny_bind ((PySem.strKind pr wd).pyHash (k := x) (strKind_is _ _ _ _) ?_))
      have room : (once (xs.take i)).length + 1 < scanBound := by
        have := once_le (xs.take i)
        rw [List.length_take] at this
        omega
      refine wpAny_setAddHashed_of (knd := PySem.strKind pr wd) (k := x) (s := { s2 with toks := s2.toks + 1 }) (strKind_is _ _ _ _) rfl hd2 room fun h3 sb q3 => ?_
      have hd3 : Holds pr wd h3 z xs (i + 1) := by
        have ek : xs.take (i + 1) = xs.take i ++ [x] := by rw [List.take_add_one, ex]; rfl
        unfold Holds
        rw [ek, once_snoc]
        exact SetOf_congr q3 (fun k => (put1_any _ x k).symm) (put1_len _ x).symm
      refine wpAny_pure ⟨plainId_quiet PyProof.Rows.F.plain_set_update_loop _, ih (i + 1) _ (by omega) lt (W.frame _ s2 _ _ st2 (Nat.le_succ _) fun b hb o q => ?_) hd3 fun s4 mv4 hd4 => ?_⟩
      · rw [sb.2 b fun y : b = z => hz (y ▸ hb)]
        exact q
      · refine fin s4 (Moved.trans W.gtrans ((mv.mono up).then_heap (Nat.le_succ _) fun b o hb q => ?_) mv4) hd4
        rw [sb.2 b fun y : b = z => hb (y ▸ List.mem_cons_self)]
        exact q)
end
abbrev empty (led : Bool) : Obj := { cls := .type "set", dict := none, data := .set #[] 0 (.fresh 0 0 led) }
section
variable {pr : Program} {wd : World} {A : Around} {E : Value → Shared → Prop} {s : Shared}
set_option maxHeartbeats 4000000 in
theorem call_set_list {l : Addr} {its : Array Value} {xs : List Str} {Q : Value → Shared → Prop} (hh : A.handled = none) (hl : s.heap.IsList l its) (hx : xs.length = its.size) (hn : xs.length + 1 < scanBound)
    (val : ∀ (i : Nat) (v : Value), its[i]? = some v → ∃ t x, xs[i]? = some x ∧ v = .str x t)
    (q : ∀ (h' : Heap) (tk : Nat), Holds pr wd h' s.heap.objs.size xs xs.length → (∀ b o, b < s.heap.objs.size → s.heap.get? b = some o → h'.get? b = some o) → Q (.ref s.heap.objs.size) { s with heap := h', toks := tk }) :
    wpAny (model pr wd) A (call (.type "set") [.ref l]) Q E s := by
  obtain ⟨mc, ml, mro⟩ := PySem.F.called_set.mro
  have made := PySem.F.called_set.made
  have subt := PySem.F.called_set.sub
  refine wpAny_call (codeAny_of_tree (show wpAny _ _ (callAny (.type "set") _) _ _ _ from wpAny_pure ⟨Code.quiet_builtin _ (by decide +kernel), codeAny_builtin PySem.F.entry_type_call ?_⟩))
  rw [Around.under_plain (weight_type_call_type "set" [.ref l] []) rfl]
  have notT := PySem.F.called_set.notType
  have canC := PySem.F.called_set.canCreate
  have tcall := PySem.F.typeCall_set_1 (.ref l)
  repeat (any_goals (first | assumption | wp_step))
  refine codeAny_mono (code_set_new_1 (.ref l) (E := E) (Q₁ := fun ob s1 => ∃ led : Bool, ob = .ref s.heap.objs.size ∧ s1 = { s with heap := s.heap.push (empty led) }) fun led => ⟨led, rfl, rfl⟩) fun r s1 hr => ?_
  cases r with
  | error e => exact hr
  | ok fl =>
    cases fl with
    | next => exact hr.elim
    | brk => exact hr.elim
    | cont => exact hr.elim
    | ret ob =>
      obtain ⟨led, rfl, rfl⟩ := hr
      have atz : (s.heap.push (empty led)).get? s.heap.objs.size = some (empty led) := Heap.get?_push_size _ rfl
      have isz : Shared.TypeIs { s with heap := s.heap.push (empty led) } (.ref s.heap.objs.size) "set" := ⟨_, atz, rfl⟩
      have ilook := PySem.F.called_set.init.lookup
      have ibind := PySem.F.called_set.init.bind (.ref s.heap.objs.size)
      repeat (any_goals (first | assumption | wp_step))
      refine codeAny_mono (codeAny_call_builtin (R := wants (fun r s2 => r = .none ∧ ∃ h' tk, s2 = { s with heap := h', toks := tk } ∧ Holds pr wd h' s.heap.objs.size xs xs.length ∧ (∀ b o, b < s.heap.objs.size → s.heap.get? b = some o → h'.get? b = some o)) E)
        PySem.F.called_set.init.plain PySem.F.entry_set_init (check_set_init_1 isz ?_)) fun r2 s2 hr2 => ?_
      · obtain ⟨⟨oc, od, dt, osl⟩, gl, gc, nl, gd⟩ := hl
        simp only at gc gd
        subst gc gd
        have gl2 : (s.heap.push (empty led)).get? l = some { cls := .type "list", dict := od, data := .seq its nl, slots := osl } := Heap.get?_push_of_some _ gl
        have su1 := PySem.F.sub_list_set
        have su2 := PySem.F.sub_list_frozenset
        have nodict : (Value.type "list" == Value.type "dict") = false := by decide
        have isl : (s.heap.push (empty led)).IsList l its := ⟨_, gl2, rfl, nl, rfl⟩
        unfold Builtin.«set.__init__» noKeywords Builtin.Frozenset.updateFrom
        generalize hPI : pyIter = PI
        wp_walk
        subst hPI
        have llt : l < s.heap.objs.size := Heap.lt_size gl
        have nohd : A.in1.in1.in1.handled = none := by simp [hh]
        have psz : (s.heap.push (empty led)).objs.size = s.heap.objs.size + 1 := Heap.size_push _ _
        have nel : l ≠ (s.heap.push (empty led)).objs.size := by
          rw [psz]
          exact Nat.ne_of_lt (Nat.lt_succ_of_lt llt)
        have nez : s.heap.objs.size ∉ [(s.heap.push (empty led)).objs.size, l] := by
          rw [psz]
          simp only [List.mem_cons, List.not_mem_nil, or_false, not_or]
          exact ⟨Nat.ne_of_lt (Nat.lt_succ_self _), Nat.ne_of_gt llt⟩
        refine wpAny_pyIter_list isl (wpAny_bind (wpAny_runValue (turns ((Walks.list nohd _ l nel its).toS) s.heap.objs.size nez xs hx (by omega) val (its.size - 0) 0 _ (by omega) (Nat.zero_le _) ⟨⟨_, Heap.get?_push_size _ rfl, rfl, rfl⟩, isl.push _⟩ ?_ ?_)))
        · exact (setObjOf_fresh (knd := PySem.strKind pr wd) led).setOf (Heap.get?_push_of_some _ atz) (by unfold scanBound; omega)
        · rintro ⟨h', g', d', tk', os'⟩ mv hd
          obtain rfl : g' = s.gens := mv.gens
          obtain rfl : d' = s.drawn := mv.drawn
          obtain rfl : os' = s.os := mv.os
          refine (show wpAny _ _ _ _ _ _ from wpAny_pure (show wpAny _ _ (ret Value.none) _ _ _ from wpAny_pure ⟨rfl, h', tk', rfl, hx ▸ hd, fun b o hb e => ?_⟩))
          refine mv.heap b o ?_ (Heap.get?_push_of_some _ (Heap.get?_push_of_some _ e))
          rw [psz]
          simp only [List.mem_cons, List.not_mem_nil, or_false, not_or]
          exact ⟨Nat.ne_of_lt hb, Nat.ne_of_lt (Nat.lt_succ_of_lt hb)⟩
      · cases r2 with
        | error e => exact hr2
        | ok f2 =>
          cases f2 with
          | next => exact hr2.elim
          | brk => exact hr2.elim
          | cont => exact hr2.elim
          | ret v2 =>
            obtain ⟨rfl, h', tk, rfl, hd, kp⟩ := hr2
            repeat (any_goals (first | assumption | wp_step))
            exact q _ _ hd kp
end
section
variable {pr : Program} {wd : World} {A : Around} {E : Value → Shared → Prop} {s : Shared}
set_option maxHeartbeats 4000000 in
theorem call_set_tuple {l : Addr} {its : Array Value} {xs : List Str} {Q : Value → Shared → Prop} (hh : A.handled = none) (hl : s.heap.IsTuple l its) (hx : xs.length = its.size) (hn : xs.length + 1 < scanBound)
    (val : ∀ (i : Nat) (v : Value), its[i]? = some v → ∃ t x, xs[i]? = some x ∧ v = .str x t)
    (q : ∀ (h' : Heap) (tk : Nat), Holds pr wd h' s.heap.objs.size xs xs.length → (∀ b o, b < s.heap.objs.size → s.heap.get? b = some o → h'.get? b = some o) → Q (.ref s.heap.objs.size) { s with heap := h', toks := tk }) :
    wpAny (model pr wd) A (call (.type "set") [.ref l]) Q E s := by
  obtain ⟨mc, ml, mro⟩ := PySem.F.called_set.mro
  have made := PySem.F.called_set.made
  have subt := PySem.F.called_set.sub
  refine wpAny_call (codeAny_of_tree (show wpAny _ _ (callAny (.type "set") _) _ _ _ from wpAny_pure ⟨Code.quiet_builtin _ (by decide +kernel), codeAny_builtin PySem.F.entry_type_call ?_⟩))
  rw [Around.under_plain (weight_type_call_type "set" [.ref l] []) rfl]
  have notT := PySem.F.called_set.notType
  have canC := PySem.F.called_set.canCreate
  have tcall := PySem.F.typeCall_set_1 (.ref l)
  repeat (any_goals (first | assumption | wp_step))
  refine codeAny_mono (code_set_new_1 (.ref l) (E := E) (Q₁ := fun ob s1 => ∃ led : Bool, ob = .ref s.heap.objs.size ∧ s1 = { s with heap := s.heap.push (empty led) }) fun led => ⟨led, rfl, rfl⟩) fun r s1 hr => ?_
  cases r with
  | error e => exact hr
  | ok fl =>
    cases fl with
    | next => exact hr.elim
    | brk => exact hr.elim
    | cont => exact hr.elim
    | ret ob =>
      obtain ⟨led, rfl, rfl⟩ := hr
      have atz : (s.heap.push (empty led)).get? s.heap.objs.size = some (empty led) := Heap.get?_push_size _ rfl
      have isz : Shared.TypeIs { s with heap := s.heap.push (empty led) } (.ref s.heap.objs.size) "set" := ⟨_, atz, rfl⟩
      have ilook := PySem.F.called_set.init.lookup
      have ibind := PySem.F.called_set.init.bind (.ref s.heap.objs.size)
      repeat (any_goals (first | assumption | wp_step))
      refine codeAny_mono (codeAny_call_builtin (R := wants (fun r s2 => r = .none ∧ ∃ h' tk, s2 = { s with heap := h', toks := tk } ∧ Holds pr wd h' s.heap.objs.size xs xs.length ∧ (∀ b o, b < s.heap.objs.size → s.heap.get? b = some o → h'.get? b = some o)) E)
        PySem.F.called_set.init.plain PySem.F.entry_set_init (check_set_init_1 isz ?_)) fun r2 s2 hr2 => ?_
      · obtain ⟨⟨oc, od, dt, osl⟩, gl, gc, nl, gd⟩ := hl
        simp only at gc gd
        subst gc gd
        have gl2 : (s.heap.push (empty led)).get? l = some { cls := .type "tuple", dict := od, data := .seq its nl, slots := osl } := Heap.get?_push_of_some _ gl
        have su1 := PySem.F.sub_tuple_set
        have su2 := PySem.F.sub_tuple_frozenset
        have nodict : (Value.type "tuple" == Value.type "dict") = false := by decide
        have isl : (s.heap.push (empty led)).IsTuple l its := ⟨_, gl2, rfl, nl, rfl⟩
        unfold Builtin.«set.__init__» noKeywords Builtin.Frozenset.updateFrom
        generalize hPI : pyIter = PI
        wp_walk
        subst hPI
        have llt : l < s.heap.objs.size := Heap.lt_size gl
        have nohd : A.in1.in1.in1.handled = none := by simp [hh]
        have psz : (s.heap.push (empty led)).objs.size = s.heap.objs.size + 1 := Heap.size_push _ _
        have nel : l ≠ (s.heap.push (empty led)).objs.size := by
          rw [psz]
          exact Nat.ne_of_lt (Nat.lt_succ_of_lt llt)
        have nez : s.heap.objs.size ∉ [(s.heap.push (empty led)).objs.size, l] := by
          rw [psz]
          simp only [List.mem_cons, List.not_mem_nil, or_false, not_or]
          exact ⟨Nat.ne_of_lt (Nat.lt_succ_self _), Nat.ne_of_gt llt⟩
        refine wpAny_pyIter_tuple isl (wpAny_bind (wpAny_runValue (turns ((Walks.tuple nohd _ l nel its).toS) s.heap.objs.size nez xs hx (by omega) val (its.size - 0) 0 _ (by omega) (Nat.zero_le _) ⟨⟨_, Heap.get?_push_size _ rfl, rfl, rfl⟩, isl.push _⟩ ?_ ?_)))
        · exact (setObjOf_fresh (knd := PySem.strKind pr wd) led).setOf (Heap.get?_push_of_some _ atz) (by unfold scanBound; omega)
        · rintro ⟨h', g', d', tk', os'⟩ mv hd
          obtain rfl : g' = s.gens := mv.gens
          obtain rfl : d' = s.drawn := mv.drawn
          obtain rfl : os' = s.os := mv.os
          refine (show wpAny _ _ _ _ _ _ from wpAny_pure (show wpAny _ _ (ret Value.none) _ _ _ from wpAny_pure ⟨rfl, h', tk', rfl, hx ▸ hd, fun b o hb e => ?_⟩))
          refine mv.heap b o ?_ (Heap.get?_push_of_some _ (Heap.get?_push_of_some _ e))
          rw [psz]
          simp only [List.mem_cons, List.not_mem_nil, or_false, not_or]
          exact ⟨Nat.ne_of_lt hb, Nat.ne_of_lt (Nat.lt_succ_of_lt hb)⟩
      · cases r2 with
        | error e => exact hr2
        | ok f2 =>
          cases f2 with
          | next => exact hr2.elim
          | brk => exact hr2.elim
          | cont => exact hr2.elim
          | ret v2 =>
            obtain ⟨rfl, h', tk, rfl, hd, kp⟩ := hr2
            repeat (any_goals (first | assumption | wp_step))
            exact q _ _ hd kp
end
end SetT
end He

namespace He
open PySem PySem.Spec PyProof.Rows L2
section
variable {P : Program} {w : World} {K : PySem.W.Frag} {mg : Str → Option Value} {base : Heap}

/-! ### a list or a tuple, walked -/
def SeqIt (K : PySem.W.Frag) (H : Hp) (a : Addr) (xs : List V) (J : It) : Prop := (J = Itl K a ∧ SqL K H a xs) ∨ (J = Itt K a ∧ SqT K H a xs)
def Sq (K : PySem.W.Frag) (H : Hp) (a : Addr) (xs : List V) : Prop := SqL K H a xs ∨ SqT K H a xs
theorem Sq.it {H : Hp} {a : Addr} {xs : List V} (h : Sq K H a xs) : ∃ J, SeqIt K H a xs J := by
  rcases h with h | h
  · exact ⟨_, .inl ⟨rfl, h⟩⟩
  · exact ⟨_, .inr ⟨rfl, h⟩⟩
theorem Sq.mono {H H' : Hp} {a : Addr} {xs : List V} (s : Same H H') (h : Sq K H a xs) : Sq K H' a xs := by
  rcases h with h | h
  · exact .inl (s.seq h)
  · exact .inr (Same.seqT s h)
def iSeq (K : PySem.W.Frag) (tl : TE) : TI := fun σ H R => tl σ H fun x H1 => ∃ a xs J, x = .ref a ∧ SeqIt K H1 a xs J ∧ R J H1
theorem pi_seq {X : Cx} {tg : Expr} {l : Expr} {tl : TE} (hl : PE X l tl) : PI X tg l (iSeq X.K tl) := by
  refine ⟨fun pins s σ H R I h => thn (hl.run pins s σ H _ I h) fun v s1 ⟨x, H1, I1, r1, q1⟩ => ?_⟩
  obtain ⟨a, xs, J, rfl, hJ, q⟩ := q1
  cases r1
  have fin : ∀ b ∈ [s1.heap.objs.size], FpOk X pins H1 b := fun b hb => by
    obtain rfl := List.mem_singleton.mp hb
    exact I1.fpOk (Nat.le_refl _) (I1.hok.fresh (Nat.le_refl _))
  rcases hJ with ⟨rfl, hq⟩ | ⟨rfl, hq⟩
  · obtain ⟨its, rv, pl, _⟩ := I1.list hq
    exact wpAny_pyIter_list pl.isList ⟨_, [_], _, _, H1, rfl, I1.kept (t' := s1.toks) fun b o e => Heap.get?_push_of_some _ e, turn_list a _, ⟨_, Heap.get?_push_size _ rfl, rfl, rfl⟩, fin, q⟩
  · obtain ⟨its, rv, pl, _⟩ := I1.tuple hq
    exact wpAny_pyIter_tuple (show s1.heap.IsTuple a its.toArray from pl) ⟨_, [_], _, _, H1, rfl, I1.kept (t' := s1.toks) fun b o e => Heap.get?_push_of_some _ e, turn_tuple a _, ⟨_, Heap.get?_push_size _ rfl, rfl, rfl⟩, fin, q⟩
/-- a comprehension whose turns only make new things: the i-th value with Y i of it -/
theorem lg_pure {H1 : Hp} {a D : Addr} {xs : List V} {J : It} {g : TG} {te : TE} {vs : List Nat} {σ : L2.St} {Qd : Hp → Prop} (Y : Nat → V → Hp → Prop) (hJ : SeqIt K H1 a xs J) (hn : xs.length < sizeLine) (nD : H1 D = none)
    (mono : ∀ i y H H', Same H H' → Y i y H → Y i y H')
    (turn : ∀ (i : Nat) (x : V) (H : Hp) (Φ : V → Hp → Prop), xs[i]? = some x → Same H1 H → H D ≠ none → (∀ y H3, Same H H3 → Y i y (hide D H3) → Φ y H3) → g x (wipe σ vs) H fun σ2 H2 => wipe σ2 vs = wipe σ vs ∧ te σ2 H2 Φ)
    (done : ∀ (ys : List V) (H : Hp), Same H1 H → H D = some (.lst ys) → ys.length = xs.length → (∀ (i : Nat) (y : V), ys[i]? = some y → Y i y (hide D H)) → Qd H) : LcGoes J g tYes te vs σ H1 D Qd := by
  have hsame : ∀ {H : Hp} {o : HO}, Same H1 H → Same H1 (upd H D o) := fun s b o e => by
    rw [upd_ne (ne_of_none e nD)]
    exact s b o e
  have hD : ∀ {H : Hp} {o : HO}, Same (hide D H) (hide D (upd H D o)) := hide_upd
  let Pv : Nat → Hp → Prop := fun i H => ∃ ys, Same H1 H ∧ H D = some (.lst ys) ∧ ys.length = i ∧ ∀ (j : Nat) (y : V), ys[j]? = some y → Y j y (hide D H)
  have p0 : Pv 0 (upd H1 D (.lst [])) := ⟨[], hsame (Same.refl H1), upd_same, rfl, fun j y e => nomatch e⟩
  have ps : ∀ i x H, xs[i]? = some x → Pv i H → g x (wipe σ vs) H fun σ2 H2 => wipe σ2 vs = wipe σ vs ∧ tYes σ2 H2 fun b H3 =>
      if b = true then te σ2 H3 fun y H4 => ∃ acc, H4 D = some (.lst acc) ∧ acc.length < sizeLine ∧ Pv (i + 1) (upd H4 D (.lst (acc ++ [y]))) else Pv (i + 1) H3 := by
    rintro i x H hx ⟨ys, s1, eD, hl, hY⟩
    have hi : i < xs.length := (List.getElem?_eq_some_iff.mp hx).1
    have t := turn i x H (fun y H4 => ∃ acc, H4 D = some (.lst acc) ∧ acc.length < sizeLine ∧ Pv (i + 1) (upd H4 D (.lst (acc ++ [y])))) hx s1 (by rw [eD]; exact fun z => nomatch z) fun y H3 s3 hy => by
      refine ⟨ys, s3 _ _ eD, by omega, ys ++ [y], hsame (s1.trans s3), upd_same, by rw [List.length_append, hl]; rfl, fun j z e => ?_⟩
      refine mono j z _ _ hD ?_
      by_cases hj : j < ys.length
      · rw [List.getElem?_append_left hj] at e
        exact mono j z _ _ (hide_same s3) (hY j z e)
      · rw [List.getElem?_append_right (by omega)] at e
        have hj0 : j - ys.length = 0 := by
          rcases Nat.eq_zero_or_pos (j - ys.length) with h | h
          · exact h
          · rw [List.getElem?_eq_none (by simp; omega)] at e
            cases e
        rw [hj0] at e
        obtain rfl : y = z := Option.some.inj e
        have : j = i := by omega
        rw [this]
        exact hy
    exact t
  have pd : ∀ H, Pv xs.length H → Qd H := fun H ⟨ys, s1, eD, hl, hY⟩ => done ys H s1 eD hl hY
  rcases hJ with ⟨rfl, hq⟩ | ⟨rfl, hq⟩
  · exact lg_list Pv p0 (fun i H _ ⟨ys, s1, _⟩ => s1.seq hq) ps pd
  · exact lg_tup Pv p0 (fun i H _ ⟨ys, s1, _⟩ => Same.seqT s1 hq) ps pd
/-! ### len(set(texts)) -/
def tLenSetT (K : PySem.W.Frag) (ta : TE) : TE := fun σ H Q => ta σ H fun x H1 => ∃ l, ∃ xs : List Str, x = .ref l ∧ Sq K H1 l (xs.map V.str) ∧ xs.length < 4000 ∧ Q (.int ((SetT.once xs).length : Nat)) H1
theorem vals_str {xs : List Str} {us : List Value} (r : Vals (xs.map V.str) us) (i : Nat) (v : Value) (h : us[i]? = some v) : ∃ t x, xs[i]? = some x ∧ v = .str x t := by
  have hl := r.length
  rw [List.length_map] at hl
  have hi : i < us.length := (List.getElem?_eq_some_iff.mp h).1
  obtain ⟨u, e, t, ru⟩ := r.get (i := i) (x := .str (xs[i]'(by omega))) (by rw [List.getElem?_map, List.getElem?_eq_getElem (by omega)]; rfl)
  rw [h] at e
  cases e
  exact ⟨t, _, List.getElem?_eq_getElem (by omega), ru⟩
theorem pe_lenSetT {X : Cx} {a : Expr} {ta : TE} {p p2 q pos : Pos} (hc : X.calm = true) (hg : Gl X "len") (hm : X.mg "len" = none) (hg2 : Gl X "set") (hm2 : X.mg "set" = none) (ha : PE X a ta)
    (na : starEach [a] X.env = (false, eval a X.env) :: starEach [] X.env := by rfl) : PE X (.Call (.Name "len" p) [.Call (.Name "set" p2) [a] [] q] [] pos) (tLenSetT X.K ta) := by
  refine ⟨fun pins s σ H Q I h => Call_ (ld_blt I hg hm PySem.boot_len (PyProof.Rows.callWith_builtin1 (PyProof.Rows.args_cons ?_ rfl) rfl rfl))⟩
  refine Call_ (ld_blt I hg2 hm2 (show bootBuiltins "set" = some (.type "set") by decide +kernel) (PyProof.Rows.callWith_type1 (PyProof.Rows.args_cons (thn (ha.run pins s σ H _ I h) fun v s1 ⟨x, H1, I1, r1, q1⟩ => PyProof.Rows.args_nil ?_) na) na rfl))
  obtain ⟨l, xs, rfl, hq, hn, q1⟩ := q1
  cases r1
  have rest : ∀ (h' : Heap) (tk : Nat), SetT.Holds X.prog X.w h' s1.heap.objs.size xs xs.length → (∀ b o, b < s1.heap.objs.size → s1.heap.get? b = some o → h'.get? b = some o) →
      wpAny (model X.prog X.w) X.A (spliced (backTo pos (starEach [] X.env))) (fun vs s2 => wpAny (model X.prog X.w) X.A (call (.builtin "len") (Value.ref s1.heap.objs.size :: vs)) (EP X pins σ Q) X.xe s2) X.xe { s1 with heap := h', toks := tk } := by
    intro h' tk hd kp
    refine PyProof.Rows.args_nil ?_
    obtain ⟨ob, es, ep, tb, eo, ex, ed, _, _, _, hf, hz⟩ := hd
    rw [List.take_length] at hz
    have I2 : Inv X pins σ H1 { s1 with heap := h', toks := tk } := I1.kept fun b o e => kp b o (Heap.lt_size e) e
    have := SetT.once_le xs
    exact call_len_set eo ex ed hf (by omega) ⟨.int ((SetT.once xs).length : Nat), H1, I2.tok _, ⟨_, by rw [hz]⟩, q1⟩
  have hb : xs.length + 1 < scanBound := by unfold scanBound; omega
  rcases hq with hq | hq
  · obtain ⟨its, r, pl, _⟩ := I1.list hq
    exact SetT.call_set_list (I1.ok.hd hc) pl.isList (by rw [List.size_toArray, ← r.length, List.length_map]) hb (fun i v e => vals_str r i v (by simpa using e)) rest
  · obtain ⟨its, r, pl, _⟩ := I1.tuple hq
    exact SetT.call_set_tuple (I1.ok.hd hc) pl (by rw [List.size_toArray, ← r.length, List.length_map]) hb (fun i v e => vals_str r i v (by simpa using e)) rest

end
end He

namespace He
open PySem PySem.Spec PyProof.Rows L2
section
variable {P : Program} {w : World} {K : PySem.W.Frag} {mg : Str → Option Value} {base : Heap}

theorem adOkA_get {K : PySem.W.Frag} : ∀ {ds : List AD} {i : Nat} {d : AD}, AdOkA K ds → ds[i]? = some d → AdOk K d
  | [], i, d, _, e => by simp at e
  | _ :: _, 0, d, h, e => by
    cases Option.some.inj e
    exact h.1
  | _ :: ds, i + 1, d, h, e => adOkA_get (i := i) h.2 e
theorem avA_get2 {H : Hp} : ∀ {vs : List V} {ds : List AD} {i : Nat} {d : AD}, AvAll K H vs ds → ds[i]? = some d → ∃ v, vs[i]? = some v ∧ Av K H v d
  | _, _, i, _, .nil, e => by simp at e
  | _, _, 0, _, .cons a _, e => by
    cases (Option.some.inj e)
    exact ⟨_, rfl, a⟩
  | _, _, i + 1, _, .cons _ b, e => avA_get2 (i := i) b e
/-- a sequence's items -/
def itemsA : AD → Option (List AD) | .lst ds => some ds | .tup ds => some ds | _ => none
theorem av_items {H : Hp} {v : V} {d : AD} {ds : List AD} (h : Av K H v d) (e : itemsA d = some ds) : ∃ a xs, v = .ref a ∧ Sq K H a xs ∧ AvAll K H xs ds := by
  cases h with
  | lst hs ha => cases (Option.some.inj e); exact ⟨_, _, rfl, .inl hs, ha⟩
  | tup hs ha => cases (Option.some.inj e); exact ⟨_, _, rfl, .inr hs, ha⟩
  | non => cases e
  | bl b => cases e
  | int i => cases e
  | str x => cases e
  | ins a b => cases e
theorem ok_items {d : AD} {ds : List AD} (h : AdOk K d) (e : itemsA d = some ds) : ds.length < 4000 ∧ AdOkA K ds := by
  cases d <;> first | (cases (Option.some.inj e); exact h) | cases e
theorem seq_items (d : AD) : isSeqA d = (itemsA d).isSome := by cases d <;> rfl
/-- the texts, if all are -/
def strsA : List AD → Option (List Str)
  | [] => some []
  | .str x :: r => (strsA r).map (x :: ·)
  | _ :: _ => none
def grpA (d : AD) : Option (List Str) := match itemsA d with
  | some ds => if ds.isEmpty then none else if ds.all isNameA then (match strsA ds with | some xs => if xs.Nodup then some xs else none | none => none) else none
  | none => none
def isGrpA (d : AD) : Bool := (grpA d).isSome
theorem names_strs : ∀ {ds : List AD}, ds.all isNameA = true → ∃ xs, strsA ds = some xs ∧ ∀ x ∈ xs, nameB x = true
  | [], _ => ⟨[], rfl, fun _ h => nomatch h⟩
  | d :: r, h => by
    rw [List.all_cons, Bool.and_eq_true] at h
    obtain ⟨xs, e, hn⟩ := names_strs h.2
    cases d with
    | str x =>
      refine ⟨x :: xs, ?_, fun y hy => ?_⟩
      · show (strsA r).map (x :: ·) = _
        rw [e]
        rfl
      · rcases List.mem_cons.mp hy with rfl | hy
        · exact h.1
        · exact hn y hy
    | _ => exact nomatch h.1
theorem av_strs {H : Hp} : ∀ {vs : List V} {ds : List AD} {xs : List Str}, AvAll K H vs ds → strsA ds = some xs → vs = xs.map V.str
  | _, _, _, .nil, e => by cases (Option.some.inj e); rfl
  | v :: vs, d :: ds, xs, .cons a b, e => by
    cases a with
    | str x =>
      cases h : strsA ds with
      | none => rw [show strsA (.str x :: ds) = (strsA ds).map (x :: ·) from rfl, h] at e; cases e
      | some ys =>
        rw [show strsA (.str x :: ds) = (strsA ds).map (x :: ·) from rfl, h] at e
        cases (Option.some.inj e)
        rw [av_strs b h]
        rfl
    | _ => cases e
theorem bl_list {f : AD → Bool} {ds : List AD} {ys : List V} (hl : ys.length = ds.length) (h : ∀ (i : Nat) (y : V), ys[i]? = some y → ∃ d, ds[i]? = some d ∧ y = .bl (f d)) : ys = (ds.map f).map V.bl := by
  refine List.ext_getElem? fun i => ?_
  rw [List.getElem?_map, List.getElem?_map]
  cases e : ys[i]? with
  | none =>
    rw [List.getElem?_eq_none (by have := List.getElem?_eq_none_iff.mp e; omega)]
    rfl
  | some y =>
    obtain ⟨d, e2, rfl⟩ := h i y e
    rw [e2]
    rfl
/-- [f(x) for x in xs], f a test of any value -/
theorem lg_is {H1 : Hp} {a D : Addr} {xs : List V} {ds : List AD} {J : It} {i : Nat} {σ : L2.St} {Qd : Hp → Prop} {f : AD → Bool} (hJ : SeqIt K H1 a xs J) (hv : AvAll K H1 xs ds) (ho : AdOkA K ds) (hn : ds.length < 4000) (hi : i < σ.length) (nD : H1 D = none)
    (done : ∀ H : Hp, Same H1 H → H D = some (.lst ((ds.map f).map V.bl)) → Qd H) : LcGoes J (gName i) tYes (tCall (spIs K f) [] E0 (tCons (tVar i) tNil)) [i] σ H1 D Qd := by
  have hl := avA_len hv
  refine lg_pure (fun j y _ => ∃ d, ds[j]? = some d ∧ y = .bl (f d)) hJ (Nat.lt_of_lt_of_le (by omega : xs.length < 4000) (by decide)) nD (fun _ _ _ _ _ h => h) (fun j x H Φ hx s1 _ hΦ => ?_) (fun ys H s1 eD hl2 hY => ?_)
  · show wipe ((wipe σ [i]).set i (some x)) [i] = wipe σ [i] ∧ _
    refine ⟨by show ((σ.set i none).set i (some x)).set i none = σ.set i none; rw [List.set_set, List.set_set], ?_⟩
    obtain ⟨d, hd, hx2⟩ := avA_get hv hx
    refine ⟨x, ?_, ?_⟩
    · show ((σ.set i none).set i (some x))[i]? = _
      rw [List.set_set, List.getElem?_set_self hi]
    · exact ⟨x, d, rfl, av_mono s1 d x hx2, adOkA_get ho hd, fun H2 s2 => hΦ _ _ s2 ⟨d, hd, rfl⟩⟩
  · refine done H s1 ?_
    rw [eD, bl_list (f := f) (by rw [hl2, hl]) hY]
theorem ok_isgroup (T : TxtG K mg) : FnOk P w K mg base CX0 2 T.dIsGroup.f T.dIsGroup.fd ["value"] (spIs K isGrpA) := by
  refine T.dIsGroup.F.ok scDIsGroup (fun vs H Q E h => ?_) (fun cdv A outer s H vs Q E hr h => ?_)
  · obtain ⟨v, d, rfl, _⟩ := h
    rfl
  · obtain ⟨v, d, rfl, hv, hd, q⟩ := h
    refine ⟨_, (pss_cons (ps_if (PW.pt (pw_or (pt_not (pt_val (pe_call (ok_isseq T) (hr.mono (by decide)) (by rfl) T.dIsSequence.g T.dIsSequence.F.kp T.dIsSequence.b .nil pass0 (pa_cons (pv 0) pa_nil)))) (pw_or1 (pt_cmpR op_eq (pe_callB call_len_seq (by rfl) T.z_len (show bootBuiltins "len" = some (.builtin "len") by decide +kernel) (pa_cons (pv 0) pa_nil)) pe_int (nomark _)))))
      (pss_one (ps_ret pe_bl))
      pss_nil)
      (pss_one (ps_ret (pe_and (pe_callB (cr_all rfl) (by rfl) T.z_all (show bootBuiltins "all" = some (.builtin "all") by decide +kernel) (pa_cons (pe_lc (own := [("name", 1)]) (g := (gName 1)) (tt := tYes) rfl scDIsGroup.nd (pi_seq (pv 0)) (blkOk_by (N := ["value", "name"]) (sc := defScope sDIsGroup) (by decide +kernel)) (fun _ _ _ _ _ => (pg_name (i := 1) scDIsGroup.nd rfl (.inl rfl))) (fun _ _ _ _ _ => pts_nil) (fun _ _ _ _ _ => (pe_call (ok_isname T) (hr.mono (by decide)) (by rfl) T.dIsName.g T.dIsName.F.kp T.dIsName.b .nil pass0 (pa_cons (pv 1) pa_nil)))) pa_nil)) (pe_one (pe_cmpR op_eq (pe_lenSetT rfl (by rfl) T.z_len (by rfl) T.z_set (pv 0)) (pe_callB call_len_seq (by rfl) T.z_len (show bootBuiltins "len" = some (.builtin "len") by decide +kernel) (pa_cons (pv 0) pa_nil)) (nomark _))))))), ?_⟩
    simp only [and_assoc, tSeq, tAsg, tOp, tUn, rI, rI0, rU, tVar, tC, gName, L2.start, tIfS, tTest, tB, tCB, tCons, tNil, tIf, tRet, tRetN, tLst, tTup, tNext, tDrop, tNot, tNotV, tAnd, tOr, tAndV, tOrV, tPar, tAug, ipI, rEq, rNe, gSub, rSetL, rIxL, rIxT, tBM, tBM0, rAppend, rPopAt, gTup, gCons, gNil, tCall, tSl, tPart, tNoPart, rSlL, rCat, rEqD, rNeD, rIn, scal, List.map_cons, List.map_nil, List.length_cons, List.length_nil, List.length_map, List.cons_append, List.nil_append, List.append_nil, List.replicate, List.getElem?_cons_zero, List.getElem?_cons_succ, List.set_cons_zero, List.set_cons_succ, Option.some.injEq, exists_eq_left', exists_eq_left, exists_eq_right, exists_and_left, exists_and_right, V.int.injEq, V.ref.injEq, V.str.injEq, V.bl.injEq, reduceCtorEq, false_and, and_false, exists_false, or_false, false_or, true_and, and_true, List.cons.injEq, decide_eq_true_eq, cxOf, if_true, if_false, Bool.false_eq_true, Nat.reduceAdd, Nat.reduceSub, Nat.zero_add, Nat.add_sub_cancel_left, Nat.add_sub_cancel, Nat.sub_self, tFor_eq, tLc_eq, iRng1, iRng2, iList, iTup, iEnum, rIsi, rIsiT, spIs, tLenSetT, rAll, iSeq]
    refine ⟨d, hv, hd, fun H1 s1 => ?_⟩
    rw [seq_items]
    cases ei : itemsA d with
    | none =>
      simp only [and_assoc, tSeq, tAsg, tOp, tUn, rI, rI0, rU, tVar, tC, gName, L2.start, tIfS, tTest, tB, tCB, tCons, tNil, tIf, tRet, tRetN, tLst, tTup, tNext, tDrop, tNot, tNotV, tAnd, tOr, tAndV, tOrV, tPar, tAug, ipI, rEq, rNe, gSub, rSetL, rIxL, rIxT, tBM, tBM0, rAppend, rPopAt, gTup, gCons, gNil, tCall, tSl, tPart, tNoPart, rSlL, rCat, rEqD, rNeD, rIn, scal, List.map_cons, List.map_nil, List.length_cons, List.length_nil, List.length_map, List.cons_append, List.nil_append, List.append_nil, List.replicate, List.getElem?_cons_zero, List.getElem?_cons_succ, List.set_cons_zero, List.set_cons_succ, Option.some.injEq, exists_eq_left', exists_eq_left, exists_eq_right, exists_and_left, exists_and_right, V.int.injEq, V.ref.injEq, V.str.injEq, V.bl.injEq, reduceCtorEq, false_and, and_false, exists_false, or_false, false_or, true_and, and_true, List.cons.injEq, decide_eq_true_eq, cxOf, if_true, if_false, Bool.false_eq_true, Nat.reduceAdd, Nat.reduceSub, Nat.zero_add, Nat.add_sub_cancel_left, Nat.add_sub_cancel, Nat.sub_self, tFor_eq, tLc_eq, iRng1, iRng2, iList, iTup, iEnum, rIsi, rIsiT, Option.isSome_none, Bool.not_false]
      have e : isGrpA d = false := by unfold isGrpA grpA; rw [ei]; rfl
      rw [← e]
      exact q _ s1
    | some ds =>
      simp only [and_assoc, tSeq, tAsg, tOp, tUn, rI, rI0, rU, tVar, tC, gName, L2.start, tIfS, tTest, tB, tCB, tCons, tNil, tIf, tRet, tRetN, tLst, tTup, tNext, tDrop, tNot, tNotV, tAnd, tOr, tAndV, tOrV, tPar, tAug, ipI, rEq, rNe, gSub, rSetL, rIxL, rIxT, tBM, tBM0, rAppend, rPopAt, gTup, gCons, gNil, tCall, tSl, tPart, tNoPart, rSlL, rCat, rEqD, rNeD, rIn, scal, List.map_cons, List.map_nil, List.length_cons, List.length_nil, List.length_map, List.cons_append, List.nil_append, List.append_nil, List.replicate, List.getElem?_cons_zero, List.getElem?_cons_succ, List.set_cons_zero, List.set_cons_succ, Option.some.injEq, exists_eq_left', exists_eq_left, exists_eq_right, exists_and_left, exists_and_right, V.int.injEq, V.ref.injEq, V.str.injEq, V.bl.injEq, reduceCtorEq, false_and, and_false, exists_false, or_false, false_or, true_and, and_true, List.cons.injEq, decide_eq_true_eq, cxOf, if_true, if_false, Bool.false_eq_true, Nat.reduceAdd, Nat.reduceSub, Nat.zero_add, Nat.add_sub_cancel_left, Nat.add_sub_cancel, Nat.sub_self, tFor_eq, tLc_eq, iRng1, iRng2, iList, iTup, iEnum, rIsi, rIsiT, Option.isSome_some, Bool.not_true]
      obtain ⟨a, xs, rfl, hs, ha⟩ := av_items hv ei
      obtain ⟨hn, ho⟩ := ok_items hd ei
      have hl := avA_len ha
      refine ⟨a, rfl, xs, hs.mono s1, ?_⟩
      by_cases h0 : ds = []
      · rw [if_pos (by rw [hl, h0]; rfl)]
        have e : isGrpA d = false := by unfold isGrpA grpA; rw [ei, h0]; rfl
        rw [← e]
        exact q _ s1
      · have hpos : 0 < ds.length := List.length_pos_iff.mpr h0
        rw [if_neg (by omega)]
        obtain ⟨J, hJ⟩ := (hs.mono s1).it
        refine ⟨a, rfl, xs, J, hJ, fun D nD => lg_is hJ (avA_mono s1 _ _ ha) ho hn (by decide : 1 < 2) nD fun H2 s2 eD => ⟨_, sqL_of eD, ?_⟩⟩
        have ea : (ds.map isNameA).all id = ds.all isNameA := by rw [List.all_map]; rfl
        rw [ea]
        have hie : ds.isEmpty = false := by cases ds with | nil => exact absurd rfl h0 | cons _ _ => rfl
        cases hall : ds.all isNameA with
        | false =>
          simp only [and_assoc, tSeq, tAsg, tOp, tUn, rI, rI0, rU, tVar, tC, gName, L2.start, tIfS, tTest, tB, tCB, tCons, tNil, tIf, tRet, tRetN, tLst, tTup, tNext, tDrop, tNot, tNotV, tAnd, tOr, tAndV, tOrV, tPar, tAug, ipI, rEq, rNe, gSub, rSetL, rIxL, rIxT, tBM, tBM0, rAppend, rPopAt, gTup, gCons, gNil, tCall, tSl, tPart, tNoPart, rSlL, rCat, rEqD, rNeD, rIn, scal, List.map_cons, List.map_nil, List.length_cons, List.length_nil, List.length_map, List.cons_append, List.nil_append, List.append_nil, List.replicate, List.getElem?_cons_zero, List.getElem?_cons_succ, List.set_cons_zero, List.set_cons_succ, Option.some.injEq, exists_eq_left', exists_eq_left, exists_eq_right, exists_and_left, exists_and_right, V.int.injEq, V.ref.injEq, V.str.injEq, V.bl.injEq, reduceCtorEq, false_and, and_false, exists_false, or_false, false_or, true_and, and_true, List.cons.injEq, decide_eq_true_eq, cxOf, if_true, if_false, Bool.false_eq_true, Nat.reduceAdd, Nat.reduceSub, Nat.zero_add, Nat.add_sub_cancel_left, Nat.add_sub_cancel, Nat.sub_self, tFor_eq, tLc_eq, iRng1, iRng2, iList, iTup, iEnum, rIsi, rIsiT]
          have e : isGrpA d = false := by unfold isGrpA grpA; rw [ei]; simp only [hie, hall]; rfl
          rw [← e]
          exact q _ (s1.trans s2)
        | true =>
          simp only [and_assoc, tSeq, tAsg, tOp, tUn, rI, rI0, rU, tVar, tC, gName, L2.start, tIfS, tTest, tB, tCB, tCons, tNil, tIf, tRet, tRetN, tLst, tTup, tNext, tDrop, tNot, tNotV, tAnd, tOr, tAndV, tOrV, tPar, tAug, ipI, rEq, rNe, gSub, rSetL, rIxL, rIxT, tBM, tBM0, rAppend, rPopAt, gTup, gCons, gNil, tCall, tSl, tPart, tNoPart, rSlL, rCat, rEqD, rNeD, rIn, scal, List.map_cons, List.map_nil, List.length_cons, List.length_nil, List.length_map, List.cons_append, List.nil_append, List.append_nil, List.replicate, List.getElem?_cons_zero, List.getElem?_cons_succ, List.set_cons_zero, List.set_cons_succ, Option.some.injEq, exists_eq_left', exists_eq_left, exists_eq_right, exists_and_left, exists_and_right, V.int.injEq, V.ref.injEq, V.str.injEq, V.bl.injEq, reduceCtorEq, false_and, and_false, exists_false, or_false, false_or, true_and, and_true, List.cons.injEq, decide_eq_true_eq, cxOf, if_true, if_false, Bool.false_eq_true, Nat.reduceAdd, Nat.reduceSub, Nat.zero_add, Nat.add_sub_cancel_left, Nat.add_sub_cancel, Nat.sub_self, tFor_eq, tLc_eq, iRng1, iRng2, iList, iTup, iEnum, rIsi, rIsiT]
          obtain ⟨ns, en, _⟩ := names_strs hall
          have ex : xs = ns.map V.str := av_strs ha en
          have hnl : ns.length = ds.length := by rw [← hl, ex, List.length_map]
          have hs2 : Sq K H2 a xs := hs.mono (s1.trans s2)
          refine ⟨ns, by rw [← ex]; exact hs2, by omega, xs, hs2, ?_⟩
          have e : isGrpA d = decide (((SetT.once ns).length : Int) = (xs.length : Int)) := by
            have hiff := SetT.once_len ns
            unfold isGrpA grpA
            rw [ei]
            simp only [hie, hall, en]
            rw [show xs.length = ns.length by omega]
            by_cases hnd : ns.Nodup
            · rw [decide_eq_true (by rw [hiff.mpr hnd])]
              simp [hnd]
            · rw [decide_eq_false (fun z => hnd (hiff.mp (by omega)))]
              simp [hnd]
          rw [← e]
          exact q _ (s1.trans s2)

end
end He

namespace He
open PySem PySem.Spec PyProof.Rows L2
section
variable {P : Program} {w : World} {K : PySem.W.Frag} {mg : Str → Option Value} {base : Heap}

def isGrpsA (g : AD) : Bool := match itemsA g with | some gs => gs.all isGrpA | none => false
def wOkA : AD → Bool
  | .int n => decide (1 ≤ n)
  | _ => false
def isShA : AD → Bool
  | .tup [w, g] => wOkA w && isGrpsA g
  | _ => false
def isWillA (d : AD) : Bool := match itemsA d with | some ds => !ds.isEmpty && ds.all isShA | none => false
theorem pair_tup {d : AD} (h : isPairA d = true) : ∃ w g, d = .tup [w, g] := by
  match d, h with
  | .tup [w, g], _ => exact ⟨w, g, rfl⟩
theorem int_of {d : AD} (h : isIntA d = true) : ∃ n, d = .int n := by
  cases d with
  | int n => exact ⟨n, rfl⟩
  | _ => exact nomatch h
theorem ok_isshare (T : TxtG K mg) : FnOk P w K mg base CX0 3 T.dIsShare.f T.dIsShare.fd ["value"] (spIs K isShA) := by
  refine T.dIsShare.F.ok scDIsShare (fun vs H Q E h => ?_) (fun cdv A outer s H vs Q E hr h => ?_)
  · obtain ⟨v, d, rfl, _⟩ := h
    rfl
  · obtain ⟨v, d, rfl, hv, hd, q⟩ := h
    refine ⟨_, (pss_cons (ps_if (pt_not (pt_val (pe_call (ok_ispair T) (hr.mono (by decide)) (by rfl) T.dIsPair.g T.dIsPair.F.kp T.dIsPair.b .nil pass0 (pa_cons (pv 0) pa_nil))))
      (pss_one (ps_ret pe_bl))
      pss_nil)
      (pss_cons (ps_asg (pv 0) (pg_tup (n := 2) rfl (pgs_cons (pg_name (i := 1) scDIsShare.nd rfl (.inl rfl)) (pgs_cons (pg_name (i := 2) scDIsShare.nd rfl (.inl rfl)) pgs_nil))))
      (pss_cons (ps_if (PW.pt (pw_or (pt_not (pt_val (pe_call (ok_isint T) (hr.mono (by decide)) (by rfl) T.dIsInteger.g T.dIsInteger.F.kp T.dIsInteger.b .nil pass0 (pa_cons (pv 1) pa_nil)))) (pw_or (pt_cmpR op_lt (pv 1) pe_int (nomark _)) (pw_or1 (pt_not (pt_val (pe_call (ok_isseq T) (hr.mono (by decide)) (by rfl) T.dIsSequence.g T.dIsSequence.F.kp T.dIsSequence.b .nil pass0 (pa_cons (pv 2) pa_nil))))))))
      (pss_one (ps_ret pe_bl))
      pss_nil)
      (pss_one (ps_ret (pe_callB (cr_all rfl) (by rfl) T.z_all (show bootBuiltins "all" = some (.builtin "all") by decide +kernel) (pa_cons (pe_lc (own := [("group", 3)]) (g := (gName 3)) (tt := tYes) rfl scDIsShare.nd (pi_seq (pv 2)) (blkOk_by (N := ["value", "weight", "groups", "group"]) (sc := defScope sDIsShare) (by decide +kernel)) (fun _ _ _ _ _ => (pg_name (i := 3) scDIsShare.nd rfl (.inl rfl))) (fun _ _ _ _ _ => pts_nil) (fun _ _ _ _ _ => (pe_call (ok_isgroup T) (hr.mono (by decide)) (by rfl) T.dIsGroup.g T.dIsGroup.F.kp T.dIsGroup.b .nil pass0 (pa_cons (pv 3) pa_nil)))) pa_nil))))))), ?_⟩
    simp only [and_assoc, tSeq, tAsg, tOp, tUn, rI, rI0, rU, tVar, tC, gName, L2.start, tIfS, tTest, tB, tCB, tCons, tNil, tIf, tRet, tRetN, tLst, tTup, tNext, tDrop, tNot, tNotV, tAnd, tOr, tAndV, tOrV, tPar, tAug, ipI, rEq, rNe, gSub, rSetL, rIxL, rIxT, tBM, tBM0, rAppend, rPopAt, gTup, gCons, gNil, tCall, tSl, tPart, tNoPart, rSlL, rCat, rEqD, rNeD, rIn, scal, List.map_cons, List.map_nil, List.length_cons, List.length_nil, List.length_map, List.cons_append, List.nil_append, List.append_nil, List.replicate, List.getElem?_cons_zero, List.getElem?_cons_succ, List.set_cons_zero, List.set_cons_succ, Option.some.injEq, exists_eq_left', exists_eq_left, exists_eq_right, exists_and_left, exists_and_right, V.int.injEq, V.ref.injEq, V.str.injEq, V.bl.injEq, reduceCtorEq, false_and, and_false, exists_false, or_false, false_or, true_and, and_true, List.cons.injEq, decide_eq_true_eq, cxOf, if_true, if_false, Bool.false_eq_true, Nat.reduceAdd, Nat.reduceSub, Nat.zero_add, Nat.add_sub_cancel_left, Nat.add_sub_cancel, Nat.sub_self, tFor_eq, tLc_eq, iRng1, iRng2, iList, iTup, iEnum, rIsi, rIsiT, spIs, tLenSetT, rAll, iSeq]
    refine ⟨d, hv, hd, fun H1 s1 => ?_⟩
    cases hp : isPairA d with
    | false =>
      simp only [and_assoc, tSeq, tAsg, tOp, tUn, rI, rI0, rU, tVar, tC, gName, L2.start, tIfS, tTest, tB, tCB, tCons, tNil, tIf, tRet, tRetN, tLst, tTup, tNext, tDrop, tNot, tNotV, tAnd, tOr, tAndV, tOrV, tPar, tAug, ipI, rEq, rNe, gSub, rSetL, rIxL, rIxT, tBM, tBM0, rAppend, rPopAt, gTup, gCons, gNil, tCall, tSl, tPart, tNoPart, rSlL, rCat, rEqD, rNeD, rIn, scal, List.map_cons, List.map_nil, List.length_cons, List.length_nil, List.length_map, List.cons_append, List.nil_append, List.append_nil, List.replicate, List.getElem?_cons_zero, List.getElem?_cons_succ, List.set_cons_zero, List.set_cons_succ, Option.some.injEq, exists_eq_left', exists_eq_left, exists_eq_right, exists_and_left, exists_and_right, V.int.injEq, V.ref.injEq, V.str.injEq, V.bl.injEq, reduceCtorEq, false_and, and_false, exists_false, or_false, false_or, true_and, and_true, List.cons.injEq, decide_eq_true_eq, cxOf, if_true, if_false, Bool.false_eq_true, Nat.reduceAdd, Nat.reduceSub, Nat.zero_add, Nat.add_sub_cancel_left, Nat.add_sub_cancel, Nat.sub_self, tFor_eq, tLc_eq, iRng1, iRng2, iList, iTup, iEnum, rIsi, rIsiT, Bool.not_false]
      have e : isShA d = false := by
        match d, hp with
        | .tup [], _ => rfl
        | .tup [_], _ => rfl
        | .tup (_ :: _ :: _ :: _), _ => rfl
        | .non, _ => rfl
        | .bl _, _ => rfl
        | .int _, _ => rfl
        | .str _, _ => rfl
        | .lst _, _ => rfl
        | .ins _, _ => rfl
      rw [← e]
      exact q _ s1
    | true =>
      obtain ⟨wd, gd, rfl⟩ := pair_tup hp
      obtain ⟨a, xs, rfl, hs, ha⟩ : ∃ a xs, v = .ref a ∧ SqT K H a xs ∧ AvAll K H xs [wd, gd] := by
        cases hv with
        | tup hs' ha' => exact ⟨_, _, rfl, hs', ha'⟩
      obtain ⟨hn, ho⟩ := ok_items hd rfl
      simp only [and_assoc, tSeq, tAsg, tOp, tUn, rI, rI0, rU, tVar, tC, gName, L2.start, tIfS, tTest, tB, tCB, tCons, tNil, tIf, tRet, tRetN, tLst, tTup, tNext, tDrop, tNot, tNotV, tAnd, tOr, tAndV, tOrV, tPar, tAug, ipI, rEq, rNe, gSub, rSetL, rIxL, rIxT, tBM, tBM0, rAppend, rPopAt, gTup, gCons, gNil, tCall, tSl, tPart, tNoPart, rSlL, rCat, rEqD, rNeD, rIn, scal, List.map_cons, List.map_nil, List.length_cons, List.length_nil, List.length_map, List.cons_append, List.nil_append, List.append_nil, List.replicate, List.getElem?_cons_zero, List.getElem?_cons_succ, List.set_cons_zero, List.set_cons_succ, Option.some.injEq, exists_eq_left', exists_eq_left, exists_eq_right, exists_and_left, exists_and_right, V.int.injEq, V.ref.injEq, V.str.injEq, V.bl.injEq, reduceCtorEq, false_and, and_false, exists_false, or_false, false_or, true_and, and_true, List.cons.injEq, decide_eq_true_eq, cxOf, if_true, if_false, Bool.false_eq_true, Nat.reduceAdd, Nat.reduceSub, Nat.zero_add, Nat.add_sub_cancel_left, Nat.add_sub_cancel, Nat.sub_self, tFor_eq, tLc_eq, iRng1, iRng2, iList, iTup, iEnum, rIsi, rIsiT, Bool.not_true]
      have ha1 := avA_mono s1 _ _ ha
      cases ha1 with
      | @cons v1 _ _ _ w1 r1 =>
        cases r1 with
        | @cons v2 _ _ _ w2 r2 =>
          cases r2
          refine ⟨_, Same.seqT s1 hs, rfl, v1, _, rfl, v2, _, rfl, rfl, wd, w1, ho.1, fun H2 s2 => ?_⟩
          have w2' := av_mono s2 _ _ w2
          cases hi : isIntA wd with
          | false =>
            simp only [and_assoc, tSeq, tAsg, tOp, tUn, rI, rI0, rU, tVar, tC, gName, L2.start, tIfS, tTest, tB, tCB, tCons, tNil, tIf, tRet, tRetN, tLst, tTup, tNext, tDrop, tNot, tNotV, tAnd, tOr, tAndV, tOrV, tPar, tAug, ipI, rEq, rNe, gSub, rSetL, rIxL, rIxT, tBM, tBM0, rAppend, rPopAt, gTup, gCons, gNil, tCall, tSl, tPart, tNoPart, rSlL, rCat, rEqD, rNeD, rIn, scal, List.map_cons, List.map_nil, List.length_cons, List.length_nil, List.length_map, List.cons_append, List.nil_append, List.append_nil, List.replicate, List.getElem?_cons_zero, List.getElem?_cons_succ, List.set_cons_zero, List.set_cons_succ, Option.some.injEq, exists_eq_left', exists_eq_left, exists_eq_right, exists_and_left, exists_and_right, V.int.injEq, V.ref.injEq, V.str.injEq, V.bl.injEq, reduceCtorEq, false_and, and_false, exists_false, or_false, false_or, true_and, and_true, List.cons.injEq, decide_eq_true_eq, cxOf, if_true, if_false, Bool.false_eq_true, Nat.reduceAdd, Nat.reduceSub, Nat.zero_add, Nat.add_sub_cancel_left, Nat.add_sub_cancel, Nat.sub_self, tFor_eq, tLc_eq, iRng1, iRng2, iList, iTup, iEnum, rIsi, rIsiT, Bool.not_false]
            have e : isShA (.tup [wd, gd]) = false := by cases wd <;> first | rfl | (exact nomatch hi)
            rw [← e]
            exact q _ (s1.trans s2)
          | true =>
            obtain ⟨n, rfl⟩ := int_of hi
            cases w1
            simp only [and_assoc, tSeq, tAsg, tOp, tUn, rI, rI0, rU, tVar, tC, gName, L2.start, tIfS, tTest, tB, tCB, tCons, tNil, tIf, tRet, tRetN, tLst, tTup, tNext, tDrop, tNot, tNotV, tAnd, tOr, tAndV, tOrV, tPar, tAug, ipI, rEq, rNe, gSub, rSetL, rIxL, rIxT, tBM, tBM0, rAppend, rPopAt, gTup, gCons, gNil, tCall, tSl, tPart, tNoPart, rSlL, rCat, rEqD, rNeD, rIn, scal, List.map_cons, List.map_nil, List.length_cons, List.length_nil, List.length_map, List.cons_append, List.nil_append, List.append_nil, List.replicate, List.getElem?_cons_zero, List.getElem?_cons_succ, List.set_cons_zero, List.set_cons_succ, Option.some.injEq, exists_eq_left', exists_eq_left, exists_eq_right, exists_and_left, exists_and_right, V.int.injEq, V.ref.injEq, V.str.injEq, V.bl.injEq, reduceCtorEq, false_and, and_false, exists_false, or_false, false_or, true_and, and_true, List.cons.injEq, decide_eq_true_eq, cxOf, if_true, if_false, Bool.false_eq_true, Nat.reduceAdd, Nat.reduceSub, Nat.zero_add, Nat.add_sub_cancel_left, Nat.add_sub_cancel, Nat.sub_self, tFor_eq, tLc_eq, iRng1, iRng2, iList, iTup, iEnum, rIsi, rIsiT, Bool.not_true]
            by_cases h1 : n < 1
            · rw [if_pos h1]
              have e : isShA (.tup [.int n, gd]) = false := by
                show (decide (1 ≤ n) && isGrpsA gd) = false
                rw [decide_eq_false (by omega)]
                rfl
              rw [← e]
              exact q _ (s1.trans s2)
            · rw [if_neg h1]
              have e : isShA (.tup [.int n, gd]) = isGrpsA gd := by
                show (decide (1 ≤ n) && isGrpsA gd) = _
                rw [decide_eq_true (by omega)]
                rfl
              rw [e] at q
              refine ⟨gd, w2', ho.2.1, fun H3 s3 => ?_⟩
              rw [seq_items]
              cases ei : itemsA gd with
              | none =>
                simp only [and_assoc, tSeq, tAsg, tOp, tUn, rI, rI0, rU, tVar, tC, gName, L2.start, tIfS, tTest, tB, tCB, tCons, tNil, tIf, tRet, tRetN, tLst, tTup, tNext, tDrop, tNot, tNotV, tAnd, tOr, tAndV, tOrV, tPar, tAug, ipI, rEq, rNe, gSub, rSetL, rIxL, rIxT, tBM, tBM0, rAppend, rPopAt, gTup, gCons, gNil, tCall, tSl, tPart, tNoPart, rSlL, rCat, rEqD, rNeD, rIn, scal, List.map_cons, List.map_nil, List.length_cons, List.length_nil, List.length_map, List.cons_append, List.nil_append, List.append_nil, List.replicate, List.getElem?_cons_zero, List.getElem?_cons_succ, List.set_cons_zero, List.set_cons_succ, Option.some.injEq, exists_eq_left', exists_eq_left, exists_eq_right, exists_and_left, exists_and_right, V.int.injEq, V.ref.injEq, V.str.injEq, V.bl.injEq, reduceCtorEq, false_and, and_false, exists_false, or_false, false_or, true_and, and_true, List.cons.injEq, decide_eq_true_eq, cxOf, if_true, if_false, Bool.false_eq_true, Nat.reduceAdd, Nat.reduceSub, Nat.zero_add, Nat.add_sub_cancel_left, Nat.add_sub_cancel, Nat.sub_self, tFor_eq, tLc_eq, iRng1, iRng2, iList, iTup, iEnum, rIsi, rIsiT, Option.isSome_none, Bool.not_false]
                have e2 : isGrpsA gd = false := by unfold isGrpsA; rw [ei]
                rw [← e2]
                exact q _ ((s1.trans s2).trans s3)
              | some ds =>
                simp only [and_assoc, tSeq, tAsg, tOp, tUn, rI, rI0, rU, tVar, tC, gName, L2.start, tIfS, tTest, tB, tCB, tCons, tNil, tIf, tRet, tRetN, tLst, tTup, tNext, tDrop, tNot, tNotV, tAnd, tOr, tAndV, tOrV, tPar, tAug, ipI, rEq, rNe, gSub, rSetL, rIxL, rIxT, tBM, tBM0, rAppend, rPopAt, gTup, gCons, gNil, tCall, tSl, tPart, tNoPart, rSlL, rCat, rEqD, rNeD, rIn, scal, List.map_cons, List.map_nil, List.length_cons, List.length_nil, List.length_map, List.cons_append, List.nil_append, List.append_nil, List.replicate, List.getElem?_cons_zero, List.getElem?_cons_succ, List.set_cons_zero, List.set_cons_succ, Option.some.injEq, exists_eq_left', exists_eq_left, exists_eq_right, exists_and_left, exists_and_right, V.int.injEq, V.ref.injEq, V.str.injEq, V.bl.injEq, reduceCtorEq, false_and, and_false, exists_false, or_false, false_or, true_and, and_true, List.cons.injEq, decide_eq_true_eq, cxOf, if_true, if_false, Bool.false_eq_true, Nat.reduceAdd, Nat.reduceSub, Nat.zero_add, Nat.add_sub_cancel_left, Nat.add_sub_cancel, Nat.sub_self, tFor_eq, tLc_eq, iRng1, iRng2, iList, iTup, iEnum, rIsi, rIsiT, Option.isSome_some, Bool.not_true]
                obtain ⟨b, ys, rfl, hys, hay⟩ := av_items w2' ei
                obtain ⟨hn2, ho2⟩ := ok_items ho.2.1 ei
                obtain ⟨J, hJ⟩ := (hys.mono s3).it
                refine ⟨b, rfl, ys, J, hJ, fun D nD => lg_is hJ (avA_mono s3 _ _ hay) ho2 hn2 (by decide : 3 < 4) nD fun H4 s4 eD => ⟨_, sqL_of eD, ?_⟩⟩
                have e2 : (ds.map isGrpA).all id = isGrpsA gd := by unfold isGrpsA; rw [ei, List.all_map]; rfl
                rw [e2]
                exact q _ (((s1.trans s2).trans s3).trans s4)
theorem ok_areshares (T : TxtG K mg) : FnOk P w K mg base CX0 4 T.dAreShares.f T.dAreShares.fd ["value"] (spIs K isWillA) := by
  refine T.dAreShares.F.ok scDAreShares (fun vs H Q E h => ?_) (fun cdv A outer s H vs Q E hr h => ?_)
  · obtain ⟨v, d, rfl, _⟩ := h
    rfl
  · obtain ⟨v, d, rfl, hv, hd, q⟩ := h
    refine ⟨_, (pss_one (ps_ret (pe_and (pe_call (ok_isseq T) (hr.mono (by decide)) (by rfl) T.dIsSequence.g T.dIsSequence.F.kp T.dIsSequence.b .nil pass0 (pa_cons (pv 0) pa_nil)) (pe_and (pe_cmpR op_gt (pe_callB call_len_seq (by rfl) T.z_len (show bootBuiltins "len" = some (.builtin "len") by decide +kernel) (pa_cons (pv 0) pa_nil)) pe_int (nomark _)) (pe_one (pe_callB (cr_all rfl) (by rfl) T.z_all (show bootBuiltins "all" = some (.builtin "all") by decide +kernel) (pa_cons (pe_lc (own := [("share", 1)]) (g := (gName 1)) (tt := tYes) rfl scDAreShares.nd (pi_seq (pv 0)) (blkOk_by (N := ["value", "share"]) (sc := defScope sDAreShares) (by decide +kernel)) (fun _ _ _ _ _ => (pg_name (i := 1) scDAreShares.nd rfl (.inl rfl))) (fun _ _ _ _ _ => pts_nil) (fun _ _ _ _ _ => (pe_call (ok_isshare T) (hr.mono (by decide)) (by rfl) T.dIsShare.g T.dIsShare.F.kp T.dIsShare.b .nil pass0 (pa_cons (pv 1) pa_nil)))) pa_nil))))))), ?_⟩
    simp only [and_assoc, tSeq, tAsg, tOp, tUn, rI, rI0, rU, tVar, tC, gName, L2.start, tIfS, tTest, tB, tCB, tCons, tNil, tIf, tRet, tRetN, tLst, tTup, tNext, tDrop, tNot, tNotV, tAnd, tOr, tAndV, tOrV, tPar, tAug, ipI, rEq, rNe, gSub, rSetL, rIxL, rIxT, tBM, tBM0, rAppend, rPopAt, gTup, gCons, gNil, tCall, tSl, tPart, tNoPart, rSlL, rCat, rEqD, rNeD, rIn, scal, List.map_cons, List.map_nil, List.length_cons, List.length_nil, List.length_map, List.cons_append, List.nil_append, List.append_nil, List.replicate, List.getElem?_cons_zero, List.getElem?_cons_succ, List.set_cons_zero, List.set_cons_succ, Option.some.injEq, exists_eq_left', exists_eq_left, exists_eq_right, exists_and_left, exists_and_right, V.int.injEq, V.ref.injEq, V.str.injEq, V.bl.injEq, reduceCtorEq, false_and, and_false, exists_false, or_false, false_or, true_and, and_true, List.cons.injEq, decide_eq_true_eq, cxOf, if_true, if_false, Bool.false_eq_true, Nat.reduceAdd, Nat.reduceSub, Nat.zero_add, Nat.add_sub_cancel_left, Nat.add_sub_cancel, Nat.sub_self, tFor_eq, tLc_eq, iRng1, iRng2, iList, iTup, iEnum, rIsi, rIsiT, spIs, tLenSetT, rAll, iSeq]
    refine ⟨d, hv, hd, fun H1 s1 => ?_⟩
    rw [seq_items]
    cases ei : itemsA d with
    | none =>
      simp only [and_assoc, tSeq, tAsg, tOp, tUn, rI, rI0, rU, tVar, tC, gName, L2.start, tIfS, tTest, tB, tCB, tCons, tNil, tIf, tRet, tRetN, tLst, tTup, tNext, tDrop, tNot, tNotV, tAnd, tOr, tAndV, tOrV, tPar, tAug, ipI, rEq, rNe, gSub, rSetL, rIxL, rIxT, tBM, tBM0, rAppend, rPopAt, gTup, gCons, gNil, tCall, tSl, tPart, tNoPart, rSlL, rCat, rEqD, rNeD, rIn, scal, List.map_cons, List.map_nil, List.length_cons, List.length_nil, List.length_map, List.cons_append, List.nil_append, List.append_nil, List.replicate, List.getElem?_cons_zero, List.getElem?_cons_succ, List.set_cons_zero, List.set_cons_succ, Option.some.injEq, exists_eq_left', exists_eq_left, exists_eq_right, exists_and_left, exists_and_right, V.int.injEq, V.ref.injEq, V.str.injEq, V.bl.injEq, reduceCtorEq, false_and, and_false, exists_false, or_false, false_or, true_and, and_true, List.cons.injEq, decide_eq_true_eq, cxOf, if_true, if_false, Bool.false_eq_true, Nat.reduceAdd, Nat.reduceSub, Nat.zero_add, Nat.add_sub_cancel_left, Nat.add_sub_cancel, Nat.sub_self, tFor_eq, tLc_eq, iRng1, iRng2, iList, iTup, iEnum, rIsi, rIsiT, Option.isSome_none]
      have e : isWillA d = false := by unfold isWillA; rw [ei]
      rw [← e]
      exact q _ s1
    | some ds =>
      simp only [and_assoc, tSeq, tAsg, tOp, tUn, rI, rI0, rU, tVar, tC, gName, L2.start, tIfS, tTest, tB, tCB, tCons, tNil, tIf, tRet, tRetN, tLst, tTup, tNext, tDrop, tNot, tNotV, tAnd, tOr, tAndV, tOrV, tPar, tAug, ipI, rEq, rNe, gSub, rSetL, rIxL, rIxT, tBM, tBM0, rAppend, rPopAt, gTup, gCons, gNil, tCall, tSl, tPart, tNoPart, rSlL, rCat, rEqD, rNeD, rIn, scal, List.map_cons, List.map_nil, List.length_cons, List.length_nil, List.length_map, List.cons_append, List.nil_append, List.append_nil, List.replicate, List.getElem?_cons_zero, List.getElem?_cons_succ, List.set_cons_zero, List.set_cons_succ, Option.some.injEq, exists_eq_left', exists_eq_left, exists_eq_right, exists_and_left, exists_and_right, V.int.injEq, V.ref.injEq, V.str.injEq, V.bl.injEq, reduceCtorEq, false_and, and_false, exists_false, or_false, false_or, true_and, and_true, List.cons.injEq, decide_eq_true_eq, cxOf, if_true, if_false, Bool.false_eq_true, Nat.reduceAdd, Nat.reduceSub, Nat.zero_add, Nat.add_sub_cancel_left, Nat.add_sub_cancel, Nat.sub_self, tFor_eq, tLc_eq, iRng1, iRng2, iList, iTup, iEnum, rIsi, rIsiT, Option.isSome_some]
      obtain ⟨a, xs, rfl, hs, ha⟩ := av_items hv ei
      obtain ⟨hn, ho⟩ := ok_items hd ei
      have hl := avA_len ha
      refine ⟨a, rfl, xs, hs.mono s1, ?_⟩
      have e : isWillA d = (!ds.isEmpty && ds.all isShA) := by unfold isWillA; rw [ei]
      rw [e] at q
      by_cases h0 : ds = []
      · subst h0
        rw [if_neg (by rw [hl]; decide)]
        exact q _ s1
      · have hpos : 0 < ds.length := List.length_pos_iff.mpr h0
        have hie : ds.isEmpty = false := by cases ds with | nil => exact absurd rfl h0 | cons _ _ => rfl
        rw [if_pos (by omega)]
        obtain ⟨J, hJ⟩ := (hs.mono s1).it
        refine ⟨a, rfl, xs, J, hJ, fun D nD => lg_is hJ (avA_mono s1 _ _ ha) ho hn (by decide : 1 < 2) nD fun H2 s2 eD => ⟨_, sqL_of eD, ?_⟩⟩
        have e2 : (ds.map isShA).all id = (!ds.isEmpty && ds.all isShA) := by rw [hie, List.all_map]; rfl
        rw [e2]
        exact q _ (s1.trans s2)

end
end He

/-! the order of texts; a sorted list of texts is one -/
namespace He
open PySem PySem.Spec PyProof.Rows L2
def leC (a b : List Nat) : Prop := ltCps b a = false
theorem leC_refl : ∀ a : List Nat, leC a a
  | [] => rfl
  | x :: r => by
    have h : ltCps r r = false := leC_refl r
    show (decide (x < x) || (x == x && ltCps r r)) = false
    rw [h]
    simp
theorem leC_total : ∀ a b : List Nat, leC a b ∨ leC b a
  | [], b => .inl (by cases b <;> rfl)
  | _ :: _, [] => .inr rfl
  | x :: r, y :: t => by
    have e1 : leC (x :: r) (y :: t) ↔ (decide (y < x) || (y == x && ltCps t r)) = false := Iff.rfl
    have e2 : leC (y :: t) (x :: r) ↔ (decide (x < y) || (x == y && ltCps r t)) = false := Iff.rfl
    rw [e1, e2]
    rcases Nat.lt_trichotomy x y with h | h | h
    · exact .inl (by simp; omega)
    · subst h
      rcases leC_total r t with q | q
      · exact .inl (by rw [show ltCps t r = false from q]; simp)
      · exact .inr (by rw [show ltCps r t = false from q]; simp)
    · exact .inr (by simp; omega)
theorem leC_anti : ∀ {a b : List Nat}, leC a b → leC b a → a = b
  | [], [], _, _ => rfl
  | [], _ :: _, _, h => by cases (show true = false from h)
  | _ :: _, [], h, _ => by cases (show true = false from h)
  | x :: r, y :: t, h1, h2 => by
    have h1 : (decide (y < x) || (y == x && ltCps t r)) = false := h1
    have h2 : (decide (x < y) || (x == y && ltCps r t)) = false := h2
    rw [Bool.or_eq_false_iff] at h1 h2
    have e : x = y := by
      have a := of_decide_eq_false h1.1
      have b := of_decide_eq_false h2.1
      omega
    subst e
    have q1 : leC r t := (show ltCps t r = false by simpa using h1.2)
    have q2 : leC t r := (show ltCps r t = false by simpa using h2.2)
    rw [leC_anti q1 q2]
theorem leC_trans : ∀ {a b c : List Nat}, leC a b → leC b c → leC a c
  | [], _, c, _, _ => by cases c <;> rfl
  | _ :: _, [], _, h, _ => by cases (show true = false from h)
  | _ :: _, _ :: _, [], _, h => by cases (show true = false from h)
  | x :: r, y :: t, z :: u, h1, h2 => by
    have h1 : (decide (y < x) || (y == x && ltCps t r)) = false := h1
    have h2 : (decide (z < y) || (z == y && ltCps u t)) = false := h2
    rw [Bool.or_eq_false_iff] at h1 h2
    show (decide (z < x) || (z == x && ltCps u r)) = false
    have a := of_decide_eq_false h1.1
    have b := of_decide_eq_false h2.1
    rw [decide_eq_false (by omega : ¬ z < x), Bool.false_or]
    by_cases e : z = x
    · subst e
      have e2 : y = z := by omega
      subst e2
      have q1 : leC r t := (show ltCps t r = false by simpa using h1.2)
      have q2 : leC t u := (show ltCps u t = false by simpa using h2.2)
      have q3 : ltCps u r = false := leC_trans q1 q2
      rw [q3]
      simp
    · simp [e]
def leS (a b : Str) : Bool := !ltCps b.cps.toList a.cps.toList
theorem leS_iff {a b : Str} : leS a b = true ↔ leC a.cps.toList b.cps.toList := by unfold leS leC; simp
theorem leS_anti {a b : Str} (h1 : leS a b = true) (h2 : leS b a = true) : a = b := by
  have := leC_anti (leS_iff.mp h1) (leS_iff.mp h2)
  cases a; cases b
  exact congrArg Str.mk (Array.toList_inj.mp this)
/-- the texts ascending -/
def sortG (g : List Str) : List Str := g.mergeSort leS
theorem sortG_perm (g : List Str) : (sortG g).Perm g := List.mergeSort_perm g leS
theorem leS_trans (a b c : Str) (h1 : leS a b = true) (h2 : leS b c = true) : leS a c = true := leS_iff.mpr (leC_trans (leS_iff.mp h1) (leS_iff.mp h2))
theorem leS_total (a b : Str) : (leS a b || leS b a) = true := by
  rcases leC_total a.cps.toList b.cps.toList with h | h
  · rw [leS_iff.mpr h]; rfl
  · rw [leS_iff.mpr h, Bool.or_true]
theorem sortG_up (g : List Str) : (sortG g).Pairwise (fun a b => leS a b = true) := List.pairwise_mergeSort (leS_trans) (leS_total) g
theorem rising_up : ∀ (p : Str) (l : List Str), risingS p l = true → (p :: l).Pairwise (fun a b => leS a b = true)
  | p, [], _ => List.pairwise_singleton _ _
  | p, x :: r, h => by
    have h : (!ltCps x.cps.toList p.cps.toList && risingS x r) = true := h
    rw [Bool.and_eq_true] at h
    have ih := rising_up x r h.2
    have hpx : leS p x = true := h.1
    refine List.pairwise_cons.mpr ⟨fun y hy => ?_, ih⟩
    rcases List.mem_cons.mp hy with rfl | hy
    · exact hpx
    · exact leS_trans p x y hpx ((List.pairwise_cons.mp ih).1 y hy)
theorem sorted_up {l : List Str} (h : sortedS l = true) : l.Pairwise (fun a b => leS a b = true) := by
  cases l with
  | nil => exact List.Pairwise.nil
  | cons x r => exact rising_up x r h
theorem up_one : ∀ {a b : List Str}, a.Perm b → a.Pairwise (fun a b => leS a b = true) → b.Pairwise (fun a b => leS a b = true) → a = b
  | [], b, p, _, _ => p.nil_eq
  | x :: r, [], p, _, _ => by have := p.length_eq; simp at this
  | x :: r, y :: t, p, h1, h2 => by
    have e : x = y := by
      have hx : x ∈ y :: t := p.mem_iff.mp List.mem_cons_self
      have hy : y ∈ x :: r := p.mem_iff.mpr List.mem_cons_self
      rcases List.mem_cons.mp hx with q | q
      · exact q
      · rcases List.mem_cons.mp hy with q2 | q2
        · exact q2.symm
        · exact leS_anti ((List.pairwise_cons.mp h1).1 y q2) ((List.pairwise_cons.mp h2).1 x q)
    subst e
    rw [up_one (List.Perm.cons_inv p) (List.pairwise_cons.mp h1).2 (List.pairwise_cons.mp h2).2]
theorem sortG_of {ys g : List Str} (p : ys.Perm g) (h : sortedS ys = true) : ys = sortG g := up_one (p.trans (sortG_perm g).symm) (sorted_up h) (sortG_up g)
theorem sortG_perm_eq {a b : List Str} (p : a.Perm b) : sortG a = sortG b := up_one (((sortG_perm a).trans p).trans (sortG_perm b).symm) (sortG_up a) (sortG_up b)
theorem sortG_idem (g : List Str) : sortG (sortG g) = sortG g := sortG_perm_eq (sortG_perm g)
end He

/-! != by an own ==; str(x) by an own text -/
namespace He
namespace Own
open PySem PySem.W PySem.Calls PyProof.Rows
section
variable {pr : Program} {wd : World} {A : Around} {E : Value → Shared → Prop} {s : Shared} {K : PySem.W.Frag} {x C f L : Addr} {ox : Obj} {od : Option Obj} {h0 : Heap} {m : Str → Option Value} {b tb : Value}
theorem bound_builtin {M : Model} {nm : Str} {id : String} {args : List Value} {Q : Option Value → Shared → Prop} (X : K.In s.heap) (I : InstAt s.heap x ox C od) (at' : findIn K (.ref C) nm = some (some (.builtin id)))
    (bd : ∀ self, bindSpecial (.builtin id) self = pure (.builtin id, [self])) (go : wpAny M A (call (.builtin id) (.ref x :: args)) (fun v => Q (some v)) E s) : wpAny M A (callSpecialIfBound? (.ref x) nm args) Q E s := by
  simp only [callSpecialIfBound?, bindSpecialIfBound?]
  refine wpAny_holding (wpAny_bind (wpAny_bind (wpAny_bind (I.type.here ((looks_findIn X at').here ?_)))))
  have fin : wpAny M A (call (.builtin id) ([.ref x] ++ args) >>= fun v => pure (some v)) Q E s := wpAny_bind (wpAny_mono go (fun v s' q => wpAny_pure q) fun _ _ q => q)
  refine wpAny_bind (wpAny_askSetting (wpAny_ite ?_))
  split
  · exact wpAny_bind ((Looks.of_pure (bd _)).here (wpAny_pure (by exact fin)))
  · exact wpAny_tryCatch (wpAny_bind ((Looks.of_pure (bd _)).here (wpAny_pure (by exact fin))))
theorem not_eq {Q : Fin → Shared → Prop} (hu : A.units < cLine) (X : K.In s.heap) (I : InstAt s.heap x ox C od) (eqf : findIn K (.ref C) "__eq__" = some (some (.ref f))) (isf : isFn K (.ref f) = true)
    (go : wpAny (model pr wd) A (call (.ref f) [.ref x, b]) (fun v s' => ∃ r, v = .bool r ∧ Q (.done (.ret (.bool (!r)))) s') E s) : wpAny (model pr wd) A (Builtin.«object.__ne__» ⟨[.ref x, b], []⟩) Q E s := by
  unfold Builtin.«object.__ne__»
  refine wpAny_bind (m := slotArgs "__ne__" 1 _) (wpAny_pure ?_)
  refine wpAny_bind (m := cRoomFor _ _) (wpAny_cRoomFor hu ?_)
  refine wpAny_bind (m := callSpecialIfBound? (.ref x) (Str.ofString "__eq__") [b]) (ifBound_K X I eqf isf (wpAny_mono go (fun r s' q => ?_) fun _ _ q => q))
  obtain ⟨r, rfl, q⟩ := q
  exact wpAny_bind (wpAny_truthy_bool (wpAny_pure q))
theorem ne_K {Q : Value → Shared → Prop} (hu : A.units + 1 < cLine) (F : Fr h0 L s.heap m) (X0 : K.In h0) (I : InstAt s.heap x ox C od) (hb : Looks (model pr wd) s.heap (typeOf b) tb) (nf : notFirst K C tb = true)
    (nef : findIn K (.ref C) "__ne__" = some (some (.builtin "object.__ne__"))) (ob : mroIn K C (.type "object") = some true) (eqf : findIn K (.ref C) "__eq__" = some (some (.ref f))) (isf : isFn K (.ref f) = true)
    (go : wpAny (model pr wd) A.in1 (call (.ref f) [.ref x, b]) (fun v s' => ∃ r, v = .bool r ∧ Q (.bool (!r)) s') E s) : wpAny (model pr wd) A (richCompare .NotEq (.ref x) b) Q E s := by
  have X := X0.keeps F.keep
  have one : wpAny (model pr wd) A (tryCompare (.ref x) "__ne__" b) (fun r s' => ∃ v, r = some v ∧ Q v s') E s := by
    unfold tryCompare
    refine wpAny_bind (bound_builtin X I nef PySem.F.slot_object_ne.bind ?_)
    refine wpAny_call (codeAny_call_builtin PySem.F.slot_object_ne.plain PySem.F.cmpEntry_ne (check_slot (i := "object.__ne__") (owner := "object") (n := "__ne__") PySem.F.cmpKind_ne PySem.F.cmpSplit_ne (I.type.andThen (looks_mroIn X ob)) (PySem.F.cmpArgs_ne _ _) ?_))
    refine not_eq (A := A.in1) (by show A.units + 1 < cLine; exact hu) X I eqf isf (wpAny_mono go (fun v s' q => ?_) fun _ _ q => q)
    obtain ⟨r, rfl, q⟩ := q
    exact ⟨r, rfl, wpAny_pure ⟨_, rfl, q⟩⟩
  unfold richCompare
  simp only [oneThing_ref]
  refine wpAny_holding (wpAny_bind (wpAny_cRoomFor (by omega) ?_))
  refine wpAny_bind (I.type.here (wpAny_bind (hb.here ?_)))
  split
  · rename_i q
    have e : subIn K tb (.ref C) = some false := by
      rcases Bool.or_eq_true_iff.mp nf with e | e
      · rw [beq_iff_eq.mp e] at q; simp at q
      · exact beq_iff_eq.mp e
    refine wpAny_bind ((looks_subIn X e).here ?_)
    simp only [Bool.false_eq_true, if_false]
    refine wpAny_bind (wpAny_mono one (fun r s' z => ?_) fun _ _ e => e)
    obtain ⟨v, rfl, q⟩ := z
    exact wpAny_pure q
  · refine wpAny_bind (wpAny_pure ?_)
    simp only [Bool.false_eq_true, if_false]
    refine wpAny_bind (wpAny_mono one (fun r s' z => ?_) fun _ _ e => e)
    obtain ⟨v, rfl, q⟩ := z
    exact wpAny_pure q
end
end Own
end He

namespace He
open PySem PySem.Spec PyProof.Rows L2
/-- what the text says of a class with its own == and its own text -/
structure OwnCmp (K : PySem.W.Frag) (C fE fS : Addr) : Prop where
  ne : PySem.W.findIn K (.ref C) "__ne__" = some (some (.builtin "object.__ne__"))
  ob : PySem.W.mroIn K C (.type "object") = some true
  eq : PySem.W.findIn K (.ref C) "__eq__" = some (some (.ref fE))
  eqf : PySem.W.isFn K (.ref fE) = true
  str : PySem.W.findIn K (.ref C) "__str__" = some (some (.ref fS))
  strf : PySem.W.isFn K (.ref fS) = true
section
variable {X : Cx} {CX : CXT} {n : Nat} {C fE fS : Addr} {sp : Sp} {E : XK}
/-- what follows a call of a def from within a builtin -/
theorem run_in {pins : List (Addr × Obj)} {σ : L2.St} {H : Hp} {s : Shared} {A : Around} {f : Addr} {Q : VK} {us : List Value} {vs : List V} (F : FnR X.prog X.w X.K X.mg X.base CX n f sp) (hr : Room n A) (fr : A.frames = X.A.frames) (hx : Passes CX X E) (I : Inv X pins σ H s) (r : Vals vs us) (h : sp vs H Q E) :
    wpAny (model X.prog X.w) A (call (.ref f) us) (EP X pins σ Q) X.xe s := by
  have e := I.env0
  have e0 : Env0 X.prog X.w X.K X.mg X.base A X.stack s H := ⟨by rw [fr]; exact e.frames, e.mod, e.bs, e.bsz, e.funs, e.frf, e.hok, e.bare⟩
  refine wpAny_call (codeAny_mono (F A X.stack s H us vs Q E hr e0 r h) fun r s' hq => ?_)
  cases r with
  | error er => exact hx pins σ H s er s' I hq
  | ok fl =>
    cases fl with
    | ret u => exact I.after hq
    | next => exact False.elim hq
    | brk => exact False.elim hq
    | cont => exact False.elim hq
def rOwn (C : Addr) (sp : Sp) (E : XK) (neg : Bool) : R2 := fun x y H Q => ∃ a b dx dy fs gs, x = .ref a ∧ y = .ref b ∧ H a = some (.ins C dx fs) ∧ H b = some (.ins C dy gs) ∧ sp [.ref a, .ref b] H (fun v H' => ∃ r, v = .bl r ∧ Q (.bl (if neg then !r else r)) H') E
theorem op_neOwn (c : OwnCmp X.K C fE fS) (F : FnR X.prog X.w X.K X.mg X.base CX n fE sp) (hr : Room (n + 1) X.A) (hx : Passes CX X E) : OpR X (compareOp .NotEq) (rOwn C sp E true) := by
  intro pins s σ H x y v u Q I rx ry h
  obtain ⟨a, b, dx, dy, fs, gs, rfl, rfl, ha, hb, q⟩ := h
  cases rx
  cases ry
  obtain ⟨mA, J, _⟩ := ins_get I.hok ha
  obtain ⟨mB, J', _⟩ := ins_get I.hok hb
  obtain ⟨od, J, _⟩ := J.look
  obtain ⟨od', J', _⟩ := J'.look
  obtain ⟨m, hF⟩ := I.fr
  show wpAny (model X.prog X.w) X.A (richCompare .NotEq (.ref a) (.ref b)) _ _ _
  refine Own.ne_K (tb := .ref C) (by have := hr.un; omega) hF I.ok.mod.kin J J'.type (by simp [PySem.W.notFirst]) c.ne c.ob c.eq c.eqf ?_
  refine wpAny_mono (run_in F hr.in1 rfl (vs := [.ref a, .ref b]) hx I (.cons rfl (.cons rfl .nil)) q) (fun w s' hw => ?_) fun _ _ z => z
  obtain ⟨z, H', I', rz, r, rfl, q2⟩ := hw
  cases rz
  exact ⟨r, rfl, .bl (!r), H', I', rfl, q2⟩
theorem op_eqOwn (c : OwnCmp X.K C fE fS) (F : FnR X.prog X.w X.K X.mg X.base CX n fE sp) (hr : Room (n + 1) X.A) (hx : Passes CX X E) : OpR X (compareOp .Eq) (rOwn C sp E false) := by
  intro pins s σ H x y v u Q I rx ry h
  obtain ⟨a, b, dx, dy, fs, gs, rfl, rfl, ha, hb, q⟩ := h
  cases rx
  cases ry
  obtain ⟨mA, J, _⟩ := ins_get I.hok ha
  obtain ⟨mB, J', _⟩ := ins_get I.hok hb
  obtain ⟨od, J, _⟩ := J.look
  obtain ⟨od', J', _⟩ := J'.look
  obtain ⟨m, hF⟩ := I.fr
  show wpAny (model X.prog X.w) X.A (richCompare .Eq (.ref a) (.ref b)) _ _ _
  refine PySem.W.cmp_K (op := .Eq) (tb := .ref C) (by have := hr.un; omega) hF I.ok.mod.kin J J'.type (by simp [PySem.W.notFirst]) c.eq c.eqf ?_
  refine wpAny_mono (run_in F (hr.mono (Nat.le_succ n)) rfl (vs := [.ref a, .ref b]) hx I (.cons rfl (.cons rfl .nil)) q) (fun w s' hw => ?_) fun _ _ z => z
  obtain ⟨z, H', I', rz, r, rfl, q2⟩ := hw
  cases rz
  exact ⟨.bl r, H', I', rfl, q2⟩
/-- str(x), x of a class with its own text -/
theorem call_strOwn (c : OwnCmp X.K C fE fS) (F : FnR X.prog X.w X.K X.mg X.base CX n fS sp) (hr : Room (n + 2) X.A) (hx : Passes CX X E) :
    CallR X (.type "str") (fun xs H Q => ∃ a dx fs, xs = [.ref a] ∧ H a = some (.ins C dx fs) ∧ sp [.ref a] H (fun v H' => ∃ z, v = .str z ∧ Q (.str z) H') E) := by
  intro pins s σ H xs us Q I r h
  obtain ⟨a, dx, fs, rfl, ha, q⟩ := h
  obtain ⟨u, rfl, ru⟩ := vals1 r
  cases ru
  obtain ⟨mA, J, _⟩ := ins_get I.hok ha
  obtain ⟨od, J, _⟩ := J.look
  refine PySem.W.kso_call (by have := hr.un; show X.A.units + 1 + 1 < _; omega) I.kIn J c.str c.strf ?_
  refine wpAny_mono (run_in F hr.in1.in1 rfl (vs := [.ref a]) hx I (.cons rfl .nil) q) (fun w s' hw => ?_) fun _ _ z => z
  obtain ⟨z, H', I', rz, y, rfl, q2⟩ := hw
  obtain ⟨t, rfl⟩ := rz
  exact ⟨.str y, H', I', ⟨t, rfl⟩, q2⟩
end
end He

namespace He
open PySem PySem.Spec PyProof.Rows L2
section
variable {P : Program} {w : World} {K : PySem.W.Frag} {mg : Str → Option Value} {base : Heap}

/-! ### wills as lists of lists, and as the program keeps them -/
def adGrp (g : List Str) : AD := .lst (g.map AD.str)
def adSh (s : Sh) : AD := .tup [.int s.1, .lst (s.2.map adGrp)]
def adWill (shs : List Sh) : AD := .lst (shs.map adSh)
def nGrp (g : List Str) : PyData := .tuple ((sortG g).map PyData.str)
def nSh (s : Sh) : PyData := .tuple [.int s.1, .tuple (s.2.map nGrp)]
def nWill (shs : List Sh) : PyData := .tuple (shs.map nSh)
theorem adA_strs (g : List Str) : adA (g.map PyData.str) = g.map AD.str := by
  rw [adA_map, List.map_map]
  rfl
theorem ad_grp (g : List Str) : ad (dGrp g) = adGrp g := congrArg AD.lst (adA_strs g)
theorem ad_sh (s : Sh) : ad (dSh s) = adSh s := by
  show AD.tup [.int s.1, .lst (adA (s.2.map dGrp))] = _
  rw [adA_map, List.map_map]
  unfold adSh
  congr 4
  exact List.map_congr_left fun g _ => ad_grp g
theorem adA_shs (shs : List Sh) : adA (shs.map dSh) = shs.map adSh := by
  rw [adA_map, List.map_map]
  exact List.map_congr_left fun s _ => ad_sh s
theorem avA_strs {H : Hp} {vs : List V} {g : List Str} (h : AvAll K H vs (g.map AD.str)) : vs = g.map V.str := by
  have e : strsA (g.map AD.str) = some g := by
    clear h
    induction g with
    | nil => rfl
    | cons x g ih =>
      show (strsA (g.map AD.str)).map (x :: ·) = _
      rw [ih]
      rfl
  exact av_strs h e
theorem dp_list {H : Hp} {ys : List V} {ds : List PyData} (hl : ys.length = ds.length) (h : ∀ (i : Nat) (y : V), ys[i]? = some y → ∃ d, ds[i]? = some d ∧ Dp K H y d) : DpAll K H ys ds := by
  induction ys generalizing ds with
  | nil =>
    cases ds with
    | nil => exact .nil
    | cons _ _ => simp at hl
  | cons y ys ih =>
    cases ds with
    | nil => simp at hl
    | cons d ds =>
      obtain ⟨d', e, hd⟩ := h 0 y rfl
      cases Option.some.inj e
      exact .cons hd (ih (by simpa using hl) fun i z e => h (i + 1) z e)
def rTupOf (K : PySem.W.Frag) : List V → Hp → VK → Prop := fun xs H Q => ∃ p ys, xs = [.ref p] ∧ ((SqL K H p ys ∧ ∀ l, H l = none → Q (.ref l) (upd H l (.tup ys))) ∨ (SqT K H p ys ∧ Q (.ref p) H))
theorem cr_tup {X : Cx} : CallR X (.type "tuple") (rTupOf X.K) := call_tuple_of
def rLenL (K : PySem.W.Frag) : List V → Hp → VK → Prop := fun xs H Q => ∃ p ys, xs = [.ref p] ∧ SqL K H p ys ∧ Q (.int ys.length) H
/-- what has come since -/
def news (H H' : Hp) : Hp := fun b => match H b with
  | some _ => none
  | none => H' b
theorem news_at {H H' : Hp} {b : Addr} (h : H b = none) : news H H' b = H' b := by
  unfold news
  rw [h]
theorem news_get {H H' : Hp} {b : Addr} {o : HO} (h : news H H' b = some o) : H b = none ∧ H' b = some o := by
  unfold news at h
  split at h
  · cases h
  · rename_i e
    exact ⟨e, h⟩
theorem news_le {H H' : Hp} : Same (news H H') H' := fun b o e => (news_get e).2
theorem news_mono {H H1 H2 : Hp} (s : Same H1 H2) : Same (news H H1) (news H H2) := fun b o e => by
  obtain ⟨e1, e2⟩ := news_get e
  rw [news_at e1]
  exact s _ _ e2
theorem news_up {H0 H H' : Hp} (s : Same H0 H) : Same (news H H') (news H0 H') := fun b o e => by
  obtain ⟨e1, e2⟩ := news_get e
  rw [news_at (s.free e1)]
  exact e2
theorem news_hide {D : Addr} {H H' : Hp} (h : H D ≠ none) : Same (news H H') (news H (hide D H')) := fun b o e => by
  obtain ⟨e1, e2⟩ := news_get e
  have hb : b ≠ D := fun z => h (by rw [← z]; exact e1)
  rw [news_at e1, hide_ne hb]
  exact e2
theorem news_hide2 {D : Addr} {H H' : Hp} : Same (news H (hide D H')) (news H H') := news_mono hide_le
/-- groups, each sorted -/
def spLots (K : PySem.W.Frag) : Sp := fun vs H Q _ => ∃ (v : V) (gs : List (List Str)), vs = [v] ∧ Av K H v (.lst (gs.map adGrp)) ∧ gs.length < 1000 ∧ (∀ g ∈ gs, g.length < 64) ∧
  ∀ r H', Same H H' → Dp K (news H H') (.ref r) (.tuple (gs.map nGrp)) → Q (.ref r) H'
theorem ok_lots (T : TxtG K mg) : FnOk P w K mg base CX0 1 T.dLots.f T.dLots.fd ["groups"] (spLots K) := by
  refine T.dLots.F.ok scDLots (fun vs H Q E h => ?_) (fun cdv A outer s H vs Q E hr h => ?_)
  · obtain ⟨v, gs, rfl, _⟩ := h
    rfl
  · obtain ⟨v, gs, rfl, hv, hn, hg, q⟩ := h
    refine ⟨_, (pss_one (ps_ret (pe_callTy call_tuple_of (by rfl) T.z_tuple (show bootBuiltins "tuple" = some (.type "tuple") by decide +kernel) (pa_cons (pe_lc (own := [("group", 1)]) (g := (gName 1)) (tt := tYes) rfl scDLots.nd (pi_seq (pv 0)) (blkOk_by (N := ["groups", "group"]) (sc := defScope sDLots) (by decide +kernel)) (fun _ _ _ _ _ => (pg_name (i := 1) scDLots.nd rfl (.inl rfl))) (fun _ _ _ _ _ => pts_nil) (fun _ _ _ _ _ => (pe_callTy (show CallR _ (.type "tuple") (rTupOf K) from cr_tup) (by rfl) T.z_tuple (show bootBuiltins "tuple" = some (.type "tuple") by decide +kernel) (pa_cons (pe_callB (show CallR _ (.builtin "sorted") (rSortedS K) from cr_sortedS) (by rfl) T.z_sorted (show bootBuiltins "sorted" = some (.builtin "sorted") by decide +kernel) (pa_cons (pv 1) pa_nil)) pa_nil)))) pa_nil)))), ?_⟩
    simp only [and_assoc, tSeq, tAsg, tOp, tUn, rI, rI0, rU, tVar, tC, gName, L2.start, tIfS, tTest, tB, tCB, tCons, tNil, tIf, tRet, tRetN, tLst, tTup, tNext, tDrop, tNot, tNotV, tAnd, tOr, tAndV, tOrV, tPar, tAug, ipI, rEq, rNe, gSub, rSetL, rIxL, rIxT, tBM, tBM0, rAppend, rPopAt, gTup, gCons, gNil, tCall, tSl, tPart, tNoPart, rSlL, rCat, rEqD, rNeD, rIn, scal, List.map_cons, List.map_nil, List.length_cons, List.length_nil, List.length_map, List.cons_append, List.nil_append, List.append_nil, List.replicate, List.getElem?_cons_zero, List.getElem?_cons_succ, List.set_cons_zero, List.set_cons_succ, Option.some.injEq, exists_eq_left', exists_eq_left, exists_eq_right, exists_and_left, exists_and_right, V.int.injEq, V.ref.injEq, V.str.injEq, V.bl.injEq, reduceCtorEq, false_and, and_false, exists_false, or_false, false_or, true_and, and_true, List.cons.injEq, decide_eq_true_eq, cxOf, if_true, if_false, Bool.false_eq_true, Nat.reduceAdd, Nat.reduceSub, Nat.zero_add, Nat.add_sub_cancel_left, Nat.add_sub_cancel, Nat.sub_self, sFld, tFld, tFor_eq, tLc_eq, iRng1, iRng2, iList, iTup, iEnum, rIsi, rIsiT, iSeq]
    obtain ⟨a, xs, rfl, hs, ha⟩ := av_items hv rfl
    obtain ⟨J, hJ⟩ := hs.it
    have hxl : xs.length = gs.length := by rw [avA_len ha, List.length_map]
    obtain ⟨H0, hH0⟩ : ∃ H0, H0 = H := ⟨H, rfl⟩
    refine ⟨a, rfl, xs, J, hJ, fun D nD => ?_⟩
    refine lg_pure (fun i y H => ∃ g r, gs[i]? = some g ∧ y = .ref r ∧ H0 r = none ∧ H r = some (.tup ((sortG g).map V.str))) hJ (small1000 (by omega)) nD (fun i y H H' s h => let ⟨g, r, e1, e2, e3, e4⟩ := h; ⟨g, r, e1, e2, e3, s _ _ e4⟩) (fun i x H1 Φ hx s1 hD hΦ => ?_) (fun ys H1 s1 eD hl2 hY => ?_)
    · simp only [and_assoc, tSeq, tAsg, tOp, tUn, rI, rI0, rU, tVar, tC, gName, L2.start, tIfS, tTest, tB, tCB, tCons, tNil, tIf, tRet, tRetN, tLst, tTup, tNext, tDrop, tNot, tNotV, tAnd, tOr, tAndV, tOrV, tPar, tAug, ipI, rEq, rNe, gSub, rSetL, rIxL, rIxT, tBM, tBM0, rAppend, rPopAt, gTup, gCons, gNil, tCall, tSl, tPart, tNoPart, rSlL, rCat, rEqD, rNeD, rIn, scal, List.map_cons, List.map_nil, List.length_cons, List.length_nil, List.length_map, List.cons_append, List.nil_append, List.append_nil, List.replicate, List.getElem?_cons_zero, List.getElem?_cons_succ, List.set_cons_zero, List.set_cons_succ, Option.some.injEq, exists_eq_left', exists_eq_left, exists_eq_right, exists_and_left, exists_and_right, V.int.injEq, V.ref.injEq, V.str.injEq, V.bl.injEq, reduceCtorEq, false_and, and_false, exists_false, or_false, false_or, true_and, and_true, List.cons.injEq, decide_eq_true_eq, cxOf, if_true, if_false, Bool.false_eq_true, Nat.reduceAdd, Nat.reduceSub, Nat.zero_add, Nat.add_sub_cancel_left, Nat.add_sub_cancel, Nat.sub_self, sFld, tFld, tFor_eq, tLc_eq, iRng1, iRng2, iList, iTup, iEnum, rIsi, rIsiT, wipe, rSortedS]
      obtain ⟨d, ed, hx2⟩ := avA_get (avA_mono s1 _ _ ha) hx
      rw [List.getElem?_map] at ed
      obtain ⟨g, eg, rfl⟩ := Option.map_eq_some_iff.mp ed
      have hgm : g ∈ gs := List.mem_of_getElem? eg
      cases hx2 with
      | @lst b zs _ hb hzs =>
        have ez := avA_strs hzs
        subst ez
        refine ⟨b, rfl, g, hb, hg g hgm, fun ys p pm so np => ?_⟩
        simp only [and_assoc, tSeq, tAsg, tOp, tUn, rI, rI0, rU, tVar, tC, gName, L2.start, tIfS, tTest, tB, tCB, tCons, tNil, tIf, tRet, tRetN, tLst, tTup, tNext, tDrop, tNot, tNotV, tAnd, tOr, tAndV, tOrV, tPar, tAug, ipI, rEq, rNe, gSub, rSetL, rIxL, rIxT, tBM, tBM0, rAppend, rPopAt, gTup, gCons, gNil, tCall, tSl, tPart, tNoPart, rSlL, rCat, rEqD, rNeD, rIn, scal, List.map_cons, List.map_nil, List.length_cons, List.length_nil, List.length_map, List.cons_append, List.nil_append, List.append_nil, List.replicate, List.getElem?_cons_zero, List.getElem?_cons_succ, List.set_cons_zero, List.set_cons_succ, Option.some.injEq, exists_eq_left', exists_eq_left, exists_eq_right, exists_and_left, exists_and_right, V.int.injEq, V.ref.injEq, V.str.injEq, V.bl.injEq, reduceCtorEq, false_and, and_false, exists_false, or_false, false_or, true_and, and_true, List.cons.injEq, decide_eq_true_eq, cxOf, if_true, if_false, Bool.false_eq_true, Nat.reduceAdd, Nat.reduceSub, Nat.zero_add, Nat.add_sub_cancel_left, Nat.add_sub_cancel, Nat.sub_self, sFld, tFld, tFor_eq, tLc_eq, iRng1, iRng2, iList, iTup, iEnum, rIsi, rIsiT, rTupOf]
        have e := sortG_of pm so
        subst e
        refine ⟨_, .inl ⟨sqL_of upd_same, fun l nl => ?_⟩⟩
        have lD : l ≠ D := fun z => by
          rw [z] at nl
          by_cases h : D = p
          · rw [h, upd_same] at nl; cases nl
          · rw [upd_ne h] at nl; exact hD nl
        refine hΦ _ _ ((same_upd np).trans (same_upd nl)) ⟨g, l, eg, rfl, hH0 ▸ (s1.trans (same_upd np)).free nl, ?_⟩
        rw [hide_ne lD, upd_same]
    · refine ⟨ys, .inl ⟨sqL_of eD, fun l nl => ?_⟩⟩
      subst hH0
      have hds : DpAll K (news H0 H1) ys (gs.map nGrp) := dp_list (by rw [hl2, List.length_map]; exact hxl) fun i y e => by
        obtain ⟨g, r, eg, rfl, nr, er⟩ := hY i y e
        exact ⟨nGrp g, by rw [List.getElem?_map, eg]; rfl, .tup (sqT_of (by rw [news_at nr]; exact hide_le _ _ er)) (dpA_strs _)⟩
      exact q l _ (s1.trans (same_upd nl)) (.tup (sqT_of (by rw [news_at (s1.free nl), upd_same])) (dpA_mono (news_mono (same_upd nl)) _ _ hds))

end
end He

namespace He
open PySem PySem.Spec PyProof.Rows L2
section
variable {P : Program} {w : World} {K : PySem.W.Frag} {mg : Str → Option Value} {base : Heap}

/-! ### the class Will -/
structure TxtW (K : PySem.W.Frag) (mg : Str → Option Value) where
  t : TxtG K mg
  cl : Cls K t.cWill
  nS : NoAttr K t.cWill "shares"
  iF : Addr
  iD : FuncData
  iFn : Fun K "__init__" "Will.__init__" sDWillInit iF iD
  iB : Binds K iD ["self", "shares"] []
  iM : Mk K t.cWill iF
  eF : Addr
  eD : FuncData
  eFn : Fun K "__eq__" "Will.__eq__" sDWillEq eF eD
  eB : Binds K eD ["self", "other"] []
  sF : Addr
  sD : FuncData
  sFn : Fun K "__str__" "Will.__str__" sDWillStr sF sD
  sB : Binds K sD ["self"] []
  oc : OwnCmp K t.cWill eF sF
  rP : Addr
  rC : Value
  rF : Addr
  rD : FuncData
  rFn : Fun K "read" "Will.read" sDWillRead rF rD
  rB : Binds K rD ["cls", "text"] []
  rR : ClX.CRead K t.cWill rC
  rM : ClX.CMet K t.cWill rC "read" rP rF
  ty : ∀ {H : Hp} {a dx : Addr} {fs : List (Str × V)}, H a = some (.ins t.cWill dx fs) → TyOf K H (.ref a) (.ref t.cWill)
  is : PySem.W.kitOne K (.ref t.cWill) (.ref t.cWill) = some true
structure WOk (shs : List Sh) : Prop where
  ne : shs ≠ []
  l : shs.length ≤ 40
  ok : ∀ s ∈ shs, ShOk s ∧ s.2.length ≤ 40 ∧ ∀ g ∈ s.2, g.length ≤ 40
  w : ∀ s ∈ shs, s.1 ≤ 999999999
theorem WillOk.wok {ns : List Str} {shs : List Sh} (h : WillOk ns shs) : WOk shs := ⟨h.ne, by have := h.l3; omega, fun s hs => ⟨(h.ok s hs).1, by have := (h.ok s hs).2.1.l; omega, fun g hg => by have := (h.ok s hs).2.1.g g hg; omega⟩, fun s hs => by have := (h.ok s hs).2.1.w; omega⟩
theorem strsA_map (g : List Str) : strsA (g.map AD.str) = some g := by
  induction g with
  | nil => rfl
  | cons x g ih =>
    show (strsA (g.map AD.str)).map (x :: ·) = _
    rw [ih]
    rfl
theorem grp_ad {g : List Str} (h : GrpOk g) : isGrpA (adGrp g) = true := by
  unfold isGrpA grpA adGrp
  show Option.isSome (if (g.map AD.str).isEmpty then none else if (g.map AD.str).all isNameA then _ else none) = true
  rw [strsA_map]
  have h1 : (g.map AD.str).isEmpty = false := by
    cases g with
    | nil => exact absurd rfl h.ne
    | cons _ _ => rfl
  have h2 : (g.map AD.str).all isNameA = true := by
    rw [List.all_map]
    exact List.all_eq_true.mpr fun x hx => h.nm x hx
  rw [h1, h2]
  simp [h.nd]
theorem sh_ad {s : Sh} (h : ShOk s) : isShA (adSh s) = true := by
  show (decide (1 ≤ s.1) && isGrpsA (.lst (s.2.map adGrp))) = true
  rw [decide_eq_true h.w1]
  show (s.2.map adGrp).all isGrpA = true
  rw [List.all_map]
  exact List.all_eq_true.mpr fun g hg => grp_ad (h.gs g hg)
theorem will_ad {shs : List Sh} (h : WOk shs) : isWillA (adWill shs) = true := by
  show (!(shs.map adSh).isEmpty && (shs.map adSh).all isShA) = true
  have h1 : (shs.map adSh).isEmpty = false := by
    have := h.ne
    cases shs with
    | nil => exact absurd rfl this
    | cons _ _ => rfl
  rw [h1, List.all_map]
  exact List.all_eq_true.mpr fun s hs => sh_ad (h.ok s hs).1
theorem adOkA_of {ds : List AD} (h : ∀ d ∈ ds, AdOk K d) : AdOkA K ds := by
  induction ds with
  | nil => trivial
  | cons d ds ih => exact ⟨h d List.mem_cons_self, ih fun e he => h e (List.mem_cons_of_mem _ he)⟩
theorem name_len {x : Str} (h : nameB x = true) : x.length ≤ 5 := by
  unfold nameB at h
  simp only [Bool.and_eq_true, decide_eq_true_eq] at h
  exact h.1.1.2
theorem ok_grp {g : List Str} (h : GrpOk g) (hl : g.length ≤ 40) : AdOk K (adGrp g) := by
  refine ⟨by rw [List.length_map]; omega, adOkA_of fun d hd => ?_⟩
  obtain ⟨x, hx, rfl⟩ := List.mem_map.mp hd
  exact Nat.le_trans (name_len (h.nm x hx)) (by decide)
theorem adok_will {shs : List Sh} (h : WOk shs) : AdOk K (adWill shs) := by
  refine ⟨by rw [List.length_map]; have := h.l; omega, adOkA_of fun d hd => ?_⟩
  obtain ⟨s, hs, rfl⟩ := List.mem_map.mp hd
  obtain ⟨h1, h2, h3⟩ := h.ok s hs
  refine ⟨by show 2 < 4000; decide, trivial, ⟨by rw [List.length_map]; omega, adOkA_of fun e he => ?_⟩, trivial⟩
  obtain ⟨g, hg, rfl⟩ := List.mem_map.mp he
  exact ok_grp (h1.gs g hg) (h3 g hg)
/-- a will of the program at x -/
def WillAt (K : PySem.W.Frag) (C : Addr) (H : Hp) (x : Addr) (shs : List Sh) : Prop := ∃ dx t, H x = some (.ins C dx [("shares", .ref t)]) ∧ Dp K H (.ref t) (nWill shs)
theorem WillAt.mono {C : Addr} {H H' : Hp} {x : Addr} {shs : List Sh} (s : Same H H') (h : WillAt K C H x shs) : WillAt K C H' x shs := by
  obtain ⟨dx, t, e, d⟩ := h
  exact ⟨dx, t, s _ _ e, dp_mono s _ _ d⟩
def spWInit (K : PySem.W.Frag) (C : Addr) : Sp := fun vs H Q _ => ∃ (x dx : Addr) (v : V) (shs : List Sh), vs = [.ref x, v] ∧ H x = some (.ins C dx []) ∧ Av K H v (adWill shs) ∧ WOk shs ∧
  ∀ t H', (∀ b o, b ≠ x → H b = some o → H' b = some o) → H' x = some (.ins C dx [("shares", .ref t)]) → Dp K (news H H') (.ref t) (nWill shs) → Q .non H'
theorem ok_winit (W : TxtW K mg) : FnOk P w K mg base CX0 5 W.iF W.iD ["self", "shares"] (spWInit K W.t.cWill) := by
  refine W.iFn.ok scDWillInit (fun vs H Q E h => ?_) (fun cdv A outer s H vs Q E hr h => ?_)
  · obtain ⟨x, dx, v, shs, rfl, _⟩ := h
    rfl
  · obtain ⟨x, dx, v, shs, rfl, hx, hv, hw, q⟩ := h
    refine ⟨_, (pss_cons (ps_if (pt_not (pt_val (pe_call (ok_areshares W.t) (hr.mono (by decide)) (by rfl) W.t.dAreShares.g W.t.dAreShares.F.kp W.t.dAreShares.b .nil pass0 (pa_cons (pv 1) pa_nil))))
      (pss_one ps_never)
      pss_nil)
      (pss_one (ps_fld (pv 0) (pe_callTy call_tuple_of (by rfl) W.t.z_tuple (show bootBuiltins "tuple" = some (.type "tuple") by decide +kernel) (pa_cons (pe_lc (own := [("weight", 2), ("groups", 3)]) (g := (gTup K 2 (gCons (gName 2) (gCons (gName 3) gNil)))) (tt := tYes) rfl scDWillInit.nd (pi_seq (pv 1)) (blkOk_by (N := ["self", "shares", "weight", "groups"]) (sc := defScope sDWillInit) (by decide +kernel)) (fun _ _ _ _ _ => (pg_tup (n := 2) rfl (pgs_cons (pg_name (i := 2) scDWillInit.nd rfl (.inl rfl)) (pgs_cons (pg_name (i := 3) scDWillInit.nd rfl (.inl rfl)) pgs_nil)))) (fun _ _ _ _ _ => pts_nil) (fun _ _ _ _ _ => (pe_tup (pa_cons (pv 2) (pa_cons (pe_call (ok_lots W.t) (hr.mono (by decide)) (by rfl) W.t.dLots.g W.t.dLots.F.kp W.t.dLots.b .nil pass0 (pa_cons (pv 3) pa_nil)) pa_nil))))) pa_nil)) rfl))), ?_⟩
    simp only [and_assoc, tSeq, tAsg, tOp, tUn, rI, rI0, rU, tVar, tC, gName, L2.start, tIfS, tTest, tB, tCB, tCons, tNil, tIf, tRet, tRetN, tLst, tTup, tNext, tDrop, tNot, tNotV, tAnd, tOr, tAndV, tOrV, tPar, tAug, ipI, rEq, rNe, gSub, rSetL, rIxL, rIxT, tBM, tBM0, rAppend, rPopAt, gTup, gCons, gNil, tCall, tSl, tPart, tNoPart, rSlL, rCat, rEqD, rNeD, rIn, scal, List.map_cons, List.map_nil, List.length_cons, List.length_nil, List.length_map, List.cons_append, List.nil_append, List.append_nil, List.replicate, List.getElem?_cons_zero, List.getElem?_cons_succ, List.set_cons_zero, List.set_cons_succ, Option.some.injEq, exists_eq_left', exists_eq_left, exists_eq_right, exists_and_left, exists_and_right, V.int.injEq, V.ref.injEq, V.str.injEq, V.bl.injEq, reduceCtorEq, false_and, and_false, exists_false, or_false, false_or, true_and, and_true, List.cons.injEq, decide_eq_true_eq, cxOf, if_true, if_false, Bool.false_eq_true, Nat.reduceAdd, Nat.reduceSub, Nat.zero_add, Nat.add_sub_cancel_left, Nat.add_sub_cancel, Nat.sub_self, sFld, tFld, tFor_eq, tLc_eq, iRng1, iRng2, iList, iTup, iEnum, rIsi, rIsiT, iSeq, spIs, spLots]
    refine ⟨adWill shs, hv, adok_will hw, fun H1 s1 => ?_⟩
    rw [will_ad hw]
    simp only [and_assoc, tSeq, tAsg, tOp, tUn, rI, rI0, rU, tVar, tC, gName, L2.start, tIfS, tTest, tB, tCB, tCons, tNil, tIf, tRet, tRetN, tLst, tTup, tNext, tDrop, tNot, tNotV, tAnd, tOr, tAndV, tOrV, tPar, tAug, ipI, rEq, rNe, gSub, rSetL, rIxL, rIxT, tBM, tBM0, rAppend, rPopAt, gTup, gCons, gNil, tCall, tSl, tPart, tNoPart, rSlL, rCat, rEqD, rNeD, rIn, scal, List.map_cons, List.map_nil, List.length_cons, List.length_nil, List.length_map, List.cons_append, List.nil_append, List.append_nil, List.replicate, List.getElem?_cons_zero, List.getElem?_cons_succ, List.set_cons_zero, List.set_cons_succ, Option.some.injEq, exists_eq_left', exists_eq_left, exists_eq_right, exists_and_left, exists_and_right, V.int.injEq, V.ref.injEq, V.str.injEq, V.bl.injEq, reduceCtorEq, false_and, and_false, exists_false, or_false, false_or, true_and, and_true, List.cons.injEq, decide_eq_true_eq, cxOf, if_true, if_false, Bool.false_eq_true, Nat.reduceAdd, Nat.reduceSub, Nat.zero_add, Nat.add_sub_cancel_left, Nat.add_sub_cancel, Nat.sub_self, sFld, tFld, tFor_eq, tLc_eq, iRng1, iRng2, iList, iTup, iEnum, rIsi, rIsiT, iSeq, Bool.not_true]
    obtain ⟨a, xs, rfl, hs, ha⟩ := av_items hv rfl
    obtain ⟨J, hJ⟩ := (hs.mono s1).it
    have hxl : xs.length = shs.length := by rw [avA_len ha, List.length_map]
    have hlt := hw.l
    obtain ⟨H0, hH0⟩ : ∃ H0, H0 = H := ⟨H, rfl⟩
    refine ⟨a, rfl, xs, J, hJ, fun D nD => ?_⟩
    refine lg_pure (fun i y H => ∃ s, shs[i]? = some s ∧ Dp K (news H0 H) y (nSh s)) hJ (small1000 (by omega)) nD (fun i y H H' s h => let ⟨g, e1, e2⟩ := h; ⟨g, e1, dp_mono (news_mono s) _ _ e2⟩) (fun i x H2 Φ hx s2 hD hΦ => ?_) (fun ys H2 s2 eD hl2 hY => ?_)
    · simp only [and_assoc, tSeq, tAsg, tOp, tUn, rI, rI0, rU, tVar, tC, gName, L2.start, tIfS, tTest, tB, tCB, tCons, tNil, tIf, tRet, tRetN, tLst, tTup, tNext, tDrop, tNot, tNotV, tAnd, tOr, tAndV, tOrV, tPar, tAug, ipI, rEq, rNe, gSub, rSetL, rIxL, rIxT, tBM, tBM0, rAppend, rPopAt, gTup, gCons, gNil, tCall, tSl, tPart, tNoPart, rSlL, rCat, rEqD, rNeD, rIn, scal, List.map_cons, List.map_nil, List.length_cons, List.length_nil, List.length_map, List.cons_append, List.nil_append, List.append_nil, List.replicate, List.getElem?_cons_zero, List.getElem?_cons_succ, List.set_cons_zero, List.set_cons_succ, Option.some.injEq, exists_eq_left', exists_eq_left, exists_eq_right, exists_and_left, exists_and_right, V.int.injEq, V.ref.injEq, V.str.injEq, V.bl.injEq, reduceCtorEq, false_and, and_false, exists_false, or_false, false_or, true_and, and_true, List.cons.injEq, decide_eq_true_eq, cxOf, if_true, if_false, Bool.false_eq_true, Nat.reduceAdd, Nat.reduceSub, Nat.zero_add, Nat.add_sub_cancel_left, Nat.add_sub_cancel, Nat.sub_self, sFld, tFld, tFor_eq, tLc_eq, iRng1, iRng2, iList, iTup, iEnum, rIsi, rIsiT, iSeq, wipe, spLots]
      obtain ⟨d, ed, hx2⟩ := avA_get (avA_mono (s1.trans s2) _ _ ha) hx
      rw [List.getElem?_map] at ed
      obtain ⟨sh, eg, rfl⟩ := Option.map_eq_some_iff.mp ed
      obtain ⟨hok, h1, h2⟩ := hw.ok sh (List.mem_of_getElem? eg)
      cases hx2 with
      | @tup b zs _ hb hzs =>
        cases hzs with
        | cons w1 r1 =>
          cases w1
          cases r1 with
          | @cons v2 _ _ _ w2 r2 =>
            cases r2
            refine ⟨b, rfl, _, hb, rfl, _, _, rfl, v2, _, rfl, rfl, sh.2, w2, by omega, fun g hg => by have := h2 g hg; omega, fun r H3 s3 hr3 => ⟨by decide, fun p np => ?_⟩⟩
            have pD : p ≠ D := fun z => by
              cases e : H2 D with
              | none => exact hD e
              | some o => rw [z, s3 _ _ e] at np; cases np
            have s02 : Same H0 H2 := hH0 ▸ (s1.trans s2)
            refine hΦ _ _ (s3.trans (same_upd np)) ⟨sh, eg, ?_⟩
            have np0 : H0 p = none := s02.free (s3.free np)
            refine .tup (sqT_of (by rw [news_at np0, hide_ne pD, upd_same])) (.cons (.int _) (.cons ?_ .nil))
            exact dp_mono ((news_hide hD).trans ((news_up s02).trans (news_mono (hide_same (same_upd np))))) _ _ hr3
    · subst hH0
      have s02 : Same H0 H2 := s1.trans s2
      refine ⟨ys, .inl ⟨sqL_of eD, fun l nl => ?_⟩⟩
      have hds : DpAll K (news H0 H2) ys (shs.map nSh) := dp_list (by rw [hl2, List.length_map]; exact hxl) fun i y e => by
        obtain ⟨g, eg, er⟩ := hY i y e
        exact ⟨nSh g, by rw [List.getElem?_map, eg]; rfl, dp_mono news_hide2 _ _ er⟩
      have hx2 := same_upd (o := .tup ys) nl _ _ (s02 _ _ hx)
      have lx : l ≠ x := fun z => by rw [z, s02 _ _ hx] at nl; cases nl
      refine ⟨_, _, _, hx2, W.cl, W.nS, by show 0 < 1000; decide, q l _ (fun b o hb e => ?_) upd_same ?_⟩
      · rw [upd_ne hb]
        exact same_upd nl _ _ (s02 _ _ e)
      · have nl0 := s02.free nl
        refine .tup (sqT_of (by rw [news_at nl0, upd_ne lx, upd_same])) (dpA_mono (fun b o e => ?_) _ _ hds)
        obtain ⟨e1, e2⟩ := news_get e
        have bx : b ≠ x := fun z => by rw [z, hx] at e1; cases e1
        rw [news_at e1, upd_ne bx]
        exact same_upd nl _ _ e2

end
end He

/-! enumerate(t), t a tuple -/
namespace EnT
open PySem PySem.Spec PyProof.Rows
open PySem.Sem (wp)
open PySem.AutoSeq1 (wpAny_loadPart')
theorem meets_enumT (l : Addr) (items : Array Value) (n : Nat) (dct : Option Addr) (sl : Array (Option Value)) :
    Meets (Builtin.«enumerate.__new__» ⟨[.type "enumerate", .ref l], []⟩) (fun _ R s => s.heap.get? l = some { cls := .type "tuple", dict := dct, data := .seq items n, slots := sl } ∧
      R (.ok (.ret (.ref (s.heap.push { cls := .type "tuple_iterator", data := .fields #[.ref l, .int 0 0] }).objs.size)))
        { s with heap := (s.heap.push { cls := .type "tuple_iterator", data := .fields #[.ref l, .int 0 0] }).push { cls := .type "enumerate", data := .fields #[.none, .bool false, .ref s.heap.objs.size, rawInt 0, .none, .none] } }) :=
  .of_wp fun prog w A R s h => by
    obtain ⟨hp, g, d, tk, os⟩ := s; obtain ⟨hl, h⟩ := h; have hsub := sub_enumerate
    have hL : Heap.IsTuple (Shared.heap ⟨hp, g, d, tk, os⟩) l items := ⟨_, hl, rfl, n, rfl⟩
    wp_walk using wpAny_loadPart' hl; refine wpAny_stack_any fun st => wpAny_pure ?_
    split
    · rename_i c _ _ _ _ _; cases (c == Value.type "enumerate")
      · wp_walk using wpAny_loadPart' hl, wpAny_pyIter_tuple hL; exact ⟨_, rfl, h⟩
      · wp_walk using wpAny_loadPart' hl, wpAny_pyIter_tuple hL; exact ⟨_, rfl, h⟩
    · wp_walk using wpAny_loadPart' hl, wpAny_pyIter_tuple hL; exact ⟨_, rfl, h⟩
section
variable {prog : Program} {w : World} {A : Around} {E : Value → Shared → Prop} {s : Shared}
theorem call_enumT {l : Addr} {items : Array Value} {Q : Value → Shared → Prop} (hL : s.heap.IsTuple l items)
    (h : ∀ h', IsEnum h' (s.heap.objs.size + 1) s.heap.objs.size 0 .none → h'.IsTupleIter s.heap.objs.size l 0 → h'.objs.size = s.heap.objs.size + 2 →
      (∀ b o, s.heap.get? b = some o → h'.get? b = some o) → Q (.ref (s.heap.objs.size + 1)) { s with heap := h' }) : wpAny (model prog w) A (call (.type "enumerate") [.ref l]) Q E s := by
  obtain ⟨⟨c, dct, dt, sl⟩, hl, hc, n, hd⟩ := hL
  replace hc : c = .type "tuple" := hc
  replace hd : dt = .seq items n := hd
  subst hc hd
  refine callType_new F.called_enumerate (by decide) (F.typeCall_enumerate_1 _) (F.newCall_enumerate_1 _) (fun obj => F.args_object_init_2 obj _) F.entry_enumerate_new (meets_enumT l items n dct sl) ⟨hl, ?_⟩
  have hz : (s.heap.push { cls := .type "tuple_iterator", data := .fields #[.ref l, .int 0 0] }).objs.size = s.heap.objs.size + 1 := Heap.size_push ..
  show _ ∧ _
  rw [hz]
  have he : IsEnum ((s.heap.push { cls := .type "tuple_iterator", data := .fields #[.ref l, .int 0 0] }).push { cls := .type "enumerate", data := .fields #[.none, .bool false, .ref s.heap.objs.size, rawInt 0, .none, .none] }) (s.heap.objs.size + 1) s.heap.objs.size 0 .none := by
    have := Heap.get?_push_size (s.heap.push { cls := .type "tuple_iterator", data := .fields #[.ref l, .int 0 0] }) (o := { cls := .type "enumerate", data := .fields #[.none, .bool false, .ref s.heap.objs.size, rawInt 0, .none, .none] }) rfl
    rw [hz] at this; exact this
  exact ⟨⟨_, he, rfl⟩, h _ he ⟨_, Heap.get?_push_of_some _ (Heap.get?_push_size _ rfl), rfl, rfl⟩ (by rw [Heap.size_push, hz]) fun b o x => Heap.get?_push_of_some _ (Heap.get?_push_of_some _ x)⟩
theorem next_endT {e it l : Addr} {i : Nat} {items : Array Value} {old : Value} {Q : Option Value → Shared → Prop} (hh : A.handled = none) (he : IsEnum s.heap e it i old) (hit : s.heap.IsTupleIter it l i) (hl : s.heap.IsTuple l items) (hx : items[i]? = none)
    (hQ : ∀ h', Heap.ExtBut it s.heap h' → Q none { s with heap := h' }) : wpAny (model prog w) A (pyNext (.ref e)) Q E s := by
  have hT : s.TypeIs (.ref e) "enumerate" := ⟨_, he, rfl⟩; unfold pyNext
  refine wpAny_bind (wpAny_attempt (wpAny_callSpecial?_slot (name := Str.ofString "__next__") hT F.slot_enumerate_next (wpAny_call_entry F.slot_enumerate_next hT F.entry_enumerate_next ?_ (F.args_enumerate_next_1 _))))
  show wpAny _ _ (field (.ref e) 2 >>= _) _ _ _; refine wpAny_bind (wpAny_field he rfl (x := .ref it) rfl ?_); refine wpAny_bind (wpAny_nextOf_tuple_end hh hit hl hx fun h' x he' hx' => ?_)
  obtain ⟨o, ho, hc⟩ := hx'; refine wpAny_bind (wpAny_isInstance (T := "StopIteration") (b := true) ⟨o, ho, hc⟩ isSubtype_stop ?_); exact wpAny_pure (hQ _ he')
end
end EnT
namespace He
open PySem PySem.Spec PyProof.Rows L2
/-- the tuple at a at each turn, each item in a new pair -/
def Iten (K : PySem.W.Frag) (a : Addr) : It :=
  ⟨fun i H => ∃ (xs : List V) (x : V), SqT K H a xs ∧ xs[i]? = some x, fun i H v H' => ∃ T x, v = .ref T ∧ H T = none ∧ H' = upd H T (.tup [.int (i : Nat), x]) ∧ ∀ xs, SqT K H a xs → xs[i]? = some x, fun i H => ∃ xs : List V, SqT K H a xs ∧ xs.length ≤ i⟩
theorem turn_enumT {P : Program} {w : World} {K : PySem.W.Frag} {elts : List Expr} {kk : Nat} {tpos : Pos} (a e it : Addr) :
    Turn P w K (.Tuple elts kk tpos) (Iten K a) [e, it] e (fun i h => (∃ old, IsEnum h e it ((i : Nat) : Int) old) ∧ h.IsTupleIter it a i ∧ e ≠ it) where
  mem := by simp
  obj := fun i h st b hb => by
    obtain ⟨⟨old, he⟩, ⟨o, ho, hc, hd⟩, _⟩ := st
    rcases (show b = e ∨ b = it by simpa using hb) with z | z
    · rw [z]; exact ⟨_, he, fun v q => nomatch q⟩
    · rw [z]; exact ⟨o, ho, fun v q => by rw [hd] at q; cases q⟩
  keep := fun i h h' st k => let ⟨⟨old, he⟩, hi, hne⟩ := st; ⟨⟨old, k e (by simp) _ he⟩, (let ⟨o, ho, hc, hd⟩ := hi; ⟨o, k it (by simp) o ho, hc, hd⟩), hne⟩
  item := by
    intro X hP hw hK hc i pins s σ H E I hf st hg
    subst hP hw hK
    obtain ⟨⟨old, he⟩, hit, hne⟩ := st
    obtain ⟨xs, x, hq, hx⟩ := hg
    obtain ⟨its, rv, p, hz⟩ := I.tuple hq
    obtain ⟨u, hu, ru⟩ := rv.get hx
    have hel : e < s.heap.objs.size := Heap.lt_size he
    have hil : it < s.heap.objs.size := by obtain ⟨_, q, _⟩ := hit; exact Heap.lt_size q
    have hp : s.heap.IsTuple a its.toArray := p
    have hai : a ≠ it := fun z => by
      obtain ⟨o, ho, h1, _⟩ := id hp
      obtain ⟨o2, ho2, h2, _⟩ := id hit
      rw [z, ho2] at ho
      rw [Option.some.inj ho, h1] at h2
      exact absurd h2 (by decide)
    have hea : e ≠ a := fun z => by
      obtain ⟨o, ho, h1, _⟩ := id hp
      rw [← z] at ho
      have he2 : s.heap.get? e = some _ := he
      rw [he2] at ho
      rw [← Option.some.inj ho] at h1
      have h3 : Value.type "enumerate" = Value.type "tuple" := h1
      exact absurd h3 (by decide)
    refine wpAny_pyNext_enum_itemD (Draws.tuple (A := X.A.in1) (I.ok.hd hc) it a hai its.toArray) he ⟨hit, hp⟩ (by have := (List.getElem?_eq_some_iff.mp hu).1; simpa using this) hne (by simp [hne, hea]) fun y h' tk hy ho hst' hT hsz hk => ?_
    have hyu : y = u := by
      have : its.toArray[i]? = some u := by simpa using hu
      rw [this] at hy
      exact (Option.some.inj hy).symm
    subst hyu
    refine ⟨_, rfl, wpAny_letOwnedTupleGo_enum (s := { s with heap := h', toks := tk + 1 }) ho fun h'' he' sb => ?_⟩
    have hT2 : h''.get? s.heap.objs.size = some { cls := .type "tuple", data := .seq #[.int i tk, y] } := (sb.2 _ (Nat.ne_of_gt hel)).trans hT
    have new : ObjOk X.prog X.w (upd H s.heap.objs.size (.tup [.int (i : Nat), x])) h'' s.heap.objs.size (.tup [.int (i : Nat), x]) := ⟨by show 2 ≤ sizeLine; decide, [.int i tk, y], .cons ⟨_, rfl⟩ (.cons ru .nil), ⟨_, hT2, rfl, _, rfl⟩⟩
    have I1 : Inv X pins σ (upd H s.heap.objs.size (.tup [.int (i : Nat), x])) { s with heap := h'', toks := tk + 1 } := I.turnedNew (ch := [e, it]) (fun b ob hb q => (sb.2 b (fun z => hb (by simp [z]))).trans (hk b ob (fun z => hb (by simp [z])) (fun z => hb (by simp [z])) q)) hf (Nat.le_refl _) new
    refine ⟨.ref s.heap.objs.size, _, I1, rfl, ⟨_, x, rfl, I.hok.fresh (Nat.le_refl _), rfl, fun ys hy => ?_⟩, ⟨⟨y, ?_⟩, ?_, hne⟩, fun b hb => ?_⟩
    · rw [I.tuple_inj hy hq]; exact hx
    · rw [show ((i + 1 : Nat) : Int) = (i : Int) + 1 by omega]; exact he'
    · obtain ⟨o, ho, r⟩ := hst'.1
      exact ⟨o, (sb.2 it (Ne.symm hne)).trans ho, r⟩
    · have hb' : b < s.heap.objs.size := by
        rcases (show b = e ∨ b = it by simpa using hb) with z | z
        · rw [z]; exact hel
        · rw [z]; exact hil
      rw [upd_ne (Nat.ne_of_lt hb')]; exact (hf b hb).1
  done := by
    intro X hP hw hK hc i pins s σ H E I hf st hg
    subst hP hw hK
    obtain ⟨⟨old, he⟩, hit, hne⟩ := st
    obtain ⟨xs, hq, hx⟩ := hg
    obtain ⟨its, rv, p, hz⟩ := I.tuple hq
    obtain ⟨f0, f1, f2, f3, f4, f5⟩ := hf it (by simp)
    have hl := rv.length
    exact EnT.next_endT (I.ok.hd hc) he hit p (by simp; omega) fun h' eb => ⟨rfl, I.turned (t' := s.toks) (fun b o hb q => eb b o hb q) f0 f1 f3 f4 f5⟩
  self := fun A i s Q E st h => let ⟨⟨_, he⟩, _⟩ := st; wpAny_pyIter_enum he h
end He

namespace He
open PySem PySem.Spec PyProof.Rows L2
section
variable {P : Program} {w : World} {K : PySem.W.Frag} {mg : Str → Option Value} {base : Heap}
def EnQ (K : PySem.W.Frag) (H : Hp) (a : Addr) (xs : List V) (J : It) : Prop := (J = Ite K a ∧ SqL K H a xs) ∨ (J = Iten K a ∧ SqT K H a xs)
def iEnumQ (K : PySem.W.Frag) (ta : TA) : TI := fun σ H R => ta σ H fun vs H1 => ∃ a xs J, vs = [.ref a] ∧ EnQ K H1 a xs J ∧ R J H1
theorem pi_enumQ {X : Cx} {e : Expr} {ta : TA} {p pos tpos : Pos} {elts : List Expr} {kk : Nat} (hg : Gl X "enumerate") (hm : X.mg "enumerate" = none) (ha : PA X [e] ta) (hs : starEach [e] X.env = [(false, eval e X.env)] := by rfl) :
    PI X (.Tuple elts kk tpos) (.Call (.Name "enumerate" p) [e] [] pos) (iEnumQ X.K ta) := by
  refine ⟨fun pins s σ H R I h => ?_⟩
  refine Call_ (ld_blt I hg hm boot_enumerate (PyProof.Rows.callWith_type1 (thn (ha.run pos pins s σ H _ I h) fun us s1 ⟨vs, H1, I1, r1, q1⟩ => ?_) hs rfl))
  obtain ⟨a, xs, J, ex, hq, q⟩ := q1
  subst ex
  cases r1 with
  | cons r rr =>
    cases rr
    cases r
    have fin : ∀ b ∈ [s1.heap.objs.size + 1, s1.heap.objs.size], FpOk X pins H1 b := fun b hb => by
      have hle : s1.heap.objs.size ≤ b := by
        rcases (show b = s1.heap.objs.size + 1 ∨ b = s1.heap.objs.size by simpa using hb) with z | z
        · rw [z]; exact Nat.le_add_right _ _
        · rw [z]; exact Nat.le_refl _
      exact I1.fpOk hle (I1.hok.fresh hle)
    rcases hq with ⟨rfl, hq⟩ | ⟨rfl, hq⟩
    · obtain ⟨its, rv, p', hz⟩ := I1.list hq
      refine call_enumerate_list p'.isList fun h' he hit hsz hk => wpAny_pyIter_enum he ?_
      have I2 : Inv X pins σ H1 { s1 with heap := h' } := I1.kept (t' := s1.toks) hk
      exact ⟨s1.heap.objs.size + 1, [s1.heap.objs.size + 1, s1.heap.objs.size], _, _, H1, rfl, I2, turn_enum a (s1.heap.objs.size + 1) s1.heap.objs.size, ⟨⟨.none, he⟩, hit, Nat.succ_ne_self _⟩, fin, q⟩
    · obtain ⟨its, rv, p', hz⟩ := I1.tuple hq
      refine EnT.call_enumT p' fun h' he hit hsz hk => wpAny_pyIter_enum he ?_
      have I2 : Inv X pins σ H1 { s1 with heap := h' } := I1.kept (t' := s1.toks) hk
      exact ⟨s1.heap.objs.size + 1, [s1.heap.objs.size + 1, s1.heap.objs.size], _, _, H1, rfl, I2, turn_enumT a (s1.heap.objs.size + 1) s1.heap.objs.size, ⟨⟨.none, he⟩, hit, Nat.succ_ne_self _⟩, fin, q⟩
theorem walk_enumT {K : PySem.W.Frag} {a : Addr} {xs : List V} : Walk (Iten K a) xs.length (fun H => SqT K H a xs) (YPair (fun i => some (.int (i : Nat))) (fun i => xs[i]?)) := by
  refine ⟨fun i _ hi q => ⟨xs, xs[i], q, by simp [hi]⟩, fun _ q => ⟨xs, q, Nat.le_refl _⟩, fun i H v H' _ q y => ?_⟩
  obtain ⟨T, x, h1, h2, h3, h4⟩ := y
  exact ⟨T, .int (i : Nat), x, h1, h2, h3, rfl, h4 xs q⟩
theorem fg_enumQ {H1 : Hp} {a : Addr} {xs : List V} {J : It} {g : TG} {tb : TS} {D : Ends} {σ : L2.St} (hJ : EnQ K H1 a xs J) (Pv : Nat → L2.St → Hp → Prop) (h0 : Pv 0 σ H1) (hG : ∀ i σ H, Pv i σ H → Same H1 H)
    (hs : ∀ (i : Nat) (x : V) (T : Addr) σ H, xs[i]? = some x → Pv i σ H → H T = none → g (.ref T) σ (upd H T (.tup [.int (i : Nat), x])) fun σ2 H2 => tb { D with nx := Pv (i + 1), ct := Pv (i + 1), bk := D.nx } σ2 H2) (hd : ∀ σ H, Pv xs.length σ H → D.nx σ H) : ForGoes J g tb D σ H1 := by
  rcases hJ with ⟨rfl, hq⟩ | ⟨rfl, hq⟩
  · refine for_it (walk_enum (K := K) (a := a) (xs := xs)) Pv h0 (fun i σ H _ p => (hG i σ H p).seq hq) (fun i x σ H H' hi hp y => ?_) hd
    obtain ⟨T, x1, y1, rfl, hn, rfl, h1, h2⟩ := y
    cases Option.some.inj h1
    exact hs i y1 T σ H h2 hp hn
  · refine for_it (walk_enumT (K := K) (a := a) (xs := xs)) Pv h0 (fun i σ H _ p => Same.seqT (hG i σ H p) hq) (fun i x σ H H' hi hp y => ?_) hd
    obtain ⟨T, x1, y1, rfl, hn, rfl, h1, h2⟩ := y
    cases Option.some.inj h1
    exact hs i y1 T σ H h2 hp hn
end
end He

namespace He
open PySem PySem.Spec PyProof.Rows L2
section
variable {P : Program} {w : World} {K : PySem.W.Frag} {mg : Str → Option Value} {base : Heap}
def rEqNil (K : PySem.W.Frag) : R2 := fun x y H Q => ∃ l e xs, x = .ref l ∧ y = .ref e ∧ SqL K H l xs ∧ SqL K H e [] ∧ Q (.bl xs.isEmpty) H
theorem op_eqNil {X : Cx} (hu : X.A.units + 64 < cLine) : OpR X (compareOp .Eq) (rEqNil X.K) := by
  intro pins s σ H x y v u Q I rx ry h
  obtain ⟨l, e, xs, rfl, rfl, hl, he, q⟩ := h
  cases rx
  cases ry
  obtain ⟨its, r1, p1, _⟩ := I.list hl
  obtain ⟨its2, r2, p2, _⟩ := I.list he
  cases r2
  have hu' : X.A.units < cLine := by omega
  cases r1 with
  | nil => exact SeqAt.RcAt.lists (e := fun _ => true) p1.isList p2.isList rfl hu' (fun j h1 => absurd h1 (by simp)) X.prog X.w X.xe _ ⟨.bl true, H, I, rfl, q⟩
  | cons a b => exact SeqAt.RcAt.lists_lengths p1.isList p2.isList (by simp) hu' X.prog X.w X.xe _ ⟨.bl false, H, I, rfl, q⟩
/-- a comprehension that keeps what passes its test -/
theorem lg_filter {J : It} {n : Nat} {G : Hp → Prop} {Y : Nat → Hp → V → Hp → Prop} (wk : Walk J n G Y) {g : TG} {tt : TT} {te : TE} {vs : List Nat} {σ : L2.St} {H1 : Hp} {D : Addr} {Qd : Hp → Prop} (t : Nat → Bool) (ye : Nat → V) (hn : n < sizeLine) (nD : H1 D = none) (hG : ∀ H, Same H1 H → G H)
    (turn : ∀ (i : Nat) (x : V) (H H' : Hp) (Aq : V → Hp → Prop) (Bq : Hp → Prop), i < n → Same H1 H → H D ≠ none → Y i H x H' → (∀ H4, t i = true → Same H H4 → Aq (ye i) H4) → (∀ H3, t i = false → Same H H3 → Bq H3) →
      g x (wipe σ vs) H' fun σ2 H2 => wipe σ2 vs = wipe σ vs ∧ tt σ2 H2 fun b H3 => if b = true then te σ2 H3 Aq else Bq H3)
    (done : ∀ H, Same H1 H → H D = some (.lst (((List.range n).filter t).map ye)) → Qd H) : LcGoes J g tt te vs σ H1 D Qd := by
  have hl : ∀ i, (((List.range i).filter t).map ye).length ≤ i := fun i => by
    rw [List.length_map]
    exact Nat.le_trans (List.length_filter_le _ _) (by rw [List.length_range]; exact Nat.le_refl _)
  refine lc_it wk (fun i H => Same H1 H ∧ H D = some (.lst (((List.range i).filter t).map ye))) ⟨same_upd nD, upd_same⟩ (fun i H _ h => hG H h.1) (fun i x H H' hi ⟨s1, eD⟩ hY => ?_) (fun H ⟨s1, eD⟩ => done H s1 eD)
  refine turn i x H H' _ _ hi s1 (by rw [eD]; exact fun z => nomatch z) hY (fun H4 ht s4 => ?_) (fun H3 ht s3 => ?_)
  · refine ⟨_, s4 _ _ eD, by have := hl i; omega, fun b o e => by rw [upd_ne (ne_of_none e nD)]; exact s4 _ _ (s1 _ _ e), ?_⟩
    rw [upd_same, List.range_succ, List.filter_append, List.map_append]
    simp [ht]
  · refine ⟨s1.trans s3, ?_⟩
    rw [s3 _ _ eD, List.range_succ, List.filter_append, List.map_append]
    simp [ht]
end
end He

namespace He
open PySem PySem.Spec PyProof.Rows L2
section
variable {P : Program} {w : World} {K : PySem.W.Frag} {mg : Str → Option Value} {base : Heap}
theorem range_pick {α : Type} (g : List α) (d : α) : (List.range g.length).map (fun i => g.getD i d) = g := by
  refine List.ext_getElem? fun i => ?_
  rw [List.getElem?_map]
  by_cases h : i < g.length
  · rw [List.getElem?_range h, List.getElem?_eq_getElem h]
    show some (g.getD i d) = _
    rw [List.getD_eq_getElem?_getD, List.getElem?_eq_getElem h]
    rfl
  · rw [List.getElem?_eq_none (by rw [List.length_range]; omega), List.getElem?_eq_none (by omega)]
    rfl
theorem range_filter {α β : Type} (g : List α) (d : α) (t : α → Bool) (f : α → β) : ((List.range g.length).filter fun i => t (g.getD i d)).map (fun i => f (g.getD i d)) = (g.filter t).map f := by
  conv => rhs; rw [← range_pick g d]
  rw [List.filter_map, List.map_map]
  rfl
/-- a comprehension over items, kept by a test, the values plain -/
theorem lg_keep {α : Type} {H1 : Hp} {a D : Addr} {J : It} {gt : TG} {tt : TT} {te : TE} {vs : List Nat} {σ : L2.St} {Qd : Hp → Prop} (g : List α) (e f : α → V) (t : α → Bool) (hJ : SeqIt K H1 a (g.map e) J) (hn : g.length < sizeLine) (nD : H1 D = none)
    (turn : ∀ (x : α) (H : Hp) (Aq : V → Hp → Prop) (Bq : Hp → Prop), x ∈ g → Same H1 H → H D ≠ none → (∀ H4, t x = true → Same H H4 → Aq (f x) H4) → (∀ H3, t x = false → Same H H3 → Bq H3) →
      gt (e x) (wipe σ vs) H fun σ2 H2 => wipe σ2 vs = wipe σ vs ∧ tt σ2 H2 fun b H3 => if b = true then te σ2 H3 Aq else Bq H3)
    (done : ∀ H, Same H1 H → H D = some (.lst ((g.filter t).map f)) → Qd H) : LcGoes J gt tt te vs σ H1 D Qd := by
  by_cases h0 : g = []
  · subst h0
    rcases hJ with ⟨rfl, hq⟩ | ⟨rfl, hq⟩
    · refine lg_list (xs := []) (fun i H => Same H1 H ∧ H D = some (.lst [])) ⟨same_upd nD, upd_same⟩ (fun i H _ h => h.1.seq hq) (fun i x H h => nomatch h) (fun H h => done H h.1 h.2)
    · refine lg_tup (xs := []) (fun i H => Same H1 H ∧ H D = some (.lst [])) ⟨same_upd nD, upd_same⟩ (fun i H _ h => Same.seqT h.1 hq) (fun i x H h => nomatch h) (fun H h => done H h.1 h.2)
  · obtain ⟨d, hd⟩ := List.exists_mem_of_ne_nil _ h0
    have at_ : ∀ {i : Nat} {v : V}, (g.map e)[i]? = some v → i < g.length ∧ v = e (g.getD i d) ∧ g.getD i d ∈ g := fun {i v} h => by
      rw [List.getElem?_map] at h
      obtain ⟨x, hx, rfl⟩ := Option.map_eq_some_iff.mp h
      have e2 : g.getD i d = x := by rw [List.getD_eq_getElem?_getD, hx]; rfl
      rw [e2]
      exact ⟨(List.getElem?_eq_some_iff.mp hx).1, rfl, List.mem_of_getElem? hx⟩
    have fin : ∀ H, Same H1 H → H D = some (.lst (((List.range (g.map e).length).filter fun i => t (g.getD i d)).map fun i => f (g.getD i d))) → Qd H := fun H s h => by
      rw [List.length_map, range_filter] at h
      exact done H s h
    rcases hJ with ⟨rfl, hq⟩ | ⟨rfl, hq⟩
    · refine lg_filter walk_list (fun i => t (g.getD i d)) (fun i => f (g.getD i d)) (by rw [List.length_map]; exact hn) nD (fun H s => s.seq hq) (fun i x H H' Aq Bq _ s hD hY hA hB => ?_) fin
      obtain ⟨rfl, hx⟩ := hY
      obtain ⟨_, rfl, hm⟩ := at_ hx
      exact turn _ H' Aq Bq hm s hD hA hB
    · refine lg_filter walk_tup (fun i => t (g.getD i d)) (fun i => f (g.getD i d)) (by rw [List.length_map]; exact hn) nD (fun H s => Same.seqT s hq) (fun i x H H' Aq Bq _ s hD hY hA hB => ?_) fin
      obtain ⟨rfl, hx⟩ := hY
      obtain ⟨_, rfl, hm⟩ := at_ hx
      exact turn _ H' Aq Bq hm s hD hA hB
end
end He

namespace He
open PySem PySem.Spec PyProof.Rows L2
/-! ### sorted(d.items()), the keys texts, the values objects -/
section
variable {P : Program} {w : World} {A : Around} {E : Value → Shared → Prop} {s : Shared}
theorem eq_itself {a : Addr} {Q : Bool → Shared → Prop} (h : Q true s) : wpAny (model P w) A (eqBool (.ref a) (.ref a)) Q E s := by
  unfold eqBool
  refine wpAny_holding ?_
  refine wpAny_ite_split (fun _ => ?_) fun n => absurd (beq_self_eq_true _) n
  exact wpAny_bind (wpAny_rule (wpAny_pure h))
/-- a pair of a text and an object -/
def TxPair (h : Heap) (v : Value) (y : Str) (b : Addr) : Prop := ∃ (a : Addr) (t : Tok), v = .ref a ∧ IsTup h a #[.str y t, .ref b]
def headTx (h : Heap) (v : Value) : Str := DT.txOf (DT.seqAt0 h (DT.refOf (some v)))
theorem TxPair.tx {h : Heap} {v : Value} {y : Str} {b : Addr} (x : TxPair h v y b) : headTx h v = y := by
  obtain ⟨a, t, rfl, h1⟩ := x
  show DT.txOf (DT.seqAt0 h a) = y
  rw [DT.seqAt0_of h1]
  rfl
theorem tx_firsts {h : Heap} : ∀ vs : List Value, (∀ v ∈ vs, ∃ y b, TxPair h v y b) → ∃ fs : List Value, PySem.W.KatTups h vs fs ∧ fs.length = vs.length ∧ ∀ f ∈ fs, ∃ y t, f = Value.str y t
  | [], _ => ⟨[], trivial, rfl, fun f hf => nomatch hf⟩
  | v :: vs, x => by
    obtain ⟨fs, k, hl, hi⟩ := tx_firsts vs fun u hu => x u (List.mem_cons_of_mem _ hu)
    obtain ⟨y, b, a, t, rfl, o, ho, hc, n, hd⟩ := x v List.mem_cons_self
    refine ⟨.str y t :: fs, ⟨⟨a, o, _, n, rfl, ho, hc, hd, rfl⟩, k⟩, congrArg (· + 1) hl, fun f hf => ?_⟩
    rcases List.mem_cons.mp hf with rfl | hf
    · exact ⟨y, t, rfl⟩
    · exact hi f hf
theorem tx_kind {vs : List Value} {ρ : Str → Int} (h2 : 2 ≤ vs.length) (x : ∀ v ∈ vs, ∃ y b, TxPair s.heap v y b) (one : ∀ v ∈ vs, ∀ u ∈ vs, headTx s.heap v = headTx s.heap u → v = u)
    (hρ : ∀ v ∈ vs, ∀ u ∈ vs, decide ((headTx s.heap v).cps.toList < (headTx s.heap u).cps.toList) = decide (ρ (headTx s.heap v) < ρ (headTx s.heap u))) (Q : SortKind → Shared → Prop)
    (h : ∀ κ, TS.Cmp P w A s κ (pairsOf vs) (fun v => ρ (headTx s.heap v)) → Q κ s) : wpAny (model P w) A (keyKind' vs.toArray) Q E s := by
  obtain ⟨fs, k, hl, hi⟩ := tx_firsts vs x
  refine PySem.W.kat_kind (T := Value.type "str") k (by omega) (fun f hf => ?_) rfl (h _ ?_)
  · obtain ⟨y, t, rfl⟩ := hi f hf
    exact PySem.W.Looks.now
  · intro p q hp hq Q' E' hQ
    rw [pairsOf_toList] at hp hq
    have mp := (mem_zip_self hp).2
    have mq := (mem_zip_self hq).2
    obtain ⟨y, b, py⟩ := x _ mp
    obtain ⟨z, c, pz⟩ := x _ mq
    have hr := hρ _ mp _ mq
    have hQ2 : Q' (decide (ρ (headTx s.heap p.1) < ρ (headTx s.heap q.1))) s := hQ
    rw [← hr, py.tx, pz.tx] at hQ2
    have same : y = z → b = c := fun e => by
      have e2 := one _ mp _ mq (by rw [py.tx, pz.tx, e])
      obtain ⟨a1, t1, e3, o1, g1, _, n1, d1⟩ := py
      obtain ⟨a2, t2, e4, o2, g2, _, n2, d2⟩ := pz
      rw [e3, e4] at e2
      cases e2
      rw [g1] at g2
      cases g2
      rw [d1] at d2
      cases d2
      rfl
    obtain ⟨a1, t1, e3, o1, g1, _, n1, d1⟩ := py
    obtain ⟨a2, t2, e4, o2, g2, _, n2, d2⟩ := pz
    rw [e3, e4]
    refine PySem.W.kat_lt g1 d1 g2 d2 ?_
    show PySem.W.KatLex P w A _ false Q' [(Value.str y t1, Value.str z t2), (Value.ref b, Value.ref c)] 0 s
    refine PySem.W.kat_cons (PySem.wpAny_eqBool_str ?_)
    by_cases e : y = z
    · obtain rfl := same e
      rw [decide_eq_true e]
      have irr : decide (y.cps.toList < z.cps.toList) = false := by
        rw [e]
        exact decide_eq_false (List.lt_irrefl _)
      rw [irr] at hQ2
      exact PySem.W.kat_yes (PySem.W.kat_cons (eq_itself (PySem.W.kat_yes (PySem.W.kat_nil hQ2))))
    · rw [decide_eq_false e]
      exact PySem.W.kat_no (PyProof.Rows.oneLt_any_str hQ2)
end

/-- how many of l stand ahead -/
def aheadS (y x : Str) : Bool := decide (x.cps.toList < y.cps.toList)
def rankS (l : List Str) (x : Str) : Int := ((l.filter (aheadS x)).length : Nat)
theorem rank_lt {l : List Str} {x y : Str} (hx : x ∈ l) : decide (x.cps.toList < y.cps.toList) = decide (rankS l x < rankS l y) := by
  have mono : ∀ {x y : Str}, ¬ (x.cps.toList < y.cps.toList) → rankS l y ≤ rankS l x := fun {x y} h => by
    unfold rankS
    refine Int.ofNat_le.mpr ?_
    rw [← List.countP_eq_length_filter, ← List.countP_eq_length_filter]
    refine List.countP_mono_left fun z _ hz => ?_
    have hz := of_decide_eq_true hz
    refine decide_eq_true (Decidable.byContradiction fun n => h ?_)
    exact List.lt_of_le_of_lt (List.not_lt.mp n) hz
  by_cases h : x.cps.toList < y.cps.toList
  · rw [decide_eq_true h]
    refine (decide_eq_true ?_).symm
    unfold rankS
    refine Int.ofNat_lt.mpr ?_
    have sub : ∀ m : List Str, (m.filter (aheadS x)).length ≤ (m.filter (aheadS y)).length ∧ (x ∈ m → (m.filter (aheadS x)).length < (m.filter (aheadS y)).length) := by
      intro m
      induction m with
      | nil => exact ⟨Nat.le_refl _, fun z => nomatch z⟩
      | cons z m ih =>
        obtain ⟨i1, i2⟩ := ih
        by_cases q : z.cps.toList < x.cps.toList
        · rw [List.filter_cons_of_pos (show aheadS x z = true from decide_eq_true q), List.filter_cons_of_pos (show aheadS y z = true from decide_eq_true (List.lt_trans q h)), List.length_cons, List.length_cons]
          refine ⟨by omega, fun hm => ?_⟩
          rcases List.mem_cons.mp hm with e | hm
          · rw [e] at q
            exact absurd q (List.lt_irrefl _)
          · have := i2 hm
            omega
        · rw [List.filter_cons_of_neg (show ¬ aheadS x z = true from fun k => q (of_decide_eq_true k))]
          by_cases q2 : z.cps.toList < y.cps.toList
          · rw [List.filter_cons_of_pos (show aheadS y z = true from decide_eq_true q2), List.length_cons]
            exact ⟨by omega, fun _ => by omega⟩
          · rw [List.filter_cons_of_neg (show ¬ aheadS y z = true from fun k => q2 (of_decide_eq_true k))]
            refine ⟨i1, fun hm => ?_⟩
            rcases List.mem_cons.mp hm with e | hm
            · rw [← e] at q2
              exact absurd h q2
            · exact i2 hm
    exact (sub l).2 hx
  · rw [decide_eq_false h]
    refine (decide_eq_false ?_).symm
    have := mono h
    omega
section
variable {P : Program} {w : World}
theorem pairs_get {knd : PySem.KeyKind P w L2.Key} : ∀ {es : List DictEntry} {vs : List (L2.Key × Value)} {j : Nat} {e : DictEntry}, Pairs knd es vs → es[j]? = some e → ∃ kv, vs[j]? = some kv ∧ knd.is kv.1 e.key = true ∧ e.val = kv.2
  | _, _, j, e, .nil, h => by simp at h
  | _, _, 0, e, .cons (kv := kv) a b _, h => by
    cases Option.some.inj h
    exact ⟨kv, rfl, a, b⟩
  | _, _, j + 1, e, .cons _ _ t, h => pairs_get (j := j) t h
theorem pairs_len {knd : PySem.KeyKind P w L2.Key} : ∀ {es : List DictEntry} {vs : List (L2.Key × Value)}, Pairs knd es vs → es.length = vs.length
  | _, _, .nil => rfl
  | _, _, .cons _ _ t => congrArg (· + 1) (pairs_len t)
end
section
variable {X : Cx}
/-- d.items() of a dict with keys that are ints or texts: the view -/
def rItemsK : V → List V → Hp → VK → Prop := fun x xs H Q => ∃ (a : Addr) (kvs : List (L2.Key × V)), x = .ref a ∧ xs = [] ∧ H a = some (.dK kvs) ∧ ∀ p, H p = none → Q (.ref p) (upd H p (DX.itemsO p a))
theorem mt_itemsK : MtR X "dict.items" rItemsK := by
  intro pins s σ H x xs v us Q I rx rxs h
  obtain ⟨d, kvs, rfl, rfl, hd, q⟩ := h
  cases rx
  cases rxs
  obtain ⟨_, nsys, vs, _, o, es, ep, ho, hx, hdat, _⟩ := dk_of I.hok hd
  refine DT.callItems (es := es) (ep := ep) nsys ⟨o, ho, hx, hdat⟩ ?_
  exact ⟨.ref s.heap.objs.size, _, I.laid (t' := s.toks) (fun b u e => Heap.get?_push_of_some _ e) (Nat.le_refl _) (DX.itemsO_ok (Heap.get?_push_size _ rfl)), rfl, q _ (I.hok.fresh (Nat.le_refl _))⟩
abbrev entS (e : Str × Addr) : L2.Key × V := (Sum.inr e.1, V.ref e.2)
/-- sorted(d.items()): pairs, by their texts -/
def rSortItK : List V → Hp → VK → Prop := fun vs H Q => ∃ (p a : Addr) (ks : List (Str × Addr)), vs = [.ref p] ∧ H p = some (DX.itemsO p a) ∧ H a = some (.dK (ks.map entS)) ∧ ks.length < 64 ∧
  ∀ (H' : Hp) (l : Addr) (ps : List (Addr × Str × Addr)), (∀ b o, H b = some o → H' b = some o) → (ps.map (·.2)).Perm ks → (ps.map (·.2.1)).Pairwise (fun x y => ¬ (y.cps.toList < x.cps.toList)) → (ks.map (·.1)).Nodup → H l = none → H' l = some (.lst (ps.map fun z => V.ref z.1)) →
    (∀ z ∈ ps, H' z.1 = some (.tup [.str z.2.1, .ref z.2.2])) → Q (.ref l) H'
theorem kv_get {κ : Type} : ∀ {l : List (κ × V)} {m : List (κ × Value)} {j : Nat} {y : κ × Value}, KV l m → m[j]? = some y → ∃ x, l[j]? = some x ∧ x.1 = y.1 ∧ RelV x.2 y.2
  | _, _, j, y, Paired.nil, h => by simp at h
  | _, _, 0, y, Paired.cons (a := x) f _, h => by
    cases Option.some.inj h
    exact ⟨x, rfl, f⟩
  | _, _, j + 1, y, Paired.cons _ t, h => kv_get (j := j) t h
theorem kv_keys {κ : Type} : ∀ {l : List (κ × V)} {m : List (κ × Value)}, KV l m → l.map (·.1) = m.map (·.1)
  | _, _, Paired.nil => rfl
  | _, _, Paired.cons f t => by rw [List.map_cons, List.map_cons, f.1, kv_keys t]
theorem cr_sortedItemsK (hc : X.calm = true) : CallR X (.builtin "sorted") rSortItK := by
  intro pins s σ H xs us Q I r h
  obtain ⟨p, a, ks, rfl, hp, ha, few, q⟩ := h
  obtain rfl := Vals.ref1 r
  have view : s.heap.IsItemsView p a := (show ObjOk X.prog X.w H s.heap p (DX.itemsO p a) from I.hok p _ hp).1
  obtain ⟨_, nsys, vs, rel, o, es, ep, ho, hx, hdat, _, hps, hnd⟩ := dk_of I.hok ha
  have n1 : ks.length = vs.length := by
    have := Paired.length rel
    rw [List.length_map] at this
    exact this
  have n2 : es.size = vs.length := by rw [← Array.length_toList]; exact pairs_len hps
  have nk : (ks.map (·.1)).Nodup := by
    have e := kv_keys rel
    rw [List.map_map] at e
    rw [← e] at hnd
    have e2 : ((fun x : L2.Key × V => x.1) ∘ entS) = (fun x : Str => (Sum.inr x : L2.Key)) ∘ (·.1) := rfl
    rw [e2, ← List.map_map] at hnd
    exact (List.pairwise_map.mp hnd).imp fun {x y} h e => h (by rw [e])
  refine DT.sortedI (es := es) (ep := ep) (I.ok.hd hc) view ⟨o, ho, hx, hdat⟩ (by rw [sizeLine_eq]; omega) fun h1 tk as old bigger cnt mk => ?_
  have na : as.length = ks.length := by omega
  have ndA : as.Nodup := List.Pairwise.imp (fun z => Nat.ne_of_lt z) mk.rise
  -- what was laid for each entry
  have laid : ∀ (j : Nat) (b : Addr), as[j]? = some b → ∃ (e : Str × Addr) (t : Tok), ks[j]? = some e ∧ h1.get? b = some { cls := .type "tuple", data := .seq #[Value.str e.1 t, Value.ref e.2] } := by
    intro j b hj
    obtain ⟨en, g1, g2⟩ := mk.pairs j b hj
    obtain ⟨kv, g3, g4, g5⟩ := pairs_get (j := j) hps (by rw [Array.getElem?_toList]; exact g1)
    obtain ⟨x, g6, g7, g8⟩ := kv_get rel g3
    rw [List.getElem?_map] at g6
    cases g9 : ks[j]? with
    | none => rw [g9] at g6; cases g6
    | some e =>
      rw [g9] at g6
      cases Option.some.inj g6
      rw [← g7] at g4
      rcases keyIs_shape (show keyIs (Sum.inr e.1) en.key = true from g4) with ⟨i, t, z1, z2⟩ | ⟨y, t, z1, z2⟩
      · cases z1
      · cases z1
        refine ⟨e, t, rfl, ?_⟩
        have z3 : kv.2 = Value.ref e.2 := g8
        rw [g2, z2, g5, z3]
  generalize hD : h1.objs.size = D
  have top : (h1.push { cls := .type "list", data := .seq (as.map Value.ref).toArray }).get? D = some (seqObj "list" (as.map Value.ref).toArray 0) := hD ▸ Heap.get?_push_size _ rfl
  have up1 : ∀ b u, h1.get? b = some u → (h1.push { cls := .type "list", data := .seq (as.map Value.ref).toArray }).get? b = some u := fun b u e => Heap.get?_push_of_some _ e
  have offD : ∀ b u, h1.get? b = some u → b ≠ D := fun b u e => hD ▸ Nat.ne_of_lt (Heap.lt_size e)
  have sD : s.heap.objs.size ≤ D := hD ▸ Nat.le_of_lt bigger
  generalize h1.push { cls := .type "list", data := .seq (as.map Value.ref).toArray } = h2 at top up1 ⊢
  have pin : ∀ (j : Nat) (b : Addr), as[j]? = some b → ∃ e : Str × Addr, ks[j]? = some e ∧ TxPair (TS.midHeap h2 D (as.map Value.ref)) (.ref b) e.1 e.2 := fun j b hj => by
    obtain ⟨e, t, g1, g2⟩ := laid j b hj
    exact ⟨e, g1, b, t, rfl, _, TS.midHeap_old (offD _ _ g2) (up1 _ _ g2), rfl, 0, rfl⟩
  have tx : ∀ (j : Nat) (b : Addr) (e : Str × Addr), as[j]? = some b → ks[j]? = some e → headTx (TS.midHeap h2 D (as.map Value.ref)) (.ref b) = e.1 := fun j b e hj he => by
    obtain ⟨e2, g1, g2⟩ := pin j b hj
    rw [he] at g1
    cases Option.some.inj g1
    exact g2.tx
  have whose : ∀ v ∈ as.map Value.ref, ∃ (j : Nat) (b : Addr) (e : Str × Addr), v = .ref b ∧ as[j]? = some b ∧ ks[j]? = some e := fun v hv => by
    obtain ⟨b, hb, rfl⟩ := List.mem_map.mp hv
    obtain ⟨j, hj⟩ := List.mem_iff_getElem?.mp hb
    obtain ⟨e, _, he, _⟩ := laid j b hj
    exact ⟨j, b, e, rfl, hj, he⟩
  have keyAt : ∀ {j : Nat} {e : Str × Addr}, ks[j]? = some e → (ks.map (·.1))[j]? = some e.1 := fun {j e} h => by rw [List.getElem?_map, h]; rfl
  refine wpAny_call_entry PyProof.Rows.slot_list_sort ⟨_, top, rfl⟩ PyProof.Rows.entry_list_sort
    (SK.plain_sort (s := { s with heap := h2, toks := tk }) (r := fun v => rankS (ks.map (·.1)) (headTx (TS.midHeap h2 D (as.map Value.ref)) v)) top (by rw [List.length_map]; omega) (fun two Qk hQk => ?_) fun ps out o1 o2 o3 => ⟨.none, rfl, ?_⟩) (PyProof.Rows.args_list_sort _)
  · refine tx_kind (s := { s with heap := TS.midHeap h2 D (as.map Value.ref), toks := tk }) (ρ := rankS (ks.map (·.1))) two (fun v hv => ?_) (fun v hv u hu e => ?_) (fun v hv u hu => ?_) Qk hQk
    · obtain ⟨j, b, e, rfl, hj, _⟩ := whose v hv
      obtain ⟨e2, _, g⟩ := pin j b hj
      exact ⟨_, _, g⟩
    · obtain ⟨j, b, e1, rfl, hj, he1⟩ := whose v hv
      obtain ⟨i, c, e2, rfl, hi, he2⟩ := whose u hu
      have e : headTx (TS.midHeap h2 D (as.map Value.ref)) (.ref b) = headTx (TS.midHeap h2 D (as.map Value.ref)) (.ref c) := e
      rw [tx j b e1 hj he1, tx i c e2 hi he2] at e
      have ji : j = i := (List.getElem?_inj (List.getElem?_eq_some_iff.mp (keyAt he1)).1 nk).mp (by rw [keyAt he1, keyAt he2, e])
      subst ji
      rw [hj] at hi
      cases hi
      rfl
    · obtain ⟨j, b, e1, rfl, hj, he1⟩ := whose v hv
      obtain ⟨i, c, e2, rfl, hi, he2⟩ := whose u hu
      have t1 := tx j b e1 hj he1
      have t2 := tx i c e2 hi he2
      show decide ((headTx (TS.midHeap h2 D (as.map Value.ref)) (.ref b)).cps.toList < (headTx (TS.midHeap h2 D (as.map Value.ref)) (.ref c)).cps.toList) = decide (rankS _ (headTx (TS.midHeap h2 D (as.map Value.ref)) (.ref b)) < rankS _ (headTx (TS.midHeap h2 D (as.map Value.ref)) (.ref c)))
      rw [t1, t2]
      exact rank_lt (List.mem_of_getElem? (keyAt he1))
  · show EP X pins σ Q (.ref D) { s with heap := sortedHeap h2 D (as.map Value.ref) out, toks := tk }
    obtain ⟨zs, pz, ez⟩ := perm_lift (fun z : Addr × Str × Addr => (Value.ref z.1, Value.ref z.1)) o2 (as.zip ks) (DX.zip_self Value.ref as ks na)
    have idx : ∀ z ∈ zs, ∃ j : Nat, as[j]? = some z.1 ∧ ks[j]? = some z.2 := fun z hz => by
      obtain ⟨j, hj⟩ := List.mem_iff_getElem?.mp (pz.mem_iff.mp hz)
      exact ⟨j, List.getElem?_zip_eq_some.mp hj⟩
    have outs : out.toList = zs.map fun z => Value.ref z.1 := by
      rw [o1, ← ez, List.map_map]
      rfl
    have perm : (zs.map (·.2)).Perm ks := by
      have e := pz.map (·.2)
      rw [List.map_snd_zip (by omega)] at e
      exact e
    have up : (zs.map (·.2.1)).Pairwise (fun x y => ¬ (y.cps.toList < x.cps.toList)) := by
      rw [← ez, List.pairwise_map] at o3
      rw [List.pairwise_map]
      refine List.Pairwise.imp_of_mem (fun {x y} hx hy h => ?_) o3
      obtain ⟨j, j1, j2⟩ := idx x hx
      obtain ⟨i, i1, i2⟩ := idx y hy
      have h : rankS (ks.map (·.1)) (headTx (TS.midHeap h2 D (as.map Value.ref)) (.ref x.1)) ≤ rankS (ks.map (·.1)) (headTx (TS.midHeap h2 D (as.map Value.ref)) (.ref y.1)) := h
      rw [tx j _ _ j1 j2, tx i _ _ i1 i2] at h
      intro k
      have := rank_lt (l := ks.map (·.1)) (x := y.2.1) (y := x.2.1) (List.mem_of_getElem? (keyAt i2))
      rw [decide_eq_true k] at this
      have := of_decide_eq_true this.symm
      omega
    have later : ∀ b u, b ≠ D → h2.get? b = some u → (sortedHeap h2 D (as.map Value.ref) out).get? b = some u := fun b u nb e => (PyProof.Rows.sortedHeap_old nb (Heap.lt_size e)).trans e
    have kept : ∀ b u, s.heap.get? b = some u → (sortedHeap h2 D (as.map Value.ref) out).get? b = some u := fun b u e => later b u (offD b u (old b u e)) (up1 b u (old b u e))
    obtain ⟨ep2, atD⟩ := PyProof.Rows.sortedHeap_at (vs := as.map Value.ref) (out := out) top
    have freeD : H D = none := I.hok.fresh sD
    have short : (zs.map fun z => V.ref z.1).length ≤ sizeLine := by
      have := perm.length_eq
      rw [List.length_map] at this ⊢
      rw [sizeLine_eq]
      omega
    have vals : Vals (zs.map fun z => V.ref z.1) out.toList := outs ▸ vals_maps (fun z : Addr × Str × Addr => V.ref z.1) (fun z => Value.ref z.1) zs fun _ _ => rfl
    have I2 : Inv X pins σ (upd H D (.lst (zs.map fun z => V.ref z.1))) { s with heap := sortedHeap h2 D (as.map Value.ref) out, toks := tk } :=
      (I.kept (t' := tk) kept).take (t' := tk) (fun b ob _ e => e) (I.fpOk sD freeD) ⟨short, out.toList, ep2, vals, atD⟩
    obtain ⟨H2, I3, g, laidT⟩ := DX.takeT (P := fun b ws => ∃ (j : Nat) (e : Str × Addr), as[j]? = some b ∧ ks[j]? = some e ∧ ws = [.str e.1, .ref e.2]) I as _ I2 ndA fun b hb => by
      obtain ⟨j, hj⟩ := List.mem_iff_getElem?.mp hb
      obtain ⟨e, t, he, hg⟩ := laid j b hj
      have hbl : s.heap.objs.size ≤ b := Nat.le_of_lt (mk.above b hb)
      refine ⟨hbl, ?_, [.str e.1, .ref e.2], ⟨j, e, hj, he, rfl⟩, fun H3 => ⟨by show 2 ≤ sizeLine; rw [sizeLine_eq]; decide, [Value.str e.1 t, Value.ref e.2], .cons ⟨t, rfl⟩ (.cons rfl .nil), _, later _ _ (offD _ _ hg) (up1 _ _ hg), rfl, 0, rfl⟩⟩
      rw [upd_ne (offD _ _ hg)]
      exact I.hok.fresh hbl
    refine ⟨.ref D, H2, I3, rfl, q H2 D zs (fun b u e => g b u (by rw [upd_ne (ne_of_none e freeD)]; exact e)) perm up nk freeD (g _ _ upd_same) fun z hz => ?_⟩
    obtain ⟨i, i1, i2⟩ := idx z hz
    obtain ⟨ws, ⟨j, e, j1, j2, rfl⟩, hH⟩ := laidT z.1 (List.mem_of_getElem? i1)
    have eij : i = j := (List.getElem?_inj (List.getElem?_eq_some_iff.mp i1).1 ndA).mp (i1.trans j1.symm)
    subst eij
    rw [i2] at j2
    cases Option.some.inj j2
    exact hH
end
end He

namespace He
open PySem PySem.Spec PyProof.Rows L2
/-! ### defs that are entered where no repr runs: their A's guards are told -/
structure FnOkG (P : Program) (w : World) (K : PySem.W.Frag) (mg : Str → Option Value) (base : Heap) (CX : CXT) (k : Nat) (f : Addr) (fd : FuncData) (ps : List Str) (sp : Sp) : Prop where
  len : ∀ vs H Q E, sp vs H Q E → vs.length = ps.length
  go : ∀ (A : Around) (outer : List Env) (s : Shared) (H : Hp) (args : Args) (us : List Value) (vs : List V) (Q : VK) (E : XK), A.guards = some [] → Room k A → Env0 P w K mg base A outer s H →
    BindsTo s fd args (ps.zip us) → Vals vs us → sp vs H Q E → codeAny (model P w) A (.call (.ref f) args) (CR CX outer P w H s Q E) s
section
variable {P : Program} {w : World} {K : PySem.W.Frag} {mg : Str → Option Value} {base : Heap}
/-- one entry of a def by its body -/
theorem enter_of {C : CXT} {A : Around} {outer : List Env} {s : Shared} {H : Hp} {args : Args} {us : List Value} {vs : List V} {Q : VK} {E : XK} {k : Nat} {x qual : Str} {st : Stmt} {f : Addr} {N ps : List Str}
    {oc kV doc pm cdv ct : Value} {od an : Option Addr} {osl : Array (Option Value)} (lk : K.lookup f = some ⟨oc, od, .func (PySem.W.fnOf x qual (defArgs st) (defBody st) (defScope st) .none kV doc pm an cdv ct), osl⟩)
    (code : PySem.W.codeIn K cdv qual = true) (S : FnScope N ps (defScope st)) (hv : vs.length = ps.length) (room : Room (k + 1) A) (e0 : Env0 P w K mg base A outer s H)
    (bt : BindsTo s (PySem.W.fnOf x qual (defArgs st) (defBody st) (defScope st) .none kV doc pm an cdv ct) args (ps.zip us)) (rv : Vals vs us)
    (body : ∃ t, PSs (cxOf C P w K mg base N qual (defScope st) f cdv A outer s H E) (defBody st) t ∧ t { nx := fun _ H' => Q .non H', rt := Q } (start N vs) H) :
    codeAny (model P w) A (.call (.ref f) args) (CR C outer P w H s Q E) s := by
  have inK : K.In s.heap := e0.mod.kin.keeps fun b o z => (e0.bs b o z).1
  have nol : s.heap.NoLimit := e0.mod.nolimit.keeps fun b o z => (e0.bs b o z).1
  have kinds : ∀ y ∈ ps.zip us, (defScope st).names.lookup y.1 = some .local ∨ ((defScope st).names.lookup y.1 = some .cell ∧ ((cellsFrom (s.heap.objs.size + 1) (defScope st).names []).lookup y.1).isSome = true) := fun y hy =>
    (S.par y.1 (List.of_mem_zip (show (y.1, y.2) ∈ ps.zip us from hy)).1).imp id fun z => ⟨z, PySem.W.cellsFrom_some _ _ _ (.inl z)⟩
  refine codeAny_call_function room.depth (inK _ _ lk) rfl S.co S.gen rfl (PySem.W.codeRec_of inK code) (bt _ _ _ _ (wpAny_newFunctionEnv_cells S.kind kinds fun env isE s1 inC => ?_))
  subst isE
  obtain ⟨t, tp, tq⟩ := body
  refine ⟨nol.keeps inC.toInCall.keep, codeAny_func (wpAny_mono (tp.run [] s1 (start N vs) H _ (inv_start S room.hd e0 hv rv inC) tq) (fun fl s2 out => ?_) fun e s2 out => out)⟩
  match fl, out with
  | .ret u, ⟨v, _, H2, J, r2, q2⟩ => exact ⟨v, H2, J.os, J.bare, J.base, J.hok, r2, q2⟩
  | .next, ⟨_, H2, J, q2⟩ => exact ⟨V.non, H2, J.os, J.bare, J.base, J.hok, rfl, q2⟩
  | .brk, ⟨_, _, _, no⟩ => exact no.elim
  | .cont, ⟨_, _, _, no⟩ => exact no.elim
theorem okG {x qual : Str} {st : Stmt} {f : Addr} {fd : FuncData} {N ps : List Str} {k : Nat} {sp : Sp} (F : Fun K x qual st f fd) (S : FnScope N ps (defScope st)) (len : ∀ vs H Q E, sp vs H Q E → vs.length = ps.length)
    (body : ∀ (cdv : Value) (A : Around) (outer : List Env) (s : Shared) (H : Hp) (vs : List V) (Q : VK) (E : XK), A.guards = some [] → Room k (A.deeper (envOfC qual (defScope st) s.heap.objs.size f cdv)) → sp vs H Q E →
      ∃ t, PSs (cxOf CX0 P w K mg base N qual (defScope st) f cdv A outer s H E).nox (defBody st) t ∧ t { nx := fun _ H' => Q .non H', rt := Q } (start N vs) H) : FnOkG P w K mg base CX0 (k + 1) f fd ps sp := by
  obtain ⟨oc, od, kV, doc, pm, an, cdv, ct, osl, rfl, lk, code⟩ := F.ex
  refine ⟨len, fun A outer s H args us vs Q E hg room e0 bt rv hs => enter_of lk code S (len _ _ _ _ hs) room e0 bt rv ?_⟩
  obtain ⟨t, tp, tq⟩ := body cdv A outer s H vs Q E hg (room.deeper _) hs
  exact ⟨t, tp.nox, tq⟩
theorem deeper_guards {A : Around} {e : Env} (h : A.guards = some []) : (A.deeper e).guards = some [] := h
end
section
variable {X : Cx}
mutual
/-- no dict in it, and how deep it is -/
def plainD : PyData → Bool
  | .list ds => plainDA ds
  | .tuple ds => plainDA ds
  | .dict _ => false
  | _ => true
def plainDA : List PyData → Bool
  | [] => true
  | d :: ds => plainD d && plainDA ds
end
/-- repr of nested data -/
def rReprD (K : PySem.W.Frag) : List V → Hp → VK → Prop := fun xs H Q => ∃ (a : Addr) (d : PyData), xs = [.ref a] ∧ Dp K H (.ref a) d ∧ d.showable = true ∧ d.hasDict = false ∧ d.depth ≤ 30 ∧ d.shown.length ≤ sizeLine ∧ Q (.str d.shown) H
theorem call_reprD (hu : X.A.units + 64 < cLine) (hg : X.A.guards = some []) : CallR X (.builtin "repr") (rReprD X.K) := by
  intro pins s σ H xs us Q I r h
  obtain ⟨a, d, rfl, hd, sh, nd, dp, sz, q⟩ := h
  obtain rfl := Vals.ref1 r
  obtain ⟨as, rd⟩ := Dp.reads I d (.ref a) (.ref a) hd rfl
  refine repr_of_reads' rd sh (fun z => by rw [nd] at z; cases z) hg (by omega) (fun _ _ e => e) (fun h' u tk keep => ?_) sz
  exact ⟨.str d.shown, H, I.kept (t' := tk) keep, ⟨u, rfl⟩, q⟩
end
end He

namespace He
open PySem PySem.Spec PyProof.Rows L2
section
variable {P : Program} {w : World} {K : PySem.W.Frag} {mg : Str → Option Value}
/-- what is tracked at the law's entry: the script at a, or nothing -/
structure Entry (K : PySem.W.Frag) (H : Hp) (s : Shared) (P : Program) (w : World) (a : Addr) (ns : List Int) : Prop where
  only : Only H
  seq : SqL K H a (ns.map V.int)
  ok : HOk P w H s.heap
  here : ∀ b, H b ≠ none → b = a
  own : H a ≠ none → K.lookup a = none
theorem entry_env {mb : Str → Option Value} {H : Hp} {s : Shared} {a : Addr} {ns : List Int} {vs : List Value} (T : Entry K H s P w a ns) (inK : K.In s.heap) (gl : s.heap.Ns mainGlobals mg) (bl : s.heap.Ns builtinsNs mb)
    (bb : ∀ x : Str, x ≠ "__name__" → mb x = bootBuiltins x) (nol : s.heap.NoLimit) (gens : s.gens = #[]) (ha : s.heap.get? a = some { cls := .type "list", data := .seq vs.toArray }) : Env0 P w K mg (hidT s.heap H) callerA [] s H := by
  have un : ∀ {b : Addr} {o : Obj}, s.heap.get? b = some o → (∀ q : b = a, False) → (hidT s.heap H).get? b = some o := fun {b o} e q => by
    refine hidT_get e ?_
    cases z : H b with
    | none => rfl
    | some u => exact (q (T.here b fun n => by rw [z] at n; cases n)).elim
  have ns : ∀ {b : Addr} {m : Str → Option Value}, s.heap.Ns b m → (hidT s.heap H).Ns b m := fun {b m} ⟨o, es, ep, e, d, r⟩ => by
    refine ⟨o, es, ep, un e fun q => ?_, d, r⟩
    rw [q, ha] at e
    cases e
    cases (show Data.seq vs.toArray _ = Data.dict es ep from d)
  have kk : K.In (hidT s.heap H) := fun b o e => by
    have e1 := inK b o e
    by_cases q : H b = none
    · exact hidT_get e1 q
    · have z := T.here b q
      rw [z] at e q
      rw [T.own q] at e
      cases e
  refine ⟨rfl, ⟨kk, ns gl, ⟨mb, ns bl, bb⟩, ?_⟩, fun _ _ => of_hidT, Nat.le_of_eq (hidT_size _ _), trivial, fun b z => (nomatch (show b ∈ ([] : List Addr) from z)), T.ok, .of_eq gens⟩
  obtain ⟨mc, l1, l2⟩ := nol
  exact ⟨mc, ns l1, l2⟩
theorem entry_go {k : Nat} {fa a : Addr} {fd : FuncData} {x : Str} {sp : Sp} {H : Hp} {s : Shared} {ns : List Int} {base : Heap} (T : Entry K H s P w a ns) (e0 : Env0 P w K mg base callerA [] s H) (room : Room k callerA)
    (F : FnOkG P w K mg base CX0 k fa fd [x] sp) (bt : ∀ (s : Shared) (u : Value), BindsTo s fd ⟨[u], []⟩ [(x, u)]) (hs : sp [.ref a] H (fun v _ => v = .bl true) fun _ _ _ => False) :
    codeAny (model P w) callerA (.call (.ref fa) ⟨[.ref a], []⟩) (fun r s2 => r = .ok (.ret (.bool true)) ∧ OldK s.heap s2.heap ∧ s2.os = s.os ∧ AllBare s2.gens) s := by
  refine codeAny_mono (F.go callerA [] s H ⟨[.ref a], []⟩ [.ref a] [.ref a] _ _ rfl room e0 (bt s _) (.cons rfl .nil) hs) fun r s2 h => ?_
  match r, h with
  | .error e, h => exact False.elim h
  | .ok .next, h => exact False.elim h
  | .ok .brk, h => exact False.elim h
  | .ok .cont, h => exact False.elim h
  | .ok (.ret u), ⟨v, H2, os, bare, ch, ok2, rv, q⟩ =>
    have q : v = .bl true := q
    rw [q] at rv
    have rv : u = Value.bool true := rv
    refine ⟨by rw [rv], OldK.of_keep fun b o e => ?_, os, bare⟩
    rcases T.only b with n | ⟨ob, xs, z⟩
    · exact ch.keep b o e n (fun m => nomatch (show b ∈ ([] : List Addr) from m)) (fun m => nomatch m)
    · have g1 := (T.ok b _ z).1
      have g2 := (ok2 b _ (ch.frzs b ob _ z)).1
      rw [e] at g1
      cases g1
      exact g2
theorem entry_at {s : Shared} {a : Addr} {ns : List Int} {vs : List Value} (inK : K.In s.heap) (ha : s.heap.get? a = some { cls := .type "list", data := .seq vs.toArray }) (hi : IntsAre vs ns) (hl : ns.length ≤ sizeLine) : ∃ H, Entry K H s P w a ns := by
  have rv := vals_ints hi
  cases lk : K.lookup a with
  | some o =>
    have e := inK a o lk
    rw [ha] at e
    cases e
    refine ⟨fun _ => none, fun _ => .inl rfl, .inr ⟨_, vs.toArray, _, lk, rfl, rfl, rfl, ?_, by simpa using rv⟩, fun b u z => (by cases (show (none : Option HO) = some u from z)), fun b z => absurd rfl z, fun z => absurd rfl z⟩
    have := hi.length
    rw [List.size_toArray]
    omega
  | none =>
    have at1 : ∀ {b : Addr} {u : HO}, (if b = a then some (HO.frz { cls := .type "list", data := .seq vs.toArray } (.lst (ns.map V.int))) else none) = some u → b = a ∧ u = .frz { cls := .type "list", data := .seq vs.toArray } (.lst (ns.map V.int)) := fun {b u} z => by
      split at z
      · rename_i e
        exact ⟨e, (Option.some.inj z).symm⟩
      · cases z
    refine ⟨fun b => if b = a then some (.frz { cls := .type "list", data := .seq vs.toArray } (.lst (ns.map V.int))) else none, fun b => ?_, .inl (.inr ⟨{ cls := .type "list", data := .seq vs.toArray }, if_pos rfl⟩), fun b u z => ?_, fun b z => ?_, fun _ => lk⟩
    · by_cases e : b = a
      · exact .inr ⟨_, _, if_pos e⟩
      · exact .inl (if_neg e)
    · obtain ⟨rfl, rfl⟩ := at1 z
      exact ⟨ha, by rw [List.length_map]; exact hl, vs, _, rv, ha⟩
    · exact Decidable.byContradiction fun n => z (if_neg n)
/-- the law's end where its def is told its guards -/
theorem walk_G {l : PySem.W.OpenLaw} {n k : Nat} {q : Program} {loose : List Str} {XP : (Str → Option Value) → Heap → Prop} {YP : World → Heap → Prop} {d : DefRec} {K : Params → PySem.W.Frag} {sp : World → Sp} {x : Str}
    (hn : l.most = some n) (hn2 : n ≤ sizeLine) (hdf : d.params.defaults = []) (room : Room k callerA) (inK : ∀ (w : World) (h : Heap), YP w h → (K w.params).In h)
    (F : ∀ (w : World) (mg : Str → Option Value) (fa : Addr) (h : Heap), (K w.params).In h → h.Ns mainGlobals mg → mg d.name = some (.ref fa) → ∃ fd : FuncData, (∀ (s : Shared) (v : Value), BindsTo s fd ⟨[v], []⟩ [(x, v)]) ∧
      ∀ base : Heap, (K w.params).In base → base.Ns mainGlobals mg → FnOkG l.prog w (K w.params) mg base CX0 k fa fd [x] (sp w))
    (hsp : ∀ (w : World) (H : Hp) (a : Addr) (ns : List Int), ns.length ≤ n → Only H → SqL (K w.params) H a (ns.map V.int) → sp w [.ref a] H (fun v _ => v = .bl true) fun _ _ _ => False) :
    PySem.W.WalkO q loose XP YP l.row.toRowW d [] (fun f vs => PySem.call f vs) := by
  refine Att.attach_call hn hdf fun w s0 s mg mb fa o pm cd doc a vs ns G Y _ _ _ named ha hi short gens => ?_
  have kw := inK w _ Y
  obtain ⟨fd, bt, ok⟩ := F w mg fa _ kw G.T.g named
  obtain ⟨H, T⟩ := entry_at (P := l.prog) (w := w) kw ha hi (Nat.le_trans short hn2)
  have e0 := entry_env T kw G.T.g G.T.b G.T.builtins G.T.nolimit gens ha
  exact entry_go T e0 room (ok _ e0.mod.kin e0.mod.glob) bt (hsp w H a ns short T.only T.seq)
end
end He

namespace He
open PySem PySem.Spec PyProof.Rows L2
/-! ### what repr tells, and how long it is -/
structure ShD (n k : Nat) (d : PyData) : Prop where
  sh : d.showable = true
  nd : d.hasDict = false
  dp : d.depth ≤ k
  ln : d.shown.length ≤ n
  cl : d.canLay0 = true
theorem ShD.mono {n k m j : Nat} {d : PyData} (h : ShD n k d) (a : n ≤ m) (b : k ≤ j) : ShD m j d := ⟨h.sh, h.nd, Nat.le_trans h.dp b, Nat.le_trans h.ln a, h.cl⟩
theorem ShD.shaped {n k : Nat} {d : PyData} (h : ShD n k d) (hk : k ≤ 64) : SeqAt.shaped d = true := by
  unfold SeqAt.shaped
  rw [h.cl, decide_eq_true (Nat.le_trans h.dp hk)]
  rfl
theorem ShD.eqv {n k : Nat} {d : PyData} (h : ShD n k d) : PyData.eqv d d = true := PySem.SeqAt.eqv_refl d h.cl
theorem shd_non : ShD 4 0 .none := ⟨rfl, rfl, Nat.le_refl _, by rw [PyData.shown_none]; decide, rfl⟩
theorem shd_bool (b : Bool) : ShD 5 0 (.bool b) := ⟨rfl, rfl, Nat.le_refl _, by rw [PyData.shown_bool]; cases b <;> decide, rfl⟩
theorem shd_int {i : Int} {k : Nat} (hk : 0 < k) (h : i.natAbs < 10 ^ k) (h2 : i.natAbs < 2 ^ 1900) : ShD (k + 1) 0 (.int i) := by
  refine ⟨?_, rfl, Nat.le_refl _, ?_, rfl⟩
  · show decide (i.natAbs.log2 < 1920) = true
    exact decide_eq_true (Nat.lt_of_lt_of_le (PySem.Flt.log2_lt_of (by decide) h2) (by decide))
  · rw [PyData.shown_int, PySem.ofString_length]
    exact int_text_length_le10 hk h
theorem shd_str {x : Str} {k : Nat} (hk : x.cps.size ≤ k) (h : ∀ c ∈ x.cps.toList, c < 0x110000) : ShD (10 * k + 2) 0 (.str x) := by
  refine ⟨rfl, rfl, Nat.le_refl _, ?_, ?_⟩
  · rw [PyData.shown_str]
    have := PySem.StrLaws.reprText_len x fun c hc => Nat.lt_trans (h c hc) (by decide)
    have e : x.length = x.cps.size := rfl
    omega
  · show x.cps.all (· < 0x110000) = true
    rw [← Array.all_toList, List.all_eq_true]
    exact fun c hc => decide_eq_true (h c hc)
theorem shown_tup (ds : List PyData) : (PyData.tuple ds).shown = tupleText (PyData.shownAll ds) := by simp only [PyData.shown]
theorem shown_lst (ds : List PyData) : (PyData.list ds).shown = listText (PyData.shownAll ds) := by simp only [PyData.shown]
theorem shd_all {n k : Nat} : ∀ {ds : List PyData}, (∀ d ∈ ds, ShD n k d) → PyData.showableAll ds = true ∧ PyData.hasDictAll ds = false ∧ PyData.depthAll ds ≤ k ∧ ((PyData.shownAll ds).map (·.length)).sum ≤ ds.length * n ∧ (PyData.shownAll ds).length = ds.length ∧ PyData.canLayAll0 ds = true
  | [], _ => ⟨rfl, rfl, Nat.zero_le _, by rw [PyData.shownAll_nil]; simp, by rw [PyData.shownAll_nil]; rfl, rfl⟩
  | d :: ds, h => by
    have a := h d List.mem_cons_self
    obtain ⟨b1, b2, b3, b4, b5, b6⟩ := shd_all (ds := ds) fun e he => h e (List.mem_cons_of_mem _ he)
    refine ⟨?_, ?_, ?_, ?_, ?_, ?_⟩
    · show (d.showable && PyData.showableAll ds) = true
      rw [a.sh, b1]
      rfl
    · show (d.hasDict || PyData.hasDictAll ds) = false
      rw [a.nd, b2]
      rfl
    · show max d.depth (PyData.depthAll ds) ≤ k
      exact Nat.max_le.mpr ⟨a.dp, b3⟩
    · rw [PyData.shownAll_cons, List.map_cons, List.sum_cons, List.length_cons, Nat.succ_mul]
      have := a.ln
      omega
    · rw [PyData.shownAll_cons, List.length_cons, List.length_cons, b5]
    · show (d.canLay0 && PyData.canLayAll0 ds) = true
      rw [a.cl, b6]
      rfl
theorem shd_tup {n k m : Nat} {ds : List PyData} (h : ∀ d ∈ ds, ShD n k d) (hm : ds.length ≤ m) : ShD (m * (n + 2) + 3) (k + 1) (.tuple ds) := by
  obtain ⟨b1, b2, b3, b4, b5, b6⟩ := shd_all h
  refine ⟨b1, b2, Nat.succ_le_succ b3, ?_, b6⟩
  rw [shown_tup]
  have := tupleText_len_le (PyData.shownAll ds)
  have : ds.length * (n + 2) ≤ m * (n + 2) := Nat.mul_le_mul_right _ hm
  have : ds.length * (n + 2) = ds.length * n + 2 * ds.length := by rw [Nat.mul_add]; omega
  omega
theorem shd_lst {n k m : Nat} {ds : List PyData} (h : ∀ d ∈ ds, ShD n k d) (hm : ds.length ≤ m) : ShD (m * (n + 2) + 3) (k + 1) (.list ds) := by
  obtain ⟨b1, b2, b3, b4, b5, b6⟩ := shd_all h
  refine ⟨b1, b2, Nat.succ_le_succ b3, ?_, b6⟩
  rw [shown_lst]
  have := listText_len_le (PyData.shownAll ds)
  have : ds.length * (n + 2) ≤ m * (n + 2) := Nat.mul_le_mul_right _ hm
  have : ds.length * (n + 2) = ds.length * n + 2 * ds.length := by rw [Nat.mul_add]; omega
  omega
theorem name_cps {x : Str} (h : nameB x = true) : ∀ c ∈ x.cps.toList, c < 0x110000 := fun c hc => by
  unfold nameB at h
  simp only [Bool.and_eq_true] at h
  have := List.all_eq_true.mp (by rw [← Array.all_toList] at h; exact h.1.2) c hc
  simp only [Bool.and_eq_true, decide_eq_true_eq] at this
  omega
theorem shd_name {x : Str} (h : nameB x = true) : ShD 52 0 (.str x) := by
  refine shd_str (k := 5) ?_ (name_cps h)
  unfold nameB at h
  simp only [Bool.and_eq_true, decide_eq_true_eq] at h
  exact h.1.1.2
end He

namespace He
open PySem PySem.Spec PyProof.Rows L2
section
variable {P : Program} {w : World} {K : PySem.W.Frag} {mg : Str → Option Value} {base : Heap}

/-! ### fractions -/
theorem dp_tup2 {H : Hp} {v : V} {d e : PyData} (h : Dp K H v (.tuple [d, e])) : ∃ a x y, v = .ref a ∧ SqT K H a [x, y] ∧ Dp K H x d ∧ Dp K H y e := by
  cases h with
  | tup hs ha =>
    cases ha with
    | cons h1 h2 =>
      cases h2 with
      | cons h3 h4 =>
        cases h4
        exact ⟨_, _, _, rfl, hs, h1, h3⟩
abbrev Fq := Int × Int
def dFr (p : Fq) : PyData := .tuple [.int p.1, .int p.2]
theorem dFr_inv {H : Hp} {v : V} {p : Fq} (h : Dp K H v (dFr p)) : ∃ a, v = .ref a ∧ SqT K H a [.int p.1, .int p.2] := by
  obtain ⟨a, x, y, rfl, hs, h1, h2⟩ := dp_tup2 h
  cases h1
  cases h2
  exact ⟨a, rfl, hs⟩
theorem dFr_new {H : Hp} {a : Addr} {p : Fq} (h : H a = some (.tup [.int p.1, .int p.2])) : Dp K H (.ref a) (dFr p) := .tup (sqT_of h) (.cons (.int _) (.cons (.int _) .nil))
def gcdI (a b : Int) : Int := ((Nat.gcd a.natAbs b.natAbs : Nat) : Int)
def lowM (a b : Int) : Fq := (a / gcdI a b, b / gcdI a b)
def plusM (p q : Fq) : Fq := lowM (p.1 * q.2 + q.1 * p.2) (p.2 * q.2)
def timesM (p q : Fq) : Fq := lowM (p.1 * q.1) (p.2 * q.2)
theorem gcdI_pos {a b : Int} (h : 0 < b) : 0 < gcdI a b := by
  unfold gcdI
  exact Int.ofNat_lt.mpr (Nat.gcd_pos_of_pos_right _ (by omega))
theorem gcdI_le {a b : Int} (h : 0 < b) : gcdI a b ≤ b := by
  unfold gcdI
  have := Nat.gcd_le_right a.natAbs (show 0 < b.natAbs by omega)
  omega
theorem gcdI_l (a b : Int) : gcdI a b ∣ a := by unfold gcdI; exact Int.ofNat_dvd_left.mpr (Nat.gcd_dvd_left _ _)
theorem gcdI_r (a b : Int) : gcdI a b ∣ b := by unfold gcdI; exact Int.ofNat_dvd_left.mpr (Nat.gcd_dvd_right _ _)
structure FrOk (n : Nat) (p : Fq) : Prop where
  a0 : 0 ≤ p.1
  b0 : 0 < p.2
  a1 : p.1 < 2 ^ n
  b1 : p.2 < 2 ^ n
theorem pow_i {n m : Nat} (h : n ≤ m) : (2 : Int) ^ n ≤ 2 ^ m := by
  have := Nat.pow_le_pow_right (n := 2) (by decide) h
  exact_mod_cast this
theorem FrOk.mono {n m : Nat} {p : Fq} (h : FrOk n p) (l : n ≤ m) : FrOk m p := ⟨h.a0, h.b0, Int.lt_of_lt_of_le h.a1 (pow_i l), Int.lt_of_lt_of_le h.b1 (pow_i l)⟩
theorem nat_of {n : Nat} {a : Int} (h0 : 0 ≤ a) (h : a < 2 ^ n) : a.natAbs < 2 ^ n := by
  have e : ((2 ^ n : Nat) : Int) = 2 ^ n := by norm_cast
  omega
theorem lowM_ok {n : Nat} {a b : Int} (h0 : 0 ≤ a) (h1 : 0 < b) (ha : a < 2 ^ n) (hb : b < 2 ^ n) : FrOk n (lowM a b) := by
  have g := gcdI_pos (a := a) h1
  refine ⟨Int.ediv_nonneg h0 (by omega), Int.ediv_pos_of_pos_of_dvd h1 (by omega) (gcdI_r a b), ?_, ?_⟩
  · exact Int.lt_of_le_of_lt (Int.ediv_le_self _ h0) ha
  · exact Int.lt_of_le_of_lt (Int.ediv_le_self _ (by omega)) hb
theorem mul_lt {n m : Nat} {a b : Int} (h0 : 0 ≤ a) (k0 : 0 ≤ b) (h : a < 2 ^ n) (k : b < 2 ^ m) : a * b < 2 ^ (n + m) := by
  have x := wide_lt (nat_of h0 h) (nat_of k0 k)
  have e : ((2 ^ (n + m) : Nat) : Int) = 2 ^ (n + m) := by norm_cast
  have z : 0 ≤ a * b := Int.mul_nonneg h0 k0
  omega
theorem cross_lt {n m : Nat} {p q : Fq} (h : FrOk n p) (k : FrOk m q) : p.1 * q.2 + q.1 * p.2 < 2 ^ (n + m + 1) := by
  have x := mul_lt h.a0 (by have := k.b0; omega) h.a1 k.b1
  have y := mul_lt k.a0 (by have := h.b0; omega) k.a1 h.b1
  rw [Nat.add_comm m n] at y
  have e : (2 : Int) ^ (n + m + 1) = 2 * 2 ^ (n + m) := by rw [Int.pow_succ]; omega
  omega
theorem cross0 {n m : Nat} {p q : Fq} (h : FrOk n p) (k : FrOk m q) : 0 ≤ p.1 * q.2 + q.1 * p.2 := by
  have := Int.mul_nonneg h.a0 (show 0 ≤ q.2 by have := k.b0; omega)
  have := Int.mul_nonneg k.a0 (show 0 ≤ p.2 by have := h.b0; omega)
  omega
theorem den_lt {n m : Nat} {p q : Fq} (h : FrOk n p) (k : FrOk m q) : p.2 * q.2 < 2 ^ (n + m + 1) := by
  have x := mul_lt (by have := h.b0; omega) (by have := k.b0; omega) h.b1 k.b1
  have := pow_i (show n + m ≤ n + m + 1 by omega)
  omega
theorem plusM_ok {n m : Nat} {p q : Fq} (h : FrOk n p) (k : FrOk m q) : FrOk (n + m + 1) (plusM p q) := lowM_ok (cross0 h k) (Int.mul_pos h.b0 k.b0) (cross_lt h k) (den_lt h k)
theorem timesM_ok {n m : Nat} {p q : Fq} (h : FrOk n p) (k : FrOk m q) : FrOk (n + m) (timesM p q) := lowM_ok (Int.mul_nonneg h.a0 k.a0) (Int.mul_pos h.b0 k.b0) (mul_lt h.a0 k.a0 h.a1 k.a1) (mul_lt (by have := h.b0; omega) (by have := k.b0; omega) h.b1 k.b1)
theorem gcdI_mul {c a b : Int} (h : 0 < c) : gcdI (c * a) (c * b) = c * gcdI a b := by
  unfold gcdI
  rw [Int.natAbs_mul, Int.natAbs_mul, Nat.gcd_mul_left, Int.natCast_mul, Int.natAbs_of_nonneg (by omega)]
theorem lowM_mul {c a b : Int} (h : 0 < c) : lowM (c * a) (c * b) = lowM a b := by
  unfold lowM
  rw [gcdI_mul h, Int.mul_ediv_mul_of_pos _ _ h, Int.mul_ediv_mul_of_pos _ _ h]
/-- a summand need not be in lowest terms -/
theorem plusM_low {p : Fq} {a b : Int} (h1 : 0 < b) : plusM p (lowM a b) = plusM p (a, b) := by
  have g := gcdI_pos (a := a) h1
  obtain ⟨x, hx⟩ := gcdI_l a b
  obtain ⟨y, hy⟩ := gcdI_r a b
  unfold plusM
  show lowM (p.1 * (b / gcdI a b) + a / gcdI a b * p.2) (p.2 * (b / gcdI a b)) = lowM (p.1 * b + a * p.2) (p.2 * b)
  generalize gcdI a b = c at g hx hy ⊢
  subst hx hy
  rw [Int.mul_ediv_cancel_left _ (show c ≠ 0 by omega), Int.mul_ediv_cancel_left _ (show c ≠ 0 by omega)]
  have f1 : p.1 * (c * y) + c * x * p.2 = c * (p.1 * y + x * p.2) := by rw [Int.mul_add, Int.mul_left_comm, Int.mul_assoc]
  have f2 : p.2 * (c * y) = c * (p.2 * y) := by rw [Int.mul_left_comm]
  rw [f1, f2, lowM_mul g]
def spLowest (K : PySem.W.Frag) : Sp := fun vs H Q _ => ∃ (a b : Int), vs = [.int a, .int b] ∧ 0 ≤ a ∧ 0 < b ∧ b < 2 ^ 9000 ∧
  ∀ t H', Same H H' → H t = none → H' t = some (.tup [.int (lowM a b).1, .int (lowM a b).2]) → Q (.ref t) H'
theorem ok_lowest (T : TxtG K mg) : FnOk P w K mg base CX0 1 T.dLowest.f T.dLowest.fd ["above", "below"] (spLowest K) := by
  refine T.dLowest.F.ok scDLowest (fun vs H Q E h => ?_) (fun cdv A outer s H vs Q E hr h => ?_)
  · obtain ⟨a, b, rfl, _⟩ := h
    rfl
  · obtain ⟨a, b, rfl, h0, h1, h2, q⟩ := h
    refine ⟨_, (pss_cons (ps_set (i := 2) scDLowest.nd rfl (.inl rfl) (pe_callBfun cr_gcd (by rfl) T.m_gcd (pa_cons (pv 0) (pa_cons (pv 1) pa_nil))))
      (pss_one (ps_ret (pe_tup (pa_cons (pe_op op_fdivW (pv 0) (pv 2)) (pa_cons (pe_op op_fdivW (pv 1) (pv 2)) pa_nil)))))), ?_⟩
    simp only [and_assoc, tSeq, tAsg, tOp, tUn, rI, rI0, rU, tVar, tC, gName, L2.start, tIfS, tTest, tB, tCB, tCons, tNil, tIf, tRet, tRetN, tLst, tTup, tNext, tDrop, tNot, tNotV, tAnd, tOr, tAndV, tOrV, tPar, tAug, ipI, rEq, rNe, gSub, rSetL, rIxL, rIxT, tBM, tBM0, rAppend, rPopAt, gTup, gCons, gNil, tCall, tSl, tPart, tNoPart, rSlL, rCat, rEqD, rNeD, rIn, scal, List.map_cons, List.map_nil, List.length_cons, List.length_nil, List.length_map, List.cons_append, List.nil_append, List.append_nil, List.replicate, List.getElem?_cons_zero, List.getElem?_cons_succ, List.set_cons_zero, List.set_cons_succ, Option.some.injEq, exists_eq_left', exists_eq_left, exists_eq_right, exists_and_left, exists_and_right, V.int.injEq, V.ref.injEq, V.str.injEq, V.bl.injEq, reduceCtorEq, false_and, and_false, exists_false, or_false, false_or, true_and, and_true, List.cons.injEq, decide_eq_true_eq, cxOf, if_true, if_false, Bool.false_eq_true, Nat.reduceAdd, Nat.reduceSub, Nat.zero_add, Nat.add_sub_cancel_left, Nat.add_sub_cancel, Nat.sub_self, sFld, tFld, rGcd, CDivW]
    have g := gcdI_pos (a := a) h1
    have w : CDivW a (gcdI a b) := wide_div g (nat_of (by omega) (Int.lt_of_le_of_lt (gcdI_le h1) h2)) (by decide) (by decide)
    refine ⟨w.1, w.2, w.1, w.2, by decide, fun t nt => ?_⟩
    exact q t _ (same_upd nt) nt upd_same
def spPlus (K : PySem.W.Frag) : Sp := fun vs H Q _ => ∃ (x y : V) (p r : Fq) (n m : Nat), vs = [x, y] ∧ Dp K H x (dFr p) ∧ Dp K H y (dFr r) ∧ FrOk n p ∧ FrOk m r ∧ n + m + 1 ≤ 9000 ∧
  ∀ t H', Same H H' → H t = none → H' t = some (.tup [.int (plusM p r).1, .int (plusM p r).2]) → Q (.ref t) H'
theorem ok_plus (T : TxtG K mg) : FnOk P w K mg base CX0 2 T.dPlus.f T.dPlus.fd ["left", "right"] (spPlus K) := by
  refine T.dPlus.F.ok scDPlus (fun vs H Q E h => ?_) (fun cdv A outer s H vs Q E hr h => ?_)
  · obtain ⟨x, y, p, r, n, m, rfl, _⟩ := h
    rfl
  · obtain ⟨x, y, p, r, n, m, rfl, hx, hy, h1, h2, hn, q⟩ := h
    refine ⟨_, (pss_one (ps_ret (pe_call (ok_lowest T) (hr.mono (by decide)) (by rfl) T.dLowest.g T.dLowest.F.kp T.dLowest.b .nil pass0 (pa_cons (pe_op op_add (pe_op op_mulW (pe_ix ix_tup (pv 0) pe_int (fun _ _ => rfl)) (pe_ix ix_tup (pv 1) pe_int (fun _ _ => rfl))) (pe_op op_mulW (pe_ix ix_tup (pv 1) pe_int (fun _ _ => rfl)) (pe_ix ix_tup (pv 0) pe_int (fun _ _ => rfl)))) (pa_cons (pe_op op_mulW (pe_ix ix_tup (pv 0) pe_int (fun _ _ => rfl)) (pe_ix ix_tup (pv 1) pe_int (fun _ _ => rfl))) pa_nil))))), ?_⟩
    obtain ⟨a, rfl, ha⟩ := dFr_inv hx
    obtain ⟨b, rfl, hb⟩ := dFr_inv hy
    simp only [and_assoc, tSeq, tAsg, tOp, tUn, rI, rI0, rU, tVar, tC, gName, L2.start, tIfS, tTest, tB, tCB, tCons, tNil, tIf, tRet, tRetN, tLst, tTup, tNext, tDrop, tNot, tNotV, tAnd, tOr, tAndV, tOrV, tPar, tAug, ipI, rEq, rNe, gSub, rSetL, rIxL, rIxT, tBM, tBM0, rAppend, rPopAt, gTup, gCons, gNil, tCall, tSl, tPart, tNoPart, rSlL, rCat, rEqD, rNeD, rIn, scal, List.map_cons, List.map_nil, List.length_cons, List.length_nil, List.length_map, List.cons_append, List.nil_append, List.append_nil, List.replicate, List.getElem?_cons_zero, List.getElem?_cons_succ, List.set_cons_zero, List.set_cons_succ, Option.some.injEq, exists_eq_left', exists_eq_left, exists_eq_right, exists_and_left, exists_and_right, V.int.injEq, V.ref.injEq, V.str.injEq, V.bl.injEq, reduceCtorEq, false_and, and_false, exists_false, or_false, false_or, true_and, and_true, List.cons.injEq, decide_eq_true_eq, cxOf, if_true, if_false, Bool.false_eq_true, Nat.reduceAdd, Nat.reduceSub, Nat.zero_add, Nat.add_sub_cancel_left, Nat.add_sub_cancel, Nat.sub_self, sFld, tFld, spLowest]
    have mw : ∀ {i j : Int} {n m : Nat}, n + m + 1 ≤ 9000 → 0 ≤ i → i < 2 ^ n → 0 ≤ j → j < 2 ^ m → CMulW i j := fun {i j n m} l i0 i1 j0 j1 =>
      wide_mul (nat_of i0 (Int.lt_of_lt_of_le i1 (pow_i (Nat.le_succ n)))) (nat_of j0 (Int.lt_of_lt_of_le j1 (pow_i (Nat.le_succ m)))) (by omega) (by omega) (by omega)
    refine ⟨_, ha, _, rfl, _, hb, _, rfl, _, rfl, _, rfl, mw hn h1.a0 h1.a1 (Int.le_of_lt h2.b0) h2.b1, _, hb, _, rfl, _, ha, _, rfl, _, rfl, _, rfl, mw (by omega) h2.a0 h2.a1 (Int.le_of_lt h1.b0) h1.b1, _, ha, _, rfl, _, hb, _, rfl, _, rfl, _, rfl, mw hn (Int.le_of_lt h1.b0) h1.b1 (Int.le_of_lt h2.b0) h2.b1, ?_⟩
    exact ⟨cross0 h1 h2, Int.mul_pos h1.b0 h2.b0, Int.lt_of_lt_of_le (den_lt h1 h2) (pow_i hn), fun t H' s nt ht => q t H' s nt ht⟩

end
end He

namespace He
open PySem PySem.Spec PyProof.Rows L2
section
variable {P : Program} {w : World} {K : PySem.W.Frag} {mg : Str → Option Value} {base : Heap}

/-! ### who gets a share -/
/-- names in a list or tuple -/
def SqN (K : PySem.W.Frag) (H : Hp) (v : V) (ns : List Str) : Prop := ∃ a, v = .ref a ∧ Sq K H a (ns.map V.str)
theorem SqN.mono {H H' : Hp} {v : V} {ns : List Str} (s : Same H H') (h : SqN K H v ns) : SqN K H' v ns := let ⟨a, e, q⟩ := h; ⟨a, e, q.mono s⟩
def hitB (ns : List Str) (g : List Str) : Bool := g.any fun n => decide (n ∈ ns)
theorem inV_str (n : Str) (ns : List Str) : inV (.str n) (ns.map V.str) = decide (n ∈ ns) := by
  unfold inV
  rw [List.any_map]
  rw [Bool.eq_iff_iff, List.any_eq_true, decide_eq_true_eq]
  constructor
  · rintro ⟨y, hy, e⟩
    have e : (y == n) = true := e
    rw [← eq_of_beq e]
    exact hy
  · intro h
    exact ⟨n, h, beq_self_eq_true n⟩
theorem flat_strs (ns : List Str) : (ns.map V.str).all flatV = true := by
  rw [List.all_map]
  exact List.all_eq_true.mpr fun _ _ => rfl
theorem ys_map {α : Type} {ys : List V} {g : List α} {f : α → V} (hl : ys.length = g.length) (h : ∀ (i : Nat) (y : V), ys[i]? = some y → ∃ n, g[i]? = some n ∧ y = f n) : ys = g.map f := by
  refine List.ext_getElem? fun i => ?_
  rw [List.getElem?_map]
  cases e : ys[i]? with
  | none =>
    rw [List.getElem?_eq_none (by have := List.getElem?_eq_none_iff.mp e; omega)]
    rfl
  | some y =>
    obtain ⟨n, e2, rfl⟩ := h i y e
    rw [e2]
    rfl
def tGrp (g : List Str) : PyData := .tuple (g.map PyData.str)
def optV : Option Nat → V
  | none => .non
  | some i => .int (i : Nat)
theorem dp_strsT {H : Hp} {v : V} {g : List Str} (h : Dp K H v (tGrp g)) : ∃ a, v = .ref a ∧ SqT K H a (g.map V.str) := by
  cases h with
  | tup hs ha =>
    rw [dpA_strs_inv ha] at hs
    exact ⟨_, rfl, hs⟩
theorem find_none {α : Type} {f : α → Bool} {l : List α} (h : ∀ (j : Nat) (x : α), l[j]? = some x → f x = false) : l.findIdx? f = none := by
  rw [List.findIdx?_eq_none_iff]
  intro x hx
  obtain ⟨j, hj⟩ := List.mem_iff_getElem?.mp hx
  exact h j x hj
theorem find_some {α : Type} {f : α → Bool} {l : List α} {i : Nat} {x : α} (hx : l[i]? = some x) (hf : f x = true) (h : ∀ (j : Nat) (y : α), j < i → l[j]? = some y → f y = false) : l.findIdx? f = some i := by
  have hi := (List.getElem?_eq_some_iff.mp hx)
  rw [List.findIdx?_eq_some_iff_getElem]
  refine ⟨hi.1, by rw [hi.2]; exact hf, fun j hj => ?_⟩
  have hl := hi.1
  have e := h j (l[j]'(by omega)) hj (List.getElem?_eq_getElem (by omega))
  rw [e]
  exact Bool.false_ne_true

end
end He

namespace He
open PySem PySem.Spec PyProof.Rows L2
/-! ### lists of pairs, a name each -/
section
variable {β γ : Type}
def getL (m : List (Str × β)) (n : Str) : Option β := (m.find? fun x => decide (x.1 = n)).map (·.2)
def putL (m : List (Str × β)) (n : Str) (v : β) : List (Str × β) := if (m.any fun x => decide (x.1 = n)) = true then m.map (fun x => if x.1 = n then (x.1, v) else x) else m ++ [(n, v)]
def keysL (m : List (Str × β)) : List Str := m.map (·.1)
theorem getL_map (f : β → γ) (m : List (Str × β)) (n : Str) : getL (m.map fun x => (x.1, f x.2)) n = (getL m n).map f := by
  unfold getL
  rw [List.find?_map, Option.map_map, Option.map_map]
  rfl
theorem putL_map (f : β → γ) (m : List (Str × β)) (n : Str) (v : β) : (putL m n v).map (fun x => (x.1, f x.2)) = putL (m.map fun x => (x.1, f x.2)) n (f v) := by
  unfold putL
  rw [List.any_map]
  show List.map _ (if (m.any fun x => decide (x.1 = n)) = true then _ else _) = if (m.any fun x => decide (x.1 = n)) = true then _ else _
  split
  · rw [List.map_map, List.map_map]
    refine List.map_congr_left fun x _ => ?_
    show (fun x : Str × β => (x.1, f x.2)) (if x.1 = n then (x.1, v) else x) = if x.1 = n then (x.1, f v) else (x.1, f x.2)
    split <;> rfl
  · rw [List.map_append]
    rfl
theorem any_key (m : List (Str × β)) (n : Str) : (m.any fun x => decide (x.1 = n)) = decide (n ∈ keysL m) := by
  rw [Bool.eq_iff_iff, List.any_eq_true, decide_eq_true_eq]
  unfold keysL
  rw [List.mem_map]
  exact ⟨fun ⟨x, hx, e⟩ => ⟨x, hx, of_decide_eq_true e⟩, fun ⟨x, hx, e⟩ => ⟨x, hx, decide_eq_true e⟩⟩
theorem getL_none {m : List (Str × β)} {n : Str} (h : n ∉ keysL m) : getL m n = none := by
  unfold getL
  rw [List.find?_eq_none.mpr]
  · rfl
  · intro x hx e
    exact h (List.mem_map.mpr ⟨x, hx, of_decide_eq_true e⟩)
theorem getL_some {m : List (Str × β)} {n : Str} {v : β} (h : getL m n = some v) : (n, v) ∈ m := by
  unfold getL at h
  obtain ⟨x, hx, rfl⟩ := Option.map_eq_some_iff.mp h
  have e0 := List.find?_some hx
  have e : x.1 = n := of_decide_eq_true e0
  rw [← e]
  exact List.mem_of_find?_eq_some hx
theorem getL_in {m : List (Str × β)} {n : Str} (h : n ∈ keysL m) : ∃ v, getL m n = some v := by
  cases e : getL m n with
  | some v => exact ⟨v, rfl⟩
  | none =>
    exfalso
    unfold getL at e
    rw [Option.map_eq_none_iff, List.find?_eq_none] at e
    obtain ⟨x, hx, rfl⟩ := List.mem_map.mp h
    exact e x hx (decide_eq_true rfl)
theorem getL_mem {m : List (Str × β)} (nd : (keysL m).Nodup) {x : Str × β} (hx : x ∈ m) : getL m x.1 = some x.2 := by
  obtain ⟨v, hv⟩ := getL_in (m := m) (n := x.1) (List.mem_map.mpr ⟨x, hx, rfl⟩)
  have h2 := getL_some hv
  rw [hv]
  obtain ⟨i, hi⟩ := List.mem_iff_getElem?.mp hx
  obtain ⟨j, hj⟩ := List.mem_iff_getElem?.mp h2
  have ki : (keysL m)[i]? = some x.1 := by unfold keysL; rw [List.getElem?_map, hi]; rfl
  have kj : (keysL m)[j]? = some x.1 := by unfold keysL; rw [List.getElem?_map, hj]; rfl
  have ij : i = j := (List.getElem?_inj (List.getElem?_eq_some_iff.mp ki).1 nd).mp (ki.trans kj.symm)
  subst ij
  rw [hi] at hj
  have e := congrArg Prod.snd (Option.some.inj hj)
  exact congrArg some e.symm
theorem keys_put (m : List (Str × β)) (n : Str) (v : β) : keysL (putL m n v) = if n ∈ keysL m then keysL m else keysL m ++ [n] := by
  unfold putL
  rw [any_key]
  by_cases h : n ∈ keysL m
  · rw [if_pos (decide_eq_true h), if_pos h]
    unfold keysL
    rw [List.map_map]
    refine List.map_congr_left fun x _ => ?_
    show (if x.1 = n then (x.1, v) else x).1 = x.1
    by_cases e : x.1 = n
    · rw [if_pos e]
    · rw [if_neg e]
  · rw [if_neg (by simpa using h), if_neg h]
    unfold keysL
    rw [List.map_append]
    rfl
theorem keys_put_nodup {m : List (Str × β)} {n : Str} {v : β} (h : (keysL m).Nodup) : (keysL (putL m n v)).Nodup := by
  rw [keys_put]
  split
  · exact h
  · rename_i k
    exact List.nodup_append.mpr ⟨h, by simp, fun a ha b hb e => k (by rw [← List.mem_singleton.mp hb, ← e]; exact ha)⟩
theorem mem_put {m : List (Str × β)} {n k : Str} {v : β} : k ∈ keysL (putL m n v) ↔ k = n ∨ k ∈ keysL m := by
  rw [keys_put]
  split
  · rename_i h
    exact ⟨.inr, fun z => z.elim (fun e => e ▸ h) id⟩
  · rw [List.mem_append, List.mem_singleton]
    exact Or.comm
theorem getL_put (m : List (Str × β)) (n k : Str) (v : β) : getL (putL m n v) k = if k = n then some v else getL m k := by
  unfold putL
  rw [any_key]
  by_cases h : n ∈ keysL m
  · rw [if_pos (decide_eq_true h)]
    induction m with
    | nil => cases h
    | cons x m ih =>
      rw [List.map_cons]
      unfold getL
      by_cases e : x.1 = k
      · rw [List.find?_cons_of_pos (by show decide ((if x.1 = n then (x.1, v) else x).1 = k) = true; split <;> exact decide_eq_true e), List.find?_cons_of_pos (by exact decide_eq_true e)]
        by_cases e2 : k = n
        · rw [if_pos e2, if_pos (e.trans e2)]
          rfl
        · rw [if_neg e2, if_neg (fun z => e2 (e.symm.trans z))]
      · rw [List.find?_cons_of_neg (by show ¬ decide ((if x.1 = n then (x.1, v) else x).1 = k) = true; split <;> exact fun z => e (of_decide_eq_true z)), List.find?_cons_of_neg (by exact fun z => e (of_decide_eq_true z))]
        by_cases h2 : n ∈ keysL m
        · exact ih h2
        · have e3 : x.1 = n := by
            rcases List.mem_cons.mp h with z | z
            · exact z.symm
            · exact absurd z h2
          have same : m.map (fun x => if x.1 = n then (x.1, v) else x) = m := by
            conv => rhs; rw [← List.map_id m]
            refine List.map_congr_left fun y hy => ?_
            rw [if_neg (fun z => h2 (List.mem_map.mpr ⟨y, hy, z⟩))]
            rfl
          rw [same, if_neg (fun z => e (e3.trans z.symm))]
  · rw [if_neg (by simpa using h)]
    unfold getL
    rw [List.find?_append]
    by_cases e : k = n
    · rw [if_pos e, List.find?_eq_none.mpr (fun x hx z => h (List.mem_map.mpr ⟨x, hx, (of_decide_eq_true z).trans e⟩)), Option.none_or, List.find?_cons_of_pos (by exact decide_eq_true e.symm)]
      rfl
    · rw [if_neg e, List.find?_cons_of_neg (by exact fun z => e (of_decide_eq_true z).symm), List.find?_nil, Option.or_none]
end
/-! ### fractions added up -/
abbrev Mf := List (Str × Fq)
def zeroF : Fq := (0, 1)
def addOne (m : Mf) (n : Str) (q : Fq) : Mf := putL m n (plusM ((getL m n).getD zeroF) q)
def addAll (m : Mf) (tk : List Str) (q : Fq) : Mf := tk.foldl (fun m n => addOne m n q) m
theorem addAll_get : ∀ (tk : List Str) (m : Mf) (q : Fq) (k : Str), tk.Nodup → getL (addAll m tk q) k = if k ∈ tk then some (plusM ((getL m k).getD zeroF) q) else getL m k
  | [], m, q, k, _ => by simp [addAll]
  | n :: tk, m, q, k, nd => by
    have nd' := List.nodup_cons.mp nd
    show getL (addAll (addOne m n q) tk q) k = _
    rw [addAll_get tk _ q k nd'.2]
    unfold addOne
    rw [getL_put]
    by_cases e : k = n
    · rw [if_neg (e ▸ nd'.1), if_pos e, if_pos (by rw [e]; exact List.mem_cons_self), e]
    · rw [if_neg e]
      by_cases h : k ∈ tk
      · rw [if_pos h, if_pos (List.mem_cons_of_mem _ h)]
      · rw [if_neg h, if_neg (fun z => (List.mem_cons.mp z).elim e h)]
theorem addAll_keys : ∀ (tk : List Str) (m : Mf) (q : Fq) (k : Str), k ∈ keysL (addAll m tk q) ↔ k ∈ tk ∨ k ∈ keysL m
  | [], m, q, k => by simp [addAll]
  | n :: tk, m, q, k => by
    show k ∈ keysL (addAll (addOne m n q) tk q) ↔ _
    rw [addAll_keys tk _ q k]
    unfold addOne
    rw [mem_put, List.mem_cons]
    exact ⟨fun h => h.elim (fun z => .inl (.inr z)) fun z => z.elim (fun z => .inl (.inl z)) .inr, fun h => h.elim (fun z => z.elim (fun z => .inr (.inl z)) .inl) fun z => .inr (.inr z)⟩
theorem addAll_nodup : ∀ (tk : List Str) (m : Mf) (q : Fq), (keysL m).Nodup → (keysL (addAll m tk q)).Nodup
  | [], _, _, h => h
  | n :: tk, m, q, h => addAll_nodup tk _ q (keys_put_nodup h)
/-- the same names with the same fractions -/
structure Alike (m m' : Mf) : Prop where
  n1 : (keysL m).Nodup
  n2 : (keysL m').Nodup
  get : ∀ k, getL m k = getL m' k
theorem Alike.keys {m m' : Mf} (h : Alike m m') (k : Str) : k ∈ keysL m ↔ k ∈ keysL m' := by
  have one : ∀ {a b : Mf}, (∀ k, getL a k = getL b k) → k ∈ keysL a → k ∈ keysL b := fun {a b} g z => by
    obtain ⟨v, hv⟩ := getL_in z
    exact List.mem_map.mpr ⟨(k, v), getL_some ((g k).symm.trans hv), rfl⟩
  exact ⟨one h.get, one fun k => (h.get k).symm⟩
theorem Alike.perm {m m' : Mf} (h : Alike m m') : (keysL m).Perm (keysL m') := (List.perm_ext_iff_of_nodup h.n1 h.n2).mpr h.keys
theorem Alike.add {m m' : Mf} {tk tk' : List Str} {q q' : Fq} (h : Alike m m') (p : tk.Perm tk') (nd : tk.Nodup) (hq : ∀ x : Fq, plusM x q = plusM x q') : Alike (addAll m tk q) (addAll m' tk' q') := by
  refine ⟨addAll_nodup _ _ _ h.n1, addAll_nodup _ _ _ h.n2, fun k => ?_⟩
  rw [addAll_get _ _ _ _ nd, addAll_get _ _ _ _ (p.nodup_iff.mp nd), h.get k, hq]
  by_cases e : k ∈ tk
  · rw [if_pos e, if_pos (p.mem_iff.mp e)]
  · rw [if_neg e, if_neg (fun z => e (p.mem_iff.mpr z))]
def dItem (n : Str) (q : Fq) : PyData := .tuple [.str n, dFr q]
/-- the names ascending, with their fractions -/
def itemsD (m : Mf) : PyData := .tuple ((sortG (keysL m)).map fun n => dItem n ((getL m n).getD zeroF))
theorem Alike.items {m m' : Mf} (h : Alike m m') : itemsD m = itemsD m' := by
  unfold itemsD
  rw [sortG_perm_eq h.perm]
  congr 1
  exact List.map_congr_left fun n _ => by rw [h.get n]
theorem up_sortG {ys g : List Str} (p : ys.Perm g) (h : ys.Pairwise fun x y => ¬ (y.cps.toList < x.cps.toList)) : ys = sortG g := by
  refine up_one (p.trans (sortG_perm g).symm) (h.imp fun {a b} z => ?_) (sortG_up g)
  unfold leS
  rw [ltCps_eq, decide_eq_false z]
  rfl
/-! ### who takes a share -/
def takersM (gs : List (List Str)) (ns : List Str) : List Str := match gs.find? (hitB ns) with
  | none => ["crown"]
  | some g => g.filter fun n => decide (n ∈ ns)
theorem hit_sort (ns g : List Str) : hitB ns (sortG g) = hitB ns g := by
  unfold hitB
  rw [Bool.eq_iff_iff, List.any_eq_true, List.any_eq_true]
  exact ⟨fun ⟨x, hx, h⟩ => ⟨x, (sortG_perm g).mem_iff.mp hx, h⟩, fun ⟨x, hx, h⟩ => ⟨x, (sortG_perm g).mem_iff.mpr hx, h⟩⟩
theorem takers_sort (gs : List (List Str)) (ns : List Str) : (takersM (gs.map sortG) ns).Perm (takersM gs ns) := by
  unfold takersM
  rw [List.find?_map]
  have e : (hitB ns ∘ sortG) = hitB ns := funext fun g => hit_sort ns g
  rw [e]
  cases gs.find? (hitB ns) with
  | none => exact List.Perm.refl _
  | some g => exact (sortG_perm g).filter _
theorem takers_nodup {gs : List (List Str)} {ns : List Str} (h : ∀ g ∈ gs, g.Nodup) : (takersM gs ns).Nodup := by
  unfold takersM
  cases e : gs.find? (hitB ns) with
  | none => simp
  | some g => exact (h g (List.mem_of_find?_eq_some e)).sublist List.filter_sublist
theorem takers_len {gs : List (List Str)} {ns : List Str} {b : Nat} (h : ∀ g ∈ gs, g.length ≤ b) (hb : 1 ≤ b) : 1 ≤ (takersM gs ns).length ∧ (takersM gs ns).length ≤ b := by
  unfold takersM
  cases e : gs.find? (hitB ns) with
  | none => exact ⟨Nat.le_refl _, hb⟩
  | some g =>
    refine ⟨?_, Nat.le_trans (List.length_filter_le _ _) (h g (List.mem_of_find?_eq_some e))⟩
    have := List.find?_some e
    obtain ⟨x, hx, hn⟩ := List.any_eq_true.mp this
    exact List.length_pos_of_mem (List.mem_filter.mpr ⟨hx, hn⟩)
def totalW (shs : List Sh) : Int := (shs.map (·.1)).sum
/-- the program's way: groups ascending, parts in lowest terms -/
def stepP (T : Int) (ns : List Str) (m : Mf) (s : Sh) : Mf := let tk := takersM (s.2.map sortG) ns; addAll m tk (lowM s.1 (T * tk.length))
def heirsM (shs : List Sh) (ns : List Str) : Mf := shs.foldl (stepP (totalW shs) ns) []
/-- the law's way -/
def stepL (T : Int) (ns : List Str) (m : Mf) (s : Sh) : Mf := let tk := takersM s.2 ns; addAll m tk (s.1, T * tk.length)
def heirsL (shs : List Sh) (ns : List Str) : Mf := shs.foldl (stepL (totalW shs) ns) []
theorem total_pos {shs : List Sh} (h : ∀ s ∈ shs, 1 ≤ s.1) (h0 : shs ≠ []) : 0 < totalW shs := by
  have nn : ∀ l : List Sh, (∀ s ∈ l, 1 ≤ s.1) → 0 ≤ totalW l := by
    intro l
    induction l with
    | nil => exact fun _ => Int.le_refl _
    | cons x l ih =>
      intro h
      have a := h x List.mem_cons_self
      have b := ih fun s hs => h s (List.mem_cons_of_mem _ hs)
      show 0 ≤ x.1 + totalW l
      omega
  cases shs with
  | nil => exact absurd rfl h0
  | cons x l =>
    have a := h x List.mem_cons_self
    have b := nn l fun s hs => h s (List.mem_cons_of_mem _ hs)
    show 0 < x.1 + totalW l
    omega
theorem total_le {b : Int} : ∀ {shs : List Sh}, (∀ s ∈ shs, s.1 ≤ b) → totalW shs ≤ b * shs.length
  | [], _ => by show (0 : Int) ≤ b * 0; omega
  | x :: l, h => by
    have a := h x List.mem_cons_self
    have c := total_le (shs := l) fun s hs => h s (List.mem_cons_of_mem _ hs)
    show x.1 + totalW l ≤ b * ((l.length + 1 : Nat) : Int)
    rw [Int.natCast_add, Int.mul_add]
    omega
theorem heirs_alike {shs : List Sh} (h : ∀ s ∈ shs, ShOk s) (h0 : shs ≠ []) (ns : List Str) : Alike (heirsM shs ns) (heirsL shs ns) := by
  have tp := total_pos (fun s hs => (h s hs).w1) h0
  unfold heirsM heirsL
  generalize totalW shs = T at tp
  have go : ∀ (l : List Sh) (m m' : Mf), (∀ s ∈ l, ShOk s) → Alike m m' → Alike (l.foldl (stepP T ns) m) (l.foldl (stepL T ns) m') := by
    intro l
    induction l with
    | nil => exact fun _ _ _ a => a
    | cons s l ih =>
      intro m m' hs a
      refine ih _ _ (fun t ht => hs t (List.mem_cons_of_mem _ ht)) ?_
      have ok := hs s List.mem_cons_self
      have pm := takers_sort s.2 ns
      have nd : (takersM s.2 ns).Nodup := takers_nodup fun g hg => (ok.gs g hg).nd
      refine a.add pm (pm.nodup_iff.mpr nd) fun x => ?_
      have l1 : 1 ≤ (takersM s.2 ns).length := by
        unfold takersM
        cases e : s.2.find? (hitB ns) with
        | none => exact Nat.le_refl _
        | some g =>
          have e0 := List.find?_some e
          obtain ⟨x, hx, hn⟩ := List.any_eq_true.mp e0
          exact List.length_pos_of_mem (List.mem_filter.mpr ⟨hx, hn⟩)
      rw [pm.length_eq, plusM_low (Int.mul_pos tp (by omega))]
  exact go shs [] [] h ⟨List.nodup_nil, List.nodup_nil, fun _ => rfl⟩
def heirsD (shs : List Sh) (ns : List Str) : PyData := itemsD (heirsM shs ns)
end He

namespace He
open PySem PySem.Spec PyProof.Rows L2
section
variable {P : Program} {w : World} {K : PySem.W.Frag} {mg : Str → Option Value} {base : Heap}

theorem find_of {α : Type} {f : α → Bool} {l : List α} {i : Nat} (h : l.findIdx? f = some i) : ∃ x, l[i]? = some x ∧ l.find? f = some x := by
  rw [List.findIdx?_eq_some_iff_getElem] at h
  obtain ⟨hi, h1, h2⟩ := h
  refine ⟨l[i], List.getElem?_eq_getElem hi, ?_⟩
  rw [List.find?_eq_some_iff_getElem]
  exact ⟨h1, i, hi, rfl, fun j hj => by simpa using h2 j hj⟩
theorem find_of_none {α : Type} {f : α → Bool} {l : List α} (h : l.findIdx? f = none) : l.find? f = none := by
  rw [List.findIdx?_eq_none_iff] at h
  rw [List.find?_eq_none]
  intro x hx
  rw [h x hx]
  exact Bool.false_ne_true
def spTakers (K : PySem.W.Frag) : Sp := fun vs H Q _ => ∃ (g al : V) (gs : List (List Str)) (ns : List Str), vs = [g, al] ∧ Dp K H g (.tuple (gs.map tGrp)) ∧ SqN K H al ns ∧ gs.length < 1000 ∧ (∀ g ∈ gs, g.length < 1000) ∧
  ∀ r H', Same H H' → H r = none → H' r = some (.lst ((takersM gs ns).map V.str)) → Q (.ref r) H'
theorem ok_takers (T : TxtG K mg) : FnOk P w K mg base CX0 2 T.dTakers.f T.dTakers.fd ["groups", "alive"] (spTakers K) := by
  refine T.dTakers.F.ok scDTakers (fun vs H Q E h => ?_) (fun cdv A outer s H vs Q E hr h => ?_)
  · obtain ⟨g, al, gs, ns, rfl, _⟩ := h
    rfl
  · obtain ⟨g, al, gs, ns, rfl, hg, hal, hn, hgs, q⟩ := h
    refine ⟨_, (pss_cons (ps_for PassesOwn.never rfl (pi_seq (pv 0)) (pg_name (i := 2) scDTakers.nd rfl (.inl rfl))
      (pss_cons (ps_setLc (i := 3) (own := [("name", 4)]) (g := (gName 4)) rfl scDTakers.nd rfl rfl (sw_true rfl rfl rfl (by decide +kernel)) (pi_seq (pv 2)) (blkOk_by (N := ["groups", "alive", "group", "takers", "name"]) (sc := defScope sDTakers) (by decide +kernel)) (fun _ _ _ _ _ => (pg_name (i := 4) scDTakers.nd rfl (.inl rfl))) (fun _ _ _ _ _ => (pts_one (pt_cmpR (show OpR _ (compareOp .In) (rIn K false) from op_in_seq) (pv 4) (pv 1) (by rfl)))) (fun _ _ _ _ _ => (pv 4)))
      (pss_one (ps_if (pt_truth (pv 3) (by intro _; rfl))
      (pss_one (ps_ret (pv 3)))
      pss_nil))))
      (pss_one (ps_ret (pe_lst (pa_cons (pe_glob (v := .str "crown") (by rfl) T.k_CROWN.choose_spec ⟨_, rfl⟩) pa_nil))))), ?_⟩
    obtain ⟨al, rfl, hal0⟩ := id hal
    obtain ⟨a, vs, rfl, hs, hd⟩ : ∃ a vs, g = .ref a ∧ SqT K H a vs ∧ DpAll K H vs (gs.map tGrp) := by
      cases hg with
      | tup h1 h2 => exact ⟨_, _, rfl, h1, h2⟩
    have hvl : vs.length = gs.length := by rw [dpA_len hd, List.length_map]
    simp only [and_assoc, tSeq, tAsg, tOp, tUn, rI, rI0, rU, tVar, tC, gName, L2.start, tIfS, tTest, tB, tCB, tCons, tNil, tIf, tRet, tRetN, tLst, tTup, tNext, tDrop, tNot, tNotV, tAnd, tOr, tAndV, tOrV, tPar, tAug, ipI, rEq, rNe, gSub, rSetL, rIxL, rIxT, tBM, tBM0, rAppend, rPopAt, gTup, gCons, gNil, tCall, tSl, tPart, tNoPart, rSlL, rCat, rEqD, rNeD, rIn, scal, List.map_cons, List.map_nil, List.length_cons, List.length_nil, List.length_map, List.cons_append, List.nil_append, List.append_nil, List.replicate, List.getElem?_cons_zero, List.getElem?_cons_succ, List.set_cons_zero, List.set_cons_succ, Option.some.injEq, exists_eq_left', exists_eq_left, exists_eq_right, exists_and_left, exists_and_right, V.int.injEq, V.ref.injEq, V.str.injEq, V.bl.injEq, reduceCtorEq, false_and, and_false, exists_false, or_false, false_or, true_and, and_true, List.cons.injEq, decide_eq_true_eq, cxOf, if_true, if_false, Bool.false_eq_true, Nat.reduceAdd, Nat.reduceSub, Nat.zero_add, Nat.add_sub_cancel_left, Nat.add_sub_cancel, Nat.sub_self, sFld, tFld, tFor_eq, tLc_eq, iRng1, iRng2, iList, iTup, iEnum, iEnumQ, rIsi, rIsiT, iSeq, wipe]
    refine ⟨vs, _, .inr ⟨rfl, hs⟩, ?_⟩
    refine fg_tup (xs := vs) (fun i σ H2 => ∃ (o2 o3 o4 : Option V), σ = [some (.ref a), some (.ref al), o2, o3, o4] ∧ Same H H2 ∧ ∀ (j : Nat) (x : List Str), j < i → gs[j]? = some x → hitB ns x = false) ⟨none, none, none, rfl, Same.refl _, fun j x h => absurd h (Nat.not_lt_zero j)⟩ (fun i σ H2 _ ⟨_, _, _, _, s, _⟩ => Same.seqT s hs) ?_ ?_
    · rintro i x σ H2 hx ⟨o2, o3, o4, rfl, s2, hno⟩
      obtain ⟨d, ed, hx2⟩ := dpA_get (dpA_mono s2 _ _ hd) hx
      rw [List.getElem?_map] at ed
      obtain ⟨gr, eg, rfl⟩ := Option.map_eq_some_iff.mp ed
      have hgl := hgs gr (List.mem_of_getElem? eg)
      obtain ⟨b, rfl, hb⟩ := dp_strsT hx2
      simp only [and_assoc, tSeq, tAsg, tOp, tUn, rI, rI0, rU, tVar, tC, gName, L2.start, tIfS, tTest, tB, tCB, tCons, tNil, tIf, tRet, tRetN, tLst, tTup, tNext, tDrop, tNot, tNotV, tAnd, tOr, tAndV, tOrV, tPar, tAug, ipI, rEq, rNe, gSub, rSetL, rIxL, rIxT, tBM, tBM0, rAppend, rPopAt, gTup, gCons, gNil, tCall, tSl, tPart, tNoPart, rSlL, rCat, rEqD, rNeD, rIn, scal, List.map_cons, List.map_nil, List.length_cons, List.length_nil, List.length_map, List.cons_append, List.nil_append, List.append_nil, List.replicate, List.getElem?_cons_zero, List.getElem?_cons_succ, List.set_cons_zero, List.set_cons_succ, Option.some.injEq, exists_eq_left', exists_eq_left, exists_eq_right, exists_and_left, exists_and_right, V.int.injEq, V.ref.injEq, V.str.injEq, V.bl.injEq, reduceCtorEq, false_and, and_false, exists_false, or_false, false_or, true_and, and_true, List.cons.injEq, decide_eq_true_eq, cxOf, if_true, if_false, Bool.false_eq_true, Nat.reduceAdd, Nat.reduceSub, Nat.zero_add, Nat.add_sub_cancel_left, Nat.add_sub_cancel, Nat.sub_self, sFld, tFld, tFor_eq, tLc_eq, iRng1, iRng2, iList, iTup, iEnum, iEnumQ, rIsi, rIsiT, iSeq, wipe]
      refine ⟨_, _, .inr ⟨rfl, hb⟩, fun D nD => ?_⟩
      refine lg_keep gr V.str V.str (fun n => decide (n ∈ ns)) (.inr ⟨rfl, hb⟩) (small1000 (by omega)) nD (fun n H3 Aq Bq hm s3 hD hA hB => ?_) (fun H3 s3 eD => ?_)
      · simp only [and_assoc, tSeq, tAsg, tOp, tUn, rI, rI0, rU, tVar, tC, gName, L2.start, tIfS, tTest, tB, tCB, tCons, tNil, tIf, tRet, tRetN, tLst, tTup, tNext, tDrop, tNot, tNotV, tAnd, tOr, tAndV, tOrV, tPar, tAug, ipI, rEq, rNe, gSub, rSetL, rIxL, rIxT, tBM, tBM0, rAppend, rPopAt, gTup, gCons, gNil, tCall, tSl, tPart, tNoPart, rSlL, rCat, rEqD, rNeD, rIn, scal, List.map_cons, List.map_nil, List.length_cons, List.length_nil, List.length_map, List.cons_append, List.nil_append, List.append_nil, List.replicate, List.getElem?_cons_zero, List.getElem?_cons_succ, List.set_cons_zero, List.set_cons_succ, Option.some.injEq, exists_eq_left', exists_eq_left, exists_eq_right, exists_and_left, exists_and_right, V.int.injEq, V.ref.injEq, V.str.injEq, V.bl.injEq, reduceCtorEq, false_and, and_false, exists_false, or_false, false_or, true_and, and_true, List.cons.injEq, decide_eq_true_eq, cxOf, if_true, if_false, Bool.false_eq_true, Nat.reduceAdd, Nat.reduceSub, Nat.zero_add, Nat.add_sub_cancel_left, Nat.add_sub_cancel, Nat.sub_self, sFld, tFld, tFor_eq, tLc_eq, iRng1, iRng2, iList, iTup, iEnum, iEnumQ, rIsi, rIsiT, iSeq, wipe, rIn]
        refine ⟨_, hal0.mono (s2.trans s3), rfl, flat_strs ns, ?_⟩
        rw [inV_str]
        cases h : decide (n ∈ ns) with
        | true => exact hA _ h (Same.refl _)
        | false => exact hB _ h (Same.refl _)
      · have e0 : (!((gr.filter fun n => decide (n ∈ ns)).map V.str).isEmpty) = hitB ns gr := by
          unfold hitB
          rw [Bool.eq_iff_iff, List.any_eq_true]
          simp only [List.isEmpty_map, Bool.not_eq_true', List.isEmpty_eq_false_iff]
          constructor
          · intro h
            obtain ⟨x, hx⟩ := List.exists_mem_of_ne_nil _ h
            have := List.mem_filter.mp hx
            exact ⟨x, this.1, this.2⟩
          · rintro ⟨x, h1, h2⟩
            exact List.ne_nil_of_mem (List.mem_filter.mpr ⟨h1, h2⟩)
        refine ⟨_, .inl ⟨_, sqL_of eD, rfl⟩, ?_⟩
        rw [e0]
        cases hh : hitB ns gr with
        | true =>
          rw [if_pos rfl]
          refine q D H3 (s2.trans s3) (s2.free nD) ?_
          rw [eD]
          obtain ⟨x, ex, ef⟩ := find_of (find_some eg hh hno)
          rw [eg] at ex
          cases ex
          unfold takersM
          rw [ef]
        | false =>
          rw [if_neg Bool.false_ne_true]
          refine ⟨s2.trans s3, fun j y hj ey => ?_⟩
          by_cases e : j = i
          · rw [e, eg] at ey
            cases ey
            exact hh
          · exact hno j y (by omega) ey
    · rintro σ H2 ⟨o2, o3, o4, rfl, s2, hno⟩
      simp only [and_assoc, tSeq, tAsg, tOp, tUn, rI, rI0, rU, tVar, tC, gName, L2.start, tIfS, tTest, tB, tCB, tCons, tNil, tIf, tRet, tRetN, tLst, tTup, tNext, tDrop, tNot, tNotV, tAnd, tOr, tAndV, tOrV, tPar, tAug, ipI, rEq, rNe, gSub, rSetL, rIxL, rIxT, tBM, tBM0, rAppend, rPopAt, gTup, gCons, gNil, tCall, tSl, tPart, tNoPart, rSlL, rCat, rEqD, rNeD, rIn, scal, List.map_cons, List.map_nil, List.length_cons, List.length_nil, List.length_map, List.cons_append, List.nil_append, List.append_nil, List.replicate, List.getElem?_cons_zero, List.getElem?_cons_succ, List.set_cons_zero, List.set_cons_succ, Option.some.injEq, exists_eq_left', exists_eq_left, exists_eq_right, exists_and_left, exists_and_right, V.int.injEq, V.ref.injEq, V.str.injEq, V.bl.injEq, reduceCtorEq, false_and, and_false, exists_false, or_false, false_or, true_and, and_true, List.cons.injEq, decide_eq_true_eq, cxOf, if_true, if_false, Bool.false_eq_true, Nat.reduceAdd, Nat.reduceSub, Nat.zero_add, Nat.add_sub_cancel_left, Nat.add_sub_cancel, Nat.sub_self, sFld, tFld, tFor_eq, tLc_eq, iRng1, iRng2, iList, iTup, iEnum, iEnumQ, rIsi, rIsiT, iSeq, wipe]
      refine ⟨by decide, fun l nl => ?_⟩
      refine q l _ (s2.trans (same_upd nl)) (s2.free nl) ?_
      rw [upd_same]
      unfold takersM
      rw [find_of_none (find_none fun j x e => hno j x (by have := (List.getElem?_eq_some_iff.mp e).1; omega) e)]
      rfl

end
end He

namespace He
open PySem PySem.Spec PyProof.Rows L2
section
variable {P : Program} {w : World} {K : PySem.W.Frag} {mg : Str → Option Value} {base : Heap}

/-- the class Will with its heirs -/
structure TxtH (K : PySem.W.Frag) (mg : Str → Option Value) where
  w : TxtW K mg
  hF : Addr
  hD : FuncData
  hFn : Fun K "heirs" "Will.heirs" sDWillHeirs hF hD
  hB : Binds K hD ["self", "alive"] []
  hM : Meth K w.t.cWill "heirs" hF
/-! ### the dict of fractions -/
abbrev L3 := List (Str × Addr × Fq)
def ent3 (t : Str × Addr × Fq) : L2.Key × V := (Sum.inr t.1, V.ref t.2.1)
def mOf (L : L3) : Mf := L.map fun t => (t.1, t.2.2)
structure FqD (K : PySem.W.Frag) (b : Nat) (H : Hp) (d : Addr) (L : L3) : Prop where
  at_ : H d = some (.dK (L.map ent3))
  val : ∀ t ∈ L, Dp K (hide d H) (.ref t.2.1) (dFr t.2.2)
  bd : ∀ t ∈ L, FrOk b t.2.2
theorem FqD.same {b : Nat} {H H' : Hp} {d : Addr} {L : L3} (h : FqD K b H d L) (s : Same H H') : FqD K b H' d L := ⟨s _ _ h.at_, fun t ht => dp_mono (hide_same s) _ _ (h.val t ht), h.bd⟩
theorem FqD.mono {b c : Nat} {H : Hp} {d : Addr} {L : L3} (h : FqD K b H d L) (l : b ≤ c) : FqD K c H d L := ⟨h.at_, h.val, fun t ht => (h.bd t ht).mono l⟩
theorem valV_ent3 (L : L3) (n : Str) : valV (L.map ent3) (Sum.inr n) = (getL L n).map fun t => V.ref t.1 := by
  unfold valV getL
  rw [List.find?_map, Option.map_map, Option.map_map]
  have e : ((fun kv : L2.Key × V => decide (kv.1 = Sum.inr n)) ∘ ent3) = fun x : Str × Addr × Fq => decide (x.1 = n) := funext fun x => by
    show decide ((Sum.inr x.1 : L2.Key) = Sum.inr n) = decide (x.1 = n)
    by_cases h : x.1 = n
    · rw [decide_eq_true h, decide_eq_true (by rw [h])]
    · rw [decide_eq_false h, decide_eq_false (fun z => h (Sum.inr.inj z))]
  rw [e]
  rfl
theorem putK_ent3 (L : L3) (n : Str) (a : Addr) (q : Fq) : putK (L.map ent3) (Sum.inr n) (.ref a) = (putL L n (a, q)).map ent3 := by
  unfold putK putL
  rw [List.any_map]
  have e : ((fun kv : L2.Key × V => decide (kv.1 = Sum.inr n)) ∘ ent3) = fun x : Str × Addr × Fq => decide (x.1 = n) := funext fun x => by
    show decide ((Sum.inr x.1 : L2.Key) = Sum.inr n) = decide (x.1 = n)
    by_cases h : x.1 = n
    · rw [decide_eq_true h, decide_eq_true (by rw [h])]
    · rw [decide_eq_false h, decide_eq_false (fun z => h (Sum.inr.inj z))]
  rw [e]
  split
  · rw [List.map_map, List.map_map]
    refine List.map_congr_left fun x _ => ?_
    show (if (Sum.inr x.1 : L2.Key) = Sum.inr n then (Sum.inr x.1, V.ref a) else ent3 x) = ent3 (if x.1 = n then (x.1, (a, q)) else x)
    by_cases h : x.1 = n
    · rw [if_pos h, if_pos (by rw [h])]
      rfl
    · rw [if_neg h, if_neg (fun z => h (Sum.inr.inj z))]
  · rw [List.map_append]
    rfl
theorem mOf_get (L : L3) (n : Str) : getL (mOf L) n = (getL L n).map (·.2) := getL_map _ L n
theorem mOf_put (L : L3) (n : Str) (a : Addr) (q : Fq) : mOf (putL L n (a, q)) = putL (mOf L) n q := putL_map _ L n _
theorem mOf_keys (L : L3) : keysL (mOf L) = L.map (·.1) := by
  unfold keysL mOf
  rw [List.map_map]
  rfl
/-- what get tells, or nought -/
theorem FqD.get {b : Nat} {H : Hp} {d z : Addr} {L : L3} (h : FqD K b H d L) (n : Str) (hz : Dp K (hide d H) (.ref z) (dFr zeroF)) (hb : 1 ≤ b) :
    Dp K (hide d H) (((getL L n).map fun t => V.ref t.1).getD (.ref z)) (dFr ((getL (mOf L) n).getD zeroF)) ∧ FrOk b ((getL (mOf L) n).getD zeroF) := by
  rw [mOf_get]
  cases e : getL L n with
  | none =>
    refine ⟨hz, ?_⟩
    have p : (2 : Int) ^ 1 ≤ 2 ^ b := pow_i hb
    exact ⟨by decide, by decide, by show (0 : Int) < 2 ^ b; omega, by show (1 : Int) < 2 ^ b; omega⟩
  | some t => exact ⟨h.val _ (getL_some e), h.bd _ (getL_some e)⟩
theorem mem_putL {β : Type} {m : List (Str × β)} {n : Str} {v : β} {x : Str × β} (h : x ∈ putL m n v) : x = (n, v) ∨ x ∈ m := by
  unfold putL at h
  split at h
  · obtain ⟨y, hy, e⟩ := List.mem_map.mp h
    by_cases q : y.1 = n
    · rw [if_pos q] at e
      rw [← e, q]
      exact .inl rfl
    · rw [if_neg q] at e
      rw [← e]
      exact .inr hy
  · rcases List.mem_append.mp h with h | h
    · exact .inr h
    · exact .inl (List.mem_singleton.mp h)
theorem FqD.put {b : Nat} {H : Hp} {d a : Addr} {L : L3} {q : Fq} (h : FqD K b H d L) (n : Str) (ha : Dp K (hide d H) (.ref a) (dFr q)) (hq : FrOk b q) : FqD K b (upd H d (.dK (putK (L.map ent3) (Sum.inr n) (.ref a)))) d (putL L n (a, q)) := by
  refine ⟨by rw [upd_same, putK_ent3 L n a q], fun t ht => dp_mono hide_upd _ _ ?_, fun t ht => ?_⟩
  · rcases mem_putL ht with rfl | ht
    · exact ha
    · exact h.val t ht
  · rcases mem_putL ht with rfl | ht
    · exact hq
    · exact h.bd t ht
theorem FqD.items {b : Nat} {H H' : Hp} {d l : Addr} {L : L3} {ps : List (Addr × Str × Addr)} (h : FqD K b H d L) (s : Same H H') (pm : (ps.map (·.2)).Perm (L.map fun t => (t.1, t.2.1))) (up : (ps.map (·.2.1)).Pairwise fun x y => ¬ (y.cps.toList < x.cps.toList)) (nd : ((L.map fun t => (t.1, t.2.1)).map (·.1)).Nodup)
    (hz : ∀ z ∈ ps, H' z.1 = some (.tup [.str z.2.1, .ref z.2.2])) (hl : SqT K H' l (ps.map fun z => V.ref z.1)) : Dp K H' (.ref l) (itemsD (mOf L)) := by
  have k1 : (ps.map (·.2.1)).Perm (keysL (mOf L)) := by
    have e := pm.map (·.1)
    rw [List.map_map, List.map_map] at e
    rw [mOf_keys]
    exact e
  have k2 := up_sortG k1 up
  have nk : (keysL (mOf L)).Nodup := by
    rw [List.map_map] at nd
    rw [mOf_keys]
    exact nd
  unfold itemsD
  rw [← k2, List.map_map]
  refine .tup hl (dp_list (by rw [List.length_map, List.length_map]) fun i y e => ?_)
  rw [List.getElem?_map] at e
  obtain ⟨z, ez, rfl⟩ := Option.map_eq_some_iff.mp e
  have hm := List.mem_of_getElem? ez
  refine ⟨_, by rw [List.getElem?_map, ez]; rfl, ?_⟩
  obtain ⟨t, ht, et⟩ := List.mem_map.mp (pm.mem_iff.mp (List.mem_map.mpr ⟨z, hm, rfl⟩))
  have e1 : t.1 = z.2.1 := congrArg Prod.fst et
  have e2 : t.2.1 = z.2.2 := congrArg Prod.snd et
  have g := getL_mem nk (List.mem_map.mpr ⟨t, ht, rfl⟩)
  have g : getL (mOf L) t.1 = some t.2.2 := g
  show Dp K H' (.ref z.1) (dItem z.2.1 ((getL (mOf L) z.2.1).getD zeroF))
  rw [← e1, g]
  refine .tup (sqT_of (hz z hm)) (.cons (by rw [e1]; exact .str _) (.cons ?_ .nil))
  rw [← e2]
  exact dp_mono (hide_le.trans s) _ _ (h.val t ht)
def spHeirs (K : PySem.W.Frag) (C : Addr) : Sp := fun vs H Q _ => ∃ (x : Addr) (al : V) (shs : List Sh) (ns : List Str), vs = [.ref x, al] ∧ WillAt K C H x shs ∧ WOk shs ∧ SqN K H al ns ∧ shs.length ≤ 6 ∧ (∀ s ∈ shs, ∀ g ∈ s.2, g.length ≤ 9) ∧
  ∀ r H', Same H H' → H r = none → Dp K H' (.ref r) (heirsD shs ns) → Q (.ref r) H'
theorem sum_map (shs : List Sh) : (shs.map (·.1)).sum = totalW shs := rfl
theorem len_addAll {m : Mf} {tk : List Str} {q : Fq} : (addAll m tk q).length ≤ m.length + tk.length := by
  unfold addAll
  induction tk generalizing m with
  | nil => exact Nat.le_refl _
  | cons n tk ih =>
    refine Nat.le_trans (ih (m := addOne m n q)) ?_
    have : (addOne m n q).length ≤ m.length + 1 := by
      unfold addOne putL
      split
      · rw [List.length_map]; omega
      · rw [List.length_append]; exact Nat.le_refl _
    rw [List.length_cons]
    omega
theorem plus_zero {a b : Int} (h : 0 < b) : plusM zeroF (lowM a b) = lowM a b := by
  rw [plusM_low h]
  show lowM (0 * b + a * 1) (1 * b) = _
  rw [Int.zero_mul, Int.zero_add, Int.mul_one, Int.one_mul]
theorem ok_heirs (W : TxtH K mg) : FnOk P w K mg base CX0 3 W.hF W.hD ["self", "alive"] (spHeirs K W.w.t.cWill) := by
  refine W.hFn.ok scDWillHeirs (fun vs H Q E h => ?_) (fun cdv A outer s H vs Q E hr h => ?_)
  · obtain ⟨x, al, shs, ns, rfl, _⟩ := h
    rfl
  · obtain ⟨x, al, shs, ns, rfl, h1, hw, hal, h6, h9, q⟩ := h
    refine ⟨_, (pss_cons (ps_set (i := 2) scDWillHeirs.nd rfl (.inl rfl) (pe_callB (cr_sum rfl) (by rfl) W.w.t.z_sum (show bootBuiltins "sum" = some (.builtin "sum") by decide +kernel) (pa_cons (pe_lc (own := [("weight", 3), ("_", 4)]) (g := (gTup K 2 (gCons (gName 3) (gCons (gName 4) gNil)))) (tt := tYes) rfl scDWillHeirs.nd (pi_seq (pe_fld (pv 0) rfl)) (blkOk_by (N := ["self", "alive", "total", "weight", "_", "parts", "groups", "takers", "part", "name"]) (sc := defScope sDWillHeirs) (by decide +kernel)) (fun _ _ _ _ _ => (pg_tup (n := 2) rfl (pgs_cons (pg_name (i := 3) scDWillHeirs.nd rfl (.inl rfl)) (pgs_cons (pg_name (i := 4) scDWillHeirs.nd rfl (.inl rfl)) pgs_nil)))) (fun _ _ _ _ _ => pts_nil) (fun _ _ _ _ _ => (pv 3))) pa_nil)))
      (pss_cons (ps_set (i := 5) scDWillHeirs.nd rfl (.inl rfl) pe_dnewK)
      (pss_cons (ps_for PassesOwn.never rfl (pi_seq (pe_fld (pv 0) rfl)) (pg_tup (n := 2) rfl (pgs_cons (pg_name (i := 3) scDWillHeirs.nd rfl (.inl rfl)) (pgs_cons (pg_name (i := 6) scDWillHeirs.nd rfl (.inl rfl)) pgs_nil)))
      (pss_cons (ps_set (i := 7) scDWillHeirs.nd rfl (.inl rfl) (pe_call (ok_takers W.w.t) (hr.mono (by decide)) (by rfl) W.w.t.dTakers.g W.w.t.dTakers.F.kp W.w.t.dTakers.b .nil pass0 (pa_cons (pv 6) (pa_cons (pv 1) pa_nil))))
      (pss_cons (ps_set (i := 8) scDWillHeirs.nd rfl (.inl rfl) (pe_call (ok_lowest W.w.t) (hr.mono (by decide)) (by rfl) W.w.t.dLowest.g W.w.t.dLowest.F.kp W.w.t.dLowest.b .nil pass0 (pa_cons (pv 3) (pa_cons (pe_op op_mulW (pv 2) (pe_callB call_lenL (by rfl) W.w.t.z_len (show bootBuiltins "len" = some (.builtin "len") by decide +kernel) (pa_cons (pv 7) pa_nil))) pa_nil))))
      (pss_one (ps_for PassesOwn.never rfl (pi_list (pv 7)) (pg_name (i := 9) scDWillHeirs.nd rfl (.inl rfl))
      (pss_one (ps_dput (hu_of hr) (pv 5) (pv 9) (pe_ifExp (pt_cmp (pc_din (hu_of hr) (pv 9) (pv 5))) (pe_call (ok_plus W.w.t) (hr.mono (by decide)) (by rfl) W.w.t.dPlus.g W.w.t.dPlus.F.kp W.w.t.dPlus.b .nil pass0 (pa_cons (pe_dget (hu_of hr) (pv 5) (pv 9) (fun _ _ => rfl)) (pa_cons (pv 8) pa_nil))) (pv 8)) rfl)))))))
      (pss_one (ps_ret (pe_callTy cr_tup (by rfl) W.w.t.z_tuple (show bootBuiltins "tuple" = some (.type "tuple") by decide +kernel) (pa_cons (pe_callB (cr_sortedItemsK rfl) (by rfl) W.w.t.z_sorted (show bootBuiltins "sorted" = some (.builtin "sorted") by decide +kernel) (pa_cons (pe_bm0 PySem.F.plainAttrs_dict PySem.F.slot_dict_items PySem.F.type_dict_items mt_itemsK (pv 5)) pa_nil)) pa_nil))))))), ?_⟩
    obtain ⟨dx, t, e1, d1⟩ := h1
    obtain ⟨xs, hs, ha⟩ : ∃ xs, SqT K H t xs ∧ DpAll K H xs (shs.map nSh) := by
      cases d1 with
      | tup h1 h2 => exact ⟨_, h1, h2⟩
    have hxl : xs.length = shs.length := by rw [dpA_len ha, List.length_map]
    simp only [and_assoc, tSeq, tAsg, tOp, tUn, rI, rI0, rU, tVar, tC, gName, L2.start, tIfS, tTest, tB, tCB, tCons, tNil, tIf, tRet, tRetN, tLst, tTup, tNext, tDrop, tNot, tNotV, tAnd, tOr, tAndV, tOrV, tPar, tAug, ipI, rEq, rNe, gSub, rSetL, rIxL, rIxT, tBM, tBM0, rAppend, rPopAt, gTup, gCons, gNil, tCall, tSl, tPart, tNoPart, rSlL, rCat, rEqD, rNeD, rIn, scal, List.map_cons, List.map_nil, List.length_cons, List.length_nil, List.length_map, List.cons_append, List.nil_append, List.append_nil, List.replicate, List.getElem?_cons_zero, List.getElem?_cons_succ, List.set_cons_zero, List.set_cons_succ, Option.some.injEq, exists_eq_left', exists_eq_left, exists_eq_right, exists_and_left, exists_and_right, V.int.injEq, V.ref.injEq, V.str.injEq, V.bl.injEq, reduceCtorEq, false_and, and_false, exists_false, or_false, false_or, true_and, and_true, List.cons.injEq, decide_eq_true_eq, cxOf, if_true, if_false, Bool.false_eq_true, Nat.reduceAdd, Nat.reduceSub, Nat.zero_add, Nat.add_sub_cancel_left, Nat.add_sub_cancel, Nat.sub_self, sFld, tFld, tFor_eq, tLc_eq, iRng1, iRng2, iList, iTup, iEnum, iEnumQ, rIsi, rIsiT, iSeq, wipe, tDNewK, tDIn, tDGet, sDPut, rSum, spTakers, spLowest, spPlus]
    refine ⟨_, _, _, e1, W.w.cl, W.w.nS, _, rfl, t, rfl, _, _, .inr ⟨rfl, hs⟩, fun D nD => ?_⟩
    refine lg_pure (fun i y _ => ∃ s, shs[i]? = some s ∧ y = .int s.1) (.inr ⟨rfl, hs⟩) (small1000 (by omega)) nD (fun _ _ _ _ _ h => h) (fun i x2 H2 Φ hx s2 hD hΦ => ?_) (fun ys H2 s2 eD hl2 hY => ?_)
    · obtain ⟨d, ed, hx2⟩ := dpA_get (dpA_mono s2 _ _ ha) hx
      rw [List.getElem?_map] at ed
      obtain ⟨g, eg, rfl⟩ := Option.map_eq_some_iff.mp ed
      obtain ⟨b, v1, v2, rfl, hb, a1, a2⟩ := dp_tup2 hx2
      cases a1
      simp only [and_assoc, tSeq, tAsg, tOp, tUn, rI, rI0, rU, tVar, tC, gName, L2.start, tIfS, tTest, tB, tCB, tCons, tNil, tIf, tRet, tRetN, tLst, tTup, tNext, tDrop, tNot, tNotV, tAnd, tOr, tAndV, tOrV, tPar, tAug, ipI, rEq, rNe, gSub, rSetL, rIxL, rIxT, tBM, tBM0, rAppend, rPopAt, gTup, gCons, gNil, tCall, tSl, tPart, tNoPart, rSlL, rCat, rEqD, rNeD, rIn, scal, List.map_cons, List.map_nil, List.length_cons, List.length_nil, List.length_map, List.cons_append, List.nil_append, List.append_nil, List.replicate, List.getElem?_cons_zero, List.getElem?_cons_succ, List.set_cons_zero, List.set_cons_succ, Option.some.injEq, exists_eq_left', exists_eq_left, exists_eq_right, exists_and_left, exists_and_right, V.int.injEq, V.ref.injEq, V.str.injEq, V.bl.injEq, reduceCtorEq, false_and, and_false, exists_false, or_false, false_or, true_and, and_true, List.cons.injEq, decide_eq_true_eq, cxOf, if_true, if_false, Bool.false_eq_true, Nat.reduceAdd, Nat.reduceSub, Nat.zero_add, Nat.add_sub_cancel_left, Nat.add_sub_cancel, Nat.sub_self, sFld, tFld, tFor_eq, tLc_eq, iRng1, iRng2, iList, iTup, iEnum, iEnumQ, rIsi, rIsiT, iSeq, wipe, tDNewK, tDIn, tDGet, sDPut, rSum]
      exact ⟨_, hb, rfl, _, _, rfl, _, _, rfl, rfl, hΦ _ _ (Same.refl _) ⟨g, eg, rfl⟩⟩
    · have ey : ys = (shs.map (·.1)).map V.int := by
        rw [List.map_map]
        exact ys_map (by rw [hl2, hxl]) hY
      subst ey
      refine ⟨_, sqL_of eD, fun d nd => ?_⟩
      rw [sum_map]
      have nd0 : H d = none := s2.free nd
      have s3 : Same H (upd H2 d (.dK [])) := s2.trans (same_upd nd)
      have f3 : FqD K 1 (upd H2 d (.dK [])) d [] := ⟨upd_same, fun _ h => (nomatch h), fun _ h => (nomatch h)⟩
      generalize upd H2 d (.dK []) = H3 at s3 f3 ⊢
      refine ⟨_, _, _, s3 _ _ e1, W.w.cl, W.w.nS, _, rfl, t, rfl, _, _, .inr ⟨rfl, Same.seqT s3 hs⟩, ?_⟩
      have tp := total_pos (fun s hs => (hw.ok s hs).1.w1) hw.ne
      have tl : totalW shs ≤ 999999999 * shs.length := total_le hw.w
      refine fg_tup (xs := xs) (fun i σ H4 => ∃ (o3 o4 o6 o7 o8 o9 : Option V) (L : L3), σ = [some (.ref x), some al, some (.int (totalW shs)), o3, o4, some (.ref d), o6, o7, o8, o9] ∧ Same H H4 ∧ FqD K (43 * (9 * i) + 1) H4 d L ∧ mOf L = (shs.take i).foldl (stepP (totalW shs) ns) [] ∧ L.length ≤ 9 * i)
        ⟨none, none, none, none, none, none, [], rfl, s3, f3, rfl, Nat.le_refl _⟩ (fun i σ H4 _ ⟨_, _, _, _, _, _, _, _, s, _⟩ => Same.seqT s hs) ?_ ?_
      · rintro i x2 σ H4 hx ⟨o3, o4, o6, o7, o8, o9, L, rfl, s4, f4, m4, l4⟩
        obtain ⟨dd, ed, hx2⟩ := dpA_get (dpA_mono s4 _ _ ha) hx
        rw [List.getElem?_map] at ed
        obtain ⟨g, eg, rfl⟩ := Option.map_eq_some_iff.mp ed
        obtain ⟨b, v1, v2, rfl, hb, a1, a2⟩ := dp_tup2 hx2
        cases a1
        simp only [and_assoc, tSeq, tAsg, tOp, tUn, rI, rI0, rU, tVar, tC, gName, L2.start, tIfS, tTest, tB, tCB, tCons, tNil, tIf, tRet, tRetN, tLst, tTup, tNext, tDrop, tNot, tNotV, tAnd, tOr, tAndV, tOrV, tPar, tAug, ipI, rEq, rNe, gSub, rSetL, rIxL, rIxT, tBM, tBM0, rAppend, rPopAt, gTup, gCons, gNil, tCall, tSl, tPart, tNoPart, rSlL, rCat, rEqD, rNeD, rIn, scal, List.map_cons, List.map_nil, List.length_cons, List.length_nil, List.length_map, List.cons_append, List.nil_append, List.append_nil, List.replicate, List.getElem?_cons_zero, List.getElem?_cons_succ, List.set_cons_zero, List.set_cons_succ, Option.some.injEq, exists_eq_left', exists_eq_left, exists_eq_right, exists_and_left, exists_and_right, V.int.injEq, V.ref.injEq, V.str.injEq, V.bl.injEq, reduceCtorEq, false_and, and_false, exists_false, or_false, false_or, true_and, and_true, List.cons.injEq, decide_eq_true_eq, cxOf, if_true, if_false, Bool.false_eq_true, Nat.reduceAdd, Nat.reduceSub, Nat.zero_add, Nat.add_sub_cancel_left, Nat.add_sub_cancel, Nat.sub_self, sFld, tFld, tFor_eq, tLc_eq, iRng1, iRng2, iList, iTup, iEnum, iEnumQ, rIsi, rIsiT, iSeq, wipe, tDNewK, tDIn, tDGet, sDPut, rSum, spTakers, spLowest, spPlus]
        have gm := List.mem_of_getElem? eg
        have il := (List.getElem?_eq_some_iff.mp eg).1
        have gok := hw.ok g gm
        have glen : ∀ k ∈ g.2.map sortG, k.length ≤ 9 := fun k hk => by
          obtain ⟨k0, h0, rfl⟩ := List.mem_map.mp hk
          rw [(sortG_perm k0).length_eq]
          exact h9 g gm k0 h0
        refine ⟨_, hb, rfl, _, _, rfl, _, _, rfl, rfl, g.2.map sortG, by rw [List.map_map]; exact a2, ns, hal.mono s4, by rw [List.length_map]; have := gok.2.1; omega, fun k hk => by have := glen k hk; omega, fun r H5 s5 nr er => ⟨_, sqL_of er, ?_⟩⟩
        obtain ⟨k1, k2⟩ := takers_len (ns := ns) glen (by decide)
        have stp : stepP (totalW shs) ns (mOf L) g = addAll (mOf L) (takersM (g.2.map sortG) ns) (lowM g.1 (totalW shs * (takersM (g.2.map sortG) ns).length)) := rfl
        rw [List.length_map]
        generalize takersM (g.2.map sortG) ns = tk at er k1 k2 stp ⊢
        have tT : totalW shs ≤ 5999999994 := by
          have : (999999999 : Int) * shs.length ≤ 999999999 * 6 := by omega
          omega
        have tb : totalW shs * (tk.length : Int) ≤ 5999999994 * 9 := Int.mul_le_mul tT (by omega) (by omega) (by omega)
        have tq : 0 < totalW shs * (tk.length : Int) := Int.mul_pos tp (by omega)
        have two : (5999999994 : Int) * 9 < 2 ^ 42 := by decide
        have fq : FrOk 42 (lowM g.1 (totalW shs * tk.length)) := lowM_ok (by have := gok.1.w1; omega) tq (by have := hw.w g gm; omega) (by omega)
        refine ⟨wide_mul (a := 42) (b := 42) (nat_of (by omega) (by omega)) (nat_of (by omega) (by omega)) (by decide) (by decide) (by decide), g.1, rfl, by have := gok.1.w1; omega, tq, Int.lt_of_lt_of_le (by omega) (pow_i (show 42 ≤ 9000 by decide)), fun u H6 s6 nu eu => ⟨⟨_, sqL_of (s6 _ _ er)⟩, ?_⟩⟩
        have pz : plusM zeroF (lowM g.1 (totalW shs * tk.length)) = lowM g.1 (totalW shs * tk.length) := plus_zero tq
        generalize lowM g.1 (totalW shs * tk.length) = pt at fq eu stp pz ⊢
        have s46 := s5.trans s6
        have f6 := f4.same s46
        have rd : r ≠ d := fun z => by rw [z, f4.at_] at nr; cases nr
        have ud : u ≠ d := fun z => by rw [z, s5 _ _ f4.at_] at nu; cases nu
        have er6 : hide d H6 r = some (.lst (tk.map V.str)) := by rw [hide_ne rd]; exact s6 _ _ er
        have eu6 : hide d H6 u = some (.tup [.int pt.1, .int pt.2]) := by rw [hide_ne ud]; exact eu
        have keep : ∀ {H7 : Hp} {o : HO}, Same H H7 → Same H (upd H7 d o) := fun s b o e => by rw [upd_ne (ne_of_none e nd0)]; exact s b o e
        refine fg_list (xs := tk.map V.str) (fun j σ H7 => ∃ (o9 : Option V) (L7 : L3), σ = [some (.ref x), some al, some (.int (totalW shs)), some (.int g.1), o4, some (.ref d), some v2, some (.ref r), some (.ref u), o9] ∧ Same H H7 ∧ Same (hide d H6) (hide d H7) ∧ FqD K (43 * (9 * i + j) + 1) H7 d L7 ∧ mOf L7 = addAll (mOf L) (tk.take j) pt ∧ L7.length ≤ 9 * i + j)
          ⟨o9, L, rfl, s4.trans s46, Same.refl _, f6, rfl, l4⟩ (fun j σ H7 _ ⟨_, _, _, _, s7, _⟩ => hide_le.seq (s7.seq (sqL_of er6))) ?_ ?_
        · rintro j n σ H7 hn ⟨o9, L7, rfl, s7, h7, f7, m7, l7⟩
          rw [List.getElem?_map] at hn
          obtain ⟨nm, en, rfl⟩ := Option.map_eq_some_iff.mp hn
          have jl := (List.getElem?_eq_some_iff.mp en).1
          simp only [and_assoc, tSeq, tAsg, tOp, tUn, rI, rI0, rU, tVar, tC, gName, L2.start, tIfS, tTest, tB, tCB, tCons, tNil, tIf, tRet, tRetN, tLst, tTup, tNext, tDrop, tNot, tNotV, tAnd, tOr, tAndV, tOrV, tPar, tAug, ipI, rEq, rNe, gSub, rSetL, rIxL, rIxT, tBM, tBM0, rAppend, rPopAt, gTup, gCons, gNil, tCall, tSl, tPart, tNoPart, rSlL, rCat, rEqD, rNeD, rIn, scal, List.map_cons, List.map_nil, List.length_cons, List.length_nil, List.length_map, List.cons_append, List.nil_append, List.append_nil, List.replicate, List.getElem?_cons_zero, List.getElem?_cons_succ, List.set_cons_zero, List.set_cons_succ, Option.some.injEq, exists_eq_left', exists_eq_left, exists_eq_right, exists_and_left, exists_and_right, V.int.injEq, V.ref.injEq, V.str.injEq, V.bl.injEq, reduceCtorEq, false_and, and_false, exists_false, or_false, false_or, true_and, and_true, List.cons.injEq, decide_eq_true_eq, cxOf, if_true, if_false, Bool.false_eq_true, Nat.reduceAdd, Nat.reduceSub, Nat.zero_add, Nat.add_sub_cancel_left, Nat.add_sub_cancel, Nat.sub_self, sFld, tFld, tFor_eq, tLc_eq, iRng1, iRng2, iList, iTup, iEnum, iEnumQ, rIsi, rIsiT, iSeq, wipe, tDNewK, tDIn, tDGet, sDPut, rSum, spPlus]
          have dp7 : ∀ {v : V} {q : Fq}, Dp K (hide d H7) v (dFr q) → Dp K H7 v (dFr q) := fun h => dp_mono hide_le _ _ h
          have tkj : tk.take (j + 1) = tk.take j ++ [nm] := by rw [List.take_add_one, en]; rfl
          have fold : ∀ m : Mf, addAll m (tk.take (j + 1)) pt = addOne (addAll m (tk.take j) pt) nm pt := fun m => by
            rw [tkj]
            unfold addAll
            rw [List.foldl_append]
            rfl
          have lput : ∀ v : Addr × Fq, (putL L7 nm v).length ≤ L7.length + 1 := fun v => by
            unfold putL
            split
            · rw [List.length_map]; omega
            · rw [List.length_append]; exact Nat.le_refl _
          refine ⟨_, DGet.k (k := Sum.inr nm) f7.at_, ?_⟩
          rw [valV_ent3]
          cases eg7 : getL L7 nm with
          | some v7 =>
            obtain ⟨a7, q7⟩ := v7
            have mem7 := getL_some eg7
            have gm7 : getL (mOf L7) nm = some q7 := by rw [mOf_get, eg7]; rfl
            have g2 := f7.bd _ mem7
            refine (if_pos rfl).mpr ?_
            refine ⟨.ref a7, by have := DGet.k (k := Sum.inr nm) f7.at_; rw [valV_ent3, eg7] at this; exact this, q7, dp7 (f7.val _ mem7), pt, dp7 (dFr_new (h7 _ _ eu6)), _, g2, 42, fq, by omega, fun a H8 s8 na ea => ?_⟩
            have f8 := f7.same s8
            have ad : a ≠ d := fun z => by rw [z, f7.at_] at na; cases na
            refine ⟨_, DPut.k (k := Sum.inr nm) f8.at_ (small1000 (by rw [List.length_map]; omega)), keep (s7.trans s8), h7.trans ((hide_same s8).trans hide_upd), putL L7 nm (a, plusM q7 pt), ?_, ?_, ?_⟩
            · refine (f8.mono (by omega)).put nm (dFr_new (by rw [hide_ne ad]; exact ea)) ((plusM_ok g2 fq).mono (by omega))
            · rw [mOf_put, fold, ← m7]
              unfold addOne
              rw [gm7]
              rfl
            · have := lput (a, plusM q7 pt)
              omega
          | none =>
            have gm7 : getL (mOf L7) nm = none := by rw [mOf_get, eg7]; rfl
            refine (if_neg Bool.false_ne_true).mpr ?_
            refine ⟨_, DPut.k (k := Sum.inr nm) f7.at_ (small1000 (by rw [List.length_map]; omega)), keep s7, h7.trans hide_upd, putL L7 nm (u, pt), ?_, ?_, ?_⟩
            · exact (f7.mono (by omega)).put nm (dFr_new (h7 _ _ eu6)) (fq.mono (by omega))
            · rw [mOf_put, fold, ← m7]
              unfold addOne
              rw [gm7]
              show _ = putL (mOf L7) nm (plusM zeroF pt)
              rw [pz]
            · have := lput (u, pt)
              omega
        · rintro σ H7 ⟨o9, L7, rfl, s7, h7, f7, m7, l7⟩
          rw [List.length_map] at f7 m7 l7
          refine ⟨⟨_, _, _, _, _, _, rfl⟩, s7, L7, f7.mono (by omega), ?_, by omega⟩
          rw [List.take_of_length_le (Nat.le_refl _)] at m7
          rw [List.take_add_one, eg, m7, ← stp, m4]
          show _ = List.foldl _ _ (shs.take i ++ [g])
          rw [List.foldl_append]
          rfl
      · rintro σ H4 ⟨o3, o4, o6, o7, o8, o9, L, rfl, s4, f4, m4, l4⟩
        simp only [and_assoc, tSeq, tAsg, tOp, tUn, rI, rI0, rU, tVar, tC, gName, L2.start, tIfS, tTest, tB, tCB, tCons, tNil, tIf, tRet, tRetN, tLst, tTup, tNext, tDrop, tNot, tNotV, tAnd, tOr, tAndV, tOrV, tPar, tAug, ipI, rEq, rNe, gSub, rSetL, rIxL, rIxT, tBM, tBM0, rAppend, rPopAt, gTup, gCons, gNil, tCall, tSl, tPart, tNoPart, rSlL, rCat, rEqD, rNeD, rIn, scal, List.map_cons, List.map_nil, List.length_cons, List.length_nil, List.length_map, List.cons_append, List.nil_append, List.append_nil, List.replicate, List.getElem?_cons_zero, List.getElem?_cons_succ, List.set_cons_zero, List.set_cons_succ, Option.some.injEq, exists_eq_left', exists_eq_left, exists_eq_right, exists_and_left, exists_and_right, V.int.injEq, V.ref.injEq, V.str.injEq, V.bl.injEq, reduceCtorEq, false_and, and_false, exists_false, or_false, false_or, true_and, and_true, List.cons.injEq, decide_eq_true_eq, cxOf, if_true, if_false, Bool.false_eq_true, Nat.reduceAdd, Nat.reduceSub, Nat.zero_add, Nat.add_sub_cancel_left, Nat.add_sub_cancel, Nat.sub_self, sFld, tFld, tFor_eq, tLc_eq, iRng1, iRng2, iList, iTup, iEnum, iEnumQ, rIsi, rIsiT, iSeq, wipe, tDNewK, tDIn, tDGet, sDPut, rSum, rItemsK, rSortItK, rTupOf]
        refine ⟨.inr (.inr (.inl ⟨rfl, .inl ⟨_, f4.at_⟩⟩)), ⟨_, f4.at_⟩, fun p np => ?_⟩
        have sp := same_upd (o := DX.itemsO p d) np
        refine ⟨d, upd_same, L.map fun t => (t.1, t.2.1), ?_, by rw [List.length_map]; omega, fun H5 l ps ext pm up nk nl el hz => ⟨_, .inl ⟨sqL_of el, fun l2 nl2 => ?_⟩⟩⟩
        · rw [List.map_map]
          exact sp _ _ f4.at_
        · have sx : Same H4 H5 := fun b o e => ext b o (sp b o e)
          have s45 := sx.trans (same_upd (o := .tup (ps.map fun z => V.ref z.1)) nl2)
          refine q l2 _ (s4.trans s45) ((s4.trans sx).free nl2) ?_
          have it := f4.items s45 pm up nk (fun z hz2 => same_upd nl2 _ _ (hz z hz2)) (sqT_of (a := l2) upd_same)
          rw [m4, List.take_of_length_le (by omega)] at it
          exact it

end
end He

namespace He
open PySem PySem.Spec PyProof.Rows L2
section
variable {P : Program} {w : World} {K : PySem.W.Frag} {mg : Str → Option Value} {base : Heap}

/-! ### the law's own fractions -/
theorem gcdI_step {a b : Int} (h0 : 0 ≤ a) (h1 : 0 < b) : gcdI b (a % b) = gcdI a b := by
  unfold gcdI
  have e : (a % b).natAbs = a.natAbs % b.natAbs := by
    obtain ⟨x, rfl⟩ := Int.eq_ofNat_of_zero_le h0
    obtain ⟨y, rfl⟩ := Int.eq_ofNat_of_zero_le (show 0 ≤ b by omega)
    rfl
  rw [e, Nat.gcd_comm b.natAbs, ← Nat.gcd_rec, Nat.gcd_comm]
def spDivisor (K : PySem.W.Frag) : Sp := fun vs H Q _ => ∃ (a b : Int), vs = [.int a, .int b] ∧ 0 ≤ a ∧ 0 ≤ b ∧ Q (.int (gcdI a b)) H
theorem ok_divisor (T : TxtG K mg) : FnOk P w K mg base CX0 1 T.dLawDivisor.f T.dLawDivisor.fd ["_law_one", "_law_other"] (spDivisor K) := by
  refine T.dLawDivisor.F.ok scDLawDivisor (fun vs H Q E h => ?_) (fun cdv A outer s H vs Q E hr h => ?_)
  · obtain ⟨a, b, rfl, _⟩ := h
    rfl
  · obtain ⟨a, b, rfl, h0, h1, q⟩ := h
    refine ⟨_, (pss_cons (ps_while PassesOwn.never (pt_cmpR op_ne (pv 1) pe_int (nomark _))
      (pss_one (ps_par (i := 0) (j := 1) (by rfl) scDLawDivisor.nd rfl rfl (by decide) rfl rfl (pa_cons (pv 1) (pa_cons (pe_op op_mod (pe_callTy call_intI (by rfl) T.z_int (show bootBuiltins "int" = some (.type "int") by decide +kernel) (pa_cons (pv 0) pa_nil)) (pv 1)) pa_nil)) (by rfl))))
      (pss_one (ps_ret (pv 0)))), ?_⟩
    simp only [and_assoc, tSeq, tAsg, tOp, tUn, rI, rI0, rU, tVar, tC, gName, L2.start, tIfS, tTest, tB, tCB, tCons, tNil, tIf, tRet, tRetN, tLst, tTup, tNext, tDrop, tNot, tNotV, tAnd, tOr, tAndV, tOrV, tPar, tAug, ipI, rEq, rNe, gSub, rSetL, rIxL, rIxT, tBM, tBM0, rAppend, rPopAt, gTup, gCons, gNil, tCall, tSl, tPart, tNoPart, rSlL, rCat, rEqD, rNeD, rIn, scal, List.map_cons, List.map_nil, List.length_cons, List.length_nil, List.length_map, List.cons_append, List.nil_append, List.append_nil, List.replicate, List.getElem?_cons_zero, List.getElem?_cons_succ, List.set_cons_zero, List.set_cons_succ, Option.some.injEq, exists_eq_left', exists_eq_left, exists_eq_right, exists_and_left, exists_and_right, V.int.injEq, V.ref.injEq, V.str.injEq, V.bl.injEq, reduceCtorEq, false_and, and_false, exists_false, or_false, false_or, true_and, and_true, List.cons.injEq, decide_eq_true_eq, cxOf, if_true, if_false, Bool.false_eq_true, Nat.reduceAdd, Nat.reduceSub, Nat.zero_add, Nat.add_sub_cancel_left, Nat.add_sub_cancel, Nat.sub_self, sFld, tFld, tFor_eq, tLc_eq, iRng1, iRng2, iList, iTup, iEnum, iEnumQ, rIsi, rIsiT, iSeq, wipe, tDNewK, tDGet2, sDPut, rSum]
    refine while_by (fun σ H1 => ∃ x y : Int, σ = [some (.int x), some (.int y)] ∧ 0 ≤ x ∧ 0 ≤ y ∧ gcdI x y = gcdI a b ∧ H1 = H) (fun σ _ => match σ with
      | [_, some (.int y)] => y.toNat
      | _ => 0) ⟨a, b, rfl, h0, h1, rfl, rfl⟩ ?_ ?_
    · rintro σ H1 ⟨x, y, rfl, x0, y0, e, rfl⟩
      simp only [and_assoc, tSeq, tAsg, tOp, tUn, rI, rI0, rU, tVar, tC, gName, L2.start, tIfS, tTest, tB, tCB, tCons, tNil, tIf, tRet, tRetN, tLst, tTup, tNext, tDrop, tNot, tNotV, tAnd, tOr, tAndV, tOrV, tPar, tAug, ipI, rEq, rNe, gSub, rSetL, rIxL, rIxT, tBM, tBM0, rAppend, rPopAt, gTup, gCons, gNil, tCall, tSl, tPart, tNoPart, rSlL, rCat, rEqD, rNeD, rIn, scal, List.map_cons, List.map_nil, List.length_cons, List.length_nil, List.length_map, List.cons_append, List.nil_append, List.append_nil, List.replicate, List.getElem?_cons_zero, List.getElem?_cons_succ, List.set_cons_zero, List.set_cons_succ, Option.some.injEq, exists_eq_left', exists_eq_left, exists_eq_right, exists_and_left, exists_and_right, V.int.injEq, V.ref.injEq, V.str.injEq, V.bl.injEq, reduceCtorEq, false_and, and_false, exists_false, or_false, false_or, true_and, and_true, List.cons.injEq, decide_eq_true_eq, cxOf, if_true, if_false, Bool.false_eq_true, Nat.reduceAdd, Nat.reduceSub, Nat.zero_add, Nat.add_sub_cancel_left, Nat.add_sub_cancel, Nat.sub_self, sFld, tFld, tFor_eq, tLc_eq, iRng1, iRng2, iList, iTup, iEnum, iEnumQ, rIsi, rIsiT, iSeq, wipe, tDNewK, tDGet2, sDPut, rSum]
      by_cases h : y = 0
      · rw [if_neg (by simp [h])]
        subst h
        have e2 : gcdI x 0 = x := by
          unfold gcdI
          rw [show (0 : Int).natAbs = 0 from rfl, Nat.gcd_zero_right]
          omega
        rw [← e, e2] at q
        exact q
      · rw [if_pos (by simpa using h)]
        have y1 : 0 < y := by omega
        have lt := Int.emod_lt_of_pos x y1
        have ge := Int.emod_nonneg x h
        exact ⟨y1, by omega, ge, by rw [gcdI_step x0 y1]; exact e, by omega⟩
    · intro σ H1 Q1 Q2 hQ h
      simp only [and_assoc, tSeq, tAsg, tOp, tUn, rI, rI0, rU, tVar, tC, gName, L2.start, tIfS, tTest, tB, tCB, tCons, tNil, tIf, tRet, tRetN, tLst, tTup, tNext, tDrop, tNot, tNotV, tAnd, tOr, tAndV, tOrV, tPar, tAug, ipI, rEq, rNe, gSub, rSetL, rIxL, rIxT, tBM, tBM0, rAppend, rPopAt, gTup, gCons, gNil, tCall, tSl, tPart, tNoPart, rSlL, rCat, rEqD, rNeD, rIn, scal, List.map_cons, List.map_nil, List.length_cons, List.length_nil, List.length_map, List.cons_append, List.nil_append, List.append_nil, List.replicate, List.getElem?_cons_zero, List.getElem?_cons_succ, List.set_cons_zero, List.set_cons_succ, Option.some.injEq, exists_eq_left', exists_eq_left, exists_eq_right, exists_and_left, exists_and_right, V.int.injEq, V.ref.injEq, V.str.injEq, V.bl.injEq, reduceCtorEq, false_and, and_false, exists_false, or_false, false_or, true_and, and_true, List.cons.injEq, decide_eq_true_eq, cxOf, if_true, if_false, Bool.false_eq_true, Nat.reduceAdd, Nat.reduceSub, Nat.zero_add, Nat.add_sub_cancel_left, Nat.add_sub_cancel, Nat.sub_self, sFld, tFld, tFor_eq, tLc_eq, iRng1, iRng2, iList, iTup, iEnum, iEnumQ, rIsi, rIsiT, iSeq, wipe, tDNewK, tDGet2, sDPut, rSum] at h ⊢
      obtain ⟨v, hv, hz, k⟩ := h
      exact ⟨v, hv, hz, hQ _ _ k⟩
theorem gcdI_abs {a b : Int} (h : 0 ≤ a) : gcdI (if a < 0 then -a else a) b = gcdI a b := by rw [if_neg (by omega)]
def spRatio (K : PySem.W.Frag) : Sp := spLowest K
theorem ok_ratio (T : TxtG K mg) : FnOk P w K mg base CX0 2 T.dLawRatio.f T.dLawRatio.fd ["_law_upper", "_law_lower"] (spLowest K) := by
  refine T.dLawRatio.F.ok scDLawRatio (fun vs H Q E h => ?_) (fun cdv A outer s H vs Q E hr h => ?_)
  · obtain ⟨a, b, rfl, _⟩ := h
    rfl
  · obtain ⟨a, b, rfl, h0, h1, h2, q⟩ := h
    refine ⟨_, (pss_cons (ps_set (i := 2) scDLawRatio.nd rfl (.inl rfl) (pe_call (ok_divisor T) (hr.mono (by decide)) (by rfl) T.dLawDivisor.g T.dLawDivisor.F.kp T.dLawDivisor.b .nil pass0 (pa_cons (pe_callB call_abs (by rfl) T.z_abs (show bootBuiltins "abs" = some (.builtin "abs") by decide +kernel) (pa_cons (pv 0) pa_nil)) (pa_cons (pv 1) pa_nil))))
      (pss_one (ps_ret (pe_tup (pa_cons (pe_op op_fdivW (pv 0) (pv 2)) (pa_cons (pe_op op_fdivW (pv 1) (pv 2)) pa_nil)))))), ?_⟩
    simp only [and_assoc, tSeq, tAsg, tOp, tUn, rI, rI0, rU, tVar, tC, gName, L2.start, tIfS, tTest, tB, tCB, tCons, tNil, tIf, tRet, tRetN, tLst, tTup, tNext, tDrop, tNot, tNotV, tAnd, tOr, tAndV, tOrV, tPar, tAug, ipI, rEq, rNe, gSub, rSetL, rIxL, rIxT, tBM, tBM0, rAppend, rPopAt, gTup, gCons, gNil, tCall, tSl, tPart, tNoPart, rSlL, rCat, rEqD, rNeD, rIn, scal, List.map_cons, List.map_nil, List.length_cons, List.length_nil, List.length_map, List.cons_append, List.nil_append, List.append_nil, List.replicate, List.getElem?_cons_zero, List.getElem?_cons_succ, List.set_cons_zero, List.set_cons_succ, Option.some.injEq, exists_eq_left', exists_eq_left, exists_eq_right, exists_and_left, exists_and_right, V.int.injEq, V.ref.injEq, V.str.injEq, V.bl.injEq, reduceCtorEq, false_and, and_false, exists_false, or_false, false_or, true_and, and_true, List.cons.injEq, decide_eq_true_eq, cxOf, if_true, if_false, Bool.false_eq_true, Nat.reduceAdd, Nat.reduceSub, Nat.zero_add, Nat.add_sub_cancel_left, Nat.add_sub_cancel, Nat.sub_self, sFld, tFld, tFor_eq, tLc_eq, iRng1, iRng2, iList, iTup, iEnum, iEnumQ, rIsi, rIsiT, iSeq, wipe, tDNewK, tDGet2, sDPut, rSum, spDivisor]
    have g := gcdI_pos (a := a) h1
    have w : CDivW a (gcdI a b) := wide_div g (nat_of (by omega) (Int.lt_of_le_of_lt (gcdI_le h1) h2)) (by decide) (by decide)
    rw [if_neg (show ¬ a < 0 by omega)]
    refine ⟨h0, Int.le_of_lt h1, w, w, by decide, fun t nt => ?_⟩
    exact q t _ (same_upd nt) nt upd_same
theorem ok_lplus (T : TxtG K mg) : FnOk P w K mg base CX0 3 T.dLawPlus.f T.dLawPlus.fd ["_law_one", "_law_other"] (spPlus K) := by
  refine T.dLawPlus.F.ok scDLawPlus (fun vs H Q E h => ?_) (fun cdv A outer s H vs Q E hr h => ?_)
  · obtain ⟨x, y, p, r, n, m, rfl, _⟩ := h
    rfl
  · obtain ⟨x, y, p, r, n, m, rfl, hx, hy, h1, h2, hn, q⟩ := h
    refine ⟨_, (pss_one (ps_ret (pe_call (ok_ratio T) (hr.mono (by decide)) (by rfl) T.dLawRatio.g T.dLawRatio.F.kp T.dLawRatio.b .nil pass0 (pa_cons (pe_op op_add (pe_op op_mulW (pe_ix ix_tup (pv 0) pe_int (fun _ _ => rfl)) (pe_ix ix_tup (pv 1) pe_int (fun _ _ => rfl))) (pe_op op_mulW (pe_ix ix_tup (pv 1) pe_int (fun _ _ => rfl)) (pe_ix ix_tup (pv 0) pe_int (fun _ _ => rfl)))) (pa_cons (pe_op op_mulW (pe_ix ix_tup (pv 0) pe_int (fun _ _ => rfl)) (pe_ix ix_tup (pv 1) pe_int (fun _ _ => rfl))) pa_nil))))), ?_⟩
    obtain ⟨a, rfl, ha⟩ := dFr_inv hx
    obtain ⟨b, rfl, hb⟩ := dFr_inv hy
    simp only [and_assoc, tSeq, tAsg, tOp, tUn, rI, rI0, rU, tVar, tC, gName, L2.start, tIfS, tTest, tB, tCB, tCons, tNil, tIf, tRet, tRetN, tLst, tTup, tNext, tDrop, tNot, tNotV, tAnd, tOr, tAndV, tOrV, tPar, tAug, ipI, rEq, rNe, gSub, rSetL, rIxL, rIxT, tBM, tBM0, rAppend, rPopAt, gTup, gCons, gNil, tCall, tSl, tPart, tNoPart, rSlL, rCat, rEqD, rNeD, rIn, scal, List.map_cons, List.map_nil, List.length_cons, List.length_nil, List.length_map, List.cons_append, List.nil_append, List.append_nil, List.replicate, List.getElem?_cons_zero, List.getElem?_cons_succ, List.set_cons_zero, List.set_cons_succ, Option.some.injEq, exists_eq_left', exists_eq_left, exists_eq_right, exists_and_left, exists_and_right, V.int.injEq, V.ref.injEq, V.str.injEq, V.bl.injEq, reduceCtorEq, false_and, and_false, exists_false, or_false, false_or, true_and, and_true, List.cons.injEq, decide_eq_true_eq, cxOf, if_true, if_false, Bool.false_eq_true, Nat.reduceAdd, Nat.reduceSub, Nat.zero_add, Nat.add_sub_cancel_left, Nat.add_sub_cancel, Nat.sub_self, sFld, tFld, tFor_eq, tLc_eq, iRng1, iRng2, iList, iTup, iEnum, iEnumQ, rIsi, rIsiT, iSeq, wipe, tDNewK, tDGet2, sDPut, rSum, spLowest]
    have mw : ∀ {i j : Int} {n m : Nat}, n + m + 1 ≤ 9000 → 0 ≤ i → i < 2 ^ n → 0 ≤ j → j < 2 ^ m → CMulW i j := fun {i j n m} l i0 i1 j0 j1 =>
      wide_mul (nat_of i0 (Int.lt_of_lt_of_le i1 (pow_i (Nat.le_succ n)))) (nat_of j0 (Int.lt_of_lt_of_le j1 (pow_i (Nat.le_succ m)))) (by omega) (by omega) (by omega)
    refine ⟨_, ha, _, rfl, _, hb, _, rfl, _, rfl, _, rfl, mw hn h1.a0 h1.a1 (Int.le_of_lt h2.b0) h2.b1, _, hb, _, rfl, _, ha, _, rfl, _, rfl, _, rfl, mw (by omega) h2.a0 h2.a1 (Int.le_of_lt h1.b0) h1.b1, _, ha, _, rfl, _, hb, _, rfl, _, rfl, _, rfl, mw hn (Int.le_of_lt h1.b0) h1.b1 (Int.le_of_lt h2.b0) h2.b1, ?_⟩
    exact ⟨cross0 h1 h2, Int.mul_pos h1.b0 h2.b0, Int.lt_of_lt_of_le (den_lt h1 h2) (pow_i hn), fun t H' s nt ht => q t H' s nt ht⟩

end
end He

namespace He
open PySem PySem.Spec PyProof.Rows L2
/-! ### sets of texts, their tables told so that they can be walked -/
def txE (e : Int × Value) : Str := match e.2 with
  | .str x _ => x
  | _ => Str.empty
def OkE (w : World) (e : Int × Value) : Prop := ∃ x t, e.2 = Value.str x t ∧ e.1 = hashStr w x
def putS (xs : List Str) (x : Str) : List Str := if x ∈ xs then xs else xs ++ [x]
structure SetD (w : World) (es : Array (Int × Value)) (t : SetTable) (xs : List Str) : Prop where
  ok : ∀ e ∈ es.toList, OkE w e
  pm : (es.toList.map txE).Perm xs
  nd : xs.Nodup
  few : es.size < scanBound
  fit : t.fits es.size = true
  ris : Ris t.place.toList
  led : w.params.followText "set-order" = true ∨ t.led = true
def SetS (w : World) (h : Heap) (a : Addr) (xs : List Str) : Prop := ∃ ob es ep t, h.get? a = some ob ∧ ob.ExactSet ∧ ob.data = .set es ep t ∧ SetD w es t xs
section
variable {P : Program} {w : World} {h h' : Heap} {a : Addr} {xs : List Str}
theorem SetS.at' (R : SetS w h a xs) (k : ∀ ob, h.get? a = some ob → h'.get? a = some ob) : SetS w h' a xs := by
  obtain ⟨ob, es, ep, t, ho, r⟩ := R
  exact ⟨ob, es, ep, t, k ob ho, r⟩
theorem SetD.size {es : Array (Int × Value)} {t : SetTable} (D : SetD w es t xs) : es.size = xs.length := by rw [← Array.length_toList, ← D.pm.length_eq, List.length_map]
theorem SetD.elems {es : Array (Int × Value)} {t : SetTable} (D : SetD w es t xs) : ElemsOf (strKind P w) es.toList := fun e he => by
  obtain ⟨x, t, h1, h2⟩ := D.ok e he
  exact ⟨⟨x, by rw [h1]; exact strKind_is P w x t, h2⟩, by rw [h1]; rfl⟩
theorem ok_is {e : Int × Value} (g : OkE w e) (x : Str) : (strKind P w).is x e.2 = true ↔ txE e = x := by
  obtain ⟨y, t, h1, _⟩ := g
  unfold txE
  rw [h1]
  show (y == x) = true ↔ y = x
  exact beq_iff_eq
theorem SetD.mem {es : Array (Int × Value)} {t : SetTable} (D : SetD w es t xs) (x : Str) : x ∈ xs ↔ ∃ e ∈ es.toList, (strKind P w).is x e.2 = true := by
  rw [← D.pm.mem_iff, List.mem_map]
  exact ⟨fun ⟨e, he, q⟩ => ⟨e, he, (ok_is (D.ok e he) x).2 q⟩, fun ⟨e, he, q⟩ => ⟨e, he, (ok_is (D.ok e he) x).1 q⟩⟩
theorem setS_fresh (h : Heap) : SetS w (h.push { cls := .type "set", dict := none, data := .set #[] 0 (.fresh 0 0 (!w.params.followText "set-order")) }) h.objs.size [] := by
  have z := setR_fresh (h := h) w
  obtain ⟨o, es, ep, t, ho, hx, hd, g, nd, hm, hb, hf, hn, hr, hl⟩ := z
  have e0 : es = #[] := by
    have := Heap.get?_push_size h (o := { cls := .type "set", dict := none, data := .set #[] 0 (.fresh 0 0 (!w.params.followText "set-order")) }) rfl
    rw [ho] at this
    cases Option.some.inj this
    cases hd
    rfl
  subst e0
  exact ⟨o, #[], ep, t, ho, hx, hd, fun e he => by simp at he, by simp, List.nodup_nil, hb, hf, hr, hl⟩
end
section
variable {P : Program} {w : World} {A : Around} {E : Value → Shared → Prop} {s : Shared} {a : Addr} {xs : List Str}
/-- a table laid anew is stored, and once more if it grows -/
theorem setS_store {g : Bool → Sem Unit} (hg : ∀ (b : Bool) (s1 : Shared) (Z : Unit → Shared → Prop), Z () s1 → wpAny (model P w) A (g b) Z E s1) {ob : Obj} {es : Array (Int × Value)} {ep : Nat} {t : SetTable} (ho : s.heap.get? a = some ob)
    (ex : ob.ExactSet) (hd : ob.data = .set es ep t) {fs : Array (Int × Value)} {u : SetTable} (D : SetD w fs u xs) {dum : Bool} {R : Option Bool → Shared → Prop} (hR : ∀ h', Heap.SameBut a s.heap h' → SetS w h' a xs → R (some true) { s with heap := h' }) :
    wpAny (model P w) A (do
      storeSet a fs u
      if (!dum && u.tooFull) = true then do
        g (relayAll u fs (SetTable.grown fs.size)).2.2
        storeSet a (relayAll u fs (SetTable.grown fs.size)).1 (relayAll u fs (SetTable.grown fs.size)).2.1
        pure (some true)
      else pure (some true)) R E s := by
  refine wpAny_bind (wpAny_storeSet_of ho hd ?_ (fits_of_scanBound D.few))
  have ho1 := store_at (es' := fs) (t' := u) ho hd
  have sb := Heap.SameBut.update s.heap a (Obj.putSet fs u)
  split
  · have rp := relayAll_perm u fs (SetTable.grown fs.size)
    have rf := relayAll_fits u fs (SetTable.grown fs.size)
    have rr := relayAll_ris u fs (SetTable.grown fs.size)
    have rl := relayAll_led u fs (SetTable.grown fs.size)
    generalize relayAll u fs (SetTable.grown fs.size) = Z at rp rf rr rl ⊢
    obtain ⟨f2, u2, gv⟩ := Z
    dsimp only at rp rf rr rl ⊢
    have z2 : f2.size = fs.size := by rw [← Array.length_toList, rp.length_eq, Array.length_toList]
    have few2 : f2.size < scanBound := z2 ▸ D.few
    refine wpAny_bind (hg _ _ _ (wpAny_bind (wpAny_storeSet_of ho1 rfl ?_ (fits_of_scanBound few2))))
    have ho2 := store_at (es' := f2) (t' := u2) ho1 rfl
    exact wpAny_pure (hR _ (sb.trans (Heap.SameBut.update _ a _)) ⟨_, f2, _, u2, ho2, ex, rfl, fun e he => D.ok e (rp.mem_iff.mp he), (rp.map txE).trans D.pm, D.nd, few2, rf, rr, D.led.imp id fun q => by rw [rl]; exact q⟩)
  · exact wpAny_pure (hR _ sb ⟨_, fs, _, u, ho1, ex, rfl, D⟩)
theorem setS_add {x : Str} {tk : Tok} {Q : Value → Shared → Prop} (R : SetS w s.heap a xs) (room : xs.length + 1 < scanBound)
    (hQ : ∀ h', Heap.SameBut a s.heap h' → SetS w h' a (putS xs x) → Q .none { s with heap := h', toks := s.toks + 1 }) : wpAny (model P w) A (call (.builtin "set.add") [.ref a, .str x tk]) Q E s := by
  obtain ⟨ob, es, ep, t, ho, ex, hd, D⟩ := id R
  have isS : s.TypeIs (.ref a) "set" := ⟨ob, ho, ex.1⟩
  refine wpAny_call_entry F.slot_set_add isS F.entry_set_add ?_ (F.args_set_add_2 _ _)
  unfold Builtin.«set.add» Builtin.Frozenset.oneOther
  simp only [List.isEmpty_nil, bind_assoc]
  unfold Builtin.Frozenset.addrOf setAdd
  refine wpAny_bind (wpAny_pure ?_)
  try dsimp only
  refine wpAny_bind (wpAny_pure ?_)
  try dsimp only
  refine wpAny_bind (wpAny_holding (wpAny_bind ((strKind P w).pyHash (strKind_is P w x tk) ?_)))
  have key : (strKind P w).is x (.str x tk) = true := strKind_is P w x tk
  have scn : (Value.str x tk).scannable = true := rfl
  have els := D.elems (P := P)
  have fin : ∀ h', Heap.SameBut a s.heap h' → SetS w h' a (putS xs x) → wpAny (model P w) A.in1 (ret Value.none) (fun r s' => ∃ v, r = .done (.ret v) ∧ Q v s') E { s with heap := h', toks := s.toks + 1 } := fun h' sb q => wpAny_pure ⟨_, rfl, hQ h' sb q⟩
  unfold setAddHashed setAddHashedIn
  refine wpAny_holding (wpAny_bind (wpAny_setState_of (s := { s with toks := s.toks + 1 }) ho hd D.fit ?_))
  dsimp only
  rw [byScan_of scn D.few els]
  simp only [↓reduceIte]
  unfold setAddByScan
  refine wpAny_bind (wpAny_bind (wpAny_rule (wpAny_bind (wpAny_setScan_of (s := { s with toks := s.toks + 1 }) key ho hd D.fit els ?_))))
  cases found : List.findIdx? (fun e => (strKind P w).is x e.2) es.toList with
  | some j =>
    dsimp only
    obtain ⟨jl, jx, _⟩ := List.findIdx?_eq_some_iff_getElem.mp found
    have inx : x ∈ xs := (D.mem (P := P) x).2 ⟨es.toList[j], List.getElem_mem jl, jx⟩
    have same : putS xs x = xs := if_pos inx
    refine wpAny_pure (wpAny_pure ?_)
    exact fin s.heap (Heap.SameBut.refl a s.heap) (by rw [same]; exact R)
  | none =>
    dsimp only
    have notin : x ∉ xs := fun z => by
      obtain ⟨e, he, q⟩ := (D.mem (P := P) x).1 z
      have c := List.findIdx?_eq_none_iff.mp found e he
      rw [q] at c
      cases c
    have more : putS xs x = xs ++ [x] := if_neg notin
    have gw : ∀ (b : Bool) {s1 : Shared} {Z : Unit → Shared → Prop}, Z () s1 → wpAny (model P w) A.in1 (match b with | true => rule "set.scan.the-table-gave-way" | false => pure ()) Z E s1 := fun b s1 Z q => by
      cases b <;> first | exact wpAny_pure q | exact wpAny_rule q
    have lp := layNew_perm t es ((strKind P w).hash x) (.str x tk)
    have lf := layNew_fits t es ((strKind P w).hash x) (.str x tk)
    have lr := layNew_ris t es ((strKind P w).hash x) (.str x tk) D.ris
    have ll := layNew_led t es ((strKind P w).hash x) (.str x tk)
    generalize layNew t es ((strKind P w).hash x) (.str x tk) = Z at lp lf lr ll ⊢
    obtain ⟨fs, u, dum, gv⟩ := Z
    dsimp only at lp lf lr ll ⊢
    rw [Array.toList_push] at lp
    have cp : fs.toList.Perm (((strKind P w).hash x, Value.str x tk) :: es.toList) := lp.trans (List.perm_append_singleton _ _)
    have pm2 : (fs.toList.map txE).Perm (xs ++ [x]) := ((cp.map txE).trans (List.Perm.cons x D.pm)).trans (List.perm_append_singleton _ _).symm
    have zs : fs.size = xs.length + 1 := by rw [← Array.length_toList, ← List.length_map (f := txE), pm2.length_eq, List.length_append]; rfl
    have D2 : SetD w fs u (xs ++ [x]) := by
      refine ⟨fun e he => ?_, pm2, List.nodup_append.mpr ⟨D.nd, by simp, fun b hb c hc e => notin (by rw [← List.mem_singleton.mp hc, ← e]; exact hb)⟩, by rw [zs]; exact room, lf, lr, D.led.imp id fun q => by rw [ll]; exact q⟩
      rcases List.mem_cons.mp (cp.mem_iff.mp he) with q | q
      · rw [q]
        exact ⟨x, tk, rfl, rfl⟩
      · exact D.ok e q
    rw [← more] at D2
    refine wpAny_bind (gw _ ?_)
    split
    · refine wpAny_bind ?_
      rw [hashByValue_scannable 8 scn]
      refine wpAny_pure ?_
      refine setS_store (s := { s with toks := s.toks + 1 }) (xs := putS xs x) (fun b s1 Z q => by cases b <;> first | exact wpAny_pure q | exact wpAny_rule q) ho ex hd (SetD.mk D2.ok D2.pm D2.nd D2.few ?_ ?_ ?_) fun h' sb r => by
        dsimp only
        exact wpAny_pure (fin h' sb r)
      · first | (split <;> first | exact lf | exact SetTable.fits_plain_off lf) | exact lf
      · first | (split <;> exact lr) | exact lr
      · first | (split <;> exact D2.led) | exact D2.led
    · refine wpAny_bind (wpAny_pure ?_)
      simp only [↓reduceIte]
      refine setS_store (s := { s with toks := s.toks + 1 }) (fun b s1 Z q => by cases b <;> first | exact wpAny_pure q | exact wpAny_rule q) ho ex hd D2 fun h' sb r => by
        dsimp only
        exact wpAny_pure (fin h' sb r)
end
end He

namespace He
open PySem PySem.Spec PyProof.Rows L2
/-! ### a set of texts as a tracked thing; sorted of it -/
/-- the set of the texts xs (each once) at a -/
def SetX (w : World) (a : Addr) (xs : List Str) : HO := .ext fun h => SetS w h a xs
theorem setX_ok {w : World} {P : Program} {H : Hp} {h : Heap} {a : Addr} {xs : List Str} (R : SetS w h a xs) : ObjOk P w H h a (SetX w a xs) := by
  have ⟨ob, _, _, _, ho, _⟩ := R
  exact ⟨R, ⟨ob, ho⟩, fun h1 h2 p k => SetS.at' p k⟩
def txV : Value → Str
  | .str x _ => x
  | _ => Str.empty
section
variable {P : Program} {w : World} {A : Around} {E : Value → Shared → Prop} {s : Shared}
theorem sortX_kind {vs : List Value} {l : List Str} (two : 2 ≤ vs.length) (tx : ∀ v ∈ vs, ∃ x t, v = Value.str x t ∧ x ∈ l) (Q : SortKind → Shared → Prop) (h : ∀ κ, TS.Cmp P w A s κ (pairsOf vs) (fun v => rankS l (txV v)) → Q κ s) :
    wpAny (model P w) A (keyKind' vs.toArray) Q E s := by
  refine PySem.W.kas_kind (T := Value.type "str") two (fun v hv => ?_) rfl rfl (h _ ?_)
  · obtain ⟨x, t, rfl, _⟩ := tx v hv
    exact PySem.W.Looks.now
  · intro p q hp hq Q' E' hQ
    rw [pairsOf_toList] at hp hq
    obtain ⟨x, t, e1, m1⟩ := tx _ (mem_zip_self hp).2
    obtain ⟨y, u, e2, m2⟩ := tx _ (mem_zip_self hq).2
    have hQ2 : Q' (decide (rankS l (txV p.1) < rankS l (txV q.1))) s := hQ
    rw [e1, e2] at hQ2 ⊢
    have r := rank_lt (l := l) (x := x) (y := y) m1
    have hQ3 : Q' (decide (rankS l x < rankS l y)) s := hQ2
    rw [← r] at hQ3
    exact PySem.W.kas_lt_str hQ3
theorem sorted_setS {a : Addr} {xs : List Str} {Q : Value → Shared → Prop} (R : SetS w s.heap a xs) (hh : A.handled = none) (few : xs.length < 64)
    (hQ : ∀ (s2 : Shared) (D : Addr) (us : List Value) (c : Nat), (∀ b o, s.heap.get? b = some o → s2.heap.get? b = some o) → s2.gens = s.gens → s2.os = s.os → s.heap.objs.size ≤ D → s2.heap.get? D = some (seqObj "list" us.toArray c) → Vals ((sortG xs).map V.str) us → Q (.ref D) s2) :
    wpAny (model P w) A (call (.builtin "sorted") [.ref a]) Q E s := by
  obtain ⟨ob, es, ep, t, ho, ex, hd, T⟩ := R
  refine Calls.call_function_entry kind_sorted plain_sorted entry_sorted (args_sorted1 _) ?_
  unfold Builtin.«sorted»
  refine wpAny_bind (m := checkCount "sorted" 1 1 _) (wpAny_pure ?_)
  refine wpAny_bind (collect_set (A := A.in1) hh ⟨ob, ho, ex.1, hd⟩ T.fit T.few T.ris T.led fun s1 vs k1 z1 g1 o1 pm => ?_)
  have vl : vs.length = xs.length := by rw [pm.length_eq, List.length_map, Array.length_toList]; exact T.size
  have tx : ∀ v ∈ vs, ∃ x t, v = Value.str x t ∧ x ∈ xs := fun v hv => by
    obtain ⟨e, he, q⟩ := List.mem_map.mp (pm.mem_iff.mp hv)
    obtain ⟨x, tk, h1, _⟩ := T.ok e he
    refine ⟨x, tk, by rw [← q]; exact h1, T.pm.mem_iff.mp (List.mem_map.mpr ⟨e, he, ?_⟩)⟩
    unfold txE
    rw [h1]
  have pv : (vs.map txV).Perm xs := by
    have q := pm.map txV
    rw [List.map_map] at q
    refine q.trans ((List.Perm.of_eq (List.map_congr_left fun e he => ?_)).trans T.pm)
    obtain ⟨x, tk, h1, _⟩ := T.ok e he
    show txV e.2 = txE e
    unfold txE
    rw [h1]
    rfl
  refine wpAny_bind (wpAny_newList ?_ (by rw [vl, sizeLine_eq]; omega))
  have top : (s1.heap.push (seqObj "list" vs.toArray 0)).get? s1.heap.objs.size = some (seqObj "list" vs.toArray 0) := Heap.get?_push_size _ rfl
  refine wpAny_bind (wpAny_holding (wpAny_call_entry slot_list_sort ⟨_, top, rfl⟩ entry_list_sort
    (SK.plain_sort (s := { s1 with heap := s1.heap.push (seqObj "list" vs.toArray 0) }) (r := fun v => rankS xs (txV v)) top (by rw [vl]; exact few) (fun two Qk hQk => sortX_kind (s := { s1 with heap := TS.midHeap (s1.heap.push (seqObj "list" vs.toArray 0)) s1.heap.objs.size vs }) two tx Qk hQk) fun ps out o1' o2 o3 => ⟨_, rfl, ?_⟩) (args_list_sort _)))
  obtain ⟨c, hc⟩ := sortedHeap_at (vs := vs) (out := out) top
  obtain ⟨zs, pz, ez⟩ := perm_lift (fun v : Value => (v, v)) o2 vs (by
    have z : ∀ l : List Value, l.map (fun v => (v, v)) = l.zip l := fun l => by
      induction l with
      | nil => rfl
      | cons v l ih => rw [List.map_cons, ih]; rfl
    exact z vs)
  have outs : out.toList = zs := by
    rw [o1', ← ez, List.map_map]
    exact List.map_id _
  have tz : ∀ v ∈ zs, ∃ x t, v = Value.str x t ∧ x ∈ xs := fun v hv => tx v (pz.mem_iff.mp hv)
  have up : (zs.map txV).Pairwise fun x y => leS x y = true := by
    rw [← ez, List.pairwise_map] at o3
    rw [List.pairwise_map]
    refine List.Pairwise.imp_of_mem (fun {v u} hv hu h => ?_) o3
    obtain ⟨y, _, rfl, my⟩ := tz u hu
    have h : rankS xs (txV v) ≤ rankS xs y := h
    have r := rank_lt (l := xs) (x := y) (y := txV v) my
    show (!ltCps y.cps.toList (txV v).cps.toList) = true
    rw [ltCps_eq, r, decide_eq_false (by omega)]
    rfl
  have srt : zs.map txV = sortG xs := up_one (((pz.map txV).trans pv).trans (sortG_perm xs).symm) up (sortG_up xs)
  have vz : Vals ((sortG xs).map V.str) zs := by
    rw [← srt]
    have go : ∀ l : List Value, (∀ v ∈ l, ∃ x t, v = Value.str x t ∧ x ∈ xs) → Vals ((l.map txV).map V.str) l := fun l => by
      induction l with
      | nil => exact fun _ => .nil
      | cons v l ih =>
        intro hl
        obtain ⟨x, t, e, _⟩ := hl v List.mem_cons_self
        refine .cons ⟨t, ?_⟩ (ih fun u hu => hl u (List.mem_cons_of_mem _ hu))
        rw [e]
        rfl
    exact go zs tz
  refine wpAny_pure ⟨_, rfl, hQ _ s1.heap.objs.size zs c (fun b u e => ?_) g1 o1 z1 ?_ vz⟩
  · have q := k1 b u e
    have lt := Heap.lt_size q
    show (sortedHeap (s1.heap.push (seqObj "list" vs.toArray 0)) s1.heap.objs.size vs out).get? b = some u
    rw [sortedHeap_old (Nat.ne_of_lt lt) (by rw [Heap.size_push]; exact Nat.lt_succ_of_lt lt)]
    exact Heap.get?_push_of_some _ q
  · have e : out = zs.toArray := Array.toList_inj.mp (by rw [outs])
    rw [← e]
    exact hc
end
section
variable {X : Cx}
theorem setX_get {pins : List (Addr × Obj)} {σ : L2.St} {H : Hp} {s : Shared} {a : Addr} {xs : List Str} (I : Inv X pins σ H s) (ha : H a = some (SetX X.w a xs)) : SetS X.w s.heap a xs := (I.hok a _ ha).1
def rSortedX (w : World) : List V → Hp → VK → Prop := fun vs H Q => ∃ (a : Addr) (xs : List Str), vs = [V.ref a] ∧ H a = some (SetX w a xs) ∧ xs.length < 64 ∧ ∀ p, H p = none → Q (.ref p) (upd H p (.lst ((sortG xs).map V.str)))
theorem cr_sortedX (hc : X.calm = true) : CallR X (.builtin "sorted") (rSortedX X.w) := by
  intro pins s σ H vs us Q I r h
  obtain ⟨a, xs, rfl, ha, few, q⟩ := h
  rw [Vals.ref1 r]
  refine sorted_setS (setX_get I ha) (I.ok.hd hc) few fun s2 D zs c k g o hD at_ vz => ?_
  have short : ((sortG xs).map V.str).length ≤ sizeLine := by rw [List.length_map, (sortG_perm xs).length_eq, sizeLine_eq]; omega
  have nD : H D = none := I.hok.fresh hD
  have J : Inv X pins σ (upd H D (.lst ((sortG xs).map V.str))) { s with heap := s2.heap, gens := s2.gens, drawn := s2.drawn, toks := s2.toks } :=
    I.call (ch := []) (Un.laid k hD nD) (I.hok.laid k hD ⟨short, zs, c, vz, at_⟩) (by rw [g]; exact I.bare) (fun _ z => nomatch z)
  have e : s2 = { s with heap := s2.heap, gens := s2.gens, drawn := s2.drawn, toks := s2.toks } := by
    cases s2; cases s; cases o; rfl
  rw [e]
  exact ⟨.ref D, _, J, rfl, q D nD⟩
end
end He

namespace He
open PySem PySem.Spec PyProof.Rows L2
/-! ### {elt for t0 in i0 for t1 in i1 for t2 in i2}, elt a text -/
abbrev C3 (elt t0 i0 t1 i1 t2 i2 : Expr) (scope : Scope) (pos : Pos) : Expr := .SetComp elt [⟨t0, i0, [], 0⟩, ⟨t1, i1, [], 0⟩, ⟨t2, i2, [], 0⟩] scope pos
theorem turn3_a (elt t0 i0 t1 i1 t2 i2 : Expr) (scope : Scope) (pos : Pos) (it acc : Value) (env : Env) : compTurn (C3 elt t0 i0 t1 i1 t2 i2 scope pos) 0 it acc env = (do
    standAt i0.pos
    match ← pyNext it with
    | none => pure (.done .next)
    | some v =>
      letOwnedTupleGo t0 it v
      assign t0 env v
      let y ← eval i1 env
      standAt i1.pos
      let y2 ← foldedSetIterable i1 env y
      let _ ← runOwn (.compStart (C3 elt t0 i0 t1 i1 t2 i2 scope pos) 1 (← holding [y2] (pyIter y2)) acc env) env
      again (.compLoop (C3 elt t0 i0 t1 i1 t2 i2 scope pos) 0 it acc env)) := by rfl
theorem turn3_b (elt t0 i0 t1 i1 t2 i2 : Expr) (scope : Scope) (pos : Pos) (it acc : Value) (env : Env) : compTurn (C3 elt t0 i0 t1 i1 t2 i2 scope pos) 1 it acc env = (do
    standAt i1.pos
    match ← pyNext it with
    | none => pure (.done .next)
    | some v =>
      letOwnedTupleGo t1 it v
      assign t1 env v
      let y ← eval i2 env
      standAt i2.pos
      let y2 ← foldedSetIterable i2 env y
      let _ ← runOwn (.compStart (C3 elt t0 i0 t1 i1 t2 i2 scope pos) 2 (← holding [y2] (pyIter y2)) acc env) env
      again (.compLoop (C3 elt t0 i0 t1 i1 t2 i2 scope pos) 1 it acc env)) := by rfl
theorem turn3_c (elt t0 i0 t1 i1 t2 i2 : Expr) (scope : Scope) (pos : Pos) (it acc : Value) (env : Env) : compTurn (C3 elt t0 i0 t1 i1 t2 i2 scope pos) 2 it acc env = (do
    standAt i2.pos
    match ← pyNext it with
    | none => pure (.done .next)
    | some v =>
      letOwnedTupleGo t2 it v
      assign t2 env v
      (do let y ← eval elt env; standAt elt.pos; let _ ← call (.builtin "set.add") [acc, y])
      again (.compLoop (C3 elt t0 i0 t1 i1 t2 i2 scope pos) 2 it acc env)) := by rfl
section
variable {P : Program} {w : World} {A : Around} {R : Result → Shared → Prop} {s : Shared} {elt t0 i0 t1 i1 t2 i2 : Expr} {scope : Scope} {pos : Pos} {it acc : Value} {env : Env}
/-- nothing is raised -/
abbrev No : Value → Shared → Prop := fun _ _ => False
/-- a clause's turn whose body starts the next clause -/
abbrev TurnTo (P : Program) (w : World) (A : Around) (R : Result → Shared → Prop) (C t i : Expr) (k : Nat) (it acc : Value) (env : Env) (I : Nat → Shared → Prop) : Prop := ∀ n s, I n s → wpAny (model P w) A (pyNext it) (fun r s1 => match r with
  | none => R (.ok .next) s1
  | some v => wpAny (model P w) A (letOwnedTupleGo t it v) (fun _ s2 => wpAny (model P w) A (assign t env v) (fun _ s3 => wpAny (model P w) A (eval i env) (fun y s4 => wpAny (model P w) A (pyIter y) (fun j s5 =>
      codeAny (model P w) A (.compStart C k j acc env) (fun r s6 => (∃ f, r = .ok f) ∧ ∃ m, m < n ∧ I m s6) s5) No s4) No s3) No s2) No s1) No s
theorem loop3_a (fs : ∀ x, foldedSetIterable i1 env x = pure x) (I : Nat → Shared → Prop) (turn : TurnTo P w A R (C3 elt t0 i0 t1 i1 t2 i2 scope pos) t0 i1 1 it acc env I) (n : Nat) (h : I n s) :
    codeAny (model P w) A (.compLoop (C3 elt t0 i0 t1 i1 t2 i2 scope pos) 0 it acc env) R s := by
  refine codeAny_loop rfl I (fun n s hI => ?_) n h
  show wpAny _ A ((compTurn (C3 elt t0 i0 t1 i1 t2 i2 scope pos) 0 it acc env).onRaise (fun x => do noteFrame x env; theTreesLotGoes x)) _ _ s
  refine wpAny_noted ?_
  rw [turn3_a]
  refine wpAny_bind (wpAny_standAt (wpAny_bind (thnF (turn n s hI) fun r s1 h1 => ?_)))
  match r, h1 with
  | none, h1 => exact wpAny_pure h1
  | some v, h1 =>
    refine wpAny_bind (thnF h1 fun _ s2 h2 => wpAny_bind (thnF h2 fun _ s3 h3 => wpAny_bind (thnF h3 fun y s4 h4 => ?_)))
    refine wpAny_bind (wpAny_standAt (wpAny_bind (wpAny_of_eq (fs y) (wpAny_bind (wpAny_holding (thnF h4 fun j s5 h5 => wpAny_bind (wpAny_runOwn ?_)))))))
    rw [Around.mark_none]
    refine codeAny_mono h5 fun r s6 hr => ?_
    obtain ⟨⟨f, rfl⟩, m⟩ := hr
    first
      | exact wpAny_pure ⟨rfl, m⟩
      | exact wpAny_bind (wpAny_pure (wpAny_pure ⟨rfl, m⟩))
theorem loop3_b (fs : ∀ x, foldedSetIterable i2 env x = pure x) (I : Nat → Shared → Prop) (turn : TurnTo P w A R (C3 elt t0 i0 t1 i1 t2 i2 scope pos) t1 i2 2 it acc env I) (n : Nat) (h : I n s) :
    codeAny (model P w) A (.compLoop (C3 elt t0 i0 t1 i1 t2 i2 scope pos) 1 it acc env) R s := by
  refine codeAny_loop rfl I (fun n s hI => ?_) n h
  show wpAny _ A ((compTurn (C3 elt t0 i0 t1 i1 t2 i2 scope pos) 1 it acc env).onRaise (fun x => do noteFrame x env; theTreesLotGoes x)) _ _ s
  refine wpAny_noted ?_
  rw [turn3_b]
  refine wpAny_bind (wpAny_standAt (wpAny_bind (thnF (turn n s hI) fun r s1 h1 => ?_)))
  match r, h1 with
  | none, h1 => exact wpAny_pure h1
  | some v, h1 =>
    refine wpAny_bind (thnF h1 fun _ s2 h2 => wpAny_bind (thnF h2 fun _ s3 h3 => wpAny_bind (thnF h3 fun y s4 h4 => ?_)))
    refine wpAny_bind (wpAny_standAt (wpAny_bind (wpAny_of_eq (fs y) (wpAny_bind (wpAny_holding (thnF h4 fun j s5 h5 => wpAny_bind (wpAny_runOwn ?_)))))))
    rw [Around.mark_none]
    refine codeAny_mono h5 fun r s6 hr => ?_
    obtain ⟨⟨f, rfl⟩, m⟩ := hr
    first
      | exact wpAny_pure ⟨rfl, m⟩
      | exact wpAny_bind (wpAny_pure (wpAny_pure ⟨rfl, m⟩))
theorem loop3_c (I : Nat → Shared → Prop) (turn : ∀ n s, I n s → wpAny (model P w) A (pyNext it) (fun r s1 => match r with
      | none => R (.ok .next) s1
      | some v => wpAny (model P w) A (letOwnedTupleGo t2 it v) (fun _ s2 => wpAny (model P w) A (assign t2 env v) (fun _ s3 => wpAny (model P w) A (eval elt env) (fun y s4 =>
          wpAny (model P w) A (call (.builtin "set.add") [acc, y]) (fun _ s5 => ∃ m, m < n ∧ I m s5) No s4) No s3) No s2) No s1) No s) (n : Nat) (h : I n s) :
    codeAny (model P w) A (.compLoop (C3 elt t0 i0 t1 i1 t2 i2 scope pos) 2 it acc env) R s := by
  refine codeAny_loop rfl I (fun n s hI => ?_) n h
  show wpAny _ A ((compTurn (C3 elt t0 i0 t1 i1 t2 i2 scope pos) 2 it acc env).onRaise (fun x => do noteFrame x env; theTreesLotGoes x)) _ _ s
  refine wpAny_noted ?_
  rw [turn3_c]
  refine wpAny_bind (wpAny_standAt (wpAny_bind (thnF (turn n s hI) fun r s1 h1 => ?_)))
  match r, h1 with
  | none, h1 => exact wpAny_pure h1
  | some v, h1 =>
    refine wpAny_bind (thnF h1 fun _ s2 h2 => wpAny_bind (thnF h2 fun _ s3 h3 => wpAny_bind (wpAny_bind (thnF h3 fun y s4 h4 => wpAny_bind (wpAny_standAt (wpAny_bind (thnF h4 fun _ s5 h5 => ?_)))))))
    exact wpAny_pure (wpAny_pure ⟨rfl, h5⟩)
theorem start3 {k : Nat} (hk : k = 0 ∨ k = 1 ∨ k = 2) (h0 : codeAny (model P w) A (.compLoop (C3 elt t0 i0 t1 i1 t2 i2 scope pos) k it acc env) R s)
    (h : wpAny (model P w) A (pyIter it) (fun j s2 => codeAny (model P w) A (.compLoop (C3 elt t0 i0 t1 i1 t2 i2 scope pos) k j acc env) R s2) No s) : codeAny (model P w) A (.compStart (C3 elt t0 i0 t1 i1 t2 i2 scope pos) k it acc env) R s := by
  have h : ∀ E : Value → Shared → Prop, wpAny (model P w) A (pyIter it) (fun j s2 => codeAny (model P w) A (.compLoop (C3 elt t0 i0 t1 i1 t2 i2 scope pos) k j acc env) R s2) E s := fun E => thnF h fun _ _ q => q
  rcases hk with rfl | rfl | rfl
  all_goals
    refine codeAny_of_tree (wpAny_notedAt (M := model P w) ?_)
    unfold compStart
    show wpAny _ _ (ask >>= _) _ _ s
    refine wpAny_bind (m := ask) (wpAny_askSetting (wpAny_ite ?_))
    split
    · first
        | exact wpAny_bind (wpAny_pure (wpAny_pure ⟨rfl, h0⟩))
        | exact wpAny_pure ⟨rfl, h0⟩
    · refine wpAny_bind (wpAny_rule ?_)
      first
        | (show wpAny _ _ (standAt i0.pos >>= _) _ _ s; exact wpAny_bind (wpAny_standAt (wpAny_bind (wpAny_mono (h _) (fun j s2 q => wpAny_pure ⟨rfl, q⟩) fun _ _ z => z))))
        | (show wpAny _ _ (standAt i1.pos >>= _) _ _ s; exact wpAny_bind (wpAny_standAt (wpAny_bind (wpAny_mono (h _) (fun j s2 q => wpAny_pure ⟨rfl, q⟩) fun _ _ z => z))))
        | (show wpAny _ _ (standAt i2.pos >>= _) _ _ s; exact wpAny_bind (wpAny_standAt (wpAny_bind (wpAny_mono (h _) (fun j s2 q => wpAny_pure ⟨rfl, q⟩) fun _ _ z => z))))
        | exact wpAny_bind (wpAny_standAt (wpAny_bind (wpAny_mono (h _) (fun j s2 q => wpAny_pure ⟨rfl, q⟩) fun _ _ z => z)))
end
end He

namespace He
open PySem PySem.Spec PyProof.Rows L2
/-! ### one clause of a comprehension, whatever the turns do -/
abbrev Bd := L2.St → Hp → (Hp → Prop) → Prop
/-- W leads over J's items: each is stored, then body reaches what the next turn starts from -/
def Steps (J : It) (g : TG) (vs : List Nat) (σ : L2.St) (body : Bd) (done : Hp → Prop) (W : Nat → Nat → Hp → Prop) : Prop := ∀ i m H, W i m H →
  (J.stop i H ∧ done H) ∨ (J.go i H ∧ ∃ N : Hp → Prop, (∀ H', N H' → ∃ m', m' < m ∧ W (i + 1) m' H') ∧ ∀ x H', J.yld i H x H' → g x (wipe σ vs) H' fun σ2 H2 => wipe σ2 vs = wipe σ vs ∧ body σ2 H2 N)
def Lp (J : It) (g : TG) (vs : List Nat) (σ : L2.St) (H1 : Hp) (body : Bd) (done : Hp → Prop) : Prop := ∃ W : Nat → Nat → Hp → Prop, (∃ m, W 0 m H1) ∧ Steps J g vs σ body done W
/-- what σ2 knows outside vs, σ9 knows -/
def Knows (vs : List Nat) (σ2 σ9 : L2.St) : Prop := σ9.length = σ2.length ∧ ∀ (j : Nat) v, (wipe σ2 vs)[j]? = some (some v) → σ9[j]? = some (some v)
theorem knows_self (vs : List Nat) (σ : L2.St) : Knows vs σ σ := ⟨rfl, fun j v e => (wipe_some e).1⟩
theorem knows_in {vs vs1 : List Nat} (hv : ∀ i ∈ vs1, i ∈ vs) {σ : L2.St} : Knows vs σ (wipe σ vs1) := ⟨wipe_length σ vs1, fun j v e => by
  obtain ⟨e1, e2⟩ := wipe_some e
  rw [wipe_out fun z => e2 (hv j z)]
  exact e1⟩
section
variable {Y : Cx}
/-- a turn may start -/
def At (Y : Cx) (pins : List (Addr × Obj)) (vs : List Nat) (σ : L2.St) (tn : Nat → Heap → Prop) (fp : List Addr) (W : Nat → Nat → Hp → Prop) (n : Nat) (s : Shared) : Prop := ∃ i H', Inv Y pins (wipe σ vs) H' s ∧ tn i s.heap ∧ (∀ b ∈ fp, H' b = none) ∧ W i n H'
theorem level {tg : Expr} {J : It} {fp : List Addr} {it : Addr} {tn : Nat → Heap → Prop} {pins : List (Addr × Obj)} {g : TG} {vs : List Nat} {σ : L2.St} {W : Nat → Nat → Hp → Prop} {body : Bd} {done : Hp → Prop}
    (hc : Y.calm = true) (xe : Y.xe = No) (T : Turn Y.prog Y.w Y.K tg J fp it tn) (st : ∀ (σ' : L2.St) (H' : Hp) (s' : Shared), Inv Y pins σ' H' s' → (∀ b ∈ fp, H' b = none) → ∀ b ∈ fp, FpOk Y pins H' b)
    (pg : PG Y tg g) (turn : Steps J g vs σ body done W) (n : Nat) (s : Shared) (h : At Y pins vs σ tn fp W n s) :
    wpAny (model Y.prog Y.w) Y.A (pyNext (.ref it)) (fun r s1 => match r with
      | none => ∃ H', Inv Y pins (wipe σ vs) H' s1 ∧ done H'
      | some v => wpAny (model Y.prog Y.w) Y.A (letOwnedTupleGo tg (.ref it) v) (fun _ s2 => wpAny (model Y.prog Y.w) Y.A (assign tg Y.env v) (fun _ s3 =>
          ∃ (σ2 : L2.St) (H2 : Hp) (N : Hp → Prop) (pins2 : List (Addr × Obj)), Inv Y pins2 σ2 H2 s3 ∧ body σ2 H2 N ∧ ∀ (σ9 : L2.St) (s' : Shared) (H' : Hp), Inv Y pins2 σ9 H' s' → Knows vs σ2 σ9 → N H' → ∃ m, m < n ∧ At Y pins vs σ tn fp W m s') No s2) No s1) No s := by
  obtain ⟨i, H5, I5, st5, n5, w5⟩ := h
  rcases turn i n H5 w5 with ⟨stop, qq⟩ | ⟨go, N, hN, step⟩
  · refine thnF (T.done Y rfl rfl rfl hc i pins s _ H5 (fun _ _ => False) I5 (st _ _ _ I5 n5) st5 stop) fun r s6 ⟨hr, I6⟩ => ?_
    subst hr
    exact ⟨H5, I6, qq⟩
  · refine thnF (T.item Y rfl rfl rfl hc i pins s _ H5 (fun _ _ => False) I5 (st _ _ _ I5 n5) st5 go) fun r s6 ⟨u, hr, h6⟩ => ?_
    subst hr
    refine thnF h6 fun _ s7 ⟨x, H7, I7, r7, y7, st7, n7⟩ => ?_
    have I8 := I7.pinned (st _ _ _ I7 n7) (T.obj _ _ st7)
    have run := pg.run _ s7 _ H7 x u _ I8 r7 (step x H7 y7)
    rw [xe] at run
    refine thnF run fun _ s8 ⟨σ2, H8, I9, kn, b⟩ => ?_
    refine ⟨σ2, H8, N, _, I9, b, fun σ9 s' H' I' k nx => ?_⟩
    obtain ⟨m', hm, w'⟩ := hN H' nx
    have pin' : ∀ b ∈ fp, ∀ o, s7.heap.get? b = some o → s'.heap.get? b = some o ∧ H' b = none := fun b hb o e =>
      let z := I'.pin (b, o) (List.mem_append_right _ (List.mem_append_right _ (mem_pinsAt hb e)))
      ⟨z.1, z.2.1⟩
    refine ⟨m', hm, i + 1, H', I'.unpinned.weak ?_ ?_, T.keep _ _ _ st7 fun b hb o e => (pin' b hb o e).1, fun b hb => ?_, w'⟩
    · rw [k.1, ← wipe_length σ2 vs, kn]
    · intro j v e
      refine k.2 j v ?_
      rw [kn]
      exact e
    · obtain ⟨o, e, _⟩ := T.obj _ _ st7 b hb
      exact (pin' b hb o e).2
/-- what is kept of an iterator that comes within a turn -/
theorem fp_stays {pins : List (Addr × Obj)} {H0 : Hp} {fp : List Addr} (f : ∀ b ∈ fp, FpOk Y pins H0 b) : ∀ (σ' : L2.St) (H' : Hp) (s' : Shared), Inv Y pins σ' H' s' → (∀ b ∈ fp, H' b = none) → ∀ b ∈ fp, FpOk Y pins H' b := fun _ _ _ _ hn b hb => ⟨hn b hb, (f b hb).2⟩
/-- x is put into the new set -/
theorem putS_ok {pins : List (Addr × Obj)} {σ : L2.St} {H : Hp} {s : Shared} {D : Addr} {xs : List Str} {x : Str} {v : Value} {E : Value → Shared → Prop} {Q : Value → Shared → Prop} (I : Inv Y pins σ H s) (hD : H D = some (SetX Y.w D xs)) (room : xs.length + 1 < scanBound) (r : RelV (V.str x) v)
    (h : ∀ s', Inv Y pins σ (upd H D (SetX Y.w D (putS xs x))) s' → Q .none s') : wpAny (model Y.prog Y.w) Y.A (call (.builtin "set.add") [.ref D, v]) Q E s := by
  obtain ⟨t, rfl⟩ := r
  refine setS_add (setX_get I hD) room fun h' sb R => h _ ?_
  refine I.write (by rw [hD]; exact True.intro) (.inl rfl) (fun b u hb q => (sb.2 b hb).trans q) ?_ (setX_ok R)
  obtain ⟨ob, _, _, _, ho, _⟩ := R
  exact ⟨ob, ho⟩
end
end He

namespace He
open PySem PySem.Spec PyProof.Rows L2
/-! ### {text for .. for .. for ..} -/
def tSc3 (w : World) (wi : TI) (g : TG) (wi1 : TI) (g1 : TG) (wi2 : TI) (g2 : TG) (te : TE) (vs vs1 vs2 : List Nat) : TE := fun σ H Q => wi σ H fun J H1 => ∀ D, H1 D = none →
  Lp J g vs σ (upd H1 D (SetX w D [])) (fun σ2 H2 N => wi1 σ2 H2 fun J1 H3 => Lp J1 g1 vs1 σ2 H3 (fun σ3 H4 N1 => wi2 σ3 H4 fun J2 H5 => Lp J2 g2 vs2 σ3 H5 (fun σ4 H6 N2 =>
    te σ4 H6 fun y H7 => ∃ (x : Str) (xs : List Str), y = .str x ∧ H7 D = some (SetX w D xs) ∧ xs.length + 1 < scanBound ∧ N2 (upd H7 D (SetX w D (putS xs x)))) N1) N) fun H => Q (.ref D) H
section
variable {X : Cx}
abbrev Blk (X : Cx) (scope : Scope) (R : Cx → Prop) : Prop := ∀ (s : Shared) (H : Hp) (C : Addr) (cl : List (PySem.Str × Addr)) (fp : List Addr), R (X.blk s H scope (compEnvC scope cl C X.env) fp)
theorem sc3_core {pins : List (Addr × Obj)} {s : Shared} {σ : L2.St} {H : Hp} {Q : VK} {elt t0 i0 t1 i1 t2 i2 : Expr} {scope : Scope} {own : List (PySem.Str × Nat)} {vs1 vs2 : List Nat} {pos pos' : Pos} {wi wi1 wi2 : TI} {g g1 g2 : TG} {te : TE} {use : Option (Value → Sem Unit)} {Qf : Value → Shared → Prop}
    (hc : X.calm = true) (nd : X.N.Nodup) (I : Inv X pins σ H s) (it0 : PI X t0 i0 wi) (ok : BlkOk X.N X.env.scope scope own) (hv1 : ∀ i ∈ vs1, i ∈ own.map (·.2)) (hv2 : ∀ i ∈ vs2, i ∈ vs1)
    (hg : Blk X scope fun Y => PG Y t0 g) (it1 : Blk X scope fun Y => PI Y t1 i1 wi1) (hg1 : Blk X scope fun Y => PG Y t1 g1) (it2 : Blk X scope fun Y => PI Y t2 i2 wi2) (hg2 : Blk X scope fun Y => PG Y t2 g2) (el : Blk X scope fun Y => PE Y elt te)
    (f0 : ∀ x, foldedSetIterable i0 X.env x = pure x) (fs1 : ∀ env x, foldedSetIterable i1 env x = pure x) (fs2 : ∀ env x, foldedSetIterable i2 env x = pure x)
    (h : tSc3 X.w wi g wi1 g1 wi2 g2 te (own.map (·.2)) vs1 vs2 σ H Q)
    (post : ∀ D C s' m H', Inv X pins σ H' s' → Q (.ref D) H' → s'.heap.Ns C m → FpOk X pins H' C → compPost (model X.prog X.w) X.A X.xe use Qf (.ref D) C (.ok .next) s') :
    wpAny (model X.prog X.w) X.A (comprehension (C3 elt t0 i0 t1 i1 t2 i2 scope pos) scope X.env pos' (newSet (.type "set")) false (eval i0 X.env) use) Qf X.xe s := by
  have caught : ∀ y ∈ scope.names, y.2 = .free → ∃ c, X.env.cells.lookup y.1 = some c := fun y hy e =>
    (ok.free y hy e).elim (fun k => I.ok.has _ (.inl k)) fun k => I.ok.has _ (.inr k)
  refine wpAny_comprehension_free (use := use) rfl f0 (closure_ok caught) ok.kind (fun y hy e => by rw [ok.uniq y hy, e]) (thn (it0.run pins s σ H _ I h) fun xv s1 hx => thn hx fun itv s2 h2 => ?_)
  obtain ⟨it, fp, tn, J, H2, e, I2, T, st2, f2, q⟩ := h2
  subst e
  refine PpSet.newSet_ok (newEnv_comp ?_)
  generalize eD : s2.heap.objs.size = D
  obtain ⟨W, ⟨m0, w0⟩, turn⟩ := q D (I2.hok.fresh (Nat.le_of_eq eD))
  generalize es3 : ({ s2 with heap := s2.heap.push { cls := .type "set", dict := none, data := .set #[] 0 (.fresh 0 0 (!X.w.params.followText "set-order")) } } : Shared) = s3
  have h3 : s3.heap = s2.heap.push { cls := .type "set", dict := none, data := .set #[] 0 (.fresh 0 0 (!X.w.params.followText "set-order")) } := by rw [← es3]
  have I3 : Inv X pins σ (upd H2 D (SetX X.w D [])) s3 := by
    rw [← es3]
    refine I2.laid (t' := s2.toks) (fun b o e => Heap.get?_push_of_some _ e) (Nat.le_of_eq eD) ?_
    rw [← eD]
    exact setX_ok (setS_fresh s2.heap)
  have f3 : ∀ b ∈ fp, FpOk X pins (upd H2 D (SetX X.w D [])) b ∧ b < s3.heap.objs.size := fun b hb => by
    obtain ⟨o, e, _⟩ := T.obj _ _ st2 b hb
    have lt := Heap.lt_size e
    refine ⟨⟨?_, (f2 b hb).2⟩, by rw [h3, Heap.size_push]; exact Nat.lt_succ_of_lt lt⟩
    rw [upd_ne (by rw [← eD]; exact Nat.ne_of_lt lt)]
    exact (f2 b hb).1
  have st3 : tn 0 s3.heap := T.keep _ _ _ st2 fun b _ o e => by rw [h3]; exact Heap.get?_push_of_some _ e
  have I4 := block_start I3 ok nd f3
  have p0 := hg s3 (upd H2 D (SetX X.w D [])) s3.heap.objs.size (cellsFrom (s3.heap.objs.size + 1) scope.names (cloFrom X.env.cells scope.names [])) fp
  have q1 := it1 s3 (upd H2 D (SetX X.w D [])) s3.heap.objs.size (cellsFrom (s3.heap.objs.size + 1) scope.names (cloFrom X.env.cells scope.names [])) fp
  have p1 := hg1 s3 (upd H2 D (SetX X.w D [])) s3.heap.objs.size (cellsFrom (s3.heap.objs.size + 1) scope.names (cloFrom X.env.cells scope.names [])) fp
  have q2 := it2 s3 (upd H2 D (SetX X.w D [])) s3.heap.objs.size (cellsFrom (s3.heap.objs.size + 1) scope.names (cloFrom X.env.cells scope.names [])) fp
  have p2 := hg2 s3 (upd H2 D (SetX X.w D [])) s3.heap.objs.size (cellsFrom (s3.heap.objs.size + 1) scope.names (cloFrom X.env.cells scope.names [])) fp
  have pe := el s3 (upd H2 D (SetX X.w D [])) s3.heap.objs.size (cellsFrom (s3.heap.objs.size + 1) scope.names (cloFrom X.env.cells scope.names [])) fp
  show codeAny _ _ (.compStart (C3 elt t0 i0 t1 i1 t2 i2 scope pos) 0 (.ref it) (.ref D) (compEnvC scope (cellsFrom (s3.heap.objs.size + 1) scope.names (cloFrom X.env.cells scope.names [])) s3.heap.objs.size X.env)) (compPost (model X.prog X.w) X.A X.xe use Qf (.ref D) s3.heap.objs.size) { s3 with heap := pushCells (s3.heap.push { cls := .type "dict", data := .dict #[] }) scope.names }
  have n3 : ∀ b ∈ fp, (upd H2 D (SetX X.w D [])) b = none := fun b hb => (f3 b hb).1.1
  generalize ece : compEnvC scope (cellsFrom (s3.heap.objs.size + 1) scope.names (cloFrom X.env.cells scope.names [])) s3.heap.objs.size X.env = ce at I4 p0 q1 p1 q2 p2 pe ⊢
  have cL : ce.locals = s3.heap.objs.size := by subst ece; rfl
  generalize hH3 : upd H2 D (SetX X.w D []) = H3 at I3 I4 p0 q1 p1 q2 p2 pe w0 n3 f3
  generalize es4 : ({ s3 with heap := pushCells (s3.heap.push { cls := .type "dict", data := .dict #[] }) scope.names } : Shared) = s4 at I4 ⊢
  have st4 : tn 0 s4.heap := T.keep _ _ _ st3 fun b _ o e => by rw [← es4]; exact pushCells_keeps _ _ _ _ (Heap.get?_push_of_some _ e)
  generalize hY : X.blk s3 H3 scope ce fp = Y at I4 p0 q1 p1 q2 p2 pe
  have yc : Y.calm = true := by rw [← hY]; exact hc
  have yx : Y.xe = No := by rw [← hY]
  have st : ∀ (σ' : L2.St) (H' : Hp) (s' : Shared), Inv Y [] σ' H' s' → (∀ b ∈ fp, H' b = none) → ∀ b ∈ fp, FpOk Y [] H' b := by
    rw [← hY]
    exact fun σ' H' s' I' hn b hb => ⟨hn b hb, (I'.ok.exf b hb).1, I'.ok.exfs b hb, .inl hb, fun x c e => (I'.ok.exf b hb).2 x c e, fun p hp => absurd (show p ∈ ([] : List (Addr × Obj)) ++ [] from hp) (by simp)⟩
  have e1 : Y.prog = X.prog := by rw [← hY]
  have e2 : Y.w = X.w := by rw [← hY]
  have e3 : Y.K = X.K := by rw [← hY]
  have e4 : Y.A = X.A := by rw [← hY]
  have e5 : Y.env = ce := by rw [← hY]
  -- the end, back among the def's names
  have fin : ∀ (s' : Shared) (H' : Hp), Inv Y [] (wipe σ (own.map (·.2))) H' s' → Q (.ref D) H' → compPost (model X.prog X.w) X.A X.xe use Qf (.ref D) s3.heap.objs.size (.ok .next) s' := fun s' H' I' z => by
    rw [← hY] at I'
    have I7 : Inv X pins σ H' s' := I3.call' (ch := fp) I'.os I'.base I'.hok I'.bare fun b hb => ⟨(f3 b hb).1.2.2.2.1, (f3 b hb).1.2.1, (f3 b hb).1.2.2.2.2.1, (f3 b hb).1.2.2.2.2.2⟩
    have nC : H' s3.heap.objs.size = none := by
      have z : H' ce.locals = none := I'.free
      rw [cL] at z
      exact z
    obtain ⟨m, hn, _⟩ := I'.loc
    have hn : s'.heap.Ns ce.locals m := hn
    rw [cL] at hn
    exact post D s3.heap.objs.size s' m H' I7 z hn (I3.fpOk (Nat.le_refl _) nC)
  clear hY
  have T : Turn Y.prog Y.w Y.K t0 J fp it tn := by rw [e1, e2, e3]; exact T
  rw [← e4, ← e5] at *
  rw [← e1, ← e2] at fin ⊢
  have loop : codeAny (model Y.prog Y.w) Y.A (.compLoop (C3 elt t0 i0 t1 i1 t2 i2 scope pos) 0 (.ref it) (.ref D) Y.env) (compPost (model Y.prog Y.w) Y.A X.xe use Qf (.ref D) s3.heap.objs.size) s4 := by
    refine loop3_a (fs1 _) (At Y [] (own.map (·.2)) σ tn fp W) (fun n s5 h5 => thnF (level yc yx T st p0 turn n s5 h5) fun r s6 h6 => ?_) m0 ⟨0, H3, I4, st4, n3, w0⟩
    match r, h6 with
    | none, ⟨H', I', z⟩ => exact fin s6 H' I' z
    | some v, h6 =>
      refine thnF h6 fun _ s7 h7 => thnF h7 fun _ s8 ⟨σ2, H8, N, pin2, I8, b8, end8⟩ => ?_
      have r1 := q1.run _ s8 σ2 H8 _ I8 b8
      rw [yx] at r1
      refine thnF r1 fun xv s9 hx => thnF hx fun itv s10 h10 => ?_
      obtain ⟨it1, fp1, tn1, J1, H10, ee, I10, T1, st10, f10, W1, ⟨m1, w1⟩, turn1⟩ := h10
      subst ee
      have loop1 : codeAny (model Y.prog Y.w) Y.A (.compLoop (C3 elt t0 i0 t1 i1 t2 i2 scope pos) 1 (.ref it1) (.ref D) Y.env) (fun r s' => (∃ f, r = .ok f) ∧ ∃ m, m < n ∧ At Y [] (own.map (·.2)) σ tn fp W m s') s10 := by
        refine loop3_b (fs2 _) (At Y pin2 vs1 σ2 tn1 fp1 W1) (fun n1 s11 h11 => thnF (level yc yx T1 (fp_stays f10) p1 turn1 n1 s11 h11) fun r s12 h12 => ?_) m1 ⟨0, H10, I10.weak (wipe_length _ _) (fun j v e => (wipe_some e).1), st10, fun b hb => (f10 b hb).1, w1⟩
        match r, h12 with
        | none, ⟨H', I', z⟩ => exact ⟨⟨_, rfl⟩, end8 _ s12 H' I' (knows_in hv1) z⟩
        | some v, h12 =>
          refine thnF h12 fun _ s13 h13 => thnF h13 fun _ s14 ⟨σ3, H14, N1, pin3, I14, b14, end14⟩ => ?_
          have r2 := q2.run _ s14 σ3 H14 _ I14 b14
          rw [yx] at r2
          refine thnF r2 fun xv s15 hx => thnF hx fun itv s16 h16 => ?_
          obtain ⟨it2, fp2, tn2, J2, H16, ee, I16, T2, st16, f16, W2, ⟨m2, w2⟩, turn2⟩ := h16
          subst ee
          have loop2 : codeAny (model Y.prog Y.w) Y.A (.compLoop (C3 elt t0 i0 t1 i1 t2 i2 scope pos) 2 (.ref it2) (.ref D) Y.env) (fun r s' => (∃ f, r = .ok f) ∧ ∃ m, m < n1 ∧ At Y pin2 vs1 σ2 tn1 fp1 W1 m s') s16 := by
            refine loop3_c (At Y pin3 vs2 σ3 tn2 fp2 W2) (fun n2 s17 h17 => thnF (level yc yx T2 (fp_stays f16) p2 turn2 n2 s17 h17) fun r s18 h18 => ?_) m2 ⟨0, H16, I16.weak (wipe_length _ _) (fun j v e => (wipe_some e).1), st16, fun b hb => (f16 b hb).1, w2⟩
            match r, h18 with
            | none, ⟨H', I', z⟩ => exact ⟨⟨_, rfl⟩, end14 _ s18 H' I' (knows_in hv2) z⟩
            | some v, h18 =>
              refine thnF h18 fun _ s19 h19 => thnF h19 fun _ s20 ⟨σ4, H20, N2, pin4, I20, b20, end20⟩ => ?_
              have r3 := pe.run _ s20 σ4 H20 _ I20 b20
              rw [yx] at r3
              refine thnF r3 fun z s21 ⟨y, H21, I21, r21, x, xs, ey, hD21, room, nx⟩ => ?_
              subst ey
              rw [← e2] at hD21 nx
              exact putS_ok I21 hD21 room r21 fun s22 I22 => end20 σ4 s22 _ I22 (knows_self _ _) nx
          exact start3 (.inr (.inr rfl)) loop2 (T2.self Y.A 0 _ _ _ st16 loop2)
      exact start3 (.inr (.inl rfl)) loop1 (T1.self Y.A 0 _ _ _ st10 loop1)
  exact start3 (.inl rfl) loop (T.self Y.A 0 _ _ _ st4 loop)
theorem pe_sc3 {elt t0 i0 t1 i1 t2 i2 : Expr} {scope : Scope} {own : List (PySem.Str × Nat)} {vs1 vs2 : List Nat} {pos : Pos} {wi wi1 wi2 : TI} {g g1 g2 : TG} {te : TE}
    (hc : X.calm = true) (nd : X.N.Nodup) (it0 : PI X t0 i0 wi) (ok : BlkOk X.N X.env.scope scope own) (hv1 : ∀ i ∈ vs1, i ∈ own.map (·.2)) (hv2 : ∀ i ∈ vs2, i ∈ vs1)
    (hg : Blk X scope fun Y => PG Y t0 g) (it1 : Blk X scope fun Y => PI Y t1 i1 wi1) (hg1 : Blk X scope fun Y => PG Y t1 g1) (it2 : Blk X scope fun Y => PI Y t2 i2 wi2) (hg2 : Blk X scope fun Y => PG Y t2 g2) (el : Blk X scope fun Y => PE Y elt te)
    (f0 : ∀ x, foldedSetIterable i0 X.env x = pure x := by intro _; rfl) (fs1 : ∀ env x, foldedSetIterable i1 env x = pure x := by intro _ _; rfl) (fs2 : ∀ env x, foldedSetIterable i2 env x = pure x := by intro _ _; rfl) :
    PE X (C3 elt t0 i0 t1 i1 t2 i2 scope pos) (tSc3 X.w wi g wi1 g1 wi2 g2 te (own.map (·.2)) vs1 vs2) := by
  refine ⟨fun pins s σ H Q I h => ?_⟩
  unfold C3
  rw [PpSet.eval_SetComp]
  refine sc3_core hc nd I it0 ok hv1 hv2 hg it1 hg1 it2 hg2 el f0 fs1 fs2 h fun D C s' m H' I' q hn fr => ⟨m, hn, fun h'' sb => ?_⟩
  obtain ⟨p0, p1, p2, p3, p4, p5⟩ := fr
  have I2 := I'.turned (t' := s'.toks) (fun b o hb e => (sb.2 b hb).trans e) p0 p1 p3 p4 p5
  exact ⟨.ref D, H', I2, rfl, q⟩
end
theorem lp_tup {K : PySem.W.Frag} {a : Addr} {xs : List V} {g : TG} {vs : List Nat} {σ : L2.St} {H1 : Hp} {body : Bd} {done : Hp → Prop} (Pv : Nat → Hp → Prop) (h0 : Pv 0 H1) (hl : ∀ i H, i ≤ xs.length → Pv i H → SqT K H a xs)
    (hs : ∀ i x H, xs[i]? = some x → Pv i H → g x (wipe σ vs) H fun σ2 H2 => wipe σ2 vs = wipe σ vs ∧ body σ2 H2 (Pv (i + 1))) (hd : ∀ H, Pv xs.length H → done H) : Lp (Itt K a) g vs σ H1 body done := by
  refine ⟨fun i m H => m = xs.length - i ∧ i ≤ xs.length ∧ Pv i H, ⟨_, rfl, Nat.zero_le _, h0⟩, fun i m H ⟨em, le, p⟩ => ?_⟩
  subst em
  have sq := hl i H le p
  rcases Nat.lt_or_ge i xs.length with lt | ge
  · refine .inr ⟨⟨xs, xs[i], sq, List.getElem?_eq_getElem lt⟩, Pv (i + 1), fun H' p' => ⟨_, by omega, rfl, lt, p'⟩, fun x H' y => ?_⟩
    obtain ⟨rfl, y⟩ := y
    exact hs i x _ (y xs sq) p
  · obtain rfl := Nat.le_antisymm le ge
    exact .inl ⟨⟨xs, sq, Nat.le_refl _⟩, hd H p⟩
theorem lp_list {K : PySem.W.Frag} {a : Addr} {xs : List V} {g : TG} {vs : List Nat} {σ : L2.St} {H1 : Hp} {body : Bd} {done : Hp → Prop} (Pv : Nat → Hp → Prop) (h0 : Pv 0 H1) (hl : ∀ i H, i ≤ xs.length → Pv i H → SqL K H a xs)
    (hs : ∀ i x H, xs[i]? = some x → Pv i H → g x (wipe σ vs) H fun σ2 H2 => wipe σ2 vs = wipe σ vs ∧ body σ2 H2 (Pv (i + 1))) (hd : ∀ H, Pv xs.length H → done H) : Lp (Itl K a) g vs σ H1 body done := by
  refine ⟨fun i m H => m = xs.length - i ∧ i ≤ xs.length ∧ Pv i H, ⟨_, rfl, Nat.zero_le _, h0⟩, fun i m H ⟨em, le, p⟩ => ?_⟩
  subst em
  have sq := hl i H le p
  rcases Nat.lt_or_ge i xs.length with lt | ge
  · refine .inr ⟨⟨xs, xs[i], sq, List.getElem?_eq_getElem lt⟩, Pv (i + 1), fun H' p' => ⟨_, by omega, rfl, lt, p'⟩, fun x H' y => ?_⟩
    obtain ⟨rfl, y⟩ := y
    exact hs i x _ (y xs sq) p
  · obtain rfl := Nat.le_antisymm le ge
    exact .inl ⟨⟨xs, sq, Nat.le_refl _⟩, hd H p⟩
end He

namespace He
open PySem PySem.Spec PyProof.Rows L2
section
variable {P : Program} {w : World} {K : PySem.W.Frag} {mg : Str → Option Value} {base : Heap}

/-- the class Will with its names -/
structure TxtN (K : PySem.W.Frag) (mg : Str → Option Value) where
  h : TxtH K mg
  nP : Addr
  nF : Addr
  nD : FuncData
  nFn : Fun K "names" "Will.names" sDWillNames nF nD
  nB : Binds K nD ["self"] []
  nM : PropOf K h.w.t.cWill "names" nP nF
/-! ### all names, each once -/
def addG (xs g : List Str) : List Str := g.foldl putS xs
def addGs (xs : List Str) (gs : List (List Str)) : List Str := gs.foldl addG xs
def addShs (xs : List Str) (shs : List Sh) : List Str := shs.foldl (fun xs s => addGs xs (s.2.map sortG)) xs
def namesM (shs : List Sh) : List Str := addShs [] shs
theorem putS_mem {xs : List Str} {x n : Str} : n ∈ putS xs x ↔ n ∈ xs ∨ n = x := by
  unfold putS
  split
  · rename_i h
    exact ⟨.inl, fun z => z.elim id fun e => e ▸ h⟩
  · rw [List.mem_append, List.mem_singleton]
theorem putS_nd {xs : List Str} {x : Str} (h : xs.Nodup) : (putS xs x).Nodup := by
  unfold putS
  split
  · exact h
  · rename_i k
    exact List.nodup_append.mpr ⟨h, by simp, fun a ha b hb e => k (by rw [← List.mem_singleton.mp hb, ← e]; exact ha)⟩
theorem addG_mem {n : Str} : ∀ {g xs : List Str}, n ∈ addG xs g ↔ n ∈ xs ∨ n ∈ g
  | [], xs => by simp [addG]
  | x :: g, xs => by
    show n ∈ addG (putS xs x) g ↔ _
    rw [addG_mem, putS_mem, List.mem_cons, or_assoc]
theorem addG_nd : ∀ {g xs : List Str}, xs.Nodup → (addG xs g).Nodup
  | [], xs, h => h
  | x :: g, xs, h => addG_nd (g := g) (putS_nd h)
theorem addGs_mem {n : Str} : ∀ {gs : List (List Str)} {xs : List Str}, n ∈ addGs xs gs ↔ n ∈ xs ∨ ∃ g ∈ gs, n ∈ g
  | [], xs => by simp [addGs]
  | g :: gs, xs => by
    show n ∈ addGs (addG xs g) gs ↔ _
    rw [addGs_mem, addG_mem, or_assoc]
    exact ⟨fun h => h.imp id fun h => h.elim (fun z => ⟨g, List.mem_cons_self, z⟩) fun ⟨k, hk, z⟩ => ⟨k, List.mem_cons_of_mem _ hk, z⟩, fun h => h.imp id fun ⟨k, hk, z⟩ => (List.mem_cons.mp hk).elim (fun e => .inl (e ▸ z)) fun hk => .inr ⟨k, hk, z⟩⟩
theorem addGs_nd : ∀ {gs : List (List Str)} {xs : List Str}, xs.Nodup → (addGs xs gs).Nodup
  | [], xs, h => h
  | g :: gs, xs, h => addGs_nd (gs := gs) (addG_nd h)
theorem addShs_mem {n : Str} : ∀ {shs : List Sh} {xs : List Str}, n ∈ addShs xs shs ↔ n ∈ xs ∨ ∃ s ∈ shs, ∃ g ∈ s.2, n ∈ g
  | [], xs => by simp [addShs]
  | s :: shs, xs => by
    show n ∈ addShs (addGs xs (s.2.map sortG)) shs ↔ _
    rw [addShs_mem, addGs_mem, or_assoc]
    have e : (∃ g ∈ s.2.map sortG, n ∈ g) ↔ ∃ g ∈ s.2, n ∈ g := ⟨fun ⟨g, hg, z⟩ => by
      obtain ⟨g0, h0, rfl⟩ := List.mem_map.mp hg
      exact ⟨g0, h0, (sortG_perm g0).mem_iff.mp z⟩, fun ⟨g, hg, z⟩ => ⟨_, List.mem_map.mpr ⟨g, hg, rfl⟩, (sortG_perm g).mem_iff.mpr z⟩⟩
    rw [e]
    exact ⟨fun h => h.imp id fun h => h.elim (fun z => ⟨s, List.mem_cons_self, z⟩) fun ⟨k, hk, z⟩ => ⟨k, List.mem_cons_of_mem _ hk, z⟩, fun h => h.imp id fun ⟨k, hk, z⟩ => (List.mem_cons.mp hk).elim (fun e => .inl (e ▸ z)) fun hk => .inr ⟨k, hk, z⟩⟩
theorem addShs_nd : ∀ {shs : List Sh} {xs : List Str}, xs.Nodup → (addShs xs shs).Nodup
  | [], xs, h => h
  | s :: shs, xs, h => addShs_nd (shs := shs) (addGs_nd h)
theorem namesM_mem {shs : List Sh} {n : Str} : n ∈ namesM shs ↔ ∃ s ∈ shs, ∃ g ∈ s.2, n ∈ g := by
  unfold namesM
  rw [addShs_mem]
  simp
theorem namesM_nd (shs : List Sh) : (namesM shs).Nodup := addShs_nd List.nodup_nil
theorem short_in {xs ns : List Str} (nd : xs.Nodup) (h : ∀ x ∈ xs, x ∈ ns) : xs.length ≤ ns.length := by
  induction xs generalizing ns with
  | nil => exact Nat.zero_le _
  | cons x xs ih =>
    have n2 := List.nodup_cons.mp nd
    have hx := h x List.mem_cons_self
    have r := ih (ns := ns.erase x) n2.2 fun y hy => (List.mem_erase_of_ne (fun e => n2.1 (by rw [← e]; exact hy))).mpr (h y (List.mem_cons_of_mem _ hy))
    rw [List.length_erase_of_mem hx] at r
    have := List.length_pos_of_mem hx
    rw [List.length_cons]
    omega
def spWNames (K : PySem.W.Frag) (C : Addr) : Sp := fun vs H Q _ => ∃ (x : Addr) (shs : List Sh) (ns : List Str), vs = [.ref x] ∧ WillAt K C H x shs ∧ ns.length ≤ 60 ∧ (∀ s ∈ shs, ∀ g ∈ s.2, ∀ n ∈ g, n ∈ ns) ∧
  ∀ r H', Same H H' → H r = none → SqT K H' r ((sortG (namesM shs)).map V.str) → Q (.ref r) H'
theorem ok_wnames (W : TxtN K mg) : FnOk P w K mg base CX0 1 W.nF W.nD ["self"] (spWNames K W.h.w.t.cWill) := by
  refine W.nFn.ok scDWillNames (fun vs H Q E h => ?_) (fun cdv A outer s H vs Q E hr h => ?_)
  · obtain ⟨x, shs, ns, rfl, _⟩ := h
    rfl
  · obtain ⟨x, shs, ns, rfl, h1, h60, hin, q⟩ := h
    refine ⟨_, (pss_one (ps_ret (pe_callTy cr_tup (by rfl) W.h.w.t.z_tuple (show bootBuiltins "tuple" = some (.type "tuple") by decide +kernel) (pa_cons (pe_callB (cr_sortedX rfl) (by rfl) W.h.w.t.z_sorted (show bootBuiltins "sorted" = some (.builtin "sorted") by decide +kernel) (pa_cons
      (pe_sc3 (own := [("_", 1), ("groups", 2), ("group", 3), ("name", 4)]) (vs1 := [3, 4]) (vs2 := [4]) (g := (gTup K 2 (gCons (gName 1) (gCons (gName 2) gNil)))) (g1 := gName 3) (g2 := gName 4) (te := tVar 4) rfl scDWillNames.nd (pi_seq (pe_fld (pv 0) rfl)) (blkOk_by (N := ["self", "_", "groups", "group", "name"]) (sc := defScope sDWillNames) (by decide +kernel)) (by decide) (by decide)
        (fun _ _ _ _ _ => (pg_tup (n := 2) rfl (pgs_cons (pg_name (i := 1) scDWillNames.nd rfl (.inl rfl)) (pgs_cons (pg_name (i := 2) scDWillNames.nd rfl (.inl rfl)) pgs_nil))))
        (fun _ _ _ _ _ => (show PI _ _ _ (iSeq K _) from pi_seq (pv 2))) (fun _ _ _ _ _ => (pg_name (i := 3) scDWillNames.nd rfl (.inl rfl)))
        (fun _ _ _ _ _ => (show PI _ _ _ (iSeq K _) from pi_seq (pv 3))) (fun _ _ _ _ _ => (pg_name (i := 4) scDWillNames.nd rfl (.inl rfl))) (fun _ _ _ _ _ => (pv 4))) pa_nil)) pa_nil)))), ?_⟩
    obtain ⟨dx, t, e1, d1⟩ := h1
    obtain ⟨xs, hs, ha⟩ : ∃ xs, SqT K H t xs ∧ DpAll K H xs (shs.map nSh) := by
      cases d1 with
      | tup h1 h2 => exact ⟨_, h1, h2⟩
    have hxl : xs.length = shs.length := by rw [dpA_len ha, List.length_map]
    simp only [and_assoc, tSeq, tAsg, tOp, tUn, rI, rI0, rU, tVar, tC, gName, L2.start, tIfS, tTest, tB, tCB, tCons, tNil, tIf, tRet, tRetN, tLst, tTup, tNext, tDrop, tNot, tNotV, tAnd, tOr, tAndV, tOrV, tPar, tAug, ipI, rEq, rNe, gSub, rSetL, rIxL, rIxT, tBM, tBM0, rAppend, rPopAt, gTup, gCons, gNil, tCall, tSl, tPart, tNoPart, rSlL, rCat, rEqD, rNeD, rIn, scal, List.map_cons, List.map_nil, List.length_cons, List.length_nil, List.length_map, List.cons_append, List.nil_append, List.append_nil, List.replicate, List.getElem?_cons_zero, List.getElem?_cons_succ, List.set_cons_zero, List.set_cons_succ, Option.some.injEq, exists_eq_left', exists_eq_left, exists_eq_right, exists_and_left, exists_and_right, V.int.injEq, V.ref.injEq, V.str.injEq, V.bl.injEq, reduceCtorEq, false_and, and_false, exists_false, or_false, false_or, true_and, and_true, List.cons.injEq, decide_eq_true_eq, cxOf, if_true, if_false, Bool.false_eq_true, Nat.reduceAdd, Nat.reduceSub, Nat.zero_add, Nat.add_sub_cancel_left, Nat.add_sub_cancel, Nat.sub_self, sFld, tFld, tFor_eq, tLc_eq, iRng1, iRng2, iList, iTup, iEnum, iEnumQ, rIsi, rIsiT, iSeq, wipe, tDNewK, tDGet2, sDPut, rSum, tSc3]
    refine ⟨_, _, _, e1, W.h.w.cl, W.h.w.nS, _, rfl, t, rfl, _, _, .inr ⟨rfl, hs⟩, fun D nD => ?_⟩
    have keep : ∀ {H7 : Hp} {o : HO}, Same H H7 → Same H (upd H7 D o) := fun s b o e => by rw [upd_ne (ne_of_none e nD)]; exact s b o e
    have take1 : ∀ {α β : Type} (f : β → α → β) (b : β) (l : List α) (i : Nat) (y : α), l[i]? = some y → (l.take (i + 1)).foldl f b = f ((l.take i).foldl f b) y := fun f b l i y e => by
      rw [List.take_add_one, e, List.foldl_append]
      rfl
    refine lp_tup (xs := xs) (fun i H4 => ∃ X : List Str, Same H H4 ∧ H4 D = some (SetX w D X) ∧ X = addShs [] (shs.take i) ∧ X.Nodup ∧ ∀ n ∈ X, n ∈ ns) ⟨[], keep (Same.refl _), upd_same, rfl, List.nodup_nil, fun _ h => nomatch h⟩ (fun i H4 _ ⟨_, s, _⟩ => Same.seqT s hs) ?_ ?_
    · rintro i x2 H4 hx ⟨X, s4, eX, mX, nX, iX⟩
      obtain ⟨dd, ed, hx2⟩ := dpA_get ha hx
      rw [List.getElem?_map] at ed
      obtain ⟨g, eg, rfl⟩ := Option.map_eq_some_iff.mp ed
      obtain ⟨b, v1, v2, rfl, hb, a1, a2⟩ := dp_tup2 hx2
      have gm := List.mem_of_getElem? eg
      have il := (List.getElem?_eq_some_iff.mp eg).1
      cases a2 with
      | @tup ga gxs _ hgs hga =>
      simp only [and_assoc, tSeq, tAsg, tOp, tUn, rI, rI0, rU, tVar, tC, gName, L2.start, tIfS, tTest, tB, tCB, tCons, tNil, tIf, tRet, tRetN, tLst, tTup, tNext, tDrop, tNot, tNotV, tAnd, tOr, tAndV, tOrV, tPar, tAug, ipI, rEq, rNe, gSub, rSetL, rIxL, rIxT, tBM, tBM0, rAppend, rPopAt, gTup, gCons, gNil, tCall, tSl, tPart, tNoPart, rSlL, rCat, rEqD, rNeD, rIn, scal, List.map_cons, List.map_nil, List.length_cons, List.length_nil, List.length_map, List.cons_append, List.nil_append, List.append_nil, List.replicate, List.getElem?_cons_zero, List.getElem?_cons_succ, List.set_cons_zero, List.set_cons_succ, Option.some.injEq, exists_eq_left', exists_eq_left, exists_eq_right, exists_and_left, exists_and_right, V.int.injEq, V.ref.injEq, V.str.injEq, V.bl.injEq, reduceCtorEq, false_and, and_false, exists_false, or_false, false_or, true_and, and_true, List.cons.injEq, decide_eq_true_eq, cxOf, if_true, if_false, Bool.false_eq_true, Nat.reduceAdd, Nat.reduceSub, Nat.zero_add, Nat.add_sub_cancel_left, Nat.add_sub_cancel, Nat.sub_self, sFld, tFld, tFor_eq, tLc_eq, iRng1, iRng2, iList, iTup, iEnum, iEnumQ, rIsi, rIsiT, iSeq, wipe, tDNewK, tDGet2, sDPut, rSum, tSc3]
      refine ⟨_, Same.seqT s4 hb, rfl, _, _, rfl, _, _, rfl, rfl, ga, rfl, gxs, _, .inr ⟨rfl, Same.seqT s4 hgs⟩, ?_⟩
      refine lp_tup (xs := gxs) (fun j H5 => ∃ Y : List Str, Same H H5 ∧ H5 D = some (SetX w D Y) ∧ Y = addGs X ((g.2.map sortG).take j) ∧ Y.Nodup ∧ ∀ n ∈ Y, n ∈ ns) ⟨X, s4, eX, rfl, nX, iX⟩ (fun j H5 _ ⟨_, s, _⟩ => Same.seqT s hgs) ?_ ?_
      · rintro j y2 H5 hy ⟨Y, s5, eY, mY, nY, iY⟩
        obtain ⟨dd, ed, hy2⟩ := dpA_get hga hy
        rw [List.getElem?_map] at ed
        obtain ⟨g0, eg0, rfl⟩ := Option.map_eq_some_iff.mp ed
        have g0m := List.mem_of_getElem? eg0
        have jl := (List.getElem?_eq_some_iff.mp eg0).1
        have gg : (g.2.map sortG)[j]? = some (sortG g0) := by rw [List.getElem?_map, eg0]; rfl
        cases hy2 with
        | @tup ka kxs _ hks hka =>
        simp only [and_assoc, tSeq, tAsg, tOp, tUn, rI, rI0, rU, tVar, tC, gName, L2.start, tIfS, tTest, tB, tCB, tCons, tNil, tIf, tRet, tRetN, tLst, tTup, tNext, tDrop, tNot, tNotV, tAnd, tOr, tAndV, tOrV, tPar, tAug, ipI, rEq, rNe, gSub, rSetL, rIxL, rIxT, tBM, tBM0, rAppend, rPopAt, gTup, gCons, gNil, tCall, tSl, tPart, tNoPart, rSlL, rCat, rEqD, rNeD, rIn, scal, List.map_cons, List.map_nil, List.length_cons, List.length_nil, List.length_map, List.cons_append, List.nil_append, List.append_nil, List.replicate, List.getElem?_cons_zero, List.getElem?_cons_succ, List.set_cons_zero, List.set_cons_succ, Option.some.injEq, exists_eq_left', exists_eq_left, exists_eq_right, exists_and_left, exists_and_right, V.int.injEq, V.ref.injEq, V.str.injEq, V.bl.injEq, reduceCtorEq, false_and, and_false, exists_false, or_false, false_or, true_and, and_true, List.cons.injEq, decide_eq_true_eq, cxOf, if_true, if_false, Bool.false_eq_true, Nat.reduceAdd, Nat.reduceSub, Nat.zero_add, Nat.add_sub_cancel_left, Nat.add_sub_cancel, Nat.sub_self, sFld, tFld, tFor_eq, tLc_eq, iRng1, iRng2, iList, iTup, iEnum, iEnumQ, rIsi, rIsiT, iSeq, wipe, tDNewK, tDGet2, sDPut, rSum, tSc3]
        refine ⟨kxs, _, .inr ⟨rfl, Same.seqT s5 hks⟩, ?_⟩
        refine lp_tup (xs := kxs) (fun k H6 => ∃ Z : List Str, Same H H6 ∧ H6 D = some (SetX w D Z) ∧ Z = addG Y ((sortG g0).take k) ∧ Z.Nodup ∧ ∀ n ∈ Z, n ∈ ns) ⟨Y, s5, eY, rfl, nY, iY⟩ (fun k H6 _ ⟨_, s, _⟩ => Same.seqT s hks) ?_ ?_
        · rintro k z2 H6 hz ⟨Z, s6, eZ, mZ, nZ, iZ⟩
          obtain ⟨dd, ed, hz2⟩ := dpA_get hka hz
          rw [List.getElem?_map] at ed
          obtain ⟨n, en, rfl⟩ := Option.map_eq_some_iff.mp ed
          have nm := (sortG_perm g0).mem_iff.mp (List.mem_of_getElem? en)
          cases hz2
          simp only [and_assoc, tSeq, tAsg, tOp, tUn, rI, rI0, rU, tVar, tC, gName, L2.start, tIfS, tTest, tB, tCB, tCons, tNil, tIf, tRet, tRetN, tLst, tTup, tNext, tDrop, tNot, tNotV, tAnd, tOr, tAndV, tOrV, tPar, tAug, ipI, rEq, rNe, gSub, rSetL, rIxL, rIxT, tBM, tBM0, rAppend, rPopAt, gTup, gCons, gNil, tCall, tSl, tPart, tNoPart, rSlL, rCat, rEqD, rNeD, rIn, scal, List.map_cons, List.map_nil, List.length_cons, List.length_nil, List.length_map, List.cons_append, List.nil_append, List.append_nil, List.replicate, List.getElem?_cons_zero, List.getElem?_cons_succ, List.set_cons_zero, List.set_cons_succ, Option.some.injEq, exists_eq_left', exists_eq_left, exists_eq_right, exists_and_left, exists_and_right, V.int.injEq, V.ref.injEq, V.str.injEq, V.bl.injEq, reduceCtorEq, false_and, and_false, exists_false, or_false, false_or, true_and, and_true, List.cons.injEq, decide_eq_true_eq, cxOf, if_true, if_false, Bool.false_eq_true, Nat.reduceAdd, Nat.reduceSub, Nat.zero_add, Nat.add_sub_cancel_left, Nat.add_sub_cancel, Nat.sub_self, sFld, tFld, tFor_eq, tLc_eq, iRng1, iRng2, iList, iTup, iEnum, iEnumQ, rIsi, rIsiT, iSeq, wipe, tDNewK, tDGet2, sDPut, rSum, tSc3]
          have fewZ := short_in nZ iZ
          have big : 62 < scanBound := by decide
          refine ⟨Z, eZ, by omega, keep s6, putS Z n, upd_same, ?_, putS_nd nZ, fun m hm => (putS_mem.mp hm).elim (iZ m) fun e => e ▸ hin g gm g0 g0m n nm⟩
          unfold addG
          rw [take1 _ _ _ _ _ en, mZ]
          rfl
        · rintro H6 ⟨Z, s6, eZ, mZ, nZ, iZ⟩
          refine ⟨s6, Z, eZ, ?_, nZ, iZ⟩
          unfold addGs
          rw [take1 _ _ _ _ _ gg, mZ, mY]
          have kl : kxs.length = (sortG g0).length := by rw [dpA_len hka, List.length_map]
          rw [kl, List.take_of_length_le (Nat.le_refl _)]
          rfl
      · rintro H5 ⟨Y, s5, eY, mY, nY, iY⟩
        refine ⟨s5, Y, eY, ?_, nY, iY⟩
        unfold addShs
        rw [take1 _ _ _ _ _ eg, mY, mX]
        have kl : gxs.length = (g.2.map sortG).length := by rw [dpA_len hga, List.length_map, List.length_map]
        rw [kl, List.take_of_length_le (Nat.le_refl _)]
        rfl
    · rintro H4 ⟨X, s4, eX, mX, nX, iX⟩
      have fewX := short_in nX iX
      have eN : X = namesM shs := by rw [mX, hxl, List.take_of_length_le (Nat.le_refl _)]; rfl
      refine ⟨D, X, rfl, eX, by omega, fun p np => ⟨p, _, rfl, .inl ⟨sqL_of upd_same, fun l nl => ?_⟩⟩⟩
      have sp := same_upd (o := .lst ((sortG X).map V.str)) np
      refine q l _ ((s4.trans sp).trans (same_upd nl)) ((s4.trans sp).free nl) ?_
      rw [← eN]
      exact sqT_of upd_same

end
end He

namespace He
open PySem PySem.Spec PyProof.Rows L2
/-! ### fractions over one lower number -/
abbrev tkS (ns : List Str) (s : Sh) : List Str := takersM (s.2.map sortG) ns
def numS (ns : List Str) (k : Str) (s : Sh) : Int := if k ∈ tkS ns s then s.1 * (6 / ((tkS ns s).length : Int)) else 0
def numA (ns : List Str) (shs : List Sh) (k : Str) : Int := (shs.map (numS ns k)).sum
structure Rep (m : Mf) (ks : Str → Prop) (num : Str → Int) (q : Int) : Prop where
  nd : (keysL m).Nodup
  key : ∀ k, k ∈ keysL m ↔ ks k
  val : ∀ k, (getL m k).getD zeroF = lowM (num k) q
theorem plusM_comm (p q : Fq) : plusM p q = plusM q p := by
  unfold plusM
  rw [Int.add_comm, Int.mul_comm p.2 q.2]
theorem plus_rep {a b p q q' c : Int} (hq : 0 < q) (hp : 0 < p) (e : q = p * c) : plusM (lowM a q) (lowM b p) = lowM (a + b * c) q := by
  rw [plusM_low hp, plusM_comm, plusM_low hq]
  unfold plusM
  show lowM (b * q + a * p) (p * q) = _
  have f : b * q + a * p = p * (a + b * c) := by rw [e, Int.mul_add, Int.add_comm, Int.mul_comm a p, Int.mul_left_comm]
  rw [f, lowM_mul hp]
theorem low_zero {q : Int} (h : 0 < q) : lowM 0 q = zeroF := by
  have e := lowM_mul (c := q) (a := 0) (b := 1) h
  rw [Int.mul_zero, Int.mul_one] at e
  rw [e]
  decide
theorem tk_pos (ns : List Str) (s : Sh) : 1 ≤ (tkS ns s).length := by
  unfold tkS takersM
  cases e : (s.2.map sortG).find? (hitB ns) with
  | none => exact Nat.le_refl _
  | some g =>
    have e0 := List.find?_some e
    obtain ⟨x, hx, hn⟩ := List.any_eq_true.mp e0
    exact List.length_pos_of_mem (List.mem_filter.mpr ⟨hx, hn⟩)
theorem tk_nd {ns : List Str} {s : Sh} (h : ∀ g ∈ s.2, g.Nodup) : (tkS ns s).Nodup := takers_nodup fun g hg => by
  obtain ⟨g0, h0, rfl⟩ := List.mem_map.mp hg
  exact (sortG_perm g0).nodup_iff.mpr (h g0 h0)
theorem tk_le {ns : List Str} {s : Sh} (h : ∀ g ∈ s.2, g.length ≤ 3) : (tkS ns s).length ≤ 3 := (takers_len (b := 3) (fun g hg => by
  obtain ⟨g0, h0, rfl⟩ := List.mem_map.mp hg
  rw [(sortG_perm g0).length_eq]
  exact h g0 h0) (by decide)).2
theorem tk_mem {ns : List Str} {s : Sh} {k : Str} (h : k ∈ tkS ns s) : k = "crown" ∨ (k ∈ ns ∧ ∃ g ∈ s.2, k ∈ g) := by
  unfold tkS takersM at h
  cases e : (s.2.map sortG).find? (hitB ns) with
  | none =>
    rw [e] at h
    exact .inl (List.mem_singleton.mp h)
  | some g =>
    rw [e] at h
    obtain ⟨h1, h2⟩ := List.mem_filter.mp h
    obtain ⟨g0, h0, rfl⟩ := List.mem_map.mp (List.mem_of_find?_eq_some e)
    exact .inr ⟨of_decide_eq_true h2, g0, h0, (sortG_perm g0).mem_iff.mp h1⟩
theorem six {k : Nat} (h : 1 ≤ k) (h3 : k ≤ 3) : (6 : Int) = k * (6 / (k : Int)) := by
  have : k = 1 ∨ k = 2 ∨ k = 3 := by omega
  rcases this with rfl | rfl | rfl <;> decide
/-- a share that may be told -/
structure S3 (s : Sh) : Prop where
  w : 1 ≤ s.1
  nd : ∀ g ∈ s.2, g.Nodup
  l : ∀ g ∈ s.2, g.length ≤ 3
theorem rep_step {ns : List Str} {s : Sh} {m : Mf} {ks : Str → Prop} {num : Str → Int} {T : Int} (hs : S3 s) (tp : 0 < T) (R : Rep m ks num (6 * T)) :
    Rep (stepP T ns m s) (fun k => ks k ∨ k ∈ tkS ns s) (fun k => num k + numS ns k s) (6 * T) := by
  have nd := tk_nd (ns := ns) hs.nd
  have l1 := tk_pos ns s
  have l3 := tk_le (ns := ns) hs.l
  refine ⟨addAll_nodup _ _ _ R.nd, fun k => ?_, fun k => ?_⟩
  · show k ∈ keysL (addAll m (tkS ns s) _) ↔ _
    rw [addAll_keys, R.key]
    exact Or.comm
  · show (getL (addAll m (tkS ns s) (lowM s.1 (T * (tkS ns s).length))) k).getD zeroF = _
    rw [addAll_get _ _ _ _ nd]
    unfold numS
    by_cases h : k ∈ tkS ns s
    · rw [if_pos h, if_pos h, Option.getD_some, R.val k]
      refine plus_rep (q' := 0) (by omega) (Int.mul_pos tp (by omega)) ?_
      rw [Int.mul_assoc, ← six l1 l3, Int.mul_comm]
    · rw [if_neg h, if_neg h, R.val k, Int.add_zero]
theorem rep_all {ns : List Str} {T : Int} (tp : 0 < T) : ∀ {l : List Sh} {m : Mf} {ks : Str → Prop} {num : Str → Int}, (∀ s ∈ l, S3 s) → Rep m ks num (6 * T) →
    Rep (l.foldl (stepP T ns) m) (fun k => ks k ∨ ∃ s ∈ l, k ∈ tkS ns s) (fun k => num k + numA ns l k) (6 * T)
  | [], m, ks, num, _, R => ⟨R.nd, fun k => by rw [List.foldl_nil, R.key]; simp, fun k => by rw [List.foldl_nil, R.val]; show _ = lowM (num k + 0) _; rw [Int.add_zero]⟩
  | s :: l, m, ks, num, hs, R => by
    have r := rep_all (ns := ns) tp (l := l) (fun t ht => hs t (List.mem_cons_of_mem _ ht)) (rep_step (ns := ns) (hs s List.mem_cons_self) tp R)
    refine ⟨r.nd, fun k => ?_, fun k => ?_⟩
    · rw [List.foldl_cons, r.key]
      simp only [List.mem_cons, exists_eq_or_imp, or_assoc]
    · rw [List.foldl_cons, r.val]
      show lowM (num k + numS ns k s + numA ns l k) _ = lowM (num k + (numS ns k s + numA ns l k)) _
      rw [Int.add_assoc]
theorem rep_heirs {shs : List Sh} (h : ∀ s ∈ shs, S3 s) (h0 : shs ≠ []) (ns : List Str) : Rep (heirsM shs ns) (fun k => ∃ s ∈ shs, k ∈ tkS ns s) (numA ns shs) (6 * totalW shs) := by
  have tp := total_pos (fun s hs => (h s hs).w) h0
  have R0 : Rep [] (fun _ => False) (fun _ => 0) (6 * totalW shs) := ⟨List.nodup_nil, fun k => by simp [keysL], fun k => by rw [low_zero (by omega)]; rfl⟩
  have r := rep_all (ns := ns) tp h R0
  refine ⟨r.nd, fun k => ?_, fun k => ?_⟩
  · show k ∈ keysL (shs.foldl _ _) ↔ _
    rw [r.key]
    simp
  · show (getL (shs.foldl _ _) k).getD zeroF = _
    rw [r.val, Int.zero_add]
theorem Rep.alike {m m' : Mf} {ks ks' : Str → Prop} {num num' : Str → Int} {q q' c : Int} (R : Rep m ks num q) (R' : Rep m' ks' num' q') (hk : ∀ k, ks' k ↔ ks k) (hc : 0 < c) (hn : ∀ k, num' k = c * num k) (hq : q' = c * q) : Alike m' m := by
  refine ⟨R'.nd, R.nd, fun k => ?_⟩
  have v : (getL m' k).getD zeroF = (getL m k).getD zeroF := by rw [R'.val, R.val, hn, hq, lowM_mul hc]
  by_cases h : k ∈ keysL m
  · obtain ⟨a, ea⟩ := getL_in h
    obtain ⟨b, eb⟩ := getL_in ((R'.key k).mpr ((hk k).mpr ((R.key k).mp h)))
    rw [ea, eb] at v ⊢
    exact congrArg some v
  · rw [getL_none h, getL_none fun z => h ((R.key k).mpr ((hk k).mp ((R'.key k).mp z)))]
/-- all weights twice -/
def dbl (shs : List Sh) : List Sh := shs.map fun s => (2 * s.1, s.2)
theorem numS_two (ns : List Str) (k : Str) (s : Sh) : numS ns k (2 * s.1, s.2) = 2 * numS ns k s := by
  unfold numS
  show (if k ∈ tkS ns s then 2 * s.1 * _ else 0) = 2 * if k ∈ tkS ns s then _ else 0
  split
  · rw [Int.mul_assoc]
  · rfl
theorem numA_dbl (ns : List Str) (k : Str) : ∀ shs : List Sh, numA ns (dbl shs) k = 2 * numA ns shs k
  | [] => rfl
  | s :: shs => by
    show numS ns k (2 * s.1, s.2) + numA ns (dbl shs) k = 2 * (numS ns k s + numA ns shs k)
    rw [numS_two, numA_dbl ns k shs, Int.mul_add]
theorem total_dbl : ∀ shs : List Sh, totalW (dbl shs) = 2 * totalW shs
  | [] => rfl
  | s :: shs => by
    show 2 * s.1 + totalW (dbl shs) = 2 * (s.1 + totalW shs)
    rw [total_dbl shs, Int.mul_add]
theorem dbl_s3 {shs : List Sh} (h : ∀ s ∈ shs, S3 s) : ∀ s ∈ dbl shs, S3 s := fun s hs => by
  obtain ⟨t, ht, rfl⟩ := List.mem_map.mp hs
  exact ⟨by have := (h t ht).w; show 1 ≤ 2 * t.1; omega, (h t ht).nd, (h t ht).l⟩
theorem dbl_key {ns : List Str} {k : Str} {shs : List Sh} : (∃ s ∈ dbl shs, k ∈ tkS ns s) ↔ ∃ s ∈ shs, k ∈ tkS ns s :=
  ⟨fun ⟨s, hs, h⟩ => by obtain ⟨t, ht, rfl⟩ := List.mem_map.mp hs; exact ⟨t, ht, h⟩, fun ⟨s, hs, h⟩ => ⟨_, List.mem_map.mpr ⟨s, hs, rfl⟩, h⟩⟩
theorem heirs_dbl {shs : List Sh} (h : ∀ s ∈ shs, S3 s) (h0 : shs ≠ []) (ns : List Str) : heirsD (dbl shs) ns = heirsD shs ns := by
  have h1 : dbl shs ≠ [] := fun z => h0 (List.map_eq_nil_iff.mp z)
  exact ((rep_heirs h h0 ns).alike (rep_heirs (dbl_s3 h) h1 ns) (fun k => dbl_key) (by decide : (0 : Int) < 2) (fun k => numA_dbl ns k shs) (by rw [total_dbl]; omega)).items
theorem numA_perm {ns : List Str} {k : Str} {l l' : List Sh} (p : l.Perm l') : numA ns l k = numA ns l' k := by
  induction p with
  | nil => rfl
  | cons s _ ih => exact congrArg (numS ns k s + ·) ih
  | swap s t l =>
    show numS ns k t + (numS ns k s + numA ns l k) = numS ns k s + (numS ns k t + numA ns l k)
    omega
  | trans _ _ i j => exact i.trans j
theorem total_perm {l l' : List Sh} (p : l.Perm l') : totalW l = totalW l' := by
  induction p with
  | nil => rfl
  | cons s _ ih => exact congrArg (s.1 + ·) ih
  | swap s t l =>
    show t.1 + (s.1 + totalW l) = s.1 + (t.1 + totalW l)
    omega
  | trans _ _ i j => exact i.trans j
theorem heirs_perm {shs shs' : List Sh} (h : ∀ s ∈ shs, S3 s) (h0 : shs ≠ []) (p : shs'.Perm shs) (ns : List Str) : heirsD shs' ns = heirsD shs ns := by
  have h1 : shs' ≠ [] := fun z => h0 (by rw [z] at p; exact p.nil_eq.symm)
  refine ((rep_heirs h h0 ns).alike (rep_heirs (fun s hs => h s (p.mem_iff.mp hs)) h1 ns) (fun k => ⟨fun ⟨s, hs, z⟩ => ⟨s, p.mem_iff.mp hs, z⟩, fun ⟨s, hs, z⟩ => ⟨s, p.mem_iff.mpr hs, z⟩⟩) (by decide : (0 : Int) < 1) (fun k => ?_) ?_).items
  · rw [numA_perm p, Int.one_mul]
  · rw [total_perm p, Int.one_mul]
/-- the first share twice, the others of twice the weight -/
def halves : List Sh → List Sh
  | [] => []
  | s :: l => s :: s :: dbl l
theorem heirs_halves {shs : List Sh} (h : ∀ s ∈ shs, S3 s) (h0 : shs ≠ []) (ns : List Str) : heirsD (halves shs) ns = heirsD shs ns := by
  cases shs with
  | nil => exact absurd rfl h0
  | cons s l =>
    have hl : ∀ t ∈ l, S3 t := fun t ht => h t (List.mem_cons_of_mem _ ht)
    have hh : ∀ t ∈ halves (s :: l), S3 t := fun t ht => by
      rcases List.mem_cons.mp ht with rfl | ht
      · exact h _ List.mem_cons_self
      · rcases List.mem_cons.mp ht with rfl | ht
        · exact h _ List.mem_cons_self
        · exact dbl_s3 hl t ht
    refine ((rep_heirs h h0 ns).alike (rep_heirs hh (fun z => nomatch z) ns) (fun k => ?_) (by decide : (0 : Int) < 2) (fun k => ?_) ?_).items
    · constructor
      · rintro ⟨t, ht, z⟩
        rcases List.mem_cons.mp ht with rfl | ht
        · exact ⟨_, List.mem_cons_self, z⟩
        · rcases List.mem_cons.mp ht with rfl | ht
          · exact ⟨_, List.mem_cons_self, z⟩
          · obtain ⟨u, hu, z⟩ := dbl_key.mp ⟨t, ht, z⟩
            exact ⟨u, List.mem_cons_of_mem _ hu, z⟩
      · rintro ⟨t, ht, z⟩
        rcases List.mem_cons.mp ht with rfl | ht
        · exact ⟨_, List.mem_cons_self, z⟩
        · obtain ⟨u, hu, z⟩ := dbl_key.mpr ⟨t, ht, z⟩
          exact ⟨u, List.mem_cons_of_mem _ (List.mem_cons_of_mem _ hu), z⟩
    · show numS ns k s + (numS ns k s + numA ns (dbl l) k) = 2 * (numS ns k s + numA ns l k)
      rw [numA_dbl]
      omega
    · show 6 * (s.1 + (s.1 + totalW (dbl l))) = 2 * (6 * (s.1 + totalW l))
      rw [total_dbl]
      omega
/-! ### what all get comes to one -/
theorem sum_share {ns : List Str} {s : Sh} (hs : S3 s) {ks : List Str} (nd : ks.Nodup) (sub : ∀ n ∈ tkS ns s, n ∈ ks) : (ks.map fun k => numS ns k s).sum = 6 * s.1 := by
  have go : ∀ l : List Str, (l.map fun k => numS ns k s).sum = (l.filter fun k => decide (k ∈ tkS ns s)).length * (s.1 * (6 / ((tkS ns s).length : Int))) := by
    intro l
    induction l with
    | nil => show (0 : Int) = 0 * _; rw [Int.zero_mul]
    | cons k l ih =>
      rw [List.map_cons, List.sum_cons, ih]
      unfold numS
      by_cases h : k ∈ tkS ns s
      · rw [if_pos h, List.filter_cons_of_pos (by exact decide_eq_true h), List.length_cons, Int.natCast_add, Int.add_mul, Int.add_comm]
        show _ = _ + (1 : Int) * _
        rw [Int.one_mul]
      · rw [if_neg h, List.filter_cons_of_neg (by exact fun z => h (of_decide_eq_true z)), Int.zero_add]
  have p : (ks.filter fun k => decide (k ∈ tkS ns s)).Perm (tkS ns s) := (List.perm_ext_iff_of_nodup (nd.sublist List.filter_sublist) (tk_nd hs.nd)).mpr fun k => by
    rw [List.mem_filter, decide_eq_true_eq]
    exact ⟨fun z => z.2, fun z => ⟨sub k z, z⟩⟩
  rw [go, p.length_eq, Int.mul_left_comm, ← six (tk_pos ns s) (tk_le hs.l), Int.mul_comm]
theorem sum_all {ns : List Str} {ks : List Str} (nd : ks.Nodup) : ∀ {shs : List Sh}, (∀ s ∈ shs, S3 s) → (∀ s ∈ shs, ∀ n ∈ tkS ns s, n ∈ ks) → (ks.map (numA ns shs)).sum = 6 * totalW shs
  | [], _, _ => by
    show (ks.map fun _ => (0 : Int)).sum = 0
    have z : ∀ l : List Str, (l.map fun _ => (0 : Int)).sum = 0 := fun l => by
      induction l with
      | nil => rfl
      | cons _ _ ih => exact (Int.zero_add _).trans ih
    exact z ks
  | s :: shs, h, hk => by
    have e : ∀ l : List Str, (l.map (numA ns (s :: shs))).sum = (l.map fun k => numS ns k s).sum + (l.map (numA ns shs)).sum := by
      intro l
      induction l with
      | nil => rfl
      | cons k l ih =>
        rw [List.map_cons, List.sum_cons, ih, List.map_cons, List.sum_cons, List.map_cons, List.sum_cons]
        show numS ns k s + numA ns shs k + _ = _
        omega
    rw [e, sum_share (h s List.mem_cons_self) nd (hk s List.mem_cons_self), sum_all nd (fun t ht => h t (List.mem_cons_of_mem _ ht)) fun t ht => hk t (List.mem_cons_of_mem _ ht)]
    show _ = 6 * (s.1 + totalW shs)
    omega
theorem numA_nn {ns : List Str} {k : Str} : ∀ {shs : List Sh}, (∀ s ∈ shs, S3 s) → 0 ≤ numA ns shs k
  | [], _ => Int.le_refl _
  | s :: shs, h => by
    have a := numA_nn (k := k) (ns := ns) (shs := shs) fun t ht => h t (List.mem_cons_of_mem _ ht)
    have b : 0 ≤ numS ns k s := by
      unfold numS
      split
      · exact Int.mul_nonneg (by have := (h s List.mem_cons_self).w; omega) (Int.ediv_nonneg (by decide) (by omega))
      · exact Int.le_refl _
    show 0 ≤ numS ns k s + numA ns shs k
    omega
/-- what the names ahead get, added up -/
def upTo (ns : List Str) (shs : List Sh) (ks : List Str) : Int := (ks.map (numA ns shs)).sum
theorem upTo_bd {ns : List Str} {shs : List Sh} (h : ∀ s ∈ shs, S3 s) (ks : List Str) (i : Nat) : 0 ≤ upTo ns shs (ks.take i) ∧ upTo ns shs (ks.take i) ≤ upTo ns shs ks := by
  have nn : ∀ l : List Str, 0 ≤ upTo ns shs l := fun l => by
    induction l with
    | nil => exact Int.le_refl _
    | cons k l ih =>
      have := numA_nn (k := k) (ns := ns) h
      show 0 ≤ numA ns shs k + upTo ns shs l
      omega
  refine ⟨nn _, ?_⟩
  have e : upTo ns shs ks = upTo ns shs (ks.take i) + upTo ns shs (ks.drop i) := by
    conv => lhs; rw [← List.take_append_drop i ks]
    unfold upTo
    rw [List.map_append, List.sum_append]
  have := nn (ks.drop i)
  omega
theorem upTo_all {shs : List Sh} (h : ∀ s ∈ shs, S3 s) (h0 : shs ≠ []) (ns : List Str) : upTo ns shs (sortG (keysL (heirsM shs ns))) = 6 * totalW shs := by
  have R := rep_heirs h h0 ns
  refine sum_all ((sortG_perm _).nodup_iff.mpr R.nd) h fun s hs n hn => (sortG_perm _).mem_iff.mpr ((R.key n).mpr ⟨s, hs, hn⟩)
theorem upTo_add {ns : List Str} {shs : List Sh} {ks : List Str} {i : Nat} {k : Str} (e : ks[i]? = some k) : upTo ns shs (ks.take (i + 1)) = upTo ns shs (ks.take i) + numA ns shs k := by
  unfold upTo
  rw [List.take_add_one, e, List.map_append, List.sum_append]
  show _ + (numA ns shs k + 0) = _
  rw [Int.add_zero]
theorem plus_same {a b q : Int} (h : 0 < q) : plusM (lowM a q) (lowM b q) = lowM (a + b) q := by
  have := plus_rep (a := a) (b := b) (q := q) (p := q) (c := 1) (q' := 0) h h (Int.mul_one q).symm
  rw [this, Int.mul_one]
theorem low_one {q : Int} (h : 0 < q) : lowM q q = ((1, 1) : Fq) := by
  have e := lowM_mul (c := q) (a := 1) (b := 1) h
  rw [Int.mul_one] at e
  rw [e]
  decide
end He

namespace He
open PySem PySem.Spec PyProof.Rows L2
section
variable {P : Program} {w : World} {K : PySem.W.Frag} {mg : Str → Option Value} {base : Heap}
theorem heirs_congr {shs : List Sh} {ns ns' : List Str} (h : ∀ s ∈ shs, ∀ g ∈ s.2, ∀ n ∈ g, (n ∈ ns ↔ n ∈ ns')) : heirsM shs ns = heirsM shs ns' := by
  unfold heirsM
  generalize totalW shs = T
  have go : ∀ (l : List Sh) (m : Mf), (∀ s ∈ l, ∀ g ∈ s.2, ∀ n ∈ g, (n ∈ ns ↔ n ∈ ns')) → l.foldl (stepP T ns) m = l.foldl (stepP T ns') m := by
    intro l
    induction l with
    | nil => exact fun _ _ => rfl
    | cons s l ih =>
      intro m hs
      have e : stepP T ns m s = stepP T ns' m s := by
        have hit : ∀ g ∈ s.2.map sortG, hitB ns g = hitB ns' g := fun g hg => by
          obtain ⟨g0, h0, rfl⟩ := List.mem_map.mp hg
          unfold hitB
          rw [Bool.eq_iff_iff, List.any_eq_true, List.any_eq_true]
          have eq : ∀ n ∈ sortG g0, (n ∈ ns ↔ n ∈ ns') := fun n hn => hs s List.mem_cons_self g0 h0 n ((sortG_perm g0).mem_iff.mp hn)
          exact ⟨fun ⟨x, hx, k⟩ => ⟨x, hx, decide_eq_true ((eq x hx).mp (of_decide_eq_true k))⟩, fun ⟨x, hx, k⟩ => ⟨x, hx, decide_eq_true ((eq x hx).mpr (of_decide_eq_true k))⟩⟩
        have tk : takersM (s.2.map sortG) ns = takersM (s.2.map sortG) ns' := by
          unfold takersM
          have f : ∀ l : List (List Str), (∀ g ∈ l, hitB ns g = hitB ns' g) → l.find? (hitB ns) = l.find? (hitB ns') := by
            intro l
            induction l with
            | nil => exact fun _ => rfl
            | cons g l ih =>
              intro hl
              rw [List.find?_cons, List.find?_cons, hl g List.mem_cons_self, ih fun g hg => hl g (List.mem_cons_of_mem _ hg)]
          rw [f _ hit]
          cases e : (s.2.map sortG).find? (hitB ns') with
          | none => rfl
          | some g =>
            obtain ⟨g0, h0, rfl⟩ := List.mem_map.mp (List.mem_of_find?_eq_some e)
            refine List.filter_congr fun n hn => ?_
            have eq := hs s List.mem_cons_self g0 h0 n ((sortG_perm g0).mem_iff.mp hn)
            by_cases k : n ∈ ns
            · rw [decide_eq_true k, decide_eq_true (eq.mp k)]
            · rw [decide_eq_false k, decide_eq_false (fun z => k (eq.mpr z))]
        unfold stepP
        rw [tk]
      rw [List.foldl_cons, List.foldl_cons, e]
      exact ih _ fun t ht => hs t (List.mem_cons_of_mem _ ht)
  exact go shs [] h
theorem same_hide {H H' : Hp} {d : Addr} (n : H d = none) (s : Same H H') : Same H (hide d H') := fun b o e => by
  rw [hide_ne (ne_of_none e n)]
  exact s b o e
theorem go_init {C : Addr} {H : Hp} {Q : VK} {x dx : Addr} {v : V} {shs : List Sh} (h : H x = some (.ins C dx [])) (hv : Av K H v (adWill shs)) (hw : WOk shs)
    (q : ∀ t H', (∀ b o, b ≠ x → H b = some o → H' b = some o) → H' x = some (.ins C dx [("shares", .ref t)]) → Dp K (news H H') (.ref t) (nWill shs) → Q .non H') : spWInit K C [.ref x, v] H Q E0 := by
  unfold spWInit
  exact ⟨x, dx, v, shs, rfl, h, hv, hw, q⟩
theorem go_make {C l : Addr} {H : Hp} {Q : Addr → Hp → Prop} {shs : List Sh} (hv : Av K H (.ref l) (adWill shs)) (hw : WOk shs) (q : ∀ x H', Same H H' → WillAt K C H' x shs → Q x H') :
    ∀ x dx, H x = none → H dx = none → dx ≠ x → spWInit K C [.ref x, .ref l] (upd (upd H dx (.own x)) x (.ins C dx [])) (fun v H2 => v = .non ∧ Q x H2) E0 := by
  intro x dx nx ndx hne
  have sH : Same H (upd (upd H dx (.own x)) x (.ins C dx [])) := (same_upd ndx).trans (same_upd (by rw [upd_ne (Ne.symm hne)]; exact nx))
  have ex0 : upd (upd H dx (.own x)) x (.ins C dx []) x = some (.ins C dx []) := upd_same
  generalize upd (upd H dx (.own x)) x (.ins C dx []) = Hi at sH ex0 ⊢
  refine go_init (shs := shs) ex0 (av_mono sH _ _ hv) hw fun t H6 k6 e6 d6 => ⟨rfl, ?_⟩
  have s6 : Same H H6 := fun b o e => k6 b o (ne_of_none e nx) (sH _ _ e)
  have n6 : Same (news Hi H6) H6 := fun b o e => (news_get e).2
  exact q x H6 s6 ⟨dx, t, e6, dp_mono n6 _ _ d6⟩
theorem go_heirs {C : Addr} {H : Hp} {Q : VK} {x : Addr} {al : V} {shs : List Sh} {ns : List Str} (h : WillAt K C H x shs) (hw : WOk shs) (ha : SqN K H al ns) (h6 : shs.length ≤ 6) (h9 : ∀ s ∈ shs, ∀ g ∈ s.2, g.length ≤ 9)
    (q : ∀ r H', Same H H' → H r = none → Dp K H' (.ref r) (heirsD shs ns) → Q (.ref r) H') : spHeirs K C [.ref x, al] H Q E0 := by
  unfold spHeirs
  exact ⟨x, al, shs, ns, rfl, h, hw, ha, h6, h9, q⟩

/-- a name, or the crown -/
def NmOk (n : Str) : Prop := nameB n = true ∨ n = "crown"
theorem pow10 : (2 : Nat) ^ 1163 < 10 ^ 400 := by decide
theorem pow19 : (2 : Nat) ^ 1163 ≤ 2 ^ 1900 := Nat.pow_le_pow_right (by decide) (by decide)
theorem shd_fq {q : Fq} {b : Nat} (h : FrOk b q) (hb : b ≤ 1163) : ShD 809 1 (dFr q) := by
  have h := h.mono hb
  refine shd_tup (n := 401) (m := 2) (ds := [.int q.1, .int q.2]) (fun d hd => ?_) (Nat.le_refl _)
  simp only [List.mem_cons, List.not_mem_nil, or_false] at hd
  rcases hd with rfl | rfl
  · have := nat_of h.a0 h.a1
    exact shd_int (k := 400) (by decide) (Nat.lt_trans this pow10) (Nat.lt_of_lt_of_le this pow19)
  · have := nat_of (Int.le_of_lt h.b0) h.b1
    exact shd_int (k := 400) (by decide) (Nat.lt_trans this pow10) (Nat.lt_of_lt_of_le this pow19)
theorem shd_nm {n : Str} (h : NmOk n) : ShD 52 0 (.str n) := by
  rcases h with h | rfl
  · exact shd_name h
  · exact shd_str (k := 5) (by decide +kernel) (by decide +kernel)
theorem shd_told {ks : List Str} {f : Str → Fq} {b : Nat} (h : ∀ n ∈ ks, FrOk b (f n)) (hb : b ≤ 1163) (hn : ∀ n ∈ ks, NmOk n) (hl : ks.length ≤ 54) : ShD 100000 3 (.tuple (ks.map fun n => dItem n (f n))) := by
  refine (shd_tup (n := 1625) (k := 2) (m := 54) (fun d hd => ?_) ?_).mono (by decide) (Nat.le_refl _)
  · obtain ⟨n, hm, rfl⟩ := List.mem_map.mp hd
    refine shd_tup (n := 809) (m := 2) (ds := [.str n, dFr (f n)]) (fun d hd => ?_) (Nat.le_refl _)
    simp only [List.mem_cons, List.not_mem_nil, or_false] at hd
    rcases hd with rfl | rfl
    · exact (shd_nm (hn _ hm)).mono (by decide) (by decide)
    · exact shd_fq (h _ hm) hb
  · rw [List.length_map]
    exact hl
theorem wok_dbl {shs : List Sh} (h : WOk shs) (hw : ∀ s ∈ shs, s.1 ≤ 999999) : WOk (dbl shs) := by
  refine ⟨fun z => h.ne (List.map_eq_nil_iff.mp z), by unfold dbl; rw [List.length_map]; exact h.l, fun s hs => ?_, fun s hs => ?_⟩
  · obtain ⟨t, ht, rfl⟩ := List.mem_map.mp hs
    obtain ⟨h1, h2⟩ := h.ok t ht
    exact ⟨⟨by have := h1.w1; show 1 ≤ 2 * t.1; omega, h1.gs⟩, h2⟩
  · obtain ⟨t, ht, rfl⟩ := List.mem_map.mp hs
    have := hw t ht
    show 2 * t.1 ≤ _
    omega
theorem dp_tupI {H : Hp} {v : V} {ds : List PyData} (h : Dp K H v (.tuple ds)) : ∃ a xs, v = .ref a ∧ SqT K H a xs ∧ DpAll K H xs ds := by
  cases h with
  | tup hs ha => exact ⟨_, _, rfl, hs, ha⟩
theorem Names.some {ns ms : List Str} (h : Names ns) (nd : ms.Nodup) (hs : ∀ n ∈ ms, n ∈ ns) : Names ms := ⟨nd, fun n hn => h.nm n (hs n hn), by
  obtain ⟨pl, hp, hin⟩ := h.pl
  exact ⟨pl, hp, fun n hn => hin n (hs n hn)⟩⟩
/-- a list told, its items in another order -/
theorem dpA_perm {H : Hp} {ys vs : List V} (p : ys.Perm vs) : ∀ {ds : List PyData}, DpAll K H vs ds → ∃ es : List PyData, es.Perm ds ∧ DpAll K H ys es := by
  induction p with
  | nil => exact fun h => ⟨_, List.Perm.refl _, h⟩
  | cons x _ ih =>
    intro ds h
    cases h with
    | cons h1 h2 =>
      obtain ⟨es, q, r⟩ := ih h2
      exact ⟨_ :: es, q.cons _, .cons h1 r⟩
  | swap x y l =>
    intro ds h
    cases h with
    | cons h1 h2 =>
      cases h2 with
      | cons h3 h4 => exact ⟨_, List.Perm.swap _ _ _, .cons h3 (.cons h1 h4)⟩
  | trans _ _ i j =>
    intro ds h
    obtain ⟨es, q, r⟩ := j h
    obtain ⟨fs, q2, r2⟩ := i r
    exact ⟨fs, q2.trans q, r2⟩
theorem cut_tail (v : V) (vs : List V) : cutV (v :: vs) (some 1) none = vs := by
  unfold cutV
  rw [HT.sIx_none, show (some (1 : Int)) = some ((1 : Nat) : Int) from rfl, HT.sIx_nat, List.length_cons, Nat.min_eq_left (by omega)]
  show List.take _ vs = vs
  exact List.take_of_length_le (by omega)
theorem wok_halves {shs : List Sh} (h : WOk shs) (hw : ∀ s ∈ shs, s.1 ≤ 999999) (l3 : shs.length ≤ 3) : WOk (halves shs) := by
  cases shs with
  | nil => exact h
  | cons s l =>
    have d := wok_dbl h hw
    have mem : ∀ t ∈ halves (s :: l), t = s ∨ t ∈ dbl (s :: l) := fun t ht => by
      rcases List.mem_cons.mp ht with rfl | ht
      · exact .inl rfl
      · rcases List.mem_cons.mp ht with rfl | ht
        · exact .inl rfl
        · exact .inr (List.mem_cons_of_mem _ ht)
    refine ⟨(fun z => nomatch z), ?_, fun t ht => ?_, fun t ht => ?_⟩
    · show (dbl l).length + 1 + 1 ≤ 40
      unfold dbl
      rw [List.length_map]
      rw [List.length_cons] at l3
      omega
    · rcases mem t ht with rfl | ht
      · exact h.ok _ List.mem_cons_self
      · exact d.ok t ht
    · rcases mem t ht with rfl | ht
      · exact h.w _ List.mem_cons_self
      · exact d.w t ht
theorem sqT_box {p a : Addr} {Ha Hb : Hp} {xs : List V} (hb : Box Ha p) (B : Bx p Ha Hb) (h : SqT K Ha a xs) : SqT K Hb a xs := by
  refine h.imp (fun r => ?_) id
  have ap : a ≠ p := fun z => by
    obtain ⟨_, _, e, _⟩ := hb
    rw [z] at r
    rcases r with r | ⟨o, r⟩ <;> (rw [e] at r; cases r)
  have go : ∀ o : HO, Ha a = some o → Hb a = some o := fun o e => by
    have := B.2 a o (by rw [hide_ne ap]; exact e)
    rw [hide_ne ap] at this
    exact this
  exact r.imp (go _) fun ⟨o, r⟩ => ⟨o, go _ r⟩
theorem dpFr_box {p : Addr} {Ha Hb : Hp} {v : V} {q : Fq} (hb : Box Ha p) (B : Bx p Ha Hb) (h : Dp K Ha v (dFr q)) : Dp K Hb v (dFr q) := by
  obtain ⟨a, rfl, hs⟩ := dFr_inv h
  exact .tup (sqT_box hb B hs) (.cons (.int _) (.cons (.int _) .nil))
/-- what heirs tells hangs on no box -/
theorem told_box {p : Addr} {Ha Hb : Hp} {v : V} {ks : List Str} {f : Str → Fq} (hb : Box Ha p) (B : Bx p Ha Hb) (h : Dp K Ha v (.tuple (ks.map fun n => dItem n (f n)))) : Dp K Hb v (.tuple (ks.map fun n => dItem n (f n))) := by
  obtain ⟨a, xs, rfl, hs, ha⟩ := dp_tupI h
  refine .tup (sqT_box hb B hs) (dp_list (by rw [dpA_len ha]) fun i y e => ?_)
  obtain ⟨d, ed, hd⟩ := dpA_get ha e
  refine ⟨d, ed, ?_⟩
  rw [List.getElem?_map] at ed
  obtain ⟨n, en, rfl⟩ := Option.map_eq_some_iff.mp ed
  obtain ⟨b, x, z, rfl, h1, h2, h3⟩ := dp_tup2 hd
  cases h2
  exact .tup (sqT_box hb B h1) (.cons (.str _) (.cons (dpFr_box hb B h3) .nil))
theorem perm_of_map {α β : Type} (f : α → β) {es m : List β} (p : es.Perm m) : ∀ {l : List α}, m = l.map f → ∃ l' : List α, l'.Perm l ∧ es = l'.map f := by
  induction p with
  | nil =>
    intro l h
    exact ⟨[], by rw [List.map_eq_nil_iff.mp h.symm], rfl⟩
  | cons x _ ih =>
    intro l h
    obtain ⟨a, l0, rfl, e1, e2⟩ := List.map_eq_cons_iff.mp h.symm
    obtain ⟨l', p', e'⟩ := ih e2.symm
    exact ⟨a :: l', p'.cons a, by rw [List.map_cons, e1, e']⟩
  | swap x y l =>
    intro l h
    obtain ⟨a, l0, rfl, e1, e2⟩ := List.map_eq_cons_iff.mp h.symm
    obtain ⟨b, l1, rfl, e3, e4⟩ := List.map_eq_cons_iff.mp e2
    exact ⟨b :: a :: l1, List.Perm.swap _ _ _, by rw [List.map_cons, List.map_cons, e1, e3, e4]⟩
  | trans _ _ i j =>
    intro l h
    obtain ⟨l1, p1, e1⟩ := j h
    obtain ⟨l2, p2, e2⟩ := i e1
    exact ⟨l2, p2.trans p1, e2⟩
theorem wok_perm {shs l : List Sh} (h : WOk shs) (p : l.Perm shs) : WOk l := ⟨fun z => h.ne (by rw [z] at p; exact p.nil_eq.symm), by rw [p.length_eq]; exact h.l, fun s hs => h.ok s (p.mem_iff.mp hs), fun s hs => h.w s (p.mem_iff.mp hs)⟩
def spLaw (K : PySem.W.Frag) : Sp := fun vs H Q _ => ∃ (a : Addr) (ns : List Int), vs = [.ref a] ∧ SqL K H a (ns.map V.int) ∧ ns.length ≤ 63 ∧ ∀ H', Q (.bl true) H'

end
end He

namespace He
open PySem PySem.Spec PyProof.Rows L2
section
variable {P : Program} {w : World} {K : PySem.W.Frag} {mg : Str → Option Value} {base : Heap}

theorem ok_law (W : TxtN K mg) : FnOk P w K mg base CX0 12 W.h.w.t.dLaw.f W.h.w.t.dLaw.fd ["_law_script"] (spLaw K) := by
  refine W.h.w.t.dLaw.F.ok scDLaw (fun vs H Q E h => ?_) (fun cdv A outer s H vs Q E hr h => ?_)
  · obtain ⟨a, ns, rfl, _⟩ := h
    rfl
  · obtain ⟨a, ns, rfl, hs, hn, q⟩ := h
    refine ⟨_, (pss_cons (ps_for PassesOwn.never rfl (pi_range1 (by rfl) W.h.w.t.z_range (pa_cons (pe_callB (call_max2 rfl) (by rfl) W.h.w.t.z_max (show bootBuiltins "max" = some (.builtin "max") by decide +kernel) (pa_cons pe_int (pa_cons (pe_callB (call_min2 rfl) (by rfl) W.h.w.t.z_min (show bootBuiltins "min" = some (.builtin "min") by decide +kernel) (pa_cons pe_int (pa_cons (pe_callB call_lenL (by rfl) W.h.w.t.z_len (show bootBuiltins "len" = some (.builtin "len") by decide +kernel) (pa_cons (pv 0) pa_nil)) pa_nil))) pa_nil))) pa_nil)) (pg_name (i := 1) scDLaw.nd rfl (.inl rfl))
      (pss_cons (ps_set (i := 2) scDLaw.nd rfl (.inr rfl) (pe_call (ok_seed W.h.w.t) (hr.mono (by decide)) (by rfl) W.h.w.t.dLawSeed.g W.h.w.t.dLawSeed.F.kp W.h.w.t.dLawSeed.b .nil pass0 (pa_cons (pv 0) (pa_cons (pv 1) pa_nil))))
      (pss_one (ps_for PassesOwn.never rfl (pi_range1 (by rfl) W.h.w.t.z_range (pa_cons pe_int pa_nil)) (pg_name (i := 3) scDLaw.nd rfl (.inl rfl))
      (pss_cons (ps_set (i := 4) scDLaw.nd rfl (.inl rfl) (pe_call (ok_names W.h.w.t) (hr.mono (by decide)) (by rfl) W.h.w.t.dLawNames.g W.h.w.t.dLawNames.F.kp W.h.w.t.dLawNames.b .nil pass0 (pa_cons (pv 2) (pa_cons pe_int pa_nil))))
      (pss_cons (ps_set (i := 5) scDLaw.nd rfl (.inl rfl) (pe_call (ok_will W.h.w.t) (hr.mono (by decide)) (by rfl) W.h.w.t.dLawWill.g W.h.w.t.dLawWill.F.kp W.h.w.t.dLawWill.b .nil pass0 (pa_cons (pv 2) (pa_cons (pe_slice sl_list (pv 4) po_none (po_some pe_int)) pa_nil))))
      (pss_cons (ps_set (i := 6) scDLaw.nd rfl (.inl rfl) (pe_make W.h.w.iM (ok_winit W.h.w) (hr.mono (by decide)) (by rfl) W.h.w.t.gcWill W.h.w.iB .nil pass0 (pa_cons (pv 5) pa_nil)))
      (pss_cons (ps_setLc (i := 7) (own := [("_law_name", 8)]) (g := (gName 8)) rfl scDLaw.nd rfl rfl (sw_true rfl rfl rfl (by decide +kernel)) (pi_list (pe_slice sl_list (pv 4) po_none (po_some pe_int))) (blkOk_by (N := ["_law_script", "_law_k", "_law_box", "_law_turn", "_law_names_here", "_law_will_here", "_law_made", "_law_alive", "_law_name", "_law_told", "_law_whole", "_law_part", "_law_weight", "_law_groups", "_law_halves", "_law_more", "_law_some", "_law_one"]) (sc := defScope sDLaw) (by decide +kernel)) (fun _ _ _ _ _ => (pg_name (i := 8) scDLaw.nd rfl (.inl rfl))) (fun _ _ _ _ _ => (pts_one (pt_cmpR op_eq (pe_call (ok_choose W.h.w.t) (hr.mono (by decide)) (by rfl) W.h.w.t.dLawChoose.g W.h.w.t.dLawChoose.F.kp W.h.w.t.dLawChoose.b .nil pass0 (pa_cons (pv 2) (pa_cons pe_int pa_nil))) pe_int (nomark _)))) (fun _ _ _ _ _ => (pv 8)))
      (pss_cons (ps_par (i := 9) (j := 10) (by rfl) scDLaw.nd rfl rfl (by decide) rfl rfl (pa_cons (pe_meth (pv 6) W.h.w.cl W.h.hM (ok_heirs W.h) (hr.mono (by decide)) W.h.hB .nil pass0 (pa_cons (pv 7) pa_nil)) (pa_cons (pe_tup (pa_cons pe_int (pa_cons pe_int pa_nil))) pa_nil)) (by rfl))
      (pss_cons (ps_for PassesOwn.never rfl (pi_seq (pv 9)) (pg_tup (n := 2) rfl (pgs_cons (pg_name (i := 8) scDLaw.nd rfl (.inr rfl)) (pgs_cons (pg_name (i := 11) scDLaw.nd rfl (.inl rfl)) pgs_nil)))
      (pss_cons (ps_set (i := 10) scDLaw.nd rfl (.inl rfl) (pe_call (ok_lplus W.h.w.t) (hr.mono (by decide)) (by rfl) W.h.w.t.dLawPlus.g W.h.w.t.dLawPlus.F.kp W.h.w.t.dLawPlus.b .nil pass0 (pa_cons (pv 10) (pa_cons (pv 11) pa_nil))))
      (pss_one (ps_if (PW.pt (pw_and (pt_cmpR op_ne (pv 8) pe_str (nomark _)) (pw_and1 (PW.pt (pw_or (pt_cmpR op_notIn_seq (pv 8) (pv 7) (by rfl)) (pw_or1 (pt_cmpR op_notIn_seq (pv 8) (pe_prop (pv 6) W.h.w.cl W.nM (ok_wnames W) (hr.mono (by decide)) W.nB .nil pass0 rfl) (by rfl))))))))
      (pss_one (ps_ret pe_bl))
      pss_nil))))
      (pss_cons (ps_if (PW.pt (pw_or (pt_cmpR (op_neD hr.units) (pv 10) (pe_tup (pa_cons pe_int (pa_cons pe_int pa_nil))) (nomark _)) (pw_or1 (pt_cmpR (op_neD hr.units) (pe_meth (pv 6) W.h.w.cl W.h.hM (ok_heirs W.h) (hr.mono (by decide)) W.h.hB .nil pass0 (pa_cons (pe_op op_cat (pv 7) (pe_slice sl_list (pv 4) (po_some pe_int) po_none)) pa_nil)) (pv 9) (nomark _)))))
      (pss_one (ps_ret pe_bl))
      pss_nil)
      (pss_cons (ps_if (pt_cmpR (op_neD hr.units) (pe_meth (pe_make W.h.w.iM (ok_winit W.h.w) (hr.mono (by decide)) (by rfl) W.h.w.t.gcWill W.h.w.iB .nil pass0 (pa_cons (pe_lc (own := [("_law_weight", 12), ("_law_groups", 13)]) (g := (gTup K 2 (gCons (gName 12) (gCons (gName 13) gNil)))) (tt := tYes) rfl scDLaw.nd (pi_list (pv 5)) (blkOk_by (N := ["_law_script", "_law_k", "_law_box", "_law_turn", "_law_names_here", "_law_will_here", "_law_made", "_law_alive", "_law_name", "_law_told", "_law_whole", "_law_part", "_law_weight", "_law_groups", "_law_halves", "_law_more", "_law_some", "_law_one"]) (sc := defScope sDLaw) (by decide +kernel)) (fun _ _ _ _ _ => (pg_tup (n := 2) rfl (pgs_cons (pg_name (i := 12) scDLaw.nd rfl (.inl rfl)) (pgs_cons (pg_name (i := 13) scDLaw.nd rfl (.inl rfl)) pgs_nil)))) (fun _ _ _ _ _ => pts_nil) (fun _ _ _ _ _ => (pe_tup (pa_cons (pe_op op_mul pe_int (pv 12)) (pa_cons (pv 13) pa_nil))))) pa_nil)) W.h.w.cl W.h.hM (ok_heirs W.h) (hr.mono (by decide)) W.h.hB .nil pass0 (pa_cons (pv 7) pa_nil)) (pv 9) (nomark _))
      (pss_one (ps_ret pe_bl))
      pss_nil)
      (pss_cons (ps_if (pt_cmpR (op_neD hr.units) (pe_meth (pe_make W.h.w.iM (ok_winit W.h.w) (hr.mono (by decide)) (by rfl) W.h.w.t.gcWill W.h.w.iB .nil pass0 (pa_cons (pe_call (ok_mixed W.h.w.t) (hr.mono (by decide)) (by rfl) W.h.w.t.dLawMixed.g W.h.w.t.dLawMixed.F.kp W.h.w.t.dLawMixed.b .nil pass0 (pa_cons (pv 2) (pa_cons (pv 5) pa_nil))) pa_nil)) W.h.w.cl W.h.hM (ok_heirs W.h) (hr.mono (by decide)) W.h.hB .nil pass0 (pa_cons (pv 7) pa_nil)) (pv 9) (nomark _))
      (pss_one (ps_ret pe_bl))
      pss_nil)
      (pss_cons (ps_if (pt_cmpR op_lt (pe_callB call_lenL (by rfl) W.h.w.t.z_len (show bootBuiltins "len" = some (.builtin "len") by decide +kernel) (pa_cons (pv 5) pa_nil)) pe_int (nomark _))
      (pss_cons (ps_asg (pe_ix ix_list (pv 5) pe_int (fun _ _ => rfl)) (pg_tup (n := 2) rfl (pgs_cons (pg_name (i := 12) scDLaw.nd rfl (.inl rfl)) (pgs_cons (pg_name (i := 13) scDLaw.nd rfl (.inl rfl)) pgs_nil))))
      (pss_cons (ps_set (i := 14) scDLaw.nd rfl (.inl rfl) (pe_op op_cat (pe_lst (pa_cons (pe_tup (pa_cons (pv 12) (pa_cons (pv 13) pa_nil))) (pa_cons (pe_tup (pa_cons (pv 12) (pa_cons (pv 13) pa_nil))) pa_nil))) (pe_lc (own := [("_law_more", 15), ("_law_some", 16)]) (g := (gTup K 2 (gCons (gName 15) (gCons (gName 16) gNil)))) (tt := tYes) rfl scDLaw.nd (pi_list (pe_slice sl_list (pv 5) (po_some pe_int) po_none)) (blkOk_by (N := ["_law_script", "_law_k", "_law_box", "_law_turn", "_law_names_here", "_law_will_here", "_law_made", "_law_alive", "_law_name", "_law_told", "_law_whole", "_law_part", "_law_weight", "_law_groups", "_law_halves", "_law_more", "_law_some", "_law_one"]) (sc := defScope sDLaw) (by decide +kernel)) (fun _ _ _ _ _ => (pg_tup (n := 2) rfl (pgs_cons (pg_name (i := 15) scDLaw.nd rfl (.inl rfl)) (pgs_cons (pg_name (i := 16) scDLaw.nd rfl (.inl rfl)) pgs_nil)))) (fun _ _ _ _ _ => pts_nil) (fun _ _ _ _ _ => (pe_tup (pa_cons (pe_op op_mul pe_int (pv 15)) (pa_cons (pv 16) pa_nil)))))))
      (pss_one (ps_if (pt_cmpR (op_neD hr.units) (pe_meth (pe_make W.h.w.iM (ok_winit W.h.w) (hr.mono (by decide)) (by rfl) W.h.w.t.gcWill W.h.w.iB .nil pass0 (pa_cons (pv 14) pa_nil)) W.h.w.cl W.h.hM (ok_heirs W.h) (hr.mono (by decide)) W.h.hB .nil pass0 (pa_cons (pv 7) pa_nil)) (pv 9) (nomark _))
      (pss_one (ps_ret pe_bl))
      pss_nil))))
      pss_nil)
      (pss_one (ps_for PassesOwn.never rfl (pi_seq (pe_prop (pv 6) W.h.w.cl W.nM (ok_wnames W) (hr.mono (by decide)) W.nB .nil pass0 rfl)) (pg_name (i := 8) scDLaw.nd rfl (.inr rfl))
      (pss_one (ps_if (pt_cmpR (op_neNil hr.units) (pe_lc (own := [("_law_part", 11), ("_law_one", 17)]) (g := (gTup K 2 (gCons (gName 17) (gCons (gName 11) gNil)))) rfl scDLaw.nd (pi_seq (pe_meth (pv 6) W.h.w.cl W.h.hM (ok_heirs W.h) (hr.mono (by decide)) W.h.hB .nil pass0 (pa_cons (pe_lst (pa_cons (pv 8) pa_nil)) pa_nil))) (blkOk_by (N := ["_law_script", "_law_k", "_law_box", "_law_turn", "_law_names_here", "_law_will_here", "_law_made", "_law_alive", "_law_name", "_law_told", "_law_whole", "_law_part", "_law_weight", "_law_groups", "_law_halves", "_law_more", "_law_some", "_law_one"]) (sc := defScope sDLaw) (by decide +kernel)) (fun _ _ _ _ _ => (pg_tup (n := 2) rfl (pgs_cons (pg_name (i := 17) scDLaw.nd rfl (.inl rfl)) (pgs_cons (pg_name (i := 11) scDLaw.nd rfl (.inl rfl)) pgs_nil)))) (fun _ _ _ _ _ => (pts_one (pt_cmpR (show OpR _ (compareOp .NotIn) (rIn K true) from op_notIn_seq) (pv 17) (pe_tup (pa_cons (pv 8) (pa_cons pe_str pa_nil))) (by rfl)))) (fun _ _ _ _ _ => (pv 17))) (pe_lst pa_nil) (nomark _))
      (pss_one (ps_ret pe_bl))
      pss_nil))))))))))))))))))
      (pss_one (ps_ret pe_bl))), ?_⟩
    simp only [and_assoc, tSeq, tAsg, tOp, tUn, rI, rI0, rU, tVar, tC, gName, L2.start, tIfS, tTest, tB, tCB, tCons, tNil, tIf, tRet, tRetN, tLst, tTup, tNext, tDrop, tNot, tNotV, tAnd, tOr, tAndV, tOrV, tPar, tAug, ipI, rEq, rNe, gSub, rSetL, rIxL, rIxT, tBM, tBM0, rAppend, rPopAt, gTup, gCons, gNil, tCall, tSl, tPart, tNoPart, rSlL, rCat, rEqD, rNeD, rIn, scal, List.map_cons, List.map_nil, List.length_cons, List.length_nil, List.length_map, List.cons_append, List.nil_append, List.append_nil, List.replicate, List.getElem?_cons_zero, List.getElem?_cons_succ, List.set_cons_zero, List.set_cons_succ, Option.some.injEq, exists_eq_left', exists_eq_left, exists_eq_right, exists_and_left, exists_and_right, V.int.injEq, V.ref.injEq, V.str.injEq, V.bl.injEq, reduceCtorEq, false_and, and_false, exists_false, or_false, false_or, true_and, and_true, List.cons.injEq, decide_eq_true_eq, cxOf, if_true, if_false, Bool.false_eq_true, Nat.reduceAdd, Nat.reduceSub, Nat.zero_add, Nat.add_sub_cancel_left, Nat.add_sub_cancel, Nat.sub_self, sFld, tFld, tFor_eq, tLc_eq, iRng1, iRng2, iList, iTup, iEnum, iEnumQ, rIsi, rIsiT, iSeq, wipe, tDNewK, tDGet2, sDPut, rSum, tRevL, rNeNil, tMake, tMeth, rReprD, rNeD, rEqD, tLockE, iKeys, tDGet, spMixed, tProp]
    obtain ⟨n, hn4, hnn⟩ : ∃ n : Nat, n ≤ 4 ∧ (if (if ((List.map V.int ns).length : Int) < 4 then ((List.map V.int ns).length : Int) else 4) > 2 then if ((List.map V.int ns).length : Int) < 4 then ((List.map V.int ns).length : Int) else 4 else 2) = (n : Int) := by
      refine ⟨(if (if ((List.map V.int ns).length : Int) < 4 then ((List.map V.int ns).length : Int) else 4) > 2 then if ((List.map V.int ns).length : Int) < 4 then ((List.map V.int ns).length : Int) else 4 else 2).toNat, ?_, ?_⟩ <;> (repeat' split) <;> omega
    refine ⟨_, hs, by rw [hnn]; omega, by rw [hnn]; omega, ?_⟩
    rw [hnn, Int.toNat_natCast]
    refine fg_range (fun i σ H2 => ∃ (r : List (Option V)), σ = some (.ref a) :: r ∧ r.length = 17 ∧ Same H H2) ⟨_, rfl, rfl, Same.refl H⟩ ?_ ?_
    · rintro i σ H2 hi ⟨r, rfl, hr17, s2⟩
      obtain ⟨o1, o2, o3, o4, o5, o6, o7, o8, o9, o10, o11, o12, o13, o14, o15, o16, o17, rfl⟩ : ∃ o1 o2 o3 o4 o5 o6 o7 o8 o9 o10 o11 o12 o13 o14 o15 o16 o17, r = [o1, o2, o3, o4, o5, o6, o7, o8, o9, o10, o11, o12, o13, o14, o15, o16, o17] := by
        match r, hr17 with
        | [o1, o2, o3, o4, o5, o6, o7, o8, o9, o10, o11, o12, o13, o14, o15, o16, o17], _ => exact ⟨_, _, _, _, _, _, _, _, _, _, _, _, _, _, _, _, _, rfl⟩
      simp only [and_assoc, tSeq, tAsg, tOp, tUn, rI, rI0, rU, tVar, tC, gName, L2.start, tIfS, tTest, tB, tCB, tCons, tNil, tIf, tRet, tRetN, tLst, tTup, tNext, tDrop, tNot, tNotV, tAnd, tOr, tAndV, tOrV, tPar, tAug, ipI, rEq, rNe, gSub, rSetL, rIxL, rIxT, tBM, tBM0, rAppend, rPopAt, gTup, gCons, gNil, tCall, tSl, tPart, tNoPart, rSlL, rCat, rEqD, rNeD, rIn, scal, List.map_cons, List.map_nil, List.length_cons, List.length_nil, List.length_map, List.cons_append, List.nil_append, List.append_nil, List.replicate, List.getElem?_cons_zero, List.getElem?_cons_succ, List.set_cons_zero, List.set_cons_succ, Option.some.injEq, exists_eq_left', exists_eq_left, exists_eq_right, exists_and_left, exists_and_right, V.int.injEq, V.ref.injEq, V.str.injEq, V.bl.injEq, reduceCtorEq, false_and, and_false, exists_false, or_false, false_or, true_and, and_true, List.cons.injEq, decide_eq_true_eq, cxOf, if_true, if_false, Bool.false_eq_true, Nat.reduceAdd, Nat.reduceSub, Nat.zero_add, Nat.add_sub_cancel_left, Nat.add_sub_cancel, Nat.sub_self, sFld, tFld, tFor_eq, tLc_eq, iRng1, iRng2, iList, iTup, iEnum, iEnumQ, rIsi, rIsiT, iSeq, wipe, tDNewK, tDGet2, sDPut, rSum, tRevL, rNeNil, tMake, tMeth, rReprD, rNeD, rEqD, tLockE, iKeys, tDGet, spMixed, tProp, spSeed]
      refine ⟨ns, i, by omega, by omega, s2.seq hs, hn, fun b0 b1 p np h0 h1 h2 => ⟨by decide, by decide, ?_⟩⟩
      have hb1 : Box (upd H2 p (.lst [.int b0, .int b1])) p := ⟨b0, b1, upd_same, h0, h1, h2⟩
      have s21 := same_upd (o := .lst [.int b0, .int b1]) np
      generalize upd H2 p (.lst [.int b0, .int b1]) = H1 at hb1 s21 ⊢
      refine fg_range (fun j σ H3 => ∃ (r : List (Option V)), σ = some (.ref a) :: some (.int (0 + ↑i)) :: some (.ref p) :: r ∧ r.length = 15 ∧ Bx p H1 H3) ⟨_, rfl, rfl, .refl hb1⟩ ?_ ?_
      · rintro j σ H3 hj ⟨r, rfl, hr15, B3⟩
        obtain ⟨o3, o4, o5, o6, o7, o8, o9, o10, o11, o12, o13, o14, o15, o16, o17, rfl⟩ : ∃ o3 o4 o5 o6 o7 o8 o9 o10 o11 o12 o13 o14 o15 o16 o17, r = [o3, o4, o5, o6, o7, o8, o9, o10, o11, o12, o13, o14, o15, o16, o17] := by
          match r, hr15 with
          | [o3, o4, o5, o6, o7, o8, o9, o10, o11, o12, o13, o14, o15, o16, o17], _ => exact ⟨_, _, _, _, _, _, _, _, _, _, _, _, _, _, _, rfl⟩
        simp only [and_assoc, tSeq, tAsg, tOp, tUn, rI, rI0, rU, tVar, tC, gName, L2.start, tIfS, tTest, tB, tCB, tCons, tNil, tIf, tRet, tRetN, tLst, tTup, tNext, tDrop, tNot, tNotV, tAnd, tOr, tAndV, tOrV, tPar, tAug, ipI, rEq, rNe, gSub, rSetL, rIxL, rIxT, tBM, tBM0, rAppend, rPopAt, gTup, gCons, gNil, tCall, tSl, tPart, tNoPart, rSlL, rCat, rEqD, rNeD, rIn, scal, List.map_cons, List.map_nil, List.length_cons, List.length_nil, List.length_map, List.cons_append, List.nil_append, List.append_nil, List.replicate, List.getElem?_cons_zero, List.getElem?_cons_succ, List.set_cons_zero, List.set_cons_succ, Option.some.injEq, exists_eq_left', exists_eq_left, exists_eq_right, exists_and_left, exists_and_right, V.int.injEq, V.ref.injEq, V.str.injEq, V.bl.injEq, reduceCtorEq, false_and, and_false, exists_false, or_false, false_or, true_and, and_true, List.cons.injEq, decide_eq_true_eq, cxOf, if_true, if_false, Bool.false_eq_true, Nat.reduceAdd, Nat.reduceSub, Nat.zero_add, Nat.add_sub_cancel_left, Nat.add_sub_cancel, Nat.sub_self, sFld, tFld, tFor_eq, tLc_eq, iRng1, iRng2, iList, iTup, iEnum, iEnumQ, rIsi, rIsiT, iSeq, wipe, tDNewK, tDGet2, sDPut, rSum, tRevL, rNeNil, tMake, tMeth, rReprD, rNeD, rEqD, tLockE, iKeys, tDGet, spMixed, tProp, spNames]
        refine ⟨7, rfl, B3.1, by decide, fun nms u H4 B4 nm nl nu eu => ?_⟩
        simp only [and_assoc, tSeq, tAsg, tOp, tUn, rI, rI0, rU, tVar, tC, gName, L2.start, tIfS, tTest, tB, tCB, tCons, tNil, tIf, tRet, tRetN, tLst, tTup, tNext, tDrop, tNot, tNotV, tAnd, tOr, tAndV, tOrV, tPar, tAug, ipI, rEq, rNe, gSub, rSetL, rIxL, rIxT, tBM, tBM0, rAppend, rPopAt, gTup, gCons, gNil, tCall, tSl, tPart, tNoPart, rSlL, rCat, rEqD, rNeD, rIn, scal, List.map_cons, List.map_nil, List.length_cons, List.length_nil, List.length_map, List.cons_append, List.nil_append, List.append_nil, List.replicate, List.getElem?_cons_zero, List.getElem?_cons_succ, List.set_cons_zero, List.set_cons_succ, Option.some.injEq, exists_eq_left', exists_eq_left, exists_eq_right, exists_and_left, exists_and_right, V.int.injEq, V.ref.injEq, V.str.injEq, V.bl.injEq, reduceCtorEq, false_and, and_false, exists_false, or_false, false_or, true_and, and_true, List.cons.injEq, decide_eq_true_eq, cxOf, if_true, if_false, Bool.false_eq_true, Nat.reduceAdd, Nat.reduceSub, Nat.zero_add, Nat.add_sub_cancel_left, Nat.add_sub_cancel, Nat.sub_self, sFld, tFld, tFor_eq, tLc_eq, iRng1, iRng2, iList, iTup, iEnum, iEnumQ, rIsi, rIsiT, iSeq, wipe, tDNewK, tDGet2, sDPut, rSum, tRevL, rNeNil, tMake, tMeth, rReprD, rNeD, rEqD, tLockE, iKeys, tDGet, spMixed, tProp, spWill]
        have up : u ≠ p := fun z => by obtain ⟨_, _, e, _⟩ := B3.1; rw [z, e] at nu; cases nu
        have cut5 : cutV (nms.map V.str) none (some 5) = (nms.take 5).map V.str := by
          rw [List.map_take]
          exact cut_to (nms.map V.str) 5
        refine ⟨_, sqL_of eu, fun p1 np1 => ?_⟩
        rw [cut5]
        have sp1 := same_upd (o := .lst ((nms.take 5).map V.str)) np1
        have ep1 : upd H4 p1 (.lst ((nms.take 5).map V.str)) p1 = some (.lst ((nms.take 5).map V.str)) := upd_same
        have B45 : Bx p H4 (upd H4 p1 (.lst ((nms.take 5).map V.str))) := .of B4.1 sp1
        generalize upd H4 p1 (.lst ((nms.take 5).map V.str)) = H4b at sp1 ep1 B45 ⊢
        have p1p : p1 ≠ p := fun z => by obtain ⟨_, _, e, _⟩ := B4.1; rw [z, e] at np1; cases np1
        have nm5 : Names (nms.take 5) := nm.some (nm.nd.sublist (List.take_sublist _ _)) fun n hn => List.mem_of_mem_take hn
        have n5l : (nms.take 5).length = 5 := by rw [List.length_take, nl]; decide
        refine ⟨B45.1, nms.take 5, sqL_of (by rw [hide_ne p1p]; exact ep1), by omega, nm5, fun shs vs r H5 B5 hwo nr er hd => ?_⟩
        have hw := hwo.wok
        have rp : r ≠ p := fun z => by obtain ⟨_, _, e, _⟩ := B45.1; rw [z, e] at nr; cases nr
        intro x dx nx ndx hne
        have sH : Same H5 (upd (upd H5 dx (.own x)) x (.ins W.h.w.t.cWill dx [])) := (same_upd ndx).trans (same_upd (by rw [upd_ne (Ne.symm hne)]; exact nx))
        have ex0 : upd (upd H5 dx (.own x)) x (.ins W.h.w.t.cWill dx []) x = some (.ins W.h.w.t.cWill dx []) := upd_same
        generalize upd (upd H5 dx (.own x)) x (.ins W.h.w.t.cWill dx []) = Hi at sH ex0 ⊢
        have hle : Same (hide p H5) H5 := hide_le
        refine go_init (shs := shs) ex0 ?_ hw fun t H6 k6 e6 d6 => ⟨rfl, ?_⟩
        · have e := adA_shs shs
          have h1 := avA_of _ _ (dpA_mono (hle.trans sH) _ _ hd)
          rw [e] at h1
          exact .lst (sqL_of (sH _ _ er)) h1
        have s56 : Same H5 H6 := fun b o e => k6 b o (ne_of_none e nx) (sH _ _ e)
        have xp : x ≠ p := fun z => by obtain ⟨_, _, e, _⟩ := B5.1; rw [z, e] at nx; cases nx
        have B56 : Bx p H5 H6 := .of B5.1 s56
        have B46 : Bx p H4 H6 := (B45.trans B5).trans B56
        have B16 : Bx p H1 H6 := (B3.trans B4).trans B46
        have hr6 : SqL K (hide p H6) r vs := sqL_of (by rw [hide_ne rp]; exact s56 _ _ er)
        have hd6 : DpAll K (hide p H6) vs (shs.map dSh) := dpA_mono B56.2 _ _ hd
        have pHi : Hi p ≠ none := by obtain ⟨_, _, e, _⟩ := B5.1; rw [sH _ _ e]; exact fun z => nomatch z
        have n6 : Same (news Hi H6) (hide p H6) := fun b o e => by
          obtain ⟨e1, e2⟩ := news_get e
          rw [hide_ne (fun z => pHi (by rw [← z]; exact e1))]
          exact e2
        have hx6 : WillAt K W.h.w.t.cWill (hide p H6) x shs := ⟨dx, t, by rw [hide_ne xp]; exact e6, dp_mono n6 _ _ d6⟩
        have hu6 : SqL K (hide p H6) u (nms.map V.str) := sqL_of (by rw [hide_ne up]; exact B46.get up eu)
        have sh3 := hwo.l3
        have s3 : ∀ s ∈ shs, S3 s := fun s hs => ⟨(hwo.ok s hs).1.w1, fun g hg => ((hwo.ok s hs).1.gs g hg).nd, fun g hg => (hwo.ok s hs).2.1.g g hg⟩
        have gl3 : ∀ s ∈ shs, ∀ g ∈ s.2, g.length ≤ 9 := fun s hs g hg => by have := (s3 s hs).l g hg; omega
        refine ⟨_, hide_le.seq hu6, fun p2 np2 => ?_⟩
        rw [cut5]
        have B62 : Bx p H6 (upd H6 p2 (.lst ((nms.take 5).map V.str))) := .of B56.1 (same_upd np2)
        have ep2 : upd H6 p2 (.lst ((nms.take 5).map V.str)) p2 = some (.lst ((nms.take 5).map V.str)) := upd_same
        have p2p : p2 ≠ p := fun z => by obtain ⟨_, _, e, _⟩ := B56.1; rw [z, e] at np2; cases np2
        generalize upd H6 p2 (.lst ((nms.take 5).map V.str)) = H6b at B62 ep2 ⊢
        refine ⟨⟨_, sqL_of ep2⟩, fun D nD => ?_⟩
        have Dp' : D ≠ p := B62.ne B56.1 nD
        refine lg_list (xs := (nms.take 5).map V.str) (fun k H => ∃ as : List Str, Bx p H6b H ∧ H D = some (.lst (as.map V.str)) ∧ as.length ≤ k) ⟨[], .of B62.1 (same_upd nD), upd_same, Nat.le_refl _⟩ (fun k H _ ⟨as, B, _⟩ => sqL_of (B.get p2p ep2)) (fun k xn H hx ⟨as, B, eD, la⟩ => ?_) (fun H9 ⟨as, B9, eD9, la9⟩ => ?_)
        · rw [List.getElem?_map] at hx
          obtain ⟨nn, en, rfl⟩ := Option.map_eq_some_iff.mp hx
          have kl := (List.getElem?_eq_some_iff.mp en).1
          simp only [and_assoc, tSeq, tAsg, tOp, tUn, rI, rI0, rU, tVar, tC, gName, L2.start, tIfS, tTest, tB, tCB, tCons, tNil, tIf, tRet, tRetN, tLst, tTup, tNext, tDrop, tNot, tNotV, tAnd, tOr, tAndV, tOrV, tPar, tAug, ipI, rEq, rNe, gSub, rSetL, rIxL, rIxT, tBM, tBM0, rAppend, rPopAt, gTup, gCons, gNil, tCall, tSl, tPart, tNoPart, rSlL, rCat, rEqD, rNeD, rIn, scal, List.map_cons, List.map_nil, List.length_cons, List.length_nil, List.length_map, List.cons_append, List.nil_append, List.append_nil, List.replicate, List.getElem?_cons_zero, List.getElem?_cons_succ, List.set_cons_zero, List.set_cons_succ, Option.some.injEq, exists_eq_left', exists_eq_left, exists_eq_right, exists_and_left, exists_and_right, V.int.injEq, V.ref.injEq, V.str.injEq, V.bl.injEq, reduceCtorEq, false_and, and_false, exists_false, or_false, false_or, true_and, and_true, List.cons.injEq, decide_eq_true_eq, cxOf, if_true, if_false, Bool.false_eq_true, Nat.reduceAdd, Nat.reduceSub, Nat.zero_add, Nat.add_sub_cancel_left, Nat.add_sub_cancel, Nat.sub_self, sFld, tFld, tFor_eq, tLc_eq, iRng1, iRng2, iList, iTup, iEnum, iEnumQ, rIsi, rIsiT, iSeq, wipe, tDNewK, tDGet2, sDPut, rSum, tRevL, rNeNil, tMake, tMeth, rReprD, rNeD, rEqD, tLockE, iKeys, tDGet, spMixed, tProp, spChoose]
          refine ⟨B.1, by decide, by decide, fun c Hc Bc c0 c1 => ?_⟩
          by_cases hc0 : c = 0
          · rw [if_pos hc0]
            exact ⟨_, Bc.get Dp' eD, small1000 (by rw [List.length_map]; omega), (B.trans Bc).mut nD Dp', as ++ [nn], by rw [upd_same, List.map_append]; rfl, by rw [List.length_append]; exact Nat.succ_le_succ la⟩
          · rw [if_neg hc0]
            exact ⟨B.trans Bc, as, Bc.get Dp' eD, Nat.le_succ_of_le la⟩
        · rw [List.length_map, n5l] at la9
          have B69 := B62.trans B9
          have wx9 : WillAt K W.h.w.t.cWill H9 x shs := (hx6.mono B69.2).mono hide_le
          obtain ⟨wdx, wt, ew, dw⟩ := id wx9
          refine ⟨_, _, ew, rfl, go_heirs wx9 hw ⟨D, rfl, .inl (sqL_of eD9)⟩ (by omega) gl3 fun r1 H10 s10 nr1 d10 => ?_⟩
          have R := rep_heirs s3 hw.ne as
          have tp := total_pos (fun s hs => (s3 s hs).w) hw.ne
          have tl : totalW shs ≤ 999999 * shs.length := total_le fun s hs => (hwo.ok s hs).2.1.w
          obtain ⟨q6, hq6⟩ : ∃ q6 : Int, q6 = 6 * totalW shs := ⟨_, rfl⟩
          rw [← hq6] at R
          have q6p : 0 < q6 := by omega
          have q6l : q6 ≤ 17999982 := by
            have : (999999 : Int) * shs.length ≤ 999999 * 3 := by omega
            omega
          have q6b : q6 < 2 ^ 25 := Int.lt_of_le_of_lt q6l (by decide)
          obtain ⟨ks, hks⟩ : ∃ ks, ks = sortG (keysL (heirsM shs as)) := ⟨_, rfl⟩
          have told : heirsD shs as = .tuple (ks.map fun n => dItem n (lowM (numA as shs n) q6)) := by
            show itemsD (heirsM shs as) = _
            unfold itemsD
            rw [← hks]
            congr 1
            exact List.map_congr_left fun n _ => by rw [R.val]
          have up6 : upTo as shs ks = q6 := by rw [hks, upTo_all s3 hw.ne, hq6]
          have fru : ∀ k, FrOk 25 (lowM (upTo as shs (ks.take k)) q6) := fun k => by
            have bd := upTo_bd (ns := as) s3 ks k
            exact lowM_ok bd.1 q6p (by omega) q6b
          have fr1 : ∀ n ∈ ks, FrOk 25 (lowM (numA as shs n) q6) := fun n hn => by
            obtain ⟨k, ek⟩ := List.mem_iff_getElem?.mp hn
            have a1 := upTo_add (ns := as) (shs := shs) ek
            have b0 := upTo_bd (ns := as) s3 ks k
            have b1 := upTo_bd (ns := as) s3 ks (k + 1)
            exact lowM_ok (numA_nn s3) q6p (by omega) q6b
          have hkm : ∀ n ∈ ks, n = "crown" ∨ (n ∈ as ∧ n ∈ namesM shs) := fun n hn => by
            rw [hks] at hn
            obtain ⟨s, hs, hm⟩ := (R.key n).mp ((sortG_perm _).mem_iff.mp hn)
            rcases tk_mem hm with e | ⟨e1, g, hg, e2⟩
            · exact .inl e
            · exact .inr ⟨e1, namesM_mem.mpr ⟨s, hs, g, hg, e2⟩⟩
          rw [told] at d10
          refine ⟨by decide, fun z1 nz1 => ⟨r1, rfl, ?_⟩⟩
          have sz := same_upd (o := .tup [V.int 0, V.int 1]) nz1
          have ez : upd H10 z1 (.tup [V.int 0, V.int 1]) z1 = some (.tup [V.int 0, V.int 1]) := upd_same
          generalize upd H10 z1 (.tup [V.int 0, V.int 1]) = H11 at sz ez ⊢
          have s911 := s10.trans sz
          have d11 := dp_mono sz _ _ d10
          obtain ⟨r1', txs, er1, hts, hta⟩ := dp_tupI d11
          cases er1
          have txl : txs.length = ks.length := by rw [dpA_len hta, List.length_map]
          have wx11 := wx9.mono s911
          have eD11 := s911 _ _ eD9
          refine ⟨txs, _, .inr ⟨rfl, hts⟩, ?_⟩
          refine fg_tup (xs := txs) (fun k σ H => ∃ (o8 o11 : Option V) (z : Addr), σ = [some (.ref a), some (.int (0 + ↑i)), some (.ref p), some (.int (0 + ↑j)), some (.ref u), some (.ref r), some (.ref x), some (.ref D), o8, some (.ref r1), some (.ref z), o11, o12, o13, o14, o15, o16, o17] ∧ Same H11 H ∧ Dp K H (.ref z) (dFr (lowM (upTo as shs (ks.take k)) q6)))
            ⟨_, _, z1, rfl, Same.refl _, ?_⟩ (fun k σ H _ ⟨_, _, _, _, s, _⟩ => Same.seqT s hts) ?_ ?_
          · show Dp K H11 (.ref z1) (dFr (lowM 0 q6))
            rw [low_zero q6p]
            exact dFr_new ez
          · rintro k xk σ H12 hk ⟨o8', o11', z, rfl, s12, hz⟩
            obtain ⟨dk, edk, hdk⟩ := dpA_get (dpA_mono s12 _ _ hta) hk
            rw [List.getElem?_map] at edk
            obtain ⟨nn, en, rfl⟩ := Option.map_eq_some_iff.mp edk
            have nks := List.mem_of_getElem? en
            obtain ⟨b1', v1, v2, rfl, hb1', a1, a2⟩ := dp_tup2 hdk
            cases a1
            simp only [and_assoc, tSeq, tAsg, tOp, tUn, rI, rI0, rU, tVar, tC, gName, L2.start, tIfS, tTest, tB, tCB, tCons, tNil, tIf, tRet, tRetN, tLst, tTup, tNext, tDrop, tNot, tNotV, tAnd, tOr, tAndV, tOrV, tPar, tAug, ipI, rEq, rNe, gSub, rSetL, rIxL, rIxT, tBM, tBM0, rAppend, rPopAt, gTup, gCons, gNil, tCall, tSl, tPart, tNoPart, rSlL, rCat, rEqD, rNeD, rIn, scal, List.map_cons, List.map_nil, List.length_cons, List.length_nil, List.length_map, List.cons_append, List.nil_append, List.append_nil, List.replicate, List.getElem?_cons_zero, List.getElem?_cons_succ, List.set_cons_zero, List.set_cons_succ, Option.some.injEq, exists_eq_left', exists_eq_left, exists_eq_right, exists_and_left, exists_and_right, V.int.injEq, V.ref.injEq, V.str.injEq, V.bl.injEq, reduceCtorEq, false_and, and_false, exists_false, or_false, false_or, true_and, and_true, List.cons.injEq, decide_eq_true_eq, cxOf, if_true, if_false, Bool.false_eq_true, Nat.reduceAdd, Nat.reduceSub, Nat.zero_add, Nat.add_sub_cancel_left, Nat.add_sub_cancel, Nat.sub_self, sFld, tFld, tFor_eq, tLc_eq, iRng1, iRng2, iList, iTup, iEnum, iEnumQ, rIsi, rIsiT, iSeq, wipe, tDNewK, tDGet2, sDPut, rSum, tRevL, rNeNil, tMake, tMeth, rReprD, rNeD, rEqD, tLockE, iKeys, tDGet, spMixed, tProp, spPlus]
            refine ⟨_, hb1', rfl, _, _, rfl, _, _, rfl, rfl, _, hz, _, a2, 25, fru k, 25, fr1 nn nks, by decide, fun zt H13 s13 nzt ezt => ?_⟩
            rw [plus_same q6p, ← upTo_add en] at ezt
            have hzt : Dp K H13 (.ref zt) (dFr (lowM (upTo as shs (ks.take (k + 1))) q6)) := dFr_new ezt
            have s113 := s12.trans s13
            have hw0 : ∀ {m : Str}, (V.str nn = V.str m) ↔ nn = m := ⟨fun z => V.str.inj z, fun z => by rw [z]⟩
            refine ⟨rfl, ?_⟩
            by_cases hc : nn = "crown"
            · rw [decide_eq_true (hw0.mpr hc), if_neg (by simp)]
              exact ⟨s113, hzt⟩
            · obtain ⟨m1, m2⟩ := (hkm nn nks).resolve_left hc
              have flat : ∀ l : List Str, (l.map V.str).all flatV = true := fun l => by
                rw [List.all_map]
                exact List.all_eq_true.mpr fun _ _ => rfl
              rw [decide_eq_false (fun z => hc (hw0.mp z)), if_pos (by simp)]
              obtain ⟨wdx2, wt2, ew2, dw2⟩ := id (wx11.mono s113)
              refine ⟨_, .inl (sqL_of (s113 _ _ eD11)), rfl, flat _, ?_⟩
              rw [inV_str, decide_eq_true m1, if_neg (by simp)]
              refine ⟨⟨_, _, ew2⟩, ?_⟩
              unfold spWNames
              refine ⟨x, shs, nms.take 5, rfl, wx11.mono s113, by omega, fun s hs g hg n hn => (hwo.ok s hs).2.2 g hg n hn, fun r2 H14 s14 nr2 t14 => ⟨r2, rfl, _, .inr t14, rfl, flat _, ?_⟩⟩
              rw [inV_str, decide_eq_true ((sortG_perm _).mem_iff.mpr m2), if_neg (by simp)]
              exact ⟨s113.trans s14, dp_mono s14 _ _ hzt⟩
          · rintro σ H12 ⟨o8', o11', z, rfl, s12, hz⟩
            simp only [and_assoc, tSeq, tAsg, tOp, tUn, rI, rI0, rU, tVar, tC, gName, L2.start, tIfS, tTest, tB, tCB, tCons, tNil, tIf, tRet, tRetN, tLst, tTup, tNext, tDrop, tNot, tNotV, tAnd, tOr, tAndV, tOrV, tPar, tAug, ipI, rEq, rNe, gSub, rSetL, rIxL, rIxT, tBM, tBM0, rAppend, rPopAt, gTup, gCons, gNil, tCall, tSl, tPart, tNoPart, rSlL, rCat, rEqD, rNeD, rIn, scal, List.map_cons, List.map_nil, List.length_cons, List.length_nil, List.length_map, List.cons_append, List.nil_append, List.append_nil, List.replicate, List.getElem?_cons_zero, List.getElem?_cons_succ, List.set_cons_zero, List.set_cons_succ, Option.some.injEq, exists_eq_left', exists_eq_left, exists_eq_right, exists_and_left, exists_and_right, V.int.injEq, V.ref.injEq, V.str.injEq, V.bl.injEq, reduceCtorEq, false_and, and_false, exists_false, or_false, false_or, true_and, and_true, List.cons.injEq, decide_eq_true_eq, cxOf, if_true, if_false, Bool.false_eq_true, Nat.reduceAdd, Nat.reduceSub, Nat.zero_add, Nat.add_sub_cancel_left, Nat.add_sub_cancel, Nat.sub_self, sFld, tFld, tFor_eq, tLc_eq, iRng1, iRng2, iList, iTup, iEnum, iEnumQ, rIsi, rIsiT, iSeq, wipe, tDNewK, tDGet2, sDPut, rSum, tRevL, rNeNil, tMake, tMeth, rReprD, rNeD, rEqD, tLockE, iKeys, tDGet, spMixed, tProp]
            refine ⟨by decide, fun z2 nz2 => ?_⟩
            have sz2 := same_upd (o := .tup [V.int 1, V.int 1]) nz2
            have ez2 : upd H12 z2 (.tup [V.int 1, V.int 1]) z2 = some (.tup [V.int 1, V.int 1]) := upd_same
            generalize upd H12 z2 (.tup [V.int 1, V.int 1]) = H13 at sz2 ez2 ⊢
            rw [txl, List.take_of_length_le (Nat.le_refl _), up6, low_one q6p] at hz
            have s113 := s12.trans sz2
            refine ⟨dFr (1, 1), dp_mono sz2 _ _ hz, dFr (1, 1), dFr_new ez2, by decide +kernel, by decide +kernel, ?_⟩
            rw [show PyData.eqv (dFr (1, 1)) (dFr (1, 1)) = true by decide +kernel, if_neg (by simp)]
            have wx13 := wx11.mono s113
            have eD13 := s113 _ _ eD11
            have hu13 : SqL K H13 u (nms.map V.str) := (hide_le.trans ((s911.trans s113))).seq (B69.2.seq hu6)
            obtain ⟨wdx3, wt3, ew3, dw3⟩ := id wx13
            have cutr : cutV (nms.map V.str) (some 5) none = (nms.drop 5).map V.str := by
              unfold cutV
              rw [List.length_map, nl]
              show List.take 2 (List.drop 5 (nms.map V.str)) = _
              rw [List.take_of_length_le (by rw [List.length_drop, List.length_map, nl]; decide), List.map_drop]
            refine ⟨_, _, ew3, rfl, _, hu13, fun l1 nl1 => ?_⟩
            rw [cutr]
            obtain ⟨td, htd⟩ : ∃ td, td = PyData.tuple (ks.map fun n => dItem n (lowM (numA as shs n) q6)) := ⟨_, rfl⟩
            have knd : ks.Nodup := by rw [hks]; exact (sortG_perm _).nodup_iff.mpr R.nd
            have ksl : ks.length ≤ 6 := by
              have := short_in (ns := "crown" :: as) knd fun n hn => (hkm n hn).elim (fun e => e ▸ List.mem_cons_self) fun e => List.mem_cons_of_mem _ e.1
              rw [List.length_cons] at this
              omega
            have sd : ShD 100000 3 td := by
              rw [htd]
              refine shd_told fr1 (by decide) (fun n hn => (hkm n hn).elim .inr fun e => ?_) (by omega)
              obtain ⟨s, hs, g, hg, h⟩ := namesM_mem.mp e.2
              exact .inl (nm5.nm n ((hwo.ok s hs).2.2 g hg n h))
            rw [← htd] at told d11
            clear d10
            have sd1 : SeqAt.shaped td = true := sd.shaped (by decide)
            have sl1 := same_upd (o := .lst ((nms.drop 5).map V.str)) nl1
            have el1 : upd H13 l1 (.lst ((nms.drop 5).map V.str)) l1 = some (.lst ((nms.drop 5).map V.str)) := upd_same
            generalize upd H13 l1 (.lst ((nms.drop 5).map V.str)) = H14 at sl1 el1 ⊢
            refine ⟨_, sl1 _ _ eD13, _, el1, by have : as.length + (nms.drop 5).length ≤ 1000 := (by rw [List.length_drop]; omega); rw [List.length_map, List.length_map]; exact Nat.le_trans this (by decide), fun l2 nl2 => ?_⟩
            have sl2 := same_upd (o := .lst (as.map V.str ++ (nms.drop 5).map V.str)) nl2
            have el2 : upd H14 l2 (.lst (as.map V.str ++ (nms.drop 5).map V.str)) l2 = some (.lst (as.map V.str ++ (nms.drop 5).map V.str)) := upd_same
            generalize upd H14 l2 (.lst (as.map V.str ++ (nms.drop 5).map V.str)) = H15 at sl2 el2 ⊢
            rw [← List.map_append] at el2
            have s1115 := s113.trans (sl1.trans sl2)
            have ghd : heirsD shs (as ++ nms.drop 5) = td := by
              rw [← told]
              unfold heirsD
              rw [heirs_congr (ns := as ++ nms.drop 5) (ns' := as) fun s hs g hg n hn => ?_]
              refine ⟨fun h => (List.mem_append.mp h).elim id fun h => ?_, fun h => List.mem_append_left _ h⟩
              have n5 := (hwo.ok s hs).2.2 g hg n hn
              have nd := nm.nd
              rw [← List.take_append_drop 5 nms] at nd
              exact absurd rfl ((List.nodup_append.mp nd).2.2 n n5 n h)
            refine go_heirs (wx11.mono s1115) hw ⟨l2, rfl, .inl (sqL_of el2)⟩ (by omega) gl3 fun r3 H16 s16 nr3 d16 => ?_
            rw [ghd] at d16
            have s1116 := s1115.trans s16
            refine ⟨td, d16, td, dp_mono s1116 _ _ d11, sd1, sd1, ?_⟩
            rw [sd.eqv, if_neg (by simp)]
            have s916 := s911.trans s1116
            have s616 : Same (hide p H6) H16 := (B69.2.trans hide_le).trans s916
            have hr16 : SqL K H16 r vs := s616.seq hr6
            have hd16 : DpAll K H16 vs (shs.map dSh) := dpA_mono s616 _ _ hd6
            have vsl : vs.length = shs.length := by rw [dpA_len hd6, List.length_map]
            refine ⟨⟨_, hr16⟩, fun D1 nD1 => ?_⟩
            refine lg_pure (fun i y H => ∃ g, shs[i]? = some g ∧ Dp K H y (dSh (2 * g.1, g.2))) (.inl ⟨rfl, hr16⟩) (small1000 (by omega)) nD1 (fun i y H H' s h => let ⟨g, e1, e2⟩ := h; ⟨g, e1, dp_mono s _ _ e2⟩) (fun k xk H17 Φ hx s17 hD hΦ => ?_) (fun ys H17 s17 eD1 hl17 hY => ?_)
            · obtain ⟨dk, edk, hdk⟩ := dpA_get hd16 hx
              rw [List.getElem?_map] at edk
              obtain ⟨g, eg, rfl⟩ := Option.map_eq_some_iff.mp edk
              have gm := List.mem_of_getElem? eg
              obtain ⟨b1', v1, v2, rfl, hb1', a1, a2⟩ := dp_tup2 hdk
              cases a1
              simp only [and_assoc, tSeq, tAsg, tOp, tUn, rI, rI0, rU, tVar, tC, gName, L2.start, tIfS, tTest, tB, tCB, tCons, tNil, tIf, tRet, tRetN, tLst, tTup, tNext, tDrop, tNot, tNotV, tAnd, tOr, tAndV, tOrV, tPar, tAug, ipI, rEq, rNe, gSub, rSetL, rIxL, rIxT, tBM, tBM0, rAppend, rPopAt, gTup, gCons, gNil, tCall, tSl, tPart, tNoPart, rSlL, rCat, rEqD, rNeD, rIn, scal, List.map_cons, List.map_nil, List.length_cons, List.length_nil, List.length_map, List.cons_append, List.nil_append, List.append_nil, List.replicate, List.getElem?_cons_zero, List.getElem?_cons_succ, List.set_cons_zero, List.set_cons_succ, Option.some.injEq, exists_eq_left', exists_eq_left, exists_eq_right, exists_and_left, exists_and_right, V.int.injEq, V.ref.injEq, V.str.injEq, V.bl.injEq, reduceCtorEq, false_and, and_false, exists_false, or_false, false_or, true_and, and_true, List.cons.injEq, decide_eq_true_eq, cxOf, if_true, if_false, Bool.false_eq_true, Nat.reduceAdd, Nat.reduceSub, Nat.zero_add, Nat.add_sub_cancel_left, Nat.add_sub_cancel, Nat.sub_self, sFld, tFld, tFor_eq, tLc_eq, iRng1, iRng2, iList, iTup, iEnum, iEnumQ, rIsi, rIsiT, iSeq, wipe, tDNewK, tDGet2, sDPut, rSum, tRevL, rNeNil, tMake, tMeth, rReprD, rNeD, rEqD, tLockE, iKeys, tDGet, spMixed, tProp]
              have g1 := (hwo.ok g gm).2.1.w
              have g0 := (hwo.ok g gm).1.w1
              refine ⟨_, Same.seqT s17 hb1', rfl, _, _, rfl, _, _, rfl, rfl, _, rfl, .inl ⟨by decide, by decide⟩, by decide, fun pt npt => ?_⟩
              have sh17 := same_hide nD1 s17
              refine hΦ _ _ (same_upd npt) ⟨g, eg, ?_⟩
              have pD1 : pt ≠ D1 := fun z => hD (by rw [← z]; exact npt)
              refine .tup (sqT_of (by rw [hide_ne pD1, upd_same])) (.cons (.int _) (.cons ?_ .nil))
              exact dp_mono (sh17.trans (hide_same (same_upd npt))) _ _ a2
            · have hD1 : DpAll K (hide D1 H17) ys ((dbl shs).map dSh) := by
                refine dp_list (by rw [hl17, List.length_map]; unfold dbl; rw [List.length_map]; exact vsl) fun i y e => ?_
                obtain ⟨g, e1, e2⟩ := hY i y e
                exact ⟨dSh (2 * g.1, g.2), by unfold dbl; rw [List.getElem?_map, List.getElem?_map, e1]; rfl, e2⟩
              have av1 : Av K H17 (.ref D1) (adWill (dbl shs)) := by
                have e := adA_shs (dbl shs)
                have h1 := avA_of _ _ (dpA_mono hide_le _ _ hD1)
                rw [e] at h1
                exact .lst (sqL_of eD1) h1
              have wd := wok_dbl hw fun s hs => (hwo.ok s hs).2.1.w
              have dl : (dbl shs).length = shs.length := by unfold dbl; rw [List.length_map]
              have dg : ∀ s ∈ dbl shs, ∀ g ∈ s.2, g.length ≤ 9 := fun s hs g hg => by
                have := (dbl_s3 s3 s hs).l g hg
                omega
              refine go_make av1 wd fun x1 H18 s18 w18 => ?_
              obtain ⟨xdx, xt, ex, dwx⟩ := id w18
              have s918 := s916.trans (s17.trans s18)
              refine ⟨_, _, ex, rfl, go_heirs w18 wd ⟨D, rfl, .inl (sqL_of (s918 _ _ eD9))⟩ (by omega) dg fun r4 H19 s19 nr4 d19 => ?_⟩
              rw [heirs_dbl s3 hw.ne, told] at d19
              have s1119 := s1116.trans ((s17.trans s18).trans s19)
              have s919 := s918.trans s19
              refine ⟨td, d19, td, dp_mono s1119 _ _ d11, sd1, sd1, ?_⟩
              rw [sd.eqv, if_neg (by simp)]
              have B99 : Bx p H9 H19 := .of B69.1 s919
              have B619 := B69.trans B99
              refine ⟨B99.1, vs, B619.2.seq hr6, by omega, fun ys2 rm H20 B20 pm2 nrm erm => ?_⟩
              have B620 := B619.trans B20
              obtain ⟨ds2, pds, hds⟩ := dpA_perm pm2 (dpA_mono B620.2 _ _ hd6)
              obtain ⟨shs2, p2s, rfl⟩ := perm_of_map dSh pds rfl
              have w2 := wok_perm hw p2s
              have erm' : hide p H20 rm = some (.lst ys2) := by rw [hide_ne (fun z => by obtain ⟨_, _, e, _⟩ := B99.1; rw [z, e] at nrm; cases nrm)]; exact erm
              have av2 : Av K H20 (.ref rm) (adWill shs2) := by
                have e := adA_shs shs2
                have h1 := avA_of _ _ (dpA_mono hide_le _ _ hds)
                rw [e] at h1
                exact .lst (sqL_of erm) h1
              have eD20 : H20 D = some (.lst (as.map V.str)) := B20.get Dp' (s919 _ _ eD9)
              have told20 : Dp K H20 (.ref r1) td := by
                have := dp_mono s1119 _ _ d11
                rw [htd] at this ⊢
                exact told_box B99.1 B20 this
              have g2 : ∀ s ∈ shs2, ∀ g ∈ s.2, g.length ≤ 9 := fun s hs => gl3 s (p2s.mem_iff.mp hs)
              refine go_make av2 w2 fun x2 H21 s21' w21 => ?_
              obtain ⟨xdx2, xt2, ex2, dwx2⟩ := id w21
              refine ⟨_, _, ex2, rfl, go_heirs w21 w2 ⟨D, rfl, .inl (sqL_of (s21' _ _ eD20))⟩ (by rw [p2s.length_eq]; omega) g2 fun r5 H22 s22 nr5 d22 => ?_⟩
              rw [heirs_perm s3 hw.ne p2s, told] at d22
              have s2022 := s21'.trans s22
              have told22 := dp_mono s2022 _ _ told20
              refine ⟨td, d22, td, told22, sd1, sd1, ?_⟩
              rw [sd.eqv, if_neg (by simp)]
              have B622 : Bx p H6 H22 := B620.trans (.of B20.1 s2022)
              have hr22 : SqL K H22 r vs := hide_le.seq (B622.2.seq hr6)
              have hd22 : DpAll K H22 vs (shs.map dSh) := dpA_mono (B622.2.trans hide_le) _ _ hd6
              have wx22 : WillAt K W.h.w.t.cWill H22 x shs := (hx6.mono B622.2).mono hide_le
              have eD22 := s2022 _ _ eD20
              have B122 := B16.trans B622
              refine ⟨vs, hr22, ?_⟩
              have tailG : ∀ (o8 o10 o11 o12 o13 o14 o15 o16 o17 : Option V) (H23 : Hp), Same H22 H23 → (∃ x_1 x_2, H23 x = some (HO.ins W.h.w.t.cWill x_1 x_2)) ∧ spWNames K W.h.w.t.cWill [V.ref x] H23 (fun x_1 H1_1 => ∃ a_1, x_1 = V.ref a_1 ∧ ∃ x_2 x_3, SeqIt K H1_1 a_1 x_2 x_3 ∧ ForGoes x_3 (gName 8)
                  (tIfS (tTest (tOp (rNeNil K) (tLc (iSeq K (tMeth W.h.w.t.cWill "heirs" (spHeirs K W.h.w.t.cWill) [] E0 (tVar 6) (tCons (tLst (tCons (tVar 8) tNil)) tNil))) (gTup K 2 (gCons (gName 17) (gCons (gName 11) gNil))) (tTest (tOp (rIn K true) (tVar 17) (tTup (tCons (tVar 8) (tCons (tC (V.str "crown")) tNil))))) (tVar 17) [11, 17]) (tLst tNil))) (tRet (tC (V.bl false))) tNext) { nx := fun σ H3 => ∃ r, σ = some (V.ref a) :: some (V.int (0 + ↑i)) :: some (V.ref p) :: r ∧ r.length = 15 ∧ Bx p H1 H3, rt := Q, bk := fun σ H2 => ∃ r, σ = some (V.ref a) :: r ∧ r.length = 17 ∧ Same H H2, ct := fun σ H3 => ∃ r, σ = some (V.ref a) :: some (V.int (0 + ↑i)) :: some (V.ref p) :: r ∧ r.length = 15 ∧ Bx p H1 H3 } [some (V.ref a), some (V.int (0 + ↑i)), some (V.ref p), some (V.int (0 + ↑j)), some (V.ref u), some (V.ref r), some (V.ref x), some (V.ref D), o8, some (V.ref r1), o10, o11, o12, o13, o14, o15, o16, o17] H1_1) E0 := by
                intro o8 o10 o11 o12 o13 o14 o15 o16 o17 H23 s23
                have wx23 := wx22.mono s23
                refine ⟨(let ⟨_, _, c, _⟩ := wx23; ⟨_, _, c⟩), ?_⟩
                unfold spWNames
                refine ⟨x, shs, nms.take 5, rfl, wx23, by omega, fun s hs g hg n hn => (hwo.ok s hs).2.2 g hg n hn, fun r6 H24 s24 nr6 t24 => ⟨r6, rfl, _, _, .inr ⟨rfl, t24⟩, ?_⟩⟩
                refine fg_tup (xs := (sortG (namesM shs)).map V.str) (fun k σ H => ∃ (o8 o11 o17 : Option V), σ = [some (V.ref a), some (V.int (0 + ↑i)), some (V.ref p), some (V.int (0 + ↑j)), some (V.ref u), some (V.ref r), some (V.ref x), some (V.ref D), o8, some (V.ref r1), o10, o11, o12, o13, o14, o15, o16, o17] ∧ Same H24 H) ⟨_, _, _, rfl, Same.refl _⟩ (fun k σ H _ ⟨_, _, _, _, s⟩ => Same.seqT s t24) ?_ ?_
                · rintro k xn σ H25 hk ⟨o8, o11, o17, rfl, s25⟩
                  rw [List.getElem?_map] at hk
                  obtain ⟨nn, en, rfl⟩ := Option.map_eq_some_iff.mp hk
                  have wx25 := wx23.mono (s24.trans s25)
                  obtain ⟨wdx5, wt5, ew5, dw5⟩ := id wx25
                  simp only [and_assoc, tSeq, tAsg, tOp, tUn, rI, rI0, rU, tVar, tC, gName, L2.start, tIfS, tTest, tB, tCB, tCons, tNil, tIf, tRet, tRetN, tLst, tTup, tNext, tDrop, tNot, tNotV, tAnd, tOr, tAndV, tOrV, tPar, tAug, ipI, rEq, rNe, gSub, rSetL, rIxL, rIxT, tBM, tBM0, rAppend, rPopAt, gTup, gCons, gNil, tCall, tSl, tPart, tNoPart, rSlL, rCat, rEqD, rNeD, rIn, scal, List.map_cons, List.map_nil, List.length_cons, List.length_nil, List.length_map, List.cons_append, List.nil_append, List.append_nil, List.replicate, List.getElem?_cons_zero, List.getElem?_cons_succ, List.set_cons_zero, List.set_cons_succ, Option.some.injEq, exists_eq_left', exists_eq_left, exists_eq_right, exists_and_left, exists_and_right, V.int.injEq, V.ref.injEq, V.str.injEq, V.bl.injEq, reduceCtorEq, false_and, and_false, exists_false, or_false, false_or, true_and, and_true, List.cons.injEq, decide_eq_true_eq, cxOf, if_true, if_false, Bool.false_eq_true, Nat.reduceAdd, Nat.reduceSub, Nat.zero_add, Nat.add_sub_cancel_left, Nat.add_sub_cancel, Nat.sub_self, sFld, tFld, tFor_eq, tLc_eq, iRng1, iRng2, iList, iTup, iEnum, iEnumQ, rIsi, rIsiT, iSeq, wipe, tDNewK, tDGet2, sDPut, rSum, tRevL, rNeNil, tMake, tMeth, rReprD, rNeD, rEqD, tLockE, iKeys, tDGet, spMixed, tProp]
                  refine ⟨_, _, ew5, rfl, by decide, fun l3 nl3 => go_heirs (ns := [nn]) (wx25.mono (same_upd nl3)) hw ⟨l3, rfl, .inl (sqL_of upd_same)⟩ (by omega) gl3 fun r7 H27 s27 nr7 d27 => ?_⟩
                  have s2527 := (same_upd (o := .lst [V.str nn]) nl3).trans s27
                  have R7 := rep_heirs s3 hw.ne [nn]
                  obtain ⟨k7, hk7⟩ : ∃ k7, k7 = sortG (keysL (heirsM shs [nn])) := ⟨_, rfl⟩
                  have told7 : heirsD shs [nn] = .tuple (k7.map fun n => dItem n ((getL (heirsM shs [nn]) n).getD zeroF)) := by
                    rw [hk7]
                    rfl
                  have k7m : ∀ n ∈ k7, n = nn ∨ n = "crown" := fun n hn => by
                    rw [hk7] at hn
                    obtain ⟨s, hs, hm⟩ := (R7.key n).mp ((sortG_perm _).mem_iff.mp hn)
                    rcases tk_mem hm with e | ⟨e1, _⟩
                    · exact .inr e
                    · exact .inl (List.mem_singleton.mp e1)
                  have k7n : k7.length ≤ 2 := short_in (ns := [nn, "crown"]) (by rw [hk7]; exact (sortG_perm _).nodup_iff.mpr R7.nd) fun n hn => (k7m n hn).elim (fun e => e ▸ List.mem_cons_self) fun e => e ▸ List.mem_cons_of_mem _ List.mem_cons_self
                  rw [told7] at d27
                  obtain ⟨r7', xs7, er7, h7s, h7a⟩ := dp_tupI d27
                  cases er7
                  have x7l : xs7.length = k7.length := by rw [dpA_len h7a, List.length_map]
                  refine ⟨r7, rfl, xs7, _, .inr ⟨rfl, h7s⟩, fun D5 nD5 => ?_⟩
                  refine lg_filter walk_tup (fun _ => false) (fun _ => V.non) (small1000 (by omega)) nD5 (fun H s => Same.seqT s h7s) (fun m xk H H' Aq Bq hm s hD hY hA hB => ?_) (fun H28 s28 e28 => ?_)
                  · obtain ⟨rfl, hx⟩ := hY
                    obtain ⟨dk, edk, hdk⟩ := dpA_get (dpA_mono s _ _ h7a) hx
                    rw [List.getElem?_map] at edk
                    obtain ⟨n2, en2, rfl⟩ := Option.map_eq_some_iff.mp edk
                    have m2 := k7m n2 (List.mem_of_getElem? en2)
                    obtain ⟨b1', v1, v2, rfl, hb1', a1, a2⟩ := dp_tup2 hdk
                    cases a1
                    simp only [and_assoc, tSeq, tAsg, tOp, tUn, rI, rI0, rU, tVar, tC, gName, L2.start, tIfS, tTest, tB, tCB, tCons, tNil, tIf, tRet, tRetN, tLst, tTup, tNext, tDrop, tNot, tNotV, tAnd, tOr, tAndV, tOrV, tPar, tAug, ipI, rEq, rNe, gSub, rSetL, rIxL, rIxT, tBM, tBM0, rAppend, rPopAt, gTup, gCons, gNil, tCall, tSl, tPart, tNoPart, rSlL, rCat, rEqD, rNeD, rIn, scal, List.map_cons, List.map_nil, List.length_cons, List.length_nil, List.length_map, List.cons_append, List.nil_append, List.append_nil, List.replicate, List.getElem?_cons_zero, List.getElem?_cons_succ, List.set_cons_zero, List.set_cons_succ, Option.some.injEq, exists_eq_left', exists_eq_left, exists_eq_right, exists_and_left, exists_and_right, V.int.injEq, V.ref.injEq, V.str.injEq, V.bl.injEq, reduceCtorEq, false_and, and_false, exists_false, or_false, false_or, true_and, and_true, List.cons.injEq, decide_eq_true_eq, cxOf, if_true, if_false, Bool.false_eq_true, Nat.reduceAdd, Nat.reduceSub, Nat.zero_add, Nat.add_sub_cancel_left, Nat.add_sub_cancel, Nat.sub_self, sFld, tFld, tFor_eq, tLc_eq, iRng1, iRng2, iList, iTup, iEnum, iEnumQ, rIsi, rIsiT, iSeq, wipe, tDNewK, tDGet2, sDPut, rSum, tRevL, rNeNil, tMake, tMeth, rReprD, rNeD, rEqD, tLockE, iKeys, tDGet, spMixed, tProp]
                    refine ⟨_, hb1', rfl, _, _, rfl, _, _, rfl, rfl, by decide, fun pt npt => ⟨_, .inr (sqT_of upd_same), rfl, rfl, ?_⟩⟩
                    have iv : inV (.str n2) [V.str nn, V.str "crown"] = true := by
                      have := inV_str n2 [nn, "crown"]
                      rw [decide_eq_true (by simpa using m2)] at this
                      exact this
                    rw [iv, if_neg (by simp)]
                    exact hB _ rfl (same_upd npt)
                  · rw [show (List.filter (fun _ => false) (List.range xs7.length)) = [] from List.filter_eq_nil_iff.mpr fun _ _ => Bool.false_ne_true] at e28
                    refine ⟨by decide, fun ee nee => ⟨[], sqL_of (same_upd nee _ _ e28), sqL_of upd_same, ?_⟩⟩
                    rw [if_neg (by simp)]
                    exact s25.trans (s2527.trans (s28.trans (same_upd nee)))
                · rintro σ H25 ⟨o8, o11, o17, rfl, s25⟩
                  exact ⟨_, rfl, rfl, B122.trans (.of B122.1 (s23.trans (s24.trans s25)))⟩
              split
              · rename_i lt3
                have len3 : shs.length < 3 := by omega
                obtain ⟨g0, rest, hsr⟩ : ∃ g0 rest, shs = g0 :: rest := by
                  cases shs with
                  | nil => exact absurd rfl hw.ne
                  | cons g l => exact ⟨g, l, rfl⟩
                have g0m : g0 ∈ shs := by rw [hsr]; exact List.mem_cons_self
                obtain ⟨v0, vr, evs, hv0, hvr⟩ : ∃ v0 vr, vs = v0 :: vr ∧ Dp K H22 v0 (dSh g0) ∧ DpAll K H22 vr (rest.map dSh) := by
                  rw [hsr] at hd22
                  cases hd22 with
                  | cons h1 h2 => exact ⟨_, _, rfl, h1, h2⟩
                obtain ⟨b0', w1, w2', rfl, hb0', a1, a2⟩ := dp_tup2 hv0
                cases a1
                refine ⟨_, hr22, V.ref b0', atI_nat (j := 0) (by rw [evs]; rfl), b0', rfl, _, hb0', rfl, _, _, rfl, _, _, rfl, rfl, by decide, fun t1 n1 => ⟨by decide, fun t2 n2 => ⟨by decide, fun l3 n3 => ?_⟩⟩⟩
                have sa := same_upd (o := .tup [V.int g0.1, w2']) n1
                have ea : upd H22 t1 (.tup [V.int g0.1, w2']) t1 = some (.tup [V.int g0.1, w2']) := upd_same
                generalize upd H22 t1 (.tup [V.int g0.1, w2']) = Ha at sa ea n2 n3 ⊢
                have sb := same_upd (o := .tup [V.int g0.1, w2']) n2
                have eb : upd Ha t2 (.tup [V.int g0.1, w2']) t2 = some (.tup [V.int g0.1, w2']) := upd_same
                generalize upd Ha t2 (.tup [V.int g0.1, w2']) = Hb at sb eb n3 ⊢
                have sc := same_upd (o := .lst [V.ref t1, V.ref t2]) n3
                have ec : upd Hb l3 (.lst [V.ref t1, V.ref t2]) l3 = some (.lst [V.ref t1, V.ref t2]) := upd_same
                generalize upd Hb l3 (.lst [V.ref t1, V.ref t2]) = Hc at sc ec ⊢
                have s2c := (sa.trans sb).trans sc
                refine ⟨_, Same.seq s2c hr22, fun p4 n4 => ?_⟩
                rw [evs, cut_tail]
                have sd4 := same_upd (o := .lst vr) n4
                have ed : upd Hc p4 (.lst vr) p4 = some (.lst vr) := upd_same
                generalize upd Hc p4 (.lst vr) = Hd at sd4 ed ⊢
                have s2d := s2c.trans sd4
                have vrl : vr.length = rest.length := by rw [dpA_len hvr, List.length_map]
                have rl : shs.length = rest.length + 1 := by rw [hsr, List.length_cons]
                refine ⟨⟨_, sqL_of ed⟩, fun D6 nD6 => ?_⟩
                refine lg_pure (fun i y H => ∃ g, rest[i]? = some g ∧ Dp K H y (dSh (2 * g.1, g.2))) (.inl ⟨rfl, sqL_of ed⟩) (small1000 (by omega)) nD6 (fun i y H H' s h => let ⟨g, e1, e2⟩ := h; ⟨g, e1, dp_mono s _ _ e2⟩) (fun k xk He Φ hx se hD hΦ => ?_) (fun ys He se eD6 hle6 hY => ?_)
                · obtain ⟨dk, edk, hdk⟩ := dpA_get (dpA_mono s2d _ _ hvr) hx
                  rw [List.getElem?_map] at edk
                  obtain ⟨g, eg, rfl⟩ := Option.map_eq_some_iff.mp edk
                  obtain ⟨b1', v1, v2, rfl, hb1', a1', a2'⟩ := dp_tup2 hdk
                  cases a1'
                  simp only [and_assoc, tSeq, tAsg, tOp, tUn, rI, rI0, rU, tVar, tC, gName, L2.start, tIfS, tTest, tB, tCB, tCons, tNil, tIf, tRet, tRetN, tLst, tTup, tNext, tDrop, tNot, tNotV, tAnd, tOr, tAndV, tOrV, tPar, tAug, ipI, rEq, rNe, gSub, rSetL, rIxL, rIxT, tBM, tBM0, rAppend, rPopAt, gTup, gCons, gNil, tCall, tSl, tPart, tNoPart, rSlL, rCat, rEqD, rNeD, rIn, scal, List.map_cons, List.map_nil, List.length_cons, List.length_nil, List.length_map, List.cons_append, List.nil_append, List.append_nil, List.replicate, List.getElem?_cons_zero, List.getElem?_cons_succ, List.set_cons_zero, List.set_cons_succ, Option.some.injEq, exists_eq_left', exists_eq_left, exists_eq_right, exists_and_left, exists_and_right, V.int.injEq, V.ref.injEq, V.str.injEq, V.bl.injEq, reduceCtorEq, false_and, and_false, exists_false, or_false, false_or, true_and, and_true, List.cons.injEq, decide_eq_true_eq, cxOf, if_true, if_false, Bool.false_eq_true, Nat.reduceAdd, Nat.reduceSub, Nat.zero_add, Nat.add_sub_cancel_left, Nat.add_sub_cancel, Nat.sub_self, sFld, tFld, tFor_eq, tLc_eq, iRng1, iRng2, iList, iTup, iEnum, iEnumQ, rIsi, rIsiT, iSeq, wipe, tDNewK, tDGet2, sDPut, rSum, tRevL, rNeNil, tMake, tMeth, rReprD, rNeD, rEqD, tLockE, iKeys, tDGet, spMixed, tProp]
                  refine ⟨_, Same.seqT se hb1', rfl, _, _, rfl, _, _, rfl, rfl, _, rfl, .inl ⟨by decide, by decide⟩, by decide, fun pt npt => ?_⟩
                  have sh17 := same_hide nD6 se
                  refine hΦ _ _ (same_upd npt) ⟨g, eg, ?_⟩
                  have pD1 : pt ≠ D6 := fun z => hD (by rw [← z]; exact npt)
                  refine .tup (sqT_of (by rw [hide_ne pD1, upd_same])) (.cons (.int _) (.cons ?_ .nil))
                  exact dp_mono (sh17.trans (hide_same (same_upd npt))) _ _ a2'
                · have yl : ys.length = rest.length := hle6.trans vrl
                  refine ⟨_, se _ _ (sd4 _ _ ec), _, eD6, by have : 2 + ys.length ≤ 1000 := (by omega); exact Nat.le_trans this (by decide), fun l7 n7 => ?_⟩
                  have sf := same_upd (o := .lst ([V.ref t1, V.ref t2] ++ ys)) n7
                  have ef : upd He l7 (.lst ([V.ref t1, V.ref t2] ++ ys)) l7 = some (.lst ([V.ref t1, V.ref t2] ++ ys)) := upd_same
                  generalize upd He l7 (.lst ([V.ref t1, V.ref t2] ++ ys)) = Hf at sf ef ⊢
                  have sef := se.trans sf
                  have s2f := s2d.trans sef
                  have hys : DpAll K Hf ys ((dbl rest).map dSh) := by
                    refine dp_list (by rw [yl, List.length_map]; unfold dbl; rw [List.length_map]) fun i y e => ?_
                    obtain ⟨g, e1, e2⟩ := hY i y e
                    exact ⟨dSh (2 * g.1, g.2), by unfold dbl; rw [List.getElem?_map, List.getElem?_map, e1]; rfl, dp_mono (hide_le.trans sf) _ _ e2⟩
                  have dt : ∀ {tt : Addr}, Hf tt = some (.tup [V.int g0.1, w2']) → Dp K Hf (.ref tt) (dSh g0) := fun e => .tup (sqT_of e) (.cons (.int _) (.cons (dp_mono s2f _ _ a2) .nil))
                  have hh : DpAll K Hf ([V.ref t1, V.ref t2] ++ ys) ((halves shs).map dSh) := by
                    rw [hsr]
                    exact .cons (dt (sef _ _ (sd4 _ _ (sc _ _ (sb _ _ ea))))) (.cons (dt (sef _ _ (sd4 _ _ (sc _ _ eb)))) hys)
                  have av7 : Av K Hf (.ref l7) (adWill (halves shs)) := by
                    have e := adA_shs (halves shs)
                    have h1 := avA_of _ _ hh
                    rw [e] at h1
                    exact .lst (sqL_of ef) h1
                  have w7 := wok_halves hw (fun s hs => (hwo.ok s hs).2.1.w) sh3
                  have l7 : (halves shs).length ≤ 6 := by
                    rw [hsr]
                    show (dbl rest).length + 1 + 1 ≤ 6
                    unfold dbl
                    rw [List.length_map]
                    omega
                  have g7 : ∀ s ∈ halves shs, ∀ g ∈ s.2, g.length ≤ 9 := fun s hs => by
                    rw [hsr] at hs
                    rcases List.mem_cons.mp hs with rfl | hs
                    · exact gl3 _ g0m
                    · rcases List.mem_cons.mp hs with rfl | hs
                      · exact gl3 _ g0m
                      · obtain ⟨t, ht, rfl⟩ := List.mem_map.mp hs
                        exact gl3 t (by rw [hsr]; exact List.mem_cons_of_mem _ ht)
                  refine go_make av7 w7 fun x7 Hg sg7 w27 => ?_
                  obtain ⟨xdx7, xt7, ex7, dwx7⟩ := id w27
                  have s2g := s2f.trans sg7
                  refine ⟨_, _, ex7, rfl, go_heirs w27 w7 ⟨D, rfl, .inl (sqL_of (s2g _ _ eD22))⟩ l7 g7 fun r8 Hh sh8 nr8 d28 => ?_⟩
                  rw [heirs_halves s3 hw.ne, told] at d28
                  have s2h := s2g.trans sh8
                  refine ⟨td, d28, td, dp_mono s2h _ _ told22, sd1, sd1, ?_⟩
                  rw [sd.eqv, if_neg (by simp)]
                  exact tailG _ _ _ _ _ _ _ _ _ Hh s2h
              · exact tailG _ _ _ _ _ _ _ _ _ H22 (Same.refl _)
      · rintro σ H3 ⟨r, rfl, hr13, B3⟩
        refine ⟨_, rfl, by simp [hr13], fun b o e => ?_⟩
        have nb : b ≠ p := fun z => by rw [z, s2.free np] at e; cases e
        exact B3.get nb (s21 _ _ (s2 _ _ e))
    · rintro σ H2 ⟨r, rfl, hr17, s2⟩
      obtain ⟨o1, o2, o3, o4, o5, o6, o7, o8, o9, o10, o11, o12, o13, o14, o15, o16, o17, rfl⟩ : ∃ o1 o2 o3 o4 o5 o6 o7 o8 o9 o10 o11 o12 o13 o14 o15 o16 o17, r = [o1, o2, o3, o4, o5, o6, o7, o8, o9, o10, o11, o12, o13, o14, o15, o16, o17] := by
        match r, hr17 with
        | [o1, o2, o3, o4, o5, o6, o7, o8, o9, o10, o11, o12, o13, o14, o15, o16, o17], _ => exact ⟨_, _, _, _, _, _, _, _, _, _, _, _, _, _, _, _, _, rfl⟩
      simp only [and_assoc, tSeq, tAsg, tOp, tUn, rI, rI0, rU, tVar, tC, gName, L2.start, tIfS, tTest, tB, tCB, tCons, tNil, tIf, tRet, tRetN, tLst, tTup, tNext, tDrop, tNot, tNotV, tAnd, tOr, tAndV, tOrV, tPar, tAug, ipI, rEq, rNe, gSub, rSetL, rIxL, rIxT, tBM, tBM0, rAppend, rPopAt, gTup, gCons, gNil, tCall, tSl, tPart, tNoPart, rSlL, rCat, rEqD, rNeD, rIn, scal, List.map_cons, List.map_nil, List.length_cons, List.length_nil, List.length_map, List.cons_append, List.nil_append, List.append_nil, List.replicate, List.getElem?_cons_zero, List.getElem?_cons_succ, List.set_cons_zero, List.set_cons_succ, Option.some.injEq, exists_eq_left', exists_eq_left, exists_eq_right, exists_and_left, exists_and_right, V.int.injEq, V.ref.injEq, V.str.injEq, V.bl.injEq, reduceCtorEq, false_and, and_false, exists_false, or_false, false_or, true_and, and_true, List.cons.injEq, decide_eq_true_eq, cxOf, if_true, if_false, Bool.false_eq_true, Nat.reduceAdd, Nat.reduceSub, Nat.zero_add, Nat.add_sub_cancel_left, Nat.add_sub_cancel, Nat.sub_self, sFld, tFld, tFor_eq, tLc_eq, iRng1, iRng2, iList, iTup, iEnum, iEnumQ, rIsi, rIsiT, iSeq, wipe, tDNewK, tDGet2, sDPut, rSum, tRevL, rNeNil, tMake, tMeth, rReprD, rNeD, rEqD, tLockE, iKeys, tDGet, spMixed, tProp]
      exact q _

end
end He

namespace He
open PySem PySem.Spec PyProof.Rows L2
section
variable {P : Program} {w : World} {K : PySem.W.Frag} {mg : Str → Option Value} {base : Heap}
end
set_option maxHeartbeats 0 in
theorem all_mk {l : PySem.W.OpenLaw} {w : World} {K : PySem.W.Frag} {h : Heap} {mg : Str → Option Value} {fa cHeirError cInvalidWill cInvalidText cWill f0 f1 f2 f3 f4 f5 f6 f16 f17 f18 f19 f20 f21 f22 f23 f24 f25 f26 f27 f28 f29 f30 f31 f32 f33 f9 f14 f15 f10 rP f12 f11 pP11 : Addr} {rRest : List Value} {pL11 : List Value} (X : K.In h) (G : h.Ns mainGlobals mg) (hfa : mg "law" = some (.ref fa))
    {od0 an0 od1 an1 od2 an2 od3 an3 od4 an4 od5 an5 od6 an6 od16 an16 od17 an17 od18 an18 od19 an19 od20 an20 od21 an21 od22 an22 od23 an23 od24 an24 od25 an25 od26 an26 od27 an27 od28 an28 od29 an29 od30 an30 od31 an31 od32 an32 od33 an33 od9 an9 od14 an14 od15 an15 od10 an10 od12 an12 od11 an11 : Option Addr} {sl0 sl1 sl2 sl3 sl4 sl5 sl6 sl16 sl17 sl18 sl19 sl20 sl21 sl22 sl23 sl24 sl25 sl26 sl27 sl28 sl29 sl30 sl31 sl32 sl33 sl9 sl14 sl15 sl10 sl12 sl11 : Array (Option Value)} {oc0 kV0 dc0 pm0 cd0 ct0 oc1 kV1 dc1 pm1 cd1 ct1 oc2 kV2 dc2 pm2 cd2 ct2 oc3 kV3 dc3 pm3 cd3 ct3 oc4 kV4 dc4 pm4 cd4 ct4 oc5 kV5 dc5 pm5 cd5 ct5 oc6 kV6 dc6 pm6 cd6 ct6 oc16 kV16 dc16 pm16 cd16 ct16 oc17 kV17 dc17 pm17 cd17 ct17 oc18 kV18 dc18 pm18 cd18 ct18 oc19 kV19 dc19 pm19 cd19 ct19 oc20 kV20 dc20 pm20 cd20 ct20 oc21 kV21 dc21 pm21 cd21 ct21 oc22 kV22 dc22 pm22 cd22 ct22 oc23 kV23 dc23 pm23 cd23 ct23 oc24 kV24 dc24 pm24 cd24 ct24 oc25 kV25 dc25 pm25 cd25 ct25 oc26 kV26 dc26 pm26 cd26 ct26 oc27 kV27 dc27 pm27 cd27 ct27 oc28 kV28 dc28 pm28 cd28 ct28 oc29 kV29 dc29 pm29 cd29 ct29 oc30 kV30 dc30 pm30 cd30 ct30 oc31 kV31 dc31 pm31 cd31 ct31 oc32 kV32 dc32 pm32 cd32 ct32 oc33 kV33 dc33 pm33 cd33 ct33 oc9 kV9 dc9 pm9 cd9 ct9 oc14 kV14 dc14 pm14 cd14 ct14 oc15 kV15 dc15 pm15 cd15 ct15 oc10 kV10 dc10 pm10 cd10 ct10 oc12 kV12 dc12 pm12 cd12 ct12 oc11 kV11 dc11 pm11 cd11 ct11 : Value} {t_CROWN t_LONGEST_NAME t_WEIGHT_DIGITS : Tok}
    (gHeirError : PySem.W.nsIn K mainGlobals "HeirError" = some (some (.ref cHeirError)))
    (gInvalidWill : PySem.W.nsIn K mainGlobals "InvalidWill" = some (some (.ref cInvalidWill)))
    (gInvalidText : PySem.W.nsIn K mainGlobals "InvalidText" = some (some (.ref cInvalidText)))
    (gWill : PySem.W.nsIn K mainGlobals "Will" = some (some (.ref cWill)))
    (a0 : PySem.W.nsIn K mainGlobals "is_integer" = some (some (.ref f0)))
    (l0 : K.lookup f0 = some ⟨oc0, od0, .func (PySem.W.fnOf "is_integer" "is_integer" (defArgs sDIsInteger) (defBody sDIsInteger) (defScope sDIsInteger) .none kV0 dc0 pm0 an0 cd0 ct0), sl0⟩)
    (c0 : PySem.W.codeIn K cd0 "is_integer" = true)
    (k0 : PySem.W.keepIn K (.ref f0) = true)
    (a1 : PySem.W.nsIn K mainGlobals "is_name" = some (some (.ref f1)))
    (l1 : K.lookup f1 = some ⟨oc1, od1, .func (PySem.W.fnOf "is_name" "is_name" (defArgs sDIsName) (defBody sDIsName) (defScope sDIsName) .none kV1 dc1 pm1 an1 cd1 ct1), sl1⟩)
    (c1 : PySem.W.codeIn K cd1 "is_name" = true)
    (k1 : PySem.W.keepIn K (.ref f1) = true)
    (a2 : PySem.W.nsIn K mainGlobals "is_sequence" = some (some (.ref f2)))
    (l2 : K.lookup f2 = some ⟨oc2, od2, .func (PySem.W.fnOf "is_sequence" "is_sequence" (defArgs sDIsSequence) (defBody sDIsSequence) (defScope sDIsSequence) .none kV2 dc2 pm2 an2 cd2 ct2), sl2⟩)
    (c2 : PySem.W.codeIn K cd2 "is_sequence" = true)
    (k2 : PySem.W.keepIn K (.ref f2) = true)
    (a3 : PySem.W.nsIn K mainGlobals "is_pair" = some (some (.ref f3)))
    (l3 : K.lookup f3 = some ⟨oc3, od3, .func (PySem.W.fnOf "is_pair" "is_pair" (defArgs sDIsPair) (defBody sDIsPair) (defScope sDIsPair) .none kV3 dc3 pm3 an3 cd3 ct3), sl3⟩)
    (c3 : PySem.W.codeIn K cd3 "is_pair" = true)
    (k3 : PySem.W.keepIn K (.ref f3) = true)
    (a4 : PySem.W.nsIn K mainGlobals "read_number" = some (some (.ref f4)))
    (l4 : K.lookup f4 = some ⟨oc4, od4, .func (PySem.W.fnOf "read_number" "read_number" (defArgs sDReadNumber) (defBody sDReadNumber) (defScope sDReadNumber) .none kV4 dc4 pm4 an4 cd4 ct4), sl4⟩)
    (c4 : PySem.W.codeIn K cd4 "read_number" = true)
    (k4 : PySem.W.keepIn K (.ref f4) = true)
    (a5 : PySem.W.nsIn K mainGlobals "lowest" = some (some (.ref f5)))
    (l5 : K.lookup f5 = some ⟨oc5, od5, .func (PySem.W.fnOf "lowest" "lowest" (defArgs sDLowest) (defBody sDLowest) (defScope sDLowest) .none kV5 dc5 pm5 an5 cd5 ct5), sl5⟩)
    (c5 : PySem.W.codeIn K cd5 "lowest" = true)
    (k5 : PySem.W.keepIn K (.ref f5) = true)
    (a6 : PySem.W.nsIn K mainGlobals "plus" = some (some (.ref f6)))
    (l6 : K.lookup f6 = some ⟨oc6, od6, .func (PySem.W.fnOf "plus" "plus" (defArgs sDPlus) (defBody sDPlus) (defScope sDPlus) .none kV6 dc6 pm6 an6 cd6 ct6), sl6⟩)
    (c6 : PySem.W.codeIn K cd6 "plus" = true)
    (k6 : PySem.W.keepIn K (.ref f6) = true)
    (a16 : PySem.W.nsIn K mainGlobals "_are_shares" = some (some (.ref f16)))
    (l16 : K.lookup f16 = some ⟨oc16, od16, .func (PySem.W.fnOf "_are_shares" "_are_shares" (defArgs sDAreShares) (defBody sDAreShares) (defScope sDAreShares) .none kV16 dc16 pm16 an16 cd16 ct16), sl16⟩)
    (c16 : PySem.W.codeIn K cd16 "_are_shares" = true)
    (k16 : PySem.W.keepIn K (.ref f16) = true)
    (a17 : PySem.W.nsIn K mainGlobals "_is_share" = some (some (.ref f17)))
    (l17 : K.lookup f17 = some ⟨oc17, od17, .func (PySem.W.fnOf "_is_share" "_is_share" (defArgs sDIsShare) (defBody sDIsShare) (defScope sDIsShare) .none kV17 dc17 pm17 an17 cd17 ct17), sl17⟩)
    (c17 : PySem.W.codeIn K cd17 "_is_share" = true)
    (k17 : PySem.W.keepIn K (.ref f17) = true)
    (a18 : PySem.W.nsIn K mainGlobals "_is_group" = some (some (.ref f18)))
    (l18 : K.lookup f18 = some ⟨oc18, od18, .func (PySem.W.fnOf "_is_group" "_is_group" (defArgs sDIsGroup) (defBody sDIsGroup) (defScope sDIsGroup) .none kV18 dc18 pm18 an18 cd18 ct18), sl18⟩)
    (c18 : PySem.W.codeIn K cd18 "_is_group" = true)
    (k18 : PySem.W.keepIn K (.ref f18) = true)
    (a19 : PySem.W.nsIn K mainGlobals "_lots" = some (some (.ref f19)))
    (l19 : K.lookup f19 = some ⟨oc19, od19, .func (PySem.W.fnOf "_lots" "_lots" (defArgs sDLots) (defBody sDLots) (defScope sDLots) .none kV19 dc19 pm19 an19 cd19 ct19), sl19⟩)
    (c19 : PySem.W.codeIn K cd19 "_lots" = true)
    (k19 : PySem.W.keepIn K (.ref f19) = true)
    (a20 : PySem.W.nsIn K mainGlobals "_takers" = some (some (.ref f20)))
    (l20 : K.lookup f20 = some ⟨oc20, od20, .func (PySem.W.fnOf "_takers" "_takers" (defArgs sDTakers) (defBody sDTakers) (defScope sDTakers) .none kV20 dc20 pm20 an20 cd20 ct20), sl20⟩)
    (c20 : PySem.W.codeIn K cd20 "_takers" = true)
    (k20 : PySem.W.keepIn K (.ref f20) = true)
    (a21 : PySem.W.nsIn K mainGlobals "_share_text" = some (some (.ref f21)))
    (l21 : K.lookup f21 = some ⟨oc21, od21, .func (PySem.W.fnOf "_share_text" "_share_text" (defArgs sDShareText) (defBody sDShareText) (defScope sDShareText) .none kV21 dc21 pm21 an21 cd21 ct21), sl21⟩)
    (c21 : PySem.W.codeIn K cd21 "_share_text" = true)
    (k21 : PySem.W.keepIn K (.ref f21) = true)
    (a22 : PySem.W.nsIn K mainGlobals "_read_share" = some (some (.ref f22)))
    (l22 : K.lookup f22 = some ⟨oc22, od22, .func (PySem.W.fnOf "_read_share" "_read_share" (defArgs sDReadShare) (defBody sDReadShare) (defScope sDReadShare) .none kV22 dc22 pm22 an22 cd22 ct22), sl22⟩)
    (c22 : PySem.W.codeIn K cd22 "_read_share" = true)
    (k22 : PySem.W.keepIn K (.ref f22) = true)
    (a23 : PySem.W.nsIn K mainGlobals "_law_seed" = some (some (.ref f23)))
    (l23 : K.lookup f23 = some ⟨oc23, od23, .func (PySem.W.fnOf "_law_seed" "_law_seed" (defArgs sDLawSeed) (defBody sDLawSeed) (defScope sDLawSeed) .none kV23 dc23 pm23 an23 cd23 ct23), sl23⟩)
    (c23 : PySem.W.codeIn K cd23 "_law_seed" = true)
    (k23 : PySem.W.keepIn K (.ref f23) = true)
    (a24 : PySem.W.nsIn K mainGlobals "_law_choose" = some (some (.ref f24)))
    (l24 : K.lookup f24 = some ⟨oc24, od24, .func (PySem.W.fnOf "_law_choose" "_law_choose" (defArgs sDLawChoose) (defBody sDLawChoose) (defScope sDLawChoose) .none kV24 dc24 pm24 an24 cd24 ct24), sl24⟩)
    (c24 : PySem.W.codeIn K cd24 "_law_choose" = true)
    (k24 : PySem.W.keepIn K (.ref f24) = true)
    (a25 : PySem.W.nsIn K mainGlobals "_law_one_of" = some (some (.ref f25)))
    (l25 : K.lookup f25 = some ⟨oc25, od25, .func (PySem.W.fnOf "_law_one_of" "_law_one_of" (defArgs sDLawOneOf) (defBody sDLawOneOf) (defScope sDLawOneOf) .none kV25 dc25 pm25 an25 cd25 ct25), sl25⟩)
    (c25 : PySem.W.codeIn K cd25 "_law_one_of" = true)
    (k25 : PySem.W.keepIn K (.ref f25) = true)
    (a26 : PySem.W.nsIn K mainGlobals "_law_mixed" = some (some (.ref f26)))
    (l26 : K.lookup f26 = some ⟨oc26, od26, .func (PySem.W.fnOf "_law_mixed" "_law_mixed" (defArgs sDLawMixed) (defBody sDLawMixed) (defScope sDLawMixed) .none kV26 dc26 pm26 an26 cd26 ct26), sl26⟩)
    (c26 : PySem.W.codeIn K cd26 "_law_mixed" = true)
    (k26 : PySem.W.keepIn K (.ref f26) = true)
    (a27 : PySem.W.nsIn K mainGlobals "_law_names" = some (some (.ref f27)))
    (l27 : K.lookup f27 = some ⟨oc27, od27, .func (PySem.W.fnOf "_law_names" "_law_names" (defArgs sDLawNames) (defBody sDLawNames) (defScope sDLawNames) .none kV27 dc27 pm27 an27 cd27 ct27), sl27⟩)
    (c27 : PySem.W.codeIn K cd27 "_law_names" = true)
    (k27 : PySem.W.keepIn K (.ref f27) = true)
    (a28 : PySem.W.nsIn K mainGlobals "_law_group" = some (some (.ref f28)))
    (l28 : K.lookup f28 = some ⟨oc28, od28, .func (PySem.W.fnOf "_law_group" "_law_group" (defArgs sDLawGroup) (defBody sDLawGroup) (defScope sDLawGroup) .none kV28 dc28 pm28 an28 cd28 ct28), sl28⟩)
    (c28 : PySem.W.codeIn K cd28 "_law_group" = true)
    (k28 : PySem.W.keepIn K (.ref f28) = true)
    (a29 : PySem.W.nsIn K mainGlobals "_law_will" = some (some (.ref f29)))
    (l29 : K.lookup f29 = some ⟨oc29, od29, .func (PySem.W.fnOf "_law_will" "_law_will" (defArgs sDLawWill) (defBody sDLawWill) (defScope sDLawWill) .none kV29 dc29 pm29 an29 cd29 ct29), sl29⟩)
    (c29 : PySem.W.codeIn K cd29 "_law_will" = true)
    (k29 : PySem.W.keepIn K (.ref f29) = true)
    (a30 : PySem.W.nsIn K mainGlobals "_law_divisor" = some (some (.ref f30)))
    (l30 : K.lookup f30 = some ⟨oc30, od30, .func (PySem.W.fnOf "_law_divisor" "_law_divisor" (defArgs sDLawDivisor) (defBody sDLawDivisor) (defScope sDLawDivisor) .none kV30 dc30 pm30 an30 cd30 ct30), sl30⟩)
    (c30 : PySem.W.codeIn K cd30 "_law_divisor" = true)
    (k30 : PySem.W.keepIn K (.ref f30) = true)
    (a31 : PySem.W.nsIn K mainGlobals "_law_ratio" = some (some (.ref f31)))
    (l31 : K.lookup f31 = some ⟨oc31, od31, .func (PySem.W.fnOf "_law_ratio" "_law_ratio" (defArgs sDLawRatio) (defBody sDLawRatio) (defScope sDLawRatio) .none kV31 dc31 pm31 an31 cd31 ct31), sl31⟩)
    (c31 : PySem.W.codeIn K cd31 "_law_ratio" = true)
    (k31 : PySem.W.keepIn K (.ref f31) = true)
    (a32 : PySem.W.nsIn K mainGlobals "_law_plus" = some (some (.ref f32)))
    (l32 : K.lookup f32 = some ⟨oc32, od32, .func (PySem.W.fnOf "_law_plus" "_law_plus" (defArgs sDLawPlus) (defBody sDLawPlus) (defScope sDLawPlus) .none kV32 dc32 pm32 an32 cd32 ct32), sl32⟩)
    (c32 : PySem.W.codeIn K cd32 "_law_plus" = true)
    (k32 : PySem.W.keepIn K (.ref f32) = true)
    (a33 : PySem.W.nsIn K mainGlobals "law" = some (some (.ref f33)))
    (l33 : K.lookup f33 = some ⟨oc33, od33, .func (PySem.W.fnOf "law" "law" (defArgs sDLaw) (defBody sDLaw) (defScope sDLaw) .none kV33 dc33 pm33 an33 cd33 ct33), sl33⟩)
    (c33 : PySem.W.codeIn K cd33 "law" = true)
    (k33 : PySem.W.keepIn K (.ref f33) = true)
    (z_abs : PySem.W.nsIn K mainGlobals "abs" = some none)
    (z_all : PySem.W.nsIn K mainGlobals "all" = some none)
    (z_bool : PySem.W.nsIn K mainGlobals "bool" = some none)
    (z_classmethod : PySem.W.nsIn K mainGlobals "classmethod" = some none)
    (z_enumerate : PySem.W.nsIn K mainGlobals "enumerate" = some none)
    (z_int : PySem.W.nsIn K mainGlobals "int" = some none)
    (z_isinstance : PySem.W.nsIn K mainGlobals "isinstance" = some none)
    (z_len : PySem.W.nsIn K mainGlobals "len" = some none)
    (z_list : PySem.W.nsIn K mainGlobals "list" = some none)
    (z_max : PySem.W.nsIn K mainGlobals "max" = some none)
    (z_min : PySem.W.nsIn K mainGlobals "min" = some none)
    (z_property : PySem.W.nsIn K mainGlobals "property" = some none)
    (z_range : PySem.W.nsIn K mainGlobals "range" = some none)
    (z_set : PySem.W.nsIn K mainGlobals "set" = some none)
    (z_sorted : PySem.W.nsIn K mainGlobals "sorted" = some none)
    (z_str : PySem.W.nsIn K mainGlobals "str" = some none)
    (z_sum : PySem.W.nsIn K mainGlobals "sum" = some none)
    (z_tuple : PySem.W.nsIn K mainGlobals "tuple" = some none)
    (q_CROWN : PySem.W.nsIn K mainGlobals "CROWN" = some (some (.str "crown" t_CROWN)))
    (q_LONGEST_NAME : PySem.W.nsIn K mainGlobals "LONGEST_NAME" = some (some (.int 5 t_LONGEST_NAME)))
    (q_WEIGHT_DIGITS : PySem.W.nsIn K mainGlobals "WEIGHT_DIGITS" = some (some (.int 6 t_WEIGHT_DIGITS)))
    (q_gcd : PySem.W.nsIn K mainGlobals "gcd" = some (some (.builtin "math.gcd")))
    (a9 : PySem.W.findIn K (.ref cWill) "__init__" = some (some (.ref f9)))
    (i9 : PySem.W.isFn K (.ref f9) = true)
    (l9 : K.lookup f9 = some ⟨oc9, od9, .func (PySem.W.fnOf "__init__" "Will.__init__" (defArgs sDWillInit) (defBody sDWillInit) (defScope sDWillInit) .none kV9 dc9 pm9 an9 cd9 ct9), sl9⟩)
    (c9 : PySem.W.codeIn K cd9 "Will.__init__" = true)
    (k9 : PySem.W.keepIn K (.ref f9) = true)
    (a14 : PySem.W.findIn K (.ref cWill) "__eq__" = some (some (.ref f14)))
    (i14 : PySem.W.isFn K (.ref f14) = true)
    (l14 : K.lookup f14 = some ⟨oc14, od14, .func (PySem.W.fnOf "__eq__" "Will.__eq__" (defArgs sDWillEq) (defBody sDWillEq) (defScope sDWillEq) .none kV14 dc14 pm14 an14 cd14 ct14), sl14⟩)
    (c14 : PySem.W.codeIn K cd14 "Will.__eq__" = true)
    (k14 : PySem.W.keepIn K (.ref f14) = true)
    (a15 : PySem.W.findIn K (.ref cWill) "__str__" = some (some (.ref f15)))
    (i15 : PySem.W.isFn K (.ref f15) = true)
    (l15 : K.lookup f15 = some ⟨oc15, od15, .func (PySem.W.fnOf "__str__" "Will.__str__" (defArgs sDWillStr) (defBody sDWillStr) (defScope sDWillStr) .none kV15 dc15 pm15 an15 cd15 ct15), sl15⟩)
    (c15 : PySem.W.codeIn K cd15 "Will.__str__" = true)
    (k15 : PySem.W.keepIn K (.ref f15) = true)
    (rAt : PySem.W.findCls K (.ref cWill) (.type "type") "read" = some (.get (.builtin "classmethod.__get__") (.ref rP) .none (.ref cWill)))
    (rRc : PySem.W.recIn K rP "classmethod" = some (.ref f10 :: rRest))
    (rFi : PySem.W.fnIn K f10 = true)
    (l10 : K.lookup f10 = some ⟨oc10, od10, .func (PySem.W.fnOf "read" "Will.read" (defArgs sDWillRead) (defBody sDWillRead) (defScope sDWillRead) .none kV10 dc10 pm10 an10 cd10 ct10), sl10⟩)
    (c10 : PySem.W.codeIn K cd10 "Will.read" = true)
    (k10 : PySem.W.keepIn K (.ref f10) = true)
    (rRd : PySem.W.readsIn K cWill (.type "type") = true)
    (rGa : PySem.W.specialIn K (.ref cWill) "__getattribute__" = some (some (.builtin "type.__getattribute__")))
    (pg : PySem.W.plainGet K cWill Str.empty = true)
    (hd : PySem.W.hasDictIn K cWill = true)
    (po : PySem.W.plainOver K cWill = true)
    (sa : PySem.W.findIn K (.ref cWill) "__setattr__" = some (some (.builtin "object.__setattr__")))
    (nS : PySem.W.findIn K (.ref cWill) "shares" = some none)
    (mk : PySem.W.makesIn K cWill = true)
    (kc : PySem.W.keepIn K (.ref cWill) = true)
    (oNe : PySem.W.findIn K (.ref cWill) "__ne__" = some (some (.builtin "object.__ne__")))
    (oOb : PySem.W.mroIn K cWill (.type "object") = some true)
    (kCl : PySem.W.findIn K (.ref cWill) "__class__" = some (some (.builtin "object.__class__")))
    (kGt : PySem.W.specialIn K (.builtin "object.__class__") "__get__" = some (some (.builtin "getset_descriptor.__get__")))
    (kTk : PySem.W.takesIn K (.builtin "object.__class__") = some true)
    (a12 : PySem.W.findIn K (.ref cWill) "heirs" = some (some (.ref f12)))
    (i12 : PySem.W.isFn K (.ref f12) = true)
    (l12 : K.lookup f12 = some ⟨oc12, od12, .func (PySem.W.fnOf "heirs" "Will.heirs" (defArgs sDWillHeirs) (defBody sDWillHeirs) (defScope sDWillHeirs) .none kV12 dc12 pm12 an12 cd12 ct12), sl12⟩)
    (c12 : PySem.W.codeIn K cd12 "Will.heirs" = true)
    (k12 : PySem.W.keepIn K (.ref f12) = true)
    (pA11 : PySem.W.findIn K (.ref cWill) "names" = some (some (.ref pP11)))
    (pG11 : PySem.W.specialIn K (.ref pP11) "__get__" = some (some (.builtin "property.__get__")))
    (pT11 : PySem.W.takesIn K (.ref pP11) = some true)
    (pR11 : PySem.W.recIn K pP11 "property" = some (.ref f11 :: pL11))
    (l11 : K.lookup f11 = some ⟨oc11, od11, .func (PySem.W.fnOf "names" "Will.names" (defArgs sDWillNames) (defBody sDWillNames) (defScope sDWillNames) .none kV11 dc11 pm11 an11 cd11 ct11), sl11⟩)
    (c11 : PySem.W.codeIn K cd11 "Will.names" = true)
    (k11 : PySem.W.keepIn K (.ref f11) = true)
    : ∃ fd : FuncData, (∀ (s : Shared) (v : Value), BindsTo s fd ⟨[v], []⟩ [("_law_script", v)]) ∧ ∀ base : Heap, K.In base → base.Ns mainGlobals mg → FnOk l.prog w K mg base CX0 12 fa fd ["_law_script"] (spLaw K) := by
  have e := hfa.symm.trans (PySem.W.mg_of X G a33)
  cases e
  have F0 := fun_mk (st := sDIsInteger) l0 c0 k0
  have b0 := F0.binds (ps := ["value"]) fun _ _ _ _ _ _ us hl => match us, hl with | [_], _ => rfl
  have F1 := fun_mk (st := sDIsName) l1 c1 k1
  have b1 := F1.binds (ps := ["value"]) fun _ _ _ _ _ _ us hl => match us, hl with | [_], _ => rfl
  have F2 := fun_mk (st := sDIsSequence) l2 c2 k2
  have b2 := F2.binds (ps := ["value"]) fun _ _ _ _ _ _ us hl => match us, hl with | [_], _ => rfl
  have F3 := fun_mk (st := sDIsPair) l3 c3 k3
  have b3 := F3.binds (ps := ["value"]) fun _ _ _ _ _ _ us hl => match us, hl with | [_], _ => rfl
  have F4 := fun_mk (st := sDReadNumber) l4 c4 k4
  have b4 := F4.binds (ps := ["word", "digits"]) fun _ _ _ _ _ _ us hl => match us, hl with | [_, _], _ => rfl
  have F5 := fun_mk (st := sDLowest) l5 c5 k5
  have b5 := F5.binds (ps := ["above", "below"]) fun _ _ _ _ _ _ us hl => match us, hl with | [_, _], _ => rfl
  have F6 := fun_mk (st := sDPlus) l6 c6 k6
  have b6 := F6.binds (ps := ["left", "right"]) fun _ _ _ _ _ _ us hl => match us, hl with | [_, _], _ => rfl
  have F16 := fun_mk (st := sDAreShares) l16 c16 k16
  have b16 := F16.binds (ps := ["value"]) fun _ _ _ _ _ _ us hl => match us, hl with | [_], _ => rfl
  have F17 := fun_mk (st := sDIsShare) l17 c17 k17
  have b17 := F17.binds (ps := ["value"]) fun _ _ _ _ _ _ us hl => match us, hl with | [_], _ => rfl
  have F18 := fun_mk (st := sDIsGroup) l18 c18 k18
  have b18 := F18.binds (ps := ["value"]) fun _ _ _ _ _ _ us hl => match us, hl with | [_], _ => rfl
  have F19 := fun_mk (st := sDLots) l19 c19 k19
  have b19 := F19.binds (ps := ["groups"]) fun _ _ _ _ _ _ us hl => match us, hl with | [_], _ => rfl
  have F20 := fun_mk (st := sDTakers) l20 c20 k20
  have b20 := F20.binds (ps := ["groups", "alive"]) fun _ _ _ _ _ _ us hl => match us, hl with | [_, _], _ => rfl
  have F21 := fun_mk (st := sDShareText) l21 c21 k21
  have b21 := F21.binds (ps := ["weight", "groups"]) fun _ _ _ _ _ _ us hl => match us, hl with | [_, _], _ => rfl
  have F22 := fun_mk (st := sDReadShare) l22 c22 k22
  have b22 := F22.binds (ps := ["part"]) fun _ _ _ _ _ _ us hl => match us, hl with | [_], _ => rfl
  have F23 := fun_mk (st := sDLawSeed) l23 c23 k23
  have b23 := F23.binds (ps := ["_law_script", "_law_k"]) fun _ _ _ _ _ _ us hl => match us, hl with | [_, _], _ => rfl
  have F24 := fun_mk (st := sDLawChoose) l24 c24 k24
  have b24 := F24.binds (ps := ["_law_box", "_law_many"]) fun _ _ _ _ _ _ us hl => match us, hl with | [_, _], _ => rfl
  have F25 := fun_mk (st := sDLawOneOf) l25 c25 k25
  have b25 := F25.binds (ps := ["_law_box", "_law_some"]) fun _ _ _ _ _ _ us hl => match us, hl with | [_, _], _ => rfl
  have F26 := fun_mk (st := sDLawMixed) l26 c26 k26
  have b26 := F26.binds (ps := ["_law_box", "_law_some"]) fun _ _ _ _ _ _ us hl => match us, hl with | [_, _], _ => rfl
  have F27 := fun_mk (st := sDLawNames) l27 c27 k27
  have b27 := F27.binds (ps := ["_law_box", "_law_many"]) fun _ _ _ _ _ _ us hl => match us, hl with | [_, _], _ => rfl
  have F28 := fun_mk (st := sDLawGroup) l28 c28 k28
  have b28 := F28.binds (ps := ["_law_box", "_law_some"]) fun _ _ _ _ _ _ us hl => match us, hl with | [_, _], _ => rfl
  have F29 := fun_mk (st := sDLawWill) l29 c29 k29
  have b29 := F29.binds (ps := ["_law_box", "_law_others"]) fun _ _ _ _ _ _ us hl => match us, hl with | [_, _], _ => rfl
  have F30 := fun_mk (st := sDLawDivisor) l30 c30 k30
  have b30 := F30.binds (ps := ["_law_one", "_law_other"]) fun _ _ _ _ _ _ us hl => match us, hl with | [_, _], _ => rfl
  have F31 := fun_mk (st := sDLawRatio) l31 c31 k31
  have b31 := F31.binds (ps := ["_law_upper", "_law_lower"]) fun _ _ _ _ _ _ us hl => match us, hl with | [_, _], _ => rfl
  have F32 := fun_mk (st := sDLawPlus) l32 c32 k32
  have b32 := F32.binds (ps := ["_law_one", "_law_other"]) fun _ _ _ _ _ _ us hl => match us, hl with | [_, _], _ => rfl
  have F33 := fun_mk (st := sDLaw) l33 c33 k33
  have b33 := F33.binds (ps := ["_law_script"]) fun _ _ _ _ _ _ us hl => match us, hl with | [_], _ => rfl
  have F9 := fun_mk (st := sDWillInit) l9 c9 k9
  have b9 := F9.binds (ps := ["self", "shares"]) fun _ _ _ _ _ _ us hl => match us, hl with | [_, _], _ => rfl
  have F14 := fun_mk (st := sDWillEq) l14 c14 k14
  have b14 := F14.binds (ps := ["self", "other"]) fun _ _ _ _ _ _ us hl => match us, hl with | [_, _], _ => rfl
  have F15 := fun_mk (st := sDWillStr) l15 c15 k15
  have b15 := F15.binds (ps := ["self"]) fun _ _ _ _ _ _ us hl => match us, hl with | [_], _ => rfl
  have F10 := fun_mk (st := sDWillRead) l10 c10 k10
  have b10 := F10.binds (ps := ["cls", "text"]) fun _ _ _ _ _ _ us hl => match us, hl with | [_, _], _ => rfl
  have F12 := fun_mk (st := sDWillHeirs) l12 c12 k12
  have b12 := F12.binds (ps := ["self", "alive"]) fun _ _ _ _ _ _ us hl => match us, hl with | [_, _], _ => rfl
  have F11 := fun_mk (st := sDWillNames) l11 c11 k11
  have b11 := F11.binds (ps := ["self"]) fun _ _ _ _ _ _ us hl => match us, hl with | [_], _ => rfl
  exact ⟨PySem.W.fnOf "law" "law" (defArgs sDLaw) (defBody sDLaw) (defScope sDLaw) .none kV33 dc33 pm33 an33 cd33 ct33, fun s v => .of_eq rfl, fun base _ _ => ok_law (K := K) (mg := mg) ⟨⟨⟨⟨cHeirError, (PySem.W.mg_of X G gHeirError), cInvalidWill, (PySem.W.mg_of X G gInvalidWill), cInvalidText, (PySem.W.mg_of X G gInvalidText), cWill, (PySem.W.mg_of X G gWill), ⟨f0, _, F0, b0, PySem.W.mg_of X G a0⟩, ⟨f1, _, F1, b1, PySem.W.mg_of X G a1⟩, ⟨f2, _, F2, b2, PySem.W.mg_of X G a2⟩, ⟨f3, _, F3, b3, PySem.W.mg_of X G a3⟩, ⟨f4, _, F4, b4, PySem.W.mg_of X G a4⟩, ⟨f5, _, F5, b5, PySem.W.mg_of X G a5⟩, ⟨f6, _, F6, b6, PySem.W.mg_of X G a6⟩, ⟨f16, _, F16, b16, PySem.W.mg_of X G a16⟩, ⟨f17, _, F17, b17, PySem.W.mg_of X G a17⟩, ⟨f18, _, F18, b18, PySem.W.mg_of X G a18⟩, ⟨f19, _, F19, b19, PySem.W.mg_of X G a19⟩, ⟨f20, _, F20, b20, PySem.W.mg_of X G a20⟩, ⟨f21, _, F21, b21, PySem.W.mg_of X G a21⟩, ⟨f22, _, F22, b22, PySem.W.mg_of X G a22⟩, ⟨f23, _, F23, b23, PySem.W.mg_of X G a23⟩, ⟨f24, _, F24, b24, PySem.W.mg_of X G a24⟩, ⟨f25, _, F25, b25, PySem.W.mg_of X G a25⟩, ⟨f26, _, F26, b26, PySem.W.mg_of X G a26⟩, ⟨f27, _, F27, b27, PySem.W.mg_of X G a27⟩, ⟨f28, _, F28, b28, PySem.W.mg_of X G a28⟩, ⟨f29, _, F29, b29, PySem.W.mg_of X G a29⟩, ⟨f30, _, F30, b30, PySem.W.mg_of X G a30⟩, ⟨f31, _, F31, b31, PySem.W.mg_of X G a31⟩, ⟨f32, _, F32, b32, PySem.W.mg_of X G a32⟩, ⟨fa, _, F33, b33, PySem.W.mg_of X G a33⟩, (PySem.W.mg_none_of X G z_abs), (PySem.W.mg_none_of X G z_all), (PySem.W.mg_none_of X G z_bool), (PySem.W.mg_none_of X G z_classmethod), (PySem.W.mg_none_of X G z_enumerate), (PySem.W.mg_none_of X G z_int), (PySem.W.mg_none_of X G z_isinstance), (PySem.W.mg_none_of X G z_len), (PySem.W.mg_none_of X G z_list), (PySem.W.mg_none_of X G z_max), (PySem.W.mg_none_of X G z_min), (PySem.W.mg_none_of X G z_property), (PySem.W.mg_none_of X G z_range), (PySem.W.mg_none_of X G z_set), (PySem.W.mg_none_of X G z_sorted), (PySem.W.mg_none_of X G z_str), (PySem.W.mg_none_of X G z_sum), (PySem.W.mg_none_of X G z_tuple), ⟨_, PySem.W.mg_of X G q_CROWN⟩, ⟨_, PySem.W.mg_of X G q_LONGEST_NAME⟩, ⟨_, PySem.W.mg_of X G q_WEIGHT_DIGITS⟩, (PySem.W.mg_of X G q_gcd)⟩, ⟨pg, hd, po, sa⟩, nS, f9, _, F9, b9, ⟨mk, a9, i9, kc⟩, f14, _, F14, b14, f15, _, F15, b15, ⟨oNe, oOb, a14, i14, a15, i15⟩, rP, (.type "type"), f10, _, F10, b10, ⟨rRd, rGa⟩, ⟨rAt, ⟨_, rRc⟩, rFi⟩, (fun e => .ins e ⟨pg, hd, po, sa⟩ kCl kGt kTk oOb), (if_pos (beq_iff_eq.mpr rfl))⟩, f12, _, F12, b12, ⟨a12, i12, k12⟩⟩, pP11, f11, _, F11, b11, ⟨pA11, pG11, pT11, ⟨_, pR11⟩⟩⟩⟩
end He
open PySem PySem.W PyProof.Rows
set_option maxHeartbeats 0 in
theorem PySem.Challenge.cw_heirorders_k07_whole_fractions_come_to_o_holds : PySem.Challenge.rw_heirorders_k07_whole_fractions_come_to_o.Holds := by
  w_on; o_law; k_head; (case hw => w_witness2)
  k_fill
  refine L2.walk_of (l := PySem.Challenge.rw_heirorders_k07_whole_fractions_come_to_o) (n := 63) (k := 12) (x := "_law_script") (CX := fun _ => L2.CX0) (sp := fun w => He.spLaw _) rfl (by decide) rfl ⟨rfl, by decide, by decide⟩ (fun w h Y => PySem.W.kIn_of Y) ?F (fun _ _ a ns hl _ hS => ⟨a, ns, rfl, hS, hl, fun _ => rfl⟩) (fun _ _ _ _ _ h => h)
  case F =>
    intro w mg fa h KX G hmg
    refine' He.all_mk KX G hmg ?gHeirError ?gInvalidWill ?gInvalidText ?gWill ?a0 ?l0 ?c0 ?k0 ?a1 ?l1 ?c1 ?k1 ?a2 ?l2 ?c2 ?k2 ?a3 ?l3 ?c3 ?k3 ?a4 ?l4 ?c4 ?k4 ?a5 ?l5 ?c5 ?k5 ?a6 ?l6 ?c6 ?k6 ?a16 ?l16 ?c16 ?k16 ?a17 ?l17 ?c17 ?k17 ?a18 ?l18 ?c18 ?k18 ?a19 ?l19 ?c19 ?k19 ?a20 ?l20 ?c20 ?k20 ?a21 ?l21 ?c21 ?k21 ?a22 ?l22 ?c22 ?k22 ?a23 ?l23 ?c23 ?k23 ?a24 ?l24 ?c24 ?k24 ?a25 ?l25 ?c25 ?k25 ?a26 ?l26 ?c26 ?k26 ?a27 ?l27 ?c27 ?k27 ?a28 ?l28 ?c28 ?k28 ?a29 ?l29 ?c29 ?k29 ?a30 ?l30 ?c30 ?k30 ?a31 ?l31 ?c31 ?k31 ?a32 ?l32 ?c32 ?k32 ?a33 ?l33 ?c33 ?k33 ?z_abs ?z_all ?z_bool ?z_classmethod ?z_enumerate ?z_int ?z_isinstance ?z_len ?z_list ?z_max ?z_min ?z_property ?z_range ?z_set ?z_sorted ?z_str ?z_sum ?z_tuple ?q_CROWN ?q_LONGEST_NAME ?q_WEIGHT_DIGITS ?q_gcd ?a9 ?i9 ?l9 ?c9 ?k9 ?a14 ?i14 ?l14 ?c14 ?k14 ?a15 ?i15 ?l15 ?c15 ?k15 ?rAt ?rRc ?rFi ?l10 ?c10 ?k10 ?rRd ?rGa ?pg ?hd ?po ?sa ?nS ?mk ?kc ?oNe ?oOb ?kCl ?kGt ?kTk ?a12 ?i12 ?l12 ?c12 ?k12 ?pA11 ?pG11 ?pT11 ?pR11 ?l11 ?c11 ?k11
    (case gHeirError => k_is)
    (case gInvalidWill => k_is)
    (case gInvalidText => k_is)
    (case gWill => k_is)
    (case a0 => k_is)
    (case l0 => k_is)
    (case c0 => k_is)
    (case k0 => k_is)
    (case a1 => k_is)
    (case l1 => k_is)
    (case c1 => k_is)
    (case k1 => k_is)
    (case a2 => k_is)
    (case l2 => k_is)
    (case c2 => k_is)
    (case k2 => k_is)
    (case a3 => k_is)
    (case l3 => k_is)
    (case c3 => k_is)
    (case k3 => k_is)
    (case a4 => k_is)
    (case l4 => k_is)
    (case c4 => k_is)
    (case k4 => k_is)
    (case a5 => k_is)
    (case l5 => k_is)
    (case c5 => k_is)
    (case k5 => k_is)
    (case a6 => k_is)
    (case l6 => k_is)
    (case c6 => k_is)
    (case k6 => k_is)
    (case a16 => k_is)
    (case l16 => k_is)
    (case c16 => k_is)
    (case k16 => k_is)
    (case a17 => k_is)
    (case l17 => k_is)
    (case c17 => k_is)
    (case k17 => k_is)
    (case a18 => k_is)
    (case l18 => k_is)
    (case c18 => k_is)
    (case k18 => k_is)
    (case a19 => k_is)
    (case l19 => k_is)
    (case c19 => k_is)
    (case k19 => k_is)
    (case a20 => k_is)
    (case l20 => k_is)
    (case c20 => k_is)
    (case k20 => k_is)
    (case a21 => k_is)
    (case l21 => k_is)
    (case c21 => k_is)
    (case k21 => k_is)
    (case a22 => k_is)
    (case l22 => k_is)
    (case c22 => k_is)
    (case k22 => k_is)
    (case a23 => k_is)
    (case l23 => k_is)
    (case c23 => k_is)
    (case k23 => k_is)
    (case a24 => k_is)
    (case l24 => k_is)
    (case c24 => k_is)
    (case k24 => k_is)
    (case a25 => k_is)
    (case l25 => k_is)
    (case c25 => k_is)
    (case k25 => k_is)
    (case a26 => k_is)
    (case l26 => k_is)
    (case c26 => k_is)
    (case k26 => k_is)
    (case a27 => k_is)
    (case l27 => k_is)
    (case c27 => k_is)
    (case k27 => k_is)
    (case a28 => k_is)
    (case l28 => k_is)
    (case c28 => k_is)
    (case k28 => k_is)
    (case a29 => k_is)
    (case l29 => k_is)
    (case c29 => k_is)
    (case k29 => k_is)
    (case a30 => k_is)
    (case l30 => k_is)
    (case c30 => k_is)
    (case k30 => k_is)
    (case a31 => k_is)
    (case l31 => k_is)
    (case c31 => k_is)
    (case k31 => k_is)
    (case a32 => k_is)
    (case l32 => k_is)
    (case c32 => k_is)
    (case k32 => k_is)
    (case a33 => k_is)
    (case l33 => k_is)
    (case c33 => k_is)
    (case k33 => k_is)
    (case z_abs => k_is)
    (case z_all => k_is)
    (case z_bool => k_is)
    (case z_classmethod => k_is)
    (case z_enumerate => k_is)
    (case z_int => k_is)
    (case z_isinstance => k_is)
    (case z_len => k_is)
    (case z_list => k_is)
    (case z_max => k_is)
    (case z_min => k_is)
    (case z_property => k_is)
    (case z_range => k_is)
    (case z_set => k_is)
    (case z_sorted => k_is)
    (case z_str => k_is)
    (case z_sum => k_is)
    (case z_tuple => k_is)
    (case q_CROWN => k_is)
    (case q_LONGEST_NAME => k_is)
    (case q_WEIGHT_DIGITS => k_is)
    (case q_gcd => k_is)
    (case a9 => k_is)
    (case i9 => k_is)
    (case l9 => k_is)
    (case c9 => k_is)
    (case k9 => k_is)
    (case a14 => k_is)
    (case i14 => k_is)
    (case l14 => k_is)
    (case c14 => k_is)
    (case k14 => k_is)
    (case a15 => k_is)
    (case i15 => k_is)
    (case l15 => k_is)
    (case c15 => k_is)
    (case k15 => k_is)
    (case rAt => k_is)
    (case rRc => k_is)
    (case rFi => k_is)
    (case l10 => k_is)
    (case c10 => k_is)
    (case k10 => k_is)
    (case rRd => k_is)
    (case rGa => k_is)
    (case pg => k_is)
    (case hd => k_is)
    (case po => k_is)
    (case sa => k_is)
    (case nS => k_is)
    (case mk => k_is)
    (case kc => k_is)
    (case oNe => k_is)
    (case oOb => k_is)
    (case kCl => k_is)
    (case kGt => k_is)
    (case kTk => k_is)
    (case a12 => k_is)
    (case i12 => k_is)
    (case l12 => k_is)
    (case c12 => k_is)
    (case k12 => k_is)
    (case pA11 => k_is)
    (case pG11 => k_is)
    (case pT11 => k_is)
    (case pR11 => k_is)
    (case l11 => k_is)
    (case c11 => k_is)
    (case k11 => k_is)
#print axioms PySem.Challenge.cw_heirorders_k07_whole_fractions_come_to_o_holds
