import PyProof.Rows.All
import Wide.All
import OpenK.AllK
import Wide.FinOn
import HandS.ForMost
import HandS.StrMore
import HandS.IsInst
import HandS.Codes
import HandS.Strs
import HandS.More
import KE.KCallOwn
import HandS.ClsMeth
import HandS.FStr
import HandS.Walk
import KE.GoesMore
import HandS.DictTup
import KE.KSortTupAny
import PyProof.ReprRoads
import PyProof.ReprLen
import PyProof.FitsInt
import HandS.Gcd
import HandS.Wide
import HandS.Style
import HandS.RaiseMore
import PySem.Challenge.RW_heirorders_k06_fractions_of_heirs
set_option Elab.async false
set_option linter.all false
set_option maxRecDepth 100000
set_option maxHeartbeats 4000000
namespace He
open PySem PySem.Spec PyProof.Rows L2
def topS (i : Nat) : Stmt := PySem.Challenge.pw_heirorders_k06_fractions_of_heirs.main.body.getD i (.Pass ⟨0, 0, 0, 0⟩)
abbrev sDIsInteger : Stmt := topS 5
abbrev sDIsName : Stmt := topS 6
abbrev sDIsSequence : Stmt := topS 7
abbrev sDIsPair : Stmt := topS 8
abbrev sDReadNumber : Stmt := topS 9
abbrev sDLowest : Stmt := topS 10
abbrev sDPlus : Stmt := topS 11
abbrev sDInvalidWillInit : Stmt := inClass (topS 14) 0
abbrev sDInvalidTextInit : Stmt := inClass (topS 15) 0
abbrev sDWillInit : Stmt := inClass (topS 18) 0
abbrev sDWillRead : Stmt := inClass (topS 18) 1
abbrev sDWillHeirs : Stmt := inClass (topS 18) 3
abbrev sDWillLen : Stmt := inClass (topS 18) 4
abbrev sDWillEq : Stmt := inClass (topS 18) 5
abbrev sDWillStr : Stmt := inClass (topS 18) 6
abbrev sDAreShares : Stmt := topS 19
abbrev sDIsShare : Stmt := topS 20
abbrev sDIsGroup : Stmt := topS 21
abbrev sDLots : Stmt := topS 22
abbrev sDTakers : Stmt := topS 23
abbrev sDShareText : Stmt := topS 24
abbrev sDReadShare : Stmt := topS 25
abbrev sDLawSeed : Stmt := topS 27
abbrev sDLawChoose : Stmt := topS 28
abbrev sDLawOneOf : Stmt := topS 29
abbrev sDLawMixed : Stmt := topS 30
abbrev sDLawNames : Stmt := topS 31
abbrev sDLawGroup : Stmt := topS 32
abbrev sDLawWill : Stmt := topS 33
abbrev sDLawDivisor : Stmt := topS 34
abbrev sDLawRatio : Stmt := topS 35
abbrev sDLawPlus : Stmt := topS 36
abbrev sDLawHeirs : Stmt := topS 37
abbrev sDLaw : Stmt := topS 38
theorem scDIsInteger : FnScope ["value"] ["value"] (defScope sDIsInteger) := ⟨rfl, rfl, rfl, by decide +kernel, rfl, by decide +kernel, by decide +kernel⟩
theorem scDIsName : FnScope ["value"] ["value"] (defScope sDIsName) := ⟨rfl, rfl, rfl, by decide +kernel, rfl, by decide +kernel, by decide +kernel⟩
theorem scDIsSequence : FnScope ["value"] ["value"] (defScope sDIsSequence) := ⟨rfl, rfl, rfl, by decide +kernel, rfl, by decide +kernel, by decide +kernel⟩
theorem scDIsPair : FnScope ["value"] ["value"] (defScope sDIsPair) := ⟨rfl, rfl, rfl, by decide +kernel, rfl, by decide +kernel, by decide +kernel⟩
theorem scDReadNumber : FnScope ["word", "digits"] ["word", "digits"] (defScope sDReadNumber) := ⟨rfl, rfl, rfl, by decide +kernel, rfl, by decide +kernel, by decide +kernel⟩
theorem scDLowest : FnScope ["above", "below", "common"] ["above", "below"] (defScope sDLowest) := ⟨rfl, rfl, rfl, by decide +kernel, rfl, by decide +kernel, by decide +kernel⟩
theorem scDPlus : FnScope ["left", "right"] ["left", "right"] (defScope sDPlus) := ⟨rfl, rfl, rfl, by decide +kernel, rfl, by decide +kernel, by decide +kernel⟩
theorem scDInvalidWillInit : FnScope ["self", "word"] ["self", "word"] (defScope sDInvalidWillInit) := ⟨rfl, rfl, rfl, by decide +kernel, rfl, by decide +kernel, by decide +kernel⟩
theorem scDInvalidTextInit : FnScope ["self", "at"] ["self", "at"] (defScope sDInvalidTextInit) := ⟨rfl, rfl, rfl, by decide +kernel, rfl, by decide +kernel, by decide +kernel⟩
theorem scDWillInit : FnScope ["self", "shares", "weight", "groups"] ["self", "shares"] (defScope sDWillInit) := ⟨rfl, rfl, rfl, by decide +kernel, rfl, by decide +kernel, by decide +kernel⟩
theorem scDWillRead : FnScope ["cls", "text", "shares", "at", "part", "share"] ["cls", "text"] (defScope sDWillRead) := ⟨rfl, rfl, rfl, by decide +kernel, rfl, by decide +kernel, by decide +kernel⟩
theorem scDWillHeirs : FnScope ["self", "alive", "total", "weight", "_", "parts", "groups", "takers", "part", "name"] ["self", "alive"] (defScope sDWillHeirs) := ⟨rfl, rfl, rfl, by decide +kernel, rfl, by decide +kernel, by decide +kernel⟩
theorem scDWillLen : FnScope ["self"] ["self"] (defScope sDWillLen) := ⟨rfl, rfl, rfl, by decide +kernel, rfl, by decide +kernel, by decide +kernel⟩
theorem scDWillEq : FnScope ["self", "other"] ["self", "other"] (defScope sDWillEq) := ⟨rfl, rfl, rfl, by decide +kernel, rfl, by decide +kernel, by decide +kernel⟩
theorem scDWillStr : FnScope ["self", "weight", "groups"] ["self"] (defScope sDWillStr) := ⟨rfl, rfl, rfl, by decide +kernel, rfl, by decide +kernel, by decide +kernel⟩
theorem scDAreShares : FnScope ["value", "share"] ["value"] (defScope sDAreShares) := ⟨rfl, rfl, rfl, by decide +kernel, rfl, by decide +kernel, by decide +kernel⟩
theorem scDIsShare : FnScope ["value", "weight", "groups", "group"] ["value"] (defScope sDIsShare) := ⟨rfl, rfl, rfl, by decide +kernel, rfl, by decide +kernel, by decide +kernel⟩
theorem scDIsGroup : FnScope ["value", "name"] ["value"] (defScope sDIsGroup) := ⟨rfl, rfl, rfl, by decide +kernel, rfl, by decide +kernel, by decide +kernel⟩
theorem scDLots : FnScope ["groups", "group"] ["groups"] (defScope sDLots) := ⟨rfl, rfl, rfl, by decide +kernel, rfl, by decide +kernel, by decide +kernel⟩
theorem scDTakers : FnScope ["groups", "alive", "group", "takers", "name"] ["groups", "alive"] (defScope sDTakers) := ⟨rfl, rfl, rfl, by decide +kernel, rfl, by decide +kernel, by decide +kernel⟩
theorem scDShareText : FnScope ["weight", "groups", "told", "group"] ["weight", "groups"] (defScope sDShareText) := ⟨rfl, rfl, rfl, by decide +kernel, rfl, by decide +kernel, by decide +kernel⟩
theorem scDReadShare : FnScope ["part", "word", "space", "told", "weight", "group"] ["part"] (defScope sDReadShare) := ⟨rfl, rfl, rfl, by decide +kernel, rfl, by decide +kernel, by decide +kernel⟩
theorem scDLawSeed : FnScope ["_law_script", "_law_k", "_law_cell"] ["_law_script", "_law_k"] (defScope sDLawSeed) := ⟨rfl, rfl, rfl, by decide +kernel, rfl, by decide +kernel, by decide +kernel⟩
theorem scDLawChoose : FnScope ["_law_box", "_law_many", "_law_digit", "_law_raw"] ["_law_box", "_law_many"] (defScope sDLawChoose) := ⟨rfl, rfl, rfl, by decide +kernel, rfl, by decide +kernel, by decide +kernel⟩
theorem scDLawOneOf : FnScope ["_law_box", "_law_some"] ["_law_box", "_law_some"] (defScope sDLawOneOf) := ⟨rfl, rfl, rfl, by decide +kernel, rfl, by decide +kernel, by decide +kernel⟩
theorem scDLawMixed : FnScope ["_law_box", "_law_some", "_law_left", "_law_found"] ["_law_box", "_law_some"] (defScope sDLawMixed) := ⟨rfl, rfl, rfl, by decide +kernel, rfl, by decide +kernel, by decide +kernel⟩
theorem scDLawNames : FnScope ["_law_box", "_law_many", "_law_pools"] ["_law_box", "_law_many"] (defScope sDLawNames) := ⟨rfl, rfl, rfl, by decide +kernel, rfl, by decide +kernel, by decide +kernel⟩
theorem scDLawGroup : FnScope ["_law_box", "_law_some"] ["_law_box", "_law_some"] (defScope sDLawGroup) := ⟨rfl, rfl, rfl, by decide +kernel, rfl, by decide +kernel, by decide +kernel⟩
theorem scDLawWill : FnScope ["_law_box", "_law_others", "_law_found", "_law_share", "_law_groups", "_law_turn"] ["_law_box", "_law_others"] (defScope sDLawWill) := ⟨rfl, rfl, rfl, by decide +kernel, rfl, by decide +kernel, by decide +kernel⟩
theorem scDLawDivisor : FnScope ["_law_one", "_law_other"] ["_law_one", "_law_other"] (defScope sDLawDivisor) := ⟨rfl, rfl, rfl, by decide +kernel, rfl, by decide +kernel, by decide +kernel⟩
theorem scDLawRatio : FnScope ["_law_upper", "_law_lower", "_law_part"] ["_law_upper", "_law_lower"] (defScope sDLawRatio) := ⟨rfl, rfl, rfl, by decide +kernel, rfl, by decide +kernel, by decide +kernel⟩
theorem scDLawPlus : FnScope ["_law_one", "_law_other"] ["_law_one", "_law_other"] (defScope sDLawPlus) := ⟨rfl, rfl, rfl, by decide +kernel, rfl, by decide +kernel, by decide +kernel⟩
theorem scDLawHeirs : FnScope ["_law_will_here", "_law_alive", "_law_whole", "_law_found", "_law_weight", "_law_groups", "_law_some", "_law_group_here", "_law_here", "_law_name"] ["_law_will_here", "_law_alive"] (defScope sDLawHeirs) := ⟨rfl, rfl, rfl, by decide +kernel, rfl, by decide +kernel, by decide +kernel⟩
theorem scDLaw : FnScope ["_law_script", "_law_k", "_law_box", "_law_turn", "_law_names_here", "_law_will_here", "_law_made", "_law_more", "_law_alive", "_law_name", "_law_shares", "_law_due", "_law_one", "_law_given", "_law_kept", "_law_whole"] ["_law_script"] (defScope sDLaw) := ⟨rfl, rfl, rfl, by decide +kernel, rfl, by decide +kernel, by decide +kernel⟩
/-- a def as the top leaves it: at f, with its data fd -/
structure Dn (K : PySem.W.Frag) (mg : Str → Option Value) (x qual : Str) (st : Stmt) (ps : List Str) where
  f : Addr
  fd : FuncData
  F : Fun K x qual st f fd
  b : Binds K fd ps []
  g : mg x = some (.ref f)
/-- a method of the class at C -/
structure Dm (K : PySem.W.Frag) (C : Addr) (x qual : Str) (st : Stmt) (ps : List Str) where
  f : Addr
  fd : FuncData
  F : Fun K x qual st f fd
  b : Binds K fd ps []
  m : Meth K C x f
/-- what the top has written -/
structure TxtG (K : PySem.W.Frag) (mg : Str → Option Value) where
  cHeirError : Addr
  gcHeirError : mg "HeirError" = some (.ref cHeirError)
  cInvalidWill : Addr
  gcInvalidWill : mg "InvalidWill" = some (.ref cInvalidWill)
  cInvalidText : Addr
  gcInvalidText : mg "InvalidText" = some (.ref cInvalidText)
  cWill : Addr
  gcWill : mg "Will" = some (.ref cWill)
  dIsInteger : Dn K mg "is_integer" "is_integer" sDIsInteger ["value"]
  dIsName : Dn K mg "is_name" "is_name" sDIsName ["value"]
  dIsSequence : Dn K mg "is_sequence" "is_sequence" sDIsSequence ["value"]
  dIsPair : Dn K mg "is_pair" "is_pair" sDIsPair ["value"]
  dReadNumber : Dn K mg "read_number" "read_number" sDReadNumber ["word", "digits"]
  dLowest : Dn K mg "lowest" "lowest" sDLowest ["above", "below"]
  dPlus : Dn K mg "plus" "plus" sDPlus ["left", "right"]
  dAreShares : Dn K mg "_are_shares" "_are_shares" sDAreShares ["value"]
  dIsShare : Dn K mg "_is_share" "_is_share" sDIsShare ["value"]
  dIsGroup : Dn K mg "_is_group" "_is_group" sDIsGroup ["value"]
  dLots : Dn K mg "_lots" "_lots" sDLots ["groups"]
  dTakers : Dn K mg "_takers" "_takers" sDTakers ["groups", "alive"]
  dShareText : Dn K mg "_share_text" "_share_text" sDShareText ["weight", "groups"]
  dReadShare : Dn K mg "_read_share" "_read_share" sDReadShare ["part"]
  dLawSeed : Dn K mg "_law_seed" "_law_seed" sDLawSeed ["_law_script", "_law_k"]
  dLawChoose : Dn K mg "_law_choose" "_law_choose" sDLawChoose ["_law_box", "_law_many"]
  dLawOneOf : Dn K mg "_law_one_of" "_law_one_of" sDLawOneOf ["_law_box", "_law_some"]
  dLawMixed : Dn K mg "_law_mixed" "_law_mixed" sDLawMixed ["_law_box", "_law_some"]
  dLawNames : Dn K mg "_law_names" "_law_names" sDLawNames ["_law_box", "_law_many"]
  dLawGroup : Dn K mg "_law_group" "_law_group" sDLawGroup ["_law_box", "_law_some"]
  dLawWill : Dn K mg "_law_will" "_law_will" sDLawWill ["_law_box", "_law_others"]
  dLawDivisor : Dn K mg "_law_divisor" "_law_divisor" sDLawDivisor ["_law_one", "_law_other"]
  dLawRatio : Dn K mg "_law_ratio" "_law_ratio" sDLawRatio ["_law_upper", "_law_lower"]
  dLawPlus : Dn K mg "_law_plus" "_law_plus" sDLawPlus ["_law_one", "_law_other"]
  dLawHeirs : Dn K mg "_law_heirs" "_law_heirs" sDLawHeirs ["_law_will_here", "_law_alive"]
  dLaw : Dn K mg "law" "law" sDLaw ["_law_script"]
  z_abs : mg "abs" = none
  z_all : mg "all" = none
  z_bool : mg "bool" = none
  z_classmethod : mg "classmethod" = none
  z_enumerate : mg "enumerate" = none
  z_int : mg "int" = none
  z_isinstance : mg "isinstance" = none
  z_len : mg "len" = none
  z_list : mg "list" = none
  z_max : mg "max" = none
  z_min : mg "min" = none
  z_range : mg "range" = none
  z_repr : mg "repr" = none
  z_set : mg "set" = none
  z_sorted : mg "sorted" = none
  z_str : mg "str" = none
  z_sum : mg "sum" = none
  z_tuple : mg "tuple" = none
  k_CROWN : ∃ t, mg "CROWN" = some (.str "crown" t)
  k_LONGEST_NAME : ∃ t, mg "LONGEST_NAME" = some (.int 5 t)
  k_WEIGHT_DIGITS : ∃ t, mg "WEIGHT_DIGITS" = some (.int 6 t)
  m_gcd : mg "gcd" = some (.builtin "math.gcd")
end He

namespace He
open PySem PySem.Spec PyProof.Rows L2
/-! ### heaps where one address is left out -/
def hide (p : Addr) (H : Hp) : Hp := fun b => if b = p then none else H b
theorem hide_ne {p b : Addr} {H : Hp} (h : b ≠ p) : hide p H b = H b := if_neg h
theorem hide_self {p : Addr} {H : Hp} : hide p H p = none := if_pos rfl
theorem hide_le {p : Addr} {H : Hp} : Same (hide p H) H := fun b o e => by
  unfold hide at e
  split at e
  · cases e
  · exact e
theorem hide_same {p : Addr} {H H' : Hp} (h : Same H H') : Same (hide p H) (hide p H') := fun b o e => by
  unfold hide at e ⊢
  split at e
  · cases e
  · rename_i q
    rw [if_neg q]
    exact h b o e
theorem hide_upd {p : Addr} {H : Hp} {o : HO} : Same (hide p H) (hide p (upd H p o)) := fun b u e => by
  have hb : b ≠ p := fun z => by rw [z, hide_self] at e; cases e
  rw [hide_ne hb] at e ⊢
  rw [upd_ne hb]
  exact e
/-- the draws' state: a large number or nought, and a small one -/
def Box (H : Hp) (p : Addr) : Prop := ∃ b0 b1 : Int, H p = some (.lst [.int b0, .int b1]) ∧ 0 ≤ b0 ∧ 0 < b1 ∧ b1 ≤ 2147483629
/-- what a helper that draws leaves: the box, and all else -/
def Bx (p : Addr) (H H' : Hp) : Prop := Box H' p ∧ Same (hide p H) (hide p H')
theorem Box.same {H H' : Hp} {p : Addr} (h : Box H p) (s : Same H H') : Box H' p := by
  obtain ⟨b0, b1, e, r⟩ := h
  exact ⟨b0, b1, s _ _ e, r⟩
theorem Bx.of {H H' : Hp} {p : Addr} (h : Box H p) (s : Same H H') : Bx p H H' := ⟨h.same s, hide_same s⟩
theorem Bx.refl {H : Hp} {p : Addr} (h : Box H p) : Bx p H H := .of h (Same.refl H)
theorem Bx.trans {H H1 H2 : Hp} {p : Addr} (a : Bx p H H1) (b : Bx p H1 H2) : Bx p H H2 := ⟨b.1, a.2.trans b.2⟩
theorem Bx.ne0 {H : Hp} {p : Addr} (h : Box H p) : H p ≠ none := by
  obtain ⟨_, _, e, _⟩ := h
  rw [e]
  exact fun z => nomatch z
theorem same_upd {H : Hp} {p : Addr} {o : HO} (h : H p = none) : Same H (upd H p o) := fun b x e => by
  rw [upd_ne (ne_of_none e h)]
  exact e
theorem sqL_of {K : PySem.W.Frag} {H : Hp} {a : Addr} {xs : List V} (h : H a = some (.lst xs)) : SqL K H a xs := .inl (.inl h)
theorem sqT_of {K : PySem.W.Frag} {H : Hp} {a : Addr} {xs : List V} (h : H a = some (.tup xs)) : SqT K H a xs := .inl (.inl h)
theorem Same.seqT {K : PySem.W.Frag} {H H' : Hp} {a : Addr} {xs : List V} (e : Same H H') (h : SqT K H a xs) : SqT K H' a xs := by
  rcases h with (h | ⟨o, h⟩) | h
  · exact .inl (.inl (e _ _ h))
  · exact .inl (.inr ⟨o, e _ _ h⟩)
  · exact .inr h
end He

namespace He
open PySem PySem.Spec PyProof.Rows L2
section
variable {P : Program} {w : World} {K : PySem.W.Frag} {mg : Str → Option Value} {base : Heap}

theorem callR_imp {X : Cx} {f : Value} {r r' : List V → Hp → VK → Prop} (h : CallR X f r) (i : ∀ xs H Q, r' xs H Q → r xs H Q) : CallR X f r' := fun pins s σ H xs us Q I rv q => h pins s σ H xs us Q I rv (i _ _ _ q)
/-- int(n) of an int -/
theorem call_intI {X : Cx} : CallR X (.type "int") (fun xs H Q => ∃ i, xs = [.int i] ∧ Q (.int i) H) := callR_imp call_int1 fun _ _ _ h => .inl h
/-- len of a list that is read, of a tuple -/
theorem call_lenL {X : Cx} : CallR X (.builtin "len") (fun xs H Q => ∃ p ys, xs = [.ref p] ∧ SqL X.K H p ys ∧ Q (.int ys.length) H) := callR_imp call_len_seq fun _ _ _ ⟨p, ys, e, h, q⟩ => ⟨p, ys, e, .inl h, q⟩
theorem absI (i : Int) : 0 ≤ (if i < 0 then -i else i) := by split <;> omega
theorem cpow18 : CPow 10 18 := ⟨by decide, by decide, by decide⟩
theorem atI_map {ns : List Int} {k : Nat} (h : k < ns.length) : atI (ns.map V.int) (k : Int) = some (V.int ns[k]) := atI_nat (by rw [List.getElem?_map, List.getElem?_eq_getElem h] <;> rfl)
def spSeed (K : PySem.W.Frag) : Sp := fun vs H Q _ => ∃ (a : Addr) (ns : List Int) (k : Nat), vs = [.ref a, .int k] ∧ k ≤ 3 ∧ SqL K H a (ns.map V.int) ∧ ns.length ≤ 63 ∧
  ∀ b0 b1 p, H p = none → 0 ≤ b0 → 0 < b1 → b1 ≤ 2147483629 → Q (.ref p) (upd H p (.lst [.int b0, .int b1]))
theorem ok_seed (T : TxtG K mg) : FnOk P w K mg base CX0 1 T.dLawSeed.f T.dLawSeed.fd ["_law_script", "_law_k"] (spSeed K) := by
  refine T.dLawSeed.F.ok scDLawSeed (fun vs H Q E h => ?_) (fun cdv A outer s H vs Q E hr h => ?_)
  · obtain ⟨a, ns, k, rfl, _⟩ := h
    rfl
  · obtain ⟨a, ns, k, rfl, hk, hS, hn, q⟩ := h
    refine ⟨_, (pss_cons (ps_set (i := 2) scDLawSeed.nd rfl (.inl rfl) (pe_op op_add (pe_op op_mul pe_int (pv 1)) pe_int))
      (pss_cons (ps_if (pt_cmpR op_lt (pv 1) (pe_callB call_len_seq (by rfl) T.z_len (by decide +kernel) (pa_cons (pv 0) pa_nil)) (nomark _))
      (pss_one (ps_set (i := 2) scDLawSeed.nd rfl (.inl rfl) (pe_callB call_abs (by rfl) T.z_abs (by decide +kernel) (pa_cons (pe_ix ix_list (pv 0) (pv 1) (fun _ _ => rfl)) pa_nil))))
      (pss_one (ps_if (pt_cmpR op_gt (pe_callB call_len_seq (by rfl) T.z_len (by decide +kernel) (pa_cons (pv 0) pa_nil)) pe_int (nomark _))
      (pss_one (ps_set (i := 2) scDLawSeed.nd rfl (.inl rfl) (pe_op op_add (pv 2) (pe_op op_mul (pe_op op_mod (pe_callTy call_int1 (by rfl) T.z_int (by decide +kernel) (pa_cons (pe_callB call_abs (by rfl) T.z_abs (by decide +kernel) (pa_cons (pe_ix ix_list (pv 0) (pe_op op_mod (pe_callTy call_int1 (by rfl) T.z_int (by decide +kernel) (pa_cons (pv 1) pa_nil)) (pe_callB call_len_seq (by rfl) T.z_len (by decide +kernel) (pa_cons (pv 0) pa_nil))) (fun _ _ => rfl)) pa_nil)) pa_nil)) pe_int) pe_int))))
      pss_nil)))
      (pss_one (ps_ret (pe_lst (pa_cons (pe_ifExp (pt_cmpR op_ge (pv 2) (pe_op op_pow pe_int pe_int) (nomark _)) (pv 2) pe_int) (pa_cons (pe_op op_add (pe_op op_mod (pe_callTy call_int1 (by rfl) T.z_int (by decide +kernel) (pa_cons (pe_op op_add (pe_op op_mul (pe_op op_mod (pe_callTy call_int1 (by rfl) T.z_int (by decide +kernel) (pa_cons (pv 2) pa_nil)) pe_int) pe_int) (pe_op op_mul pe_int (pv 1))) pa_nil)) pe_int) pe_int) pa_nil))))))), ?_⟩
    simp only [tSeq, tAsg, tOp, tUn, rI, rI0, rU, tVar, tC, gName, L2.start, tIfS, tTest, tB, tCB, tCons, tNil, tIf, tRet, tRetN, tLst, tTup, tNext, tDrop, tNot, tNotV, tAnd, tOr, tAndV, tOrV, tPar, tAug, ipI, rEq, rNe, gSub, rSetL, rIxL, rIxT, tBM, tBM0, rAppend, rPopAt, gTup, gCons, gNil, tCall, tSl, tPart, tNoPart, rSlL, rCat, rEqD, rNeD, rIn, scal, List.map_cons, List.map_nil, List.length_cons, List.length_nil, List.length_map, List.cons_append, List.nil_append, List.append_nil, List.replicate, List.getElem?_cons_zero, List.getElem?_cons_succ, List.set_cons_zero, List.set_cons_succ, Option.some.injEq, exists_eq_left', exists_eq_left, exists_eq_right, exists_and_left, exists_and_right, V.int.injEq, V.ref.injEq, V.str.injEq, V.bl.injEq, reduceCtorEq, false_and, and_false, exists_false, or_false, false_or, true_and, and_true, List.cons.injEq, decide_eq_true_eq, cxOf, if_true, if_false, Bool.false_eq_true, Nat.reduceAdd, Nat.reduceSub, Nat.zero_add, Nat.add_sub_cancel_left, Nat.add_sub_cancel, Nat.sub_self]
    have fin : ∀ c : Int, 0 ≤ c → ∀ p, H p = none → Q (.ref p) (upd H p (.lst [.int c, .int ((c % 2147483629 * 48271 + 35023 * (k : Int)) % 2147483629 + 1)])) := fun c hc p hp => q _ _ p hp hc (by omega) (by omega)
    have fin0 : ∀ c : Int, 0 ≤ c → ∀ p, H p = none → Q (.ref p) (upd H p (.lst [.int 0, .int ((c % 2147483629 * 48271 + 35023 * (k : Int)) % 2147483629 + 1)])) := fun c hc p hp => q _ _ p hp (by decide) (by omega) (by omega)
    refine ⟨.inl ⟨by decide, by decide⟩, _, .inl hS, ?_⟩
    rw [List.length_map]
    by_cases h1 : k < ns.length
    · rw [if_pos (by omega)]
      refine ⟨_, hS, _, atI_map h1, _, rfl, cpow18, ?_⟩
      have ha := absI ns[k]
      generalize (if ns[k] < 0 then -ns[k] else ns[k]) = c at ha ⊢
      split
      · exact ⟨by decide, .inl (by omega), .inl (by omega), by decide, by decide, fin c ha⟩
      · exact ⟨by decide, .inl (by omega), .inl (by omega), by decide, by decide, fin0 c ha⟩
    · rw [if_neg (by omega)]
      refine ⟨_, .inl hS, ?_⟩
      rw [List.length_map]
      by_cases h2 : 0 < ns.length
      · rw [if_pos (by omega)]
        have hm : ((k : Int) % (ns.length : Int)) = ((k % ns.length : Nat) : Int) := by omega
        have hlt : k % ns.length < ns.length := Nat.mod_lt _ h2
        refine ⟨_, .inl hS, by rw [List.length_map]; omega, _, hS, _, by rw [List.length_map, hm]; exact atI_map hlt, _, rfl, by decide, .inl (by omega), cpow18, ?_⟩
        have ha := absI ns[k % ns.length]
        generalize (if ns[k % ns.length] < 0 then -ns[k % ns.length] else ns[k % ns.length]) = c at ha ⊢
        have hc : 0 ≤ 8231 * (k : Int) + 97 + c % 2147483629 * 40093 := by omega
        generalize 8231 * (k : Int) + 97 + c % 2147483629 * 40093 = d at hc ⊢
        split
        · exact ⟨by decide, .inl (by omega), .inl (by omega), by decide, by decide, fin d hc⟩
        · exact ⟨by decide, .inl (by omega), .inl (by omega), by decide, by decide, fin0 d hc⟩
      · rw [if_neg (by omega)]
        have hc : 0 ≤ 8231 * (k : Int) + 97 := by omega
        refine ⟨cpow18, ?_⟩
        split
        · exact ⟨by decide, .inl (by omega), .inl (by omega), by decide, by decide, fin _ hc⟩
        · exact ⟨by decide, .inl (by omega), .inl (by omega), by decide, by decide, fin0 _ hc⟩
/-- choose: a number below many, the box turned -/
def spChoose (K : PySem.W.Frag) : Sp := fun vs H Q _ => ∃ (p : Addr) (m : Int), vs = [.ref p, .int m] ∧ Box H p ∧ 0 < m ∧ m ≤ 1000000 ∧
  ∀ r H', Bx p H H' → 0 ≤ r → r < m → Q (.int r) H'
theorem ok_choose (T : TxtG K mg) : FnOk P w K mg base CX0 1 T.dLawChoose.f T.dLawChoose.fd ["_law_box", "_law_many"] (spChoose K) := by
  refine T.dLawChoose.F.ok scDLawChoose (fun vs H Q E h => ?_) (fun cdv A outer s H vs Q E hr h => ?_)
  · obtain ⟨p, m, rfl, _⟩ := h
    rfl
  · obtain ⟨p, m, rfl, ⟨b0, b1, hp, h0, h1, h2⟩, m0, m1, q⟩ := h
    refine ⟨_, (pss_cons (ps_if (pt_cmpR op_gt (pe_ix ix_list (pv 0) pe_int (fun _ _ => rfl)) pe_int (nomark _))
      (pss_cons (ps_set (i := 2) scDLawChoose.nd rfl (.inl rfl) (pe_op op_mod (pe_callTy call_intI (by rfl) T.z_int (by decide +kernel) (pa_cons (pe_ix ix_list (pv 0) pe_int (fun _ _ => rfl)) pa_nil)) (pv 1)))
      (pss_cons (ps_asg (pe_op op_fdiv (pe_ix ix_list (pv 0) pe_int (fun _ _ => rfl)) (pv 1)) (pg_sub (pv 0) pe_int set_list))
      (pss_one (ps_ret (pv 2)))))
      pss_nil)
      (pss_cons (ps_set (i := 3) scDLawChoose.nd rfl (.inl rfl) (pe_op op_mod (pe_callTy call_intI (by rfl) T.z_int (by decide +kernel) (pa_cons (pe_op op_add (pe_op op_mul (pe_ix ix_list (pv 0) pe_int (fun _ _ => rfl)) pe_int) pe_int) pa_nil)) pe_int))
      (pss_cons (ps_asg (pe_op op_add (pe_op op_mod (pe_callTy call_intI (by rfl) T.z_int (by decide +kernel) (pa_cons (pe_op op_add (pe_op op_mul (pv 3) pe_int) pe_int) pa_nil)) pe_int) pe_int) (pg_sub (pv 0) pe_int set_list))
      (pss_one (ps_ret (pe_op op_mod (pe_callTy call_intI (by rfl) T.z_int (by decide +kernel) (pa_cons (pe_op op_fdiv (pe_op op_add (pe_op op_mul (pv 3) pe_int) (pe_ix ix_list (pv 0) pe_int (fun _ _ => rfl))) pe_int) pa_nil)) (pv 1))))))), ?_⟩
    simp only [and_assoc, tSeq, tAsg, tOp, tUn, rI, rI0, rU, tVar, tC, gName, L2.start, tIfS, tTest, tB, tCB, tCons, tNil, tIf, tRet, tRetN, tLst, tTup, tNext, tDrop, tNot, tNotV, tAnd, tOr, tAndV, tOrV, tPar, tAug, ipI, rEq, rNe, gSub, rSetL, rIxL, rIxT, tBM, tBM0, rAppend, rPopAt, gTup, gCons, gNil, tCall, tSl, tPart, tNoPart, rSlL, rCat, rEqD, rNeD, rIn, scal, List.map_cons, List.map_nil, List.length_cons, List.length_nil, List.length_map, List.cons_append, List.nil_append, List.append_nil, List.replicate, List.getElem?_cons_zero, List.getElem?_cons_succ, List.set_cons_zero, List.set_cons_succ, Option.some.injEq, exists_eq_left', exists_eq_left, exists_eq_right, exists_and_left, exists_and_right, V.int.injEq, V.ref.injEq, V.str.injEq, V.bl.injEq, reduceCtorEq, false_and, and_false, exists_false, or_false, false_or, true_and, and_true, List.cons.injEq, decide_eq_true_eq, cxOf, if_true, if_false, Bool.false_eq_true, Nat.reduceAdd, Nat.reduceSub, Nat.zero_add, Nat.add_sub_cancel_left, Nat.add_sub_cancel, Nat.sub_self]
    have hq : SqL K H p [.int b0, .int b1] := sqL_of hp
    have a0 : atI [V.int b0, V.int b1] 0 = some (.int b0) := rfl
    have a1 : atI [V.int b0, V.int b1] 1 = some (.int b1) := rfl
    refine ⟨_, hq, _, a0, _, rfl, ?_⟩
    by_cases z : 0 < b0
    · rw [if_pos z]
      refine ⟨_, hq, _, a0, _, rfl, m0, _, hq, _, a0, _, rfl, ⟨m0, by omega⟩, _, hp, 0, rfl, ?_⟩
      exact q _ _ ⟨⟨b0 / m, b1, upd_same, Int.ediv_nonneg h0 (by omega), h1, h2⟩, hide_upd⟩ (Int.emod_nonneg _ (by omega)) (Int.emod_lt_of_pos _ m0)
    · rw [if_neg z]
      refine ⟨_, hq, _, a1, _, rfl, .inr (by decide), by decide, .inr (by decide), by decide, _, hp, 1, rfl, .inr (by decide), _, sqL_of upd_same, _, rfl, _, rfl, ⟨by decide, by decide⟩, m0, ?_⟩
      exact q _ _ ⟨⟨b0, _, upd_same, h0, by omega, by omega⟩, hide_upd⟩ (Int.emod_nonneg _ (by omega)) (Int.emod_lt_of_pos _ m0)
/-- one of several things -/
def spOneOf (K : PySem.W.Frag) : Sp := fun vs H Q _ => ∃ (p a : Addr) (xs : List V), vs = [.ref p, .ref a] ∧ Box H p ∧ SqL K (hide p H) a xs ∧ 0 < xs.length ∧ xs.length ≤ 1000 ∧
  ∀ (i : Nat) v H', Bx p H H' → xs[i]? = some v → Q v H'
theorem ok_oneof (T : TxtG K mg) : FnOk P w K mg base CX0 2 T.dLawOneOf.f T.dLawOneOf.fd ["_law_box", "_law_some"] (spOneOf K) := by
  refine T.dLawOneOf.F.ok scDLawOneOf (fun vs H Q E h => ?_) (fun cdv A outer s H vs Q E hr h => ?_)
  · obtain ⟨p, a, xs, rfl, _⟩ := h
    rfl
  · obtain ⟨p, a, xs, rfl, hb, hS, h0, h1, q⟩ := h
    refine ⟨_, (pss_one (ps_ret (pe_ix ix_list (pv 1) (pe_call (ok_choose T) (hr.mono (by decide)) (by rfl) T.dLawChoose.g T.dLawChoose.F.kp T.dLawChoose.b .nil pass0 (pa_cons (pv 0) (pa_cons (pe_callB call_lenL (by rfl) T.z_len (by decide +kernel) (pa_cons (pv 1) pa_nil)) pa_nil))) (fun _ _ => rfl)))), ?_⟩
    simp only [and_assoc, tSeq, tAsg, tOp, tUn, rI, rI0, rU, tVar, tC, gName, L2.start, tIfS, tTest, tB, tCB, tCons, tNil, tIf, tRet, tRetN, tLst, tTup, tNext, tDrop, tNot, tNotV, tAnd, tOr, tAndV, tOrV, tPar, tAug, ipI, rEq, rNe, gSub, rSetL, rIxL, rIxT, tBM, tBM0, rAppend, rPopAt, gTup, gCons, gNil, tCall, tSl, tPart, tNoPart, rSlL, rCat, rEqD, rNeD, rIn, scal, List.map_cons, List.map_nil, List.length_cons, List.length_nil, List.length_map, List.cons_append, List.nil_append, List.append_nil, List.replicate, List.getElem?_cons_zero, List.getElem?_cons_succ, List.set_cons_zero, List.set_cons_succ, Option.some.injEq, exists_eq_left', exists_eq_left, exists_eq_right, exists_and_left, exists_and_right, V.int.injEq, V.ref.injEq, V.str.injEq, V.bl.injEq, reduceCtorEq, false_and, and_false, exists_false, or_false, false_or, true_and, and_true, List.cons.injEq, decide_eq_true_eq, cxOf, if_true, if_false, Bool.false_eq_true, Nat.reduceAdd, Nat.reduceSub, Nat.zero_add, Nat.add_sub_cancel_left, Nat.add_sub_cancel, Nat.sub_self, spChoose]
    have s0 : SqL K H a xs := hide_le.seq hS
    refine ⟨_, s0, hb, by omega, by omega, fun r H' B r0 r1 => ?_⟩
    have s1 : SqL K H' a xs := hide_le.seq (B.2.seq hS)
    obtain ⟨j, rfl⟩ : ∃ j : Nat, r = (j : Int) := ⟨r.toNat, by omega⟩
    have hj : j < xs.length := by omega
    exact ⟨_, s1, _, atI_nat (List.getElem?_eq_getElem hj), q j _ _ B (List.getElem?_eq_getElem hj)⟩

end
end He

namespace He
open PySem PySem.Spec PyProof.Rows L2
section
variable {P : Program} {w : World} {K : PySem.W.Frag} {mg : Str → Option Value} {base : Heap}

theorem Bx.get {p b : Addr} {H H' : Hp} {o : HO} (B : Bx p H H') (hb : b ≠ p) (e : H b = some o) : H' b = some o := by
  have h := B.2 b o (by rw [hide_ne hb]; exact e)
  rwa [hide_ne hb] at h
/-- an object that H does not know may change -/
theorem Bx.mut {p l : Addr} {H H' : Hp} {o : HO} (B : Bx p H H') (nl : H l = none) (lp : l ≠ p) : Bx p H (upd H' l o) := by
  obtain ⟨⟨b0, b1, e, r⟩, s⟩ := B
  refine ⟨⟨b0, b1, by rw [upd_ne lp.symm]; exact e, r⟩, fun b u hb => ?_⟩
  have hbp : b ≠ p := fun z => by rw [z, hide_self] at hb; cases hb
  have h1 := s b u hb
  rw [hide_ne hbp] at hb h1 ⊢
  rw [upd_ne (ne_of_none hb nl)]
  exact h1

/-- a list beside an empty one -/
def rNeNil (K : PySem.W.Frag) : R2 := fun x y H Q => ∃ l e xs, x = .ref l ∧ y = .ref e ∧ SqL K H l xs ∧ SqL K H e [] ∧ Q (.bl (!xs.isEmpty)) H
theorem op_neNil {X : Cx} (hu : X.A.units + 64 < cLine) : OpR X (compareOp .NotEq) (rNeNil X.K) := by
  intro pins s σ H x y v u Q I rx ry h
  obtain ⟨l, e, xs, rfl, rfl, hl, he, q⟩ := h
  cases rx
  cases ry
  obtain ⟨its, r1, p1, _⟩ := I.list hl
  obtain ⟨its2, r2, p2, _⟩ := I.list he
  cases r2
  have hu' : X.A.units < cLine := by omega
  cases r1 with
  | nil => exact SeqAt.RcNeAt.lists (e := fun _ => true) p1.isList p2.isList rfl hu' (fun j h1 => absurd h1 (by simp)) X.prog X.w X.xe _ ⟨.bl false, H, I, rfl, q⟩
  | cons a b => exact SeqAt.RcNeAt.lists_lengths p1.isList p2.isList (by simp) hu' X.prog X.w X.xe _ ⟨.bl true, H, I, rfl, q⟩
def lenAt (H : Hp) (l : Addr) : Nat := match H l with
  | some (.lst xs) => xs.length
  | _ => 0
theorem lenAt_of {H : Hp} {l : Addr} {xs : List V} (h : H l = some (.lst xs)) : lenAt H l = xs.length := by
  unfold lenAt
  rw [h]
theorem erase_perm : ∀ (xs : List V) (k : Nat) (y : V), xs[k]? = some y → (y :: xs.eraseIdx k).Perm xs
  | [], k, y, h => by simp at h
  | x :: xs, 0, y, h => by
    have e : x = y := Option.some.inj h
    rw [e]
    exact List.Perm.refl _
  | x :: xs, k + 1, y, h => (List.Perm.swap x y _).trans ((erase_perm xs k y h).cons x)
theorem perm_pop {xs fs zs : List V} {k : Nat} {y : V} (hy : xs[k]? = some y) (h : (fs ++ xs).Perm zs) : ((fs ++ [y]) ++ xs.eraseIdx k).Perm zs := by
  refine List.Perm.trans ?_ h
  rw [List.append_assoc]
  exact List.Perm.append_left fs (erase_perm xs k y hy)
/-- in some order -/
def spMixed (K : PySem.W.Frag) : Sp := fun vs H Q _ => ∃ (p a : Addr) (zs : List V), vs = [.ref p, .ref a] ∧ Box H p ∧ SqL K (hide p H) a zs ∧ zs.length ≤ 1000 ∧
  ∀ (ys : List V) (r : Addr) (H' : Hp), Bx p H H' → ys.Perm zs → H r = none → H' r = some (.lst ys) → Q (.ref r) H'
theorem ok_mixed (T : TxtG K mg) : FnOk P w K mg base CX0 2 T.dLawMixed.f T.dLawMixed.fd ["_law_box", "_law_some"] (spMixed K) := by
  refine T.dLawMixed.F.ok scDLawMixed (fun vs H Q E h => ?_) (fun cdv A outer s H vs Q E hr h => ?_)
  · obtain ⟨p, a, zs, rfl, _⟩ := h
    rfl
  · obtain ⟨p, a, zs, rfl, hb, hS, h1, q⟩ := h
    refine ⟨_, (pss_cons (ps_par (i := 2) (j := 3) (by rfl) scDLawMixed.nd rfl rfl (by decide) rfl rfl (pa_cons (pe_callTy call_list_of (by rfl) T.z_list (by decide +kernel) (pa_cons (pv 1) pa_nil)) (pa_cons (pe_lst pa_nil) pa_nil)) (by rfl))
      (pss_cons (ps_while PassesOwn.never (pt_cmpR (op_neNil hr.units) (pv 2) (pe_lst pa_nil) (nomark _))
      (pss_one (ps_expr (pe_bm PySem.F.plainAttrs_list PySem.F.slot_list_append PySem.F.type_list_append mt_append (pv 3) (pa_cons (pe_bm PySem.F.plainAttrs_list PySem.F.slot_list_pop PySem.F.type_list_pop mt_popAt (pv 2) (pa_cons (pe_call (ok_choose T) (hr.mono (by decide)) (by rfl) T.dLawChoose.g T.dLawChoose.F.kp T.dLawChoose.b .nil pass0 (pa_cons (pv 0) (pa_cons (pe_callB call_lenL (by rfl) T.z_len (by decide +kernel) (pa_cons (pv 2) pa_nil)) pa_nil))) pa_nil)) pa_nil)))))
      (pss_one (ps_ret (pv 3))))), ?_⟩
    simp only [and_assoc, tSeq, tAsg, tOp, tUn, rI, rI0, rU, tVar, tC, gName, L2.start, tIfS, tTest, tB, tCB, tCons, tNil, tIf, tRet, tRetN, tLst, tTup, tNext, tDrop, tNot, tNotV, tAnd, tOr, tAndV, tOrV, tPar, tAug, ipI, rEq, rNe, gSub, rSetL, rIxL, rIxT, tBM, tBM0, rAppend, rPopAt, gTup, gCons, gNil, tCall, tSl, tPart, tNoPart, rSlL, rCat, rEqD, rNeD, rIn, scal, List.map_cons, List.map_nil, List.length_cons, List.length_nil, List.length_map, List.cons_append, List.nil_append, List.append_nil, List.replicate, List.getElem?_cons_zero, List.getElem?_cons_succ, List.set_cons_zero, List.set_cons_succ, Option.some.injEq, exists_eq_left', exists_eq_left, exists_eq_right, exists_and_left, exists_and_right, V.int.injEq, V.ref.injEq, V.str.injEq, V.bl.injEq, reduceCtorEq, false_and, and_false, exists_false, or_false, false_or, true_and, and_true, List.cons.injEq, decide_eq_true_eq, cxOf, if_true, if_false, Bool.false_eq_true, Nat.reduceAdd, Nat.reduceSub, Nat.zero_add, Nat.add_sub_cancel_left, Nat.add_sub_cancel, Nat.sub_self, spChoose]
    refine ⟨zs, .inl (hide_le.seq hS), fun l nl => ⟨by decide, fun f nf => ?_⟩⟩
    obtain ⟨b0, b1, eb, _⟩ := id hb
    have lp : l ≠ p := fun z => by rw [z, eb] at nl; cases nl
    have fl : f ≠ l := fun z => by rw [z, upd_same] at nf; cases nf
    have nf0 : H f = none := by rw [upd_ne fl] at nf; exact nf
    have fp : f ≠ p := fun z => by rw [z, eb] at nf0; cases nf0
    have s1 : Same H (upd (upd H l (.lst zs)) f (.lst [])) := (same_upd nl).trans (same_upd nf)
    refine while_by (fun σ H1 => ∃ ls fs : List V, σ = [some (.ref p), some (.ref a), some (.ref l), some (.ref f)] ∧ Bx p H H1 ∧ H1 l = some (.lst ls) ∧ H1 f = some (.lst fs) ∧ (fs ++ ls).Perm zs)
      (fun _ H1 => lenAt H1 l) ⟨zs, [], rfl, Bx.of hb s1, by rw [upd_ne fl.symm, upd_same], upd_same, List.Perm.refl _⟩ ?_ ?_
    · rintro σ H1 ⟨ls, fs, rfl, B, el, ef, pm⟩
      simp only [and_assoc, tSeq, tAsg, tOp, tUn, rI, rI0, rU, tVar, tC, gName, L2.start, tIfS, tTest, tB, tCB, tCons, tNil, tIf, tRet, tRetN, tLst, tTup, tNext, tDrop, tNot, tNotV, tAnd, tOr, tAndV, tOrV, tPar, tAug, ipI, rEq, rNe, gSub, rSetL, rIxL, rIxT, tBM, tBM0, rAppend, rPopAt, gTup, gCons, gNil, tCall, tSl, tPart, tNoPart, rSlL, rCat, rEqD, rNeD, rIn, scal, List.map_cons, List.map_nil, List.length_cons, List.length_nil, List.length_map, List.cons_append, List.nil_append, List.append_nil, List.replicate, List.getElem?_cons_zero, List.getElem?_cons_succ, List.set_cons_zero, List.set_cons_succ, Option.some.injEq, exists_eq_left', exists_eq_left, exists_eq_right, exists_and_left, exists_and_right, V.int.injEq, V.ref.injEq, V.str.injEq, V.bl.injEq, reduceCtorEq, false_and, and_false, exists_false, or_false, false_or, true_and, and_true, List.cons.injEq, decide_eq_true_eq, cxOf, if_true, if_false, Bool.false_eq_true, Nat.reduceAdd, Nat.reduceSub, Nat.zero_add, Nat.add_sub_cancel_left, Nat.add_sub_cancel, Nat.sub_self, spChoose, rNeNil]
      refine ⟨by decide, fun e ne => ⟨ls, sqL_of (same_upd ne _ _ el), sqL_of upd_same, ?_⟩⟩
      have B2 : Bx p H (upd H1 e (.lst [])) := B.trans (.of B.1 (same_upd ne))
      have el2 := same_upd (o := .lst []) ne _ _ el
      have ef2 := same_upd (o := .lst []) ne _ _ ef
      have hlen : ls.length ≤ 1000 := by have := pm.length_eq; rw [List.length_append] at this; omega
      have hlen2 : fs.length ≤ 1000 := by have := pm.length_eq; rw [List.length_append] at this; omega
      cases ls with
      | nil =>
        simp only [and_assoc, tSeq, tAsg, tOp, tUn, rI, rI0, rU, tVar, tC, gName, L2.start, tIfS, tTest, tB, tCB, tCons, tNil, tIf, tRet, tRetN, tLst, tTup, tNext, tDrop, tNot, tNotV, tAnd, tOr, tAndV, tOrV, tPar, tAug, ipI, rEq, rNe, gSub, rSetL, rIxL, rIxT, tBM, tBM0, rAppend, rPopAt, gTup, gCons, gNil, tCall, tSl, tPart, tNoPart, rSlL, rCat, rEqD, rNeD, rIn, scal, List.map_cons, List.map_nil, List.length_cons, List.length_nil, List.length_map, List.cons_append, List.nil_append, List.append_nil, List.replicate, List.getElem?_cons_zero, List.getElem?_cons_succ, List.set_cons_zero, List.set_cons_succ, Option.some.injEq, exists_eq_left', exists_eq_left, exists_eq_right, exists_and_left, exists_and_right, V.int.injEq, V.ref.injEq, V.str.injEq, V.bl.injEq, reduceCtorEq, false_and, and_false, exists_false, or_false, false_or, true_and, and_true, List.cons.injEq, decide_eq_true_eq, cxOf, if_true, if_false, Bool.false_eq_true, Nat.reduceAdd, Nat.reduceSub, Nat.zero_add, Nat.add_sub_cancel_left, Nat.add_sub_cancel, Nat.sub_self, List.isEmpty_nil, Bool.not_true]
        have e2 := B2
        refine q fs f _ B2 (by simpa using pm) nf0 ef2
      | cons y ys =>
        simp only [and_assoc, tSeq, tAsg, tOp, tUn, rI, rI0, rU, tVar, tC, gName, L2.start, tIfS, tTest, tB, tCB, tCons, tNil, tIf, tRet, tRetN, tLst, tTup, tNext, tDrop, tNot, tNotV, tAnd, tOr, tAndV, tOrV, tPar, tAug, ipI, rEq, rNe, gSub, rSetL, rIxL, rIxT, tBM, tBM0, rAppend, rPopAt, gTup, gCons, gNil, tCall, tSl, tPart, tNoPart, rSlL, rCat, rEqD, rNeD, rIn, scal, List.map_cons, List.map_nil, List.length_cons, List.length_nil, List.length_map, List.cons_append, List.nil_append, List.append_nil, List.replicate, List.getElem?_cons_zero, List.getElem?_cons_succ, List.set_cons_zero, List.set_cons_succ, Option.some.injEq, exists_eq_left', exists_eq_left, exists_eq_right, exists_and_left, exists_and_right, V.int.injEq, V.ref.injEq, V.str.injEq, V.bl.injEq, reduceCtorEq, false_and, and_false, exists_false, or_false, false_or, true_and, and_true, List.cons.injEq, decide_eq_true_eq, cxOf, if_true, if_false, Bool.false_eq_true, Nat.reduceAdd, Nat.reduceSub, Nat.zero_add, Nat.add_sub_cancel_left, Nat.add_sub_cancel, Nat.sub_self, List.isEmpty_cons, Bool.not_false]
        refine ⟨.inl ⟨rfl, _, sqL_of ef2⟩, .inl ⟨rfl, _, sqL_of el2⟩, _, sqL_of el2, B2.1, by rw [List.length_cons]; omega, by omega, fun r H3 B3 r0 r1 => ?_⟩
        have el3 := B3.get lp el2
        have ef3 := B3.get fp ef2
        obtain ⟨j, rfl⟩ : ∃ j : Nat, r = (j : Int) := ⟨r.toNat, by omega⟩
        have hj : j < (y :: ys).length := by omega
        refine ⟨_, el3, by omega, by omega, j, ?_, _, List.getElem?_eq_getElem hj, fs, by rw [upd_ne fl]; exact ef3, small1000 hlen2, ((B2.trans B3).mut nl lp).mut nf0 fp, ?_, ?_⟩
        · have := seqIndex_of (k := (j : Int)) (n := (y :: ys).length) (by omega) (by omega)
          rw [this, Int.toNat_natCast]
        · exact ⟨_, by rw [upd_ne fl.symm, upd_same], _, upd_same, perm_pop (List.getElem?_eq_getElem hj) pm⟩
        · rw [lenAt_of el, lenAt_of (xs := (y :: ys).eraseIdx j) (by rw [upd_ne fl.symm, upd_same]), List.length_eraseIdx, if_pos hj]
          exact Nat.sub_lt (by rw [List.length_cons]; omega) (by decide)
    · intro σ H1 Q1 Q2 hQ h
      simp only [and_assoc, tSeq, tAsg, tOp, tUn, rI, rI0, rU, tVar, tC, gName, L2.start, tIfS, tTest, tB, tCB, tCons, tNil, tIf, tRet, tRetN, tLst, tTup, tNext, tDrop, tNot, tNotV, tAnd, tOr, tAndV, tOrV, tPar, tAug, ipI, rEq, rNe, gSub, rSetL, rIxL, rIxT, tBM, tBM0, rAppend, rPopAt, gTup, gCons, gNil, tCall, tSl, tPart, tNoPart, rSlL, rCat, rEqD, rNeD, rIn, scal, List.map_cons, List.map_nil, List.length_cons, List.length_nil, List.length_map, List.cons_append, List.nil_append, List.append_nil, List.replicate, List.getElem?_cons_zero, List.getElem?_cons_succ, List.set_cons_zero, List.set_cons_succ, Option.some.injEq, exists_eq_left', exists_eq_left, exists_eq_right, exists_and_left, exists_and_right, V.int.injEq, V.ref.injEq, V.str.injEq, V.bl.injEq, reduceCtorEq, false_and, and_false, exists_false, or_false, false_or, true_and, and_true, List.cons.injEq, decide_eq_true_eq, cxOf, if_true, if_false, Bool.false_eq_true, Nat.reduceAdd, Nat.reduceSub, Nat.zero_add, Nat.add_sub_cancel_left, Nat.add_sub_cancel, Nat.sub_self, rNeNil] at h ⊢
      obtain ⟨v, hv, hz, k⟩ := h
      exact ⟨v, hv, hz, fun e he => let ⟨l, e1, x, a, b, c⟩ := k e he; ⟨l, e1, x, a, b, hQ _ _ c⟩⟩

end
end He

namespace He
open PySem PySem.Spec PyProof.Rows L2
section
variable {P : Program} {w : World} {K : PySem.W.Frag} {mg : Str → Option Value} {base : Heap}

theorem Bx.new {p b : Addr} {H H' : Hp} (B : Bx p H H') (h : H' b = none) : H b = none := by
  cases e : H b with
  | none => rfl
  | some o =>
    have hb : b ≠ p := fun z => by
      obtain ⟨_, _, e2, _⟩ := B.1
      rw [z, e2] at h
      cases h
    rw [B.get hb e] at h
    cases h
theorem Bx.ne {p b : Addr} {H H' : Hp} (B : Bx p H H') (hb : Box H p) (h : H' b = none) : b ≠ p := fun z => by
  obtain ⟨_, _, e2, _⟩ := B.1
  rw [z, e2] at h
  cases h

mutual
theorem dp_mono {K : PySem.W.Frag} {H H' : Hp} (s : Same H H') : ∀ (d : PyData) (v : V), Dp K H v d → Dp K H' v d
  | .none, _, h => by cases h; exact .non
  | .bool b, _, h => by cases h; exact .bl b
  | .int i, _, h => by cases h; exact .int i
  | .str x, _, h => by cases h; exact .str x
  | .list ds, _, h => by
    cases h with
    | lst hs ha => exact .lst (s.seq hs) (dpA_mono s ds _ ha)
  | .tuple ds, _, h => by
    cases h with
    | tup hs ha => exact .tup (Same.seqT s hs) (dpA_mono s ds _ ha)
  | .dict _, _, h => by cases h
theorem dpA_mono {K : PySem.W.Frag} {H H' : Hp} (s : Same H H') : ∀ (ds : List PyData) (vs : List V), DpAll K H vs ds → DpAll K H' vs ds
  | [], _, h => by cases h; exact .nil
  | d :: ds, _, h => by
    cases h with
    | cons a b => exact .cons (dp_mono s d _ a) (dpA_mono s ds _ b)
end
theorem dpA_append {K : PySem.W.Frag} {H : Hp} : ∀ {vs ws : List V} {ds es : List PyData}, DpAll K H vs ds → DpAll K H ws es → DpAll K H (vs ++ ws) (ds ++ es)
  | [], _, _, _, .nil, h => h
  | _ :: _, _, _, _, .cons a b, h => .cons a (dpA_append b h)
theorem dpA_len {K : PySem.W.Frag} {H : Hp} : ∀ {vs : List V} {ds : List PyData}, DpAll K H vs ds → vs.length = ds.length
  | [], _, .nil => rfl
  | _ :: _, _, .cons _ b => congrArg (· + 1) (dpA_len b)
theorem dpA_strs {K : PySem.W.Frag} {H : Hp} : ∀ zs : List Str, DpAll K H (zs.map V.str) (zs.map PyData.str)
  | [] => .nil
  | z :: zs => .cons (.str z) (dpA_strs zs)
theorem dpA_strs_inv {K : PySem.W.Frag} {H : Hp} : ∀ {zs : List Str} {vs : List V}, DpAll K H vs (zs.map PyData.str) → vs = zs.map V.str
  | [], _, h => by cases h; rfl
  | z :: zs, _, h => by
    cases h with
    | cons a b =>
      cases a
      rw [dpA_strs_inv b]
      rfl
theorem dpA_get {K : PySem.W.Frag} {H : Hp} : ∀ {vs : List V} {ds : List PyData} {i : Nat} {v : V}, DpAll K H vs ds → vs[i]? = some v → ∃ d, ds[i]? = some d ∧ Dp K H v d
  | _, _, i, _, .nil, e => by simp at e
  | _, _, 0, _, .cons a _, e => by
    cases (Option.some.inj e)
    exact ⟨_, rfl, a⟩
  | _, _, i + 1, _, .cons _ b, e => dpA_get (i := i) b e
/-! ### names, groups, shares -/
def nameB (x : Str) : Bool := decide (1 ≤ x.cps.size) && decide (x.cps.size ≤ 5) && x.cps.all (fun c => decide (97 ≤ c) && decide (c ≤ 122)) && decide (x ≠ "crown")
abbrev Sh := Int × List (List Str)
structure GrpOk (g : List Str) : Prop where
  ne : g ≠ []
  nd : g.Nodup
  nm : ∀ n ∈ g, nameB n = true
structure ShOk (s : Sh) : Prop where
  w1 : 1 ≤ s.1
  gs : ∀ g ∈ s.2, GrpOk g
structure ShSmall (s : Sh) : Prop where
  w : s.1 ≤ 999999
  l : s.2.length ≤ 3
  g : ∀ g ∈ s.2, g.length ≤ 3
def dGrp (g : List Str) : PyData := .list (g.map PyData.str)
def dSh (s : Sh) : PyData := .tuple [.int s.1, .list (s.2.map dGrp)]
def dWill (shs : List Sh) : PyData := .list (shs.map dSh)
/-! ### pools of names -/
def pools : List (List Str) := [["ann", "bob", "cid", "dan", "eve", "fay", "gus", "hal", "ida"], ["a", "aa", "ab", "b", "ba", "c", "d", "e", "f"], ["first", "will", "crow", "zoe", "x", "y", "z", "yy", "own"]]
structure Names (ns : List Str) : Prop where
  nd : ns.Nodup
  nm : ∀ n ∈ ns, nameB n = true
  pl : ∃ pl ∈ pools, ∀ n ∈ ns, n ∈ pl
theorem pools_ok : ∀ ns ∈ pools, ns.Nodup ∧ (ns.all nameB) = true ∧ ns.length = 9 := by
  decide +kernel
theorem perm_str {ys : List V} {zs : List Str} (h : ys.Perm (zs.map V.str)) : ∃ xs : List Str, ys = xs.map V.str ∧ xs.Perm zs := by
  let un : V → Str := fun v => match v with | .str x => x | _ => Str.empty
  have hu : ∀ l : List Str, (l.map V.str).map un = l := fun l => by
    rw [List.map_map]
    exact (List.map_congr_left fun x _ => rfl).trans (List.map_id l)
  refine ⟨ys.map un, ?_, ?_⟩
  · rw [List.map_map]
    refine ((List.map_congr_left fun x hx => ?_).trans (List.map_id ys)).symm
    obtain ⟨z, _, rfl⟩ := List.mem_map.mp (h.mem_iff.mp hx)
    rfl
  · have := h.map un
    rwa [hu] at this
theorem cut_to (xs : List V) (m : Nat) : cutV xs none (some (m : Int)) = xs.take m := by
  unfold cutV
  rw [HT.sIx_none, HT.sIx_nat, List.drop_zero, Nat.sub_zero]
  by_cases h : m ≤ xs.length
  · rw [Nat.min_eq_left h]
  · rw [Nat.min_eq_right (by omega), List.take_of_length_le (Nat.le_refl _), List.take_of_length_le (by omega)]
/-- so many names of a pool, in some order -/
def spNames (K : PySem.W.Frag) : Sp := fun vs H Q _ => ∃ (p : Addr) (m : Nat), vs = [.ref p, .int (m : Int)] ∧ Box H p ∧ m ≤ 9 ∧
  ∀ (ns : List Str) (r : Addr) (H' : Hp), Bx p H H' → Names ns → ns.length = m → H r = none → H' r = some (.lst (ns.map V.str)) → Q (.ref r) H'
theorem ok_names (T : TxtG K mg) : FnOk P w K mg base CX0 3 T.dLawNames.f T.dLawNames.fd ["_law_box", "_law_many"] (spNames K) := by
  refine T.dLawNames.F.ok scDLawNames (fun vs H Q E h => ?_) (fun cdv A outer s H vs Q E hr h => ?_)
  · obtain ⟨p, m, rfl, _⟩ := h
    rfl
  · obtain ⟨p, m, rfl, hb, hm, q⟩ := h
    refine ⟨_, (pss_cons (ps_set (i := 2) scDLawNames.nd rfl (.inl rfl) (pe_lst (pa_cons (pe_lst (pa_cons pe_str (pa_cons pe_str (pa_cons pe_str (pa_cons pe_str (pa_cons pe_str (pa_cons pe_str (pa_cons pe_str (pa_cons pe_str (pa_cons pe_str pa_nil)))))))))) pa_nil)))
      (pss_cons (ps_expr (pe_bm PySem.F.plainAttrs_list PySem.F.slot_list_append PySem.F.type_list_append mt_append (pv 2) (pa_cons (pe_lst (pa_cons pe_str (pa_cons pe_str (pa_cons pe_str (pa_cons pe_str (pa_cons pe_str (pa_cons pe_str (pa_cons pe_str (pa_cons pe_str (pa_cons pe_str pa_nil)))))))))) pa_nil)))
      (pss_cons (ps_expr (pe_bm PySem.F.plainAttrs_list PySem.F.slot_list_append PySem.F.type_list_append mt_append (pv 2) (pa_cons (pe_lst (pa_cons pe_str (pa_cons pe_str (pa_cons pe_str (pa_cons pe_str (pa_cons pe_str (pa_cons pe_str (pa_cons pe_str (pa_cons pe_str (pa_cons pe_str pa_nil)))))))))) pa_nil)))
      (pss_one (ps_ret (pe_slice sl_list (pe_call (ok_mixed T) (hr.mono (by decide)) (by rfl) T.dLawMixed.g T.dLawMixed.F.kp T.dLawMixed.b .nil pass0 (pa_cons (pv 0) (pa_cons (pe_call (ok_oneof T) (hr.mono (by decide)) (by rfl) T.dLawOneOf.g T.dLawOneOf.F.kp T.dLawOneOf.b .nil pass0 (pa_cons (pv 0) (pa_cons (pv 2) pa_nil))) pa_nil))) po_none (po_some (pv 1)))))))), ?_⟩
    simp only [and_assoc, tSeq, tAsg, tOp, tUn, rI, rI0, rU, tVar, tC, gName, L2.start, tIfS, tTest, tB, tCB, tCons, tNil, tIf, tRet, tRetN, tLst, tTup, tNext, tDrop, tNot, tNotV, tAnd, tOr, tAndV, tOrV, tPar, tAug, ipI, rEq, rNe, gSub, rSetL, rIxL, rIxT, tBM, tBM0, rAppend, rPopAt, gTup, gCons, gNil, tCall, tSl, tPart, tNoPart, rSlL, rCat, rEqD, rNeD, rIn, scal, List.map_cons, List.map_nil, List.length_cons, List.length_nil, List.length_map, List.cons_append, List.nil_append, List.append_nil, List.replicate, List.getElem?_cons_zero, List.getElem?_cons_succ, List.set_cons_zero, List.set_cons_succ, Option.some.injEq, exists_eq_left', exists_eq_left, exists_eq_right, exists_and_left, exists_and_right, V.int.injEq, V.ref.injEq, V.str.injEq, V.bl.injEq, reduceCtorEq, false_and, and_false, exists_false, or_false, false_or, true_and, and_true, List.cons.injEq, decide_eq_true_eq, cxOf, if_true, if_false, Bool.false_eq_true, Nat.reduceAdd, Nat.reduceSub, Nat.zero_add, Nat.add_sub_cancel_left, Nat.add_sub_cancel, Nat.sub_self, spMixed, spOneOf]
    obtain ⟨b0, b1, eb, _⟩ := id hb
    refine ⟨by decide, fun a na => ⟨by decide, fun b nb => ?_⟩⟩
    generalize h1 : upd H a _ = H1 at nb ⊢
    have s1 : Same H H1 := h1 ▸ same_upd na
    have f1 : H1 a = some (.lst ((pools.getD 0 []).map V.str)) := h1 ▸ upd_same
    generalize h2 : upd H1 b _ = H2 at ⊢
    have s2 : Same H1 H2 := h2 ▸ same_upd nb
    have f2 : H2 b = some (.lst [.ref a]) := h2 ▸ upd_same
    refine ⟨.inl ⟨rfl, _, sqL_of f2⟩, by decide, fun c nc => ?_⟩
    generalize h3 : upd H2 c _ = H3 at ⊢
    have s3 : Same H2 H3 := h3 ▸ same_upd nc
    have f3 : H3 c = some (.lst ((pools.getD 1 []).map V.str)) := h3 ▸ upd_same
    have g3 := s3 _ _ f2
    refine ⟨_, g3, (by decide : 1 < sizeLine), .inl ⟨rfl, _, sqL_of upd_same⟩, by decide, fun d nd => ?_⟩
    have nb0 : H b = none := s1.free nb
    have nc0 : H c = none := (s1.trans s2).free nc
    have bp : b ≠ p := fun z => by rw [z, eb] at nb0; cases nb0
    have ba : a ≠ b := fun z => by rw [z, nb] at f1; cases f1
    have bc : c ≠ b := fun z => by rw [z, f2] at nc; cases nc
    have ap : a ≠ p := fun z => by rw [z, eb] at na; cases na
    have cp : c ≠ p := fun z => by rw [z, eb] at nc0; cases nc0
    have B3 : Bx p H H3 := .of hb ((s1.trans s2).trans s3)
    generalize h4 : upd H3 b _ = H4 at nd ⊢
    have B4 : Bx p H H4 := h4 ▸ B3.mut nb0 bp
    have fa4 : H4 a = some (.lst ((pools.getD 0 []).map V.str)) := h4 ▸ (upd_ne ba).trans (s3 _ _ (s2 _ _ f1))
    have fc4 : H4 c = some (.lst ((pools.getD 1 []).map V.str)) := h4 ▸ (upd_ne bc).trans f3
    have fb4 : H4 b = some (.lst ([.ref a] ++ [.ref c])) := h4 ▸ upd_same
    generalize h5 : upd H4 d _ = H5 at ⊢
    have s5 : Same H4 H5 := h5 ▸ same_upd nd
    have fd5 : H5 d = some (.lst ((pools.getD 2 []).map V.str)) := h5 ▸ upd_same
    have db : d ≠ b := fun z => by rw [z, fb4] at nd; cases nd
    have dp : d ≠ p := fun z => by
      obtain ⟨_, _, e4, _⟩ := B4.1
      rw [z, e4] at nd; cases nd
    refine ⟨_, s5 _ _ fb4, (by decide : 2 < sizeLine), ?_⟩
    have B5 : Bx p H H5 := B4.trans (.of B4.1 s5)
    generalize h6 : upd H5 b _ = H6 at ⊢
    have B6 : Bx p H H6 := h6 ▸ B5.mut nb0 bp
    have fa6 : hide p H6 a = some (.lst ((pools.getD 0 []).map V.str)) := by rw [hide_ne ap]; exact h6 ▸ (upd_ne ba).trans (s5 _ _ fa4)
    have fc6 : hide p H6 c = some (.lst ((pools.getD 1 []).map V.str)) := by rw [hide_ne cp]; exact h6 ▸ (upd_ne bc).trans (s5 _ _ fc4)
    have fd6 : hide p H6 d = some (.lst ((pools.getD 2 []).map V.str)) := by rw [hide_ne dp]; exact h6 ▸ (upd_ne db).trans fd5
    have fb6 : hide p H6 b = some (.lst ([.ref a] ++ [.ref c] ++ [.ref d])) := by rw [hide_ne bp]; exact h6 ▸ upd_same
    refine ⟨B6.1, _, sqL_of fb6, (by decide : 0 < 3), (by decide : 3 ≤ 1000), fun i v H7 B7 hi => ?_⟩
    obtain ⟨a', pl, rfl, hp, f7⟩ : ∃ a' pl, v = .ref a' ∧ pl ∈ pools ∧ hide p H7 a' = some (.lst (pl.map V.str)) := by
      match i, hi with
      | 0, hi => exact ⟨a, _, (Option.some.inj hi).symm, by decide, B7.2 _ _ fa6⟩
      | 1, hi => exact ⟨c, _, (Option.some.inj hi).symm, by decide, B7.2 _ _ fc6⟩
      | 2, hi => exact ⟨d, _, (Option.some.inj hi).symm, by decide, B7.2 _ _ fd6⟩
      | i + 3, hi => exact absurd hi (by simp)
    obtain ⟨n1, n2, n3⟩ := pools_ok pl hp
    refine ⟨a', rfl, B7.1, pl.map V.str, sqL_of f7, by rw [List.length_map, n3]; decide, fun ys r H8 B8 pm nr er => ⟨_, sqL_of er, fun t nt => ?_⟩⟩
    obtain ⟨xs, rfl, pm2⟩ := perm_str pm
    have B80 := (B6.trans B7).trans B8
    have nt0 : H t = none := B80.new nt
    refine q (xs.take m) t _ (B80.mut nt0 (B80.ne hb nt)) ⟨(pm2.nodup_iff.mpr n1).sublist (List.take_sublist _ _), fun n hn => ?_, ⟨pl, hp, fun n hn => pm2.mem_iff.mp (List.mem_of_mem_take hn)⟩⟩ ?_ nt0 ?_
    · exact List.all_eq_true.mp n2 n (pm2.mem_iff.mp (List.mem_of_mem_take hn))
    · rw [List.length_take, pm2.length_eq, n3]
      omega
    · rw [upd_same, cut_to, List.map_take]
/-- one to three of them, in some order -/
def spGroup (K : PySem.W.Frag) : Sp := fun vs H Q _ => ∃ (p a : Addr) (ns : List Str), vs = [.ref p, .ref a] ∧ Box H p ∧ SqL K (hide p H) a (ns.map V.str) ∧ ns.length ≤ 1000 ∧ ns ≠ [] ∧
  ∀ (xs : List Str) (n : Nat) (r : Addr) (H' : Hp), Bx p H H' → xs.Perm ns → 1 ≤ n → n ≤ 3 → H r = none → H' r = some (.lst ((xs.take n).map V.str)) → Q (.ref r) H'
theorem ok_group (T : TxtG K mg) : FnOk P w K mg base CX0 3 T.dLawGroup.f T.dLawGroup.fd ["_law_box", "_law_some"] (spGroup K) := by
  refine T.dLawGroup.F.ok scDLawGroup (fun vs H Q E h => ?_) (fun cdv A outer s H vs Q E hr h => ?_)
  · obtain ⟨p, a, ns, rfl, _⟩ := h
    rfl
  · obtain ⟨p, a, ns, rfl, hb, hS, hl, h0, q⟩ := h
    refine ⟨_, (pss_one (ps_ret (pe_slice sl_list (pe_call (ok_mixed T) (hr.mono (by decide)) (by rfl) T.dLawMixed.g T.dLawMixed.F.kp T.dLawMixed.b .nil pass0 (pa_cons (pv 0) (pa_cons (pv 1) pa_nil))) po_none (po_some (pe_op op_add pe_int (pe_call (ok_choose T) (hr.mono (by decide)) (by rfl) T.dLawChoose.g T.dLawChoose.F.kp T.dLawChoose.b .nil pass0 (pa_cons (pv 0) (pa_cons pe_int pa_nil)))))))), ?_⟩
    simp only [and_assoc, tSeq, tAsg, tOp, tUn, rI, rI0, rU, tVar, tC, gName, L2.start, tIfS, tTest, tB, tCB, tCons, tNil, tIf, tRet, tRetN, tLst, tTup, tNext, tDrop, tNot, tNotV, tAnd, tOr, tAndV, tOrV, tPar, tAug, ipI, rEq, rNe, gSub, rSetL, rIxL, rIxT, tBM, tBM0, rAppend, rPopAt, gTup, gCons, gNil, tCall, tSl, tPart, tNoPart, rSlL, rCat, rEqD, rNeD, rIn, scal, List.map_cons, List.map_nil, List.length_cons, List.length_nil, List.length_map, List.cons_append, List.nil_append, List.append_nil, List.replicate, List.getElem?_cons_zero, List.getElem?_cons_succ, List.set_cons_zero, List.set_cons_succ, Option.some.injEq, exists_eq_left', exists_eq_left, exists_eq_right, exists_and_left, exists_and_right, V.int.injEq, V.ref.injEq, V.str.injEq, V.bl.injEq, reduceCtorEq, false_and, and_false, exists_false, or_false, false_or, true_and, and_true, List.cons.injEq, decide_eq_true_eq, cxOf, if_true, if_false, Bool.false_eq_true, Nat.reduceAdd, Nat.reduceSub, Nat.zero_add, Nat.add_sub_cancel_left, Nat.add_sub_cancel, Nat.sub_self, spMixed, spChoose]
    refine ⟨hb, _, hS, by rw [List.length_map]; exact hl, fun ys r H1 B pm nr er => ⟨B.1, by decide, by decide, fun k H2 B2 k0 k1 => ?_⟩⟩
    obtain ⟨xs, rfl, pm2⟩ := perm_str pm
    have rp : r ≠ p := fun z => by
      obtain ⟨_, _, e2, _⟩ := hb
      rw [z, e2] at nr
      cases nr
    refine ⟨_, sqL_of (B2.get rp er), fun t nt => ?_⟩
    obtain ⟨n, hn⟩ : ∃ n : Nat, 1 + k = (n : Int) := ⟨(1 + k).toNat, by omega⟩
    have B3 := B.trans B2
    have nt0 := B3.new nt
    refine q xs n t _ (B3.mut nt0 (B3.ne hb nt)) pm2 (by omega) (by omega) nt0 ?_
    rw [upd_same, hn, cut_to, List.map_take]

end
end He

namespace He
open PySem PySem.Spec PyProof.Rows L2
section
variable {P : Program} {w : World} {K : PySem.W.Frag} {mg : Str → Option Value} {base : Heap}

/-! ### loops and comprehensions, the walked thing apart -/
def ForGoes (J : It) (g : TG) (tb : TS) (D : Ends) (σ : L2.St) (H1 : Hp) : Prop := ∃ W : Nat → Nat → L2.St → Hp → Prop, (∃ m, W 0 m σ H1) ∧ ∀ i m σ H, W i m σ H →
  (J.stop i H ∧ D.nx σ H) ∨ (J.go i H ∧ ∃ N : L2.St → Hp → Prop, (∀ σ' H', N σ' H' → ∃ m', m' < m ∧ W (i + 1) m' σ' H') ∧ ∀ x H', J.yld i H x H' → g x σ H' fun σ2 H2 => tb { D with nx := N, ct := N, bk := D.nx } σ2 H2)
theorem tFor_eq (wi : TI) (g : TG) (tb : TS) (D : Ends) (σ : L2.St) (H : Hp) : tFor wi g tb D σ H = wi σ H (fun J H1 => ForGoes J g tb D σ H1) := rfl
theorem fg_range {lo : Int} {n : Nat} {g : TG} {tb : TS} {D : Ends} {σ : L2.St} {H : Hp} (Pv : Nat → L2.St → Hp → Prop) (h0 : Pv 0 σ H)
    (hs : ∀ i σ H, i < n → Pv i σ H → g (.int (lo + i)) σ H fun σ2 H2 => tb { D with nx := Pv (i + 1), ct := Pv (i + 1), bk := D.nx } σ2 H2) (hd : ∀ σ H, Pv n σ H → D.nx σ H) : ForGoes (Itr lo n) g tb D σ H := for_range Pv h0 hs hd
theorem fg_list {a : Addr} {xs : List V} {g : TG} {tb : TS} {D : Ends} {σ : L2.St} {H : Hp} (Pv : Nat → L2.St → Hp → Prop) (h0 : Pv 0 σ H) (hl : ∀ i σ H, i ≤ xs.length → Pv i σ H → SqL K H a xs)
    (hs : ∀ i x σ H, xs[i]? = some x → Pv i σ H → g x σ H fun σ2 H2 => tb { D with nx := Pv (i + 1), ct := Pv (i + 1), bk := D.nx } σ2 H2) (hd : ∀ σ H, Pv xs.length σ H → D.nx σ H) : ForGoes (Itl K a) g tb D σ H := for_list Pv h0 hl hs hd
theorem fg_tup {a : Addr} {xs : List V} {g : TG} {tb : TS} {D : Ends} {σ : L2.St} {H : Hp} (Pv : Nat → L2.St → Hp → Prop) (h0 : Pv 0 σ H) (hl : ∀ i σ H, i ≤ xs.length → Pv i σ H → SqT K H a xs)
    (hs : ∀ i x σ H, xs[i]? = some x → Pv i σ H → g x σ H fun σ2 H2 => tb { D with nx := Pv (i + 1), ct := Pv (i + 1), bk := D.nx } σ2 H2) (hd : ∀ σ H, Pv xs.length σ H → D.nx σ H) : ForGoes (Itt K a) g tb D σ H := for_tup Pv h0 hl hs hd
def LcGoes (J : It) (g : TG) (tt : TT) (te : TE) (vs : List Nat) (σ : L2.St) (H1 : Hp) (D : Addr) (Q : Hp → Prop) : Prop := ∃ W : Nat → Nat → Hp → Prop, (∃ m, W 0 m (upd H1 D (.lst []))) ∧ ∀ i m H, W i m H →
  (J.stop i H ∧ Q H) ∨ (J.go i H ∧ ∃ Nx : Hp → Prop, (∀ H', Nx H' → ∃ m', m' < m ∧ W (i + 1) m' H') ∧ ∀ x H', J.yld i H x H' → g x (wipe σ vs) H' fun σ2 H2 => wipe σ2 vs = wipe σ vs ∧ tt σ2 H2 fun b H3 =>
    if b = true then te σ2 H3 fun y H4 => ∃ acc, H4 D = some (.lst acc) ∧ acc.length < sizeLine ∧ Nx (upd H4 D (.lst (acc ++ [y]))) else Nx H3)
theorem tLc_eq (wi : TI) (g : TG) (tt : TT) (te : TE) (vs : List Nat) (σ : L2.St) (H : Hp) (Q : VK) : tLc wi g tt te vs σ H Q = wi σ H (fun J H1 => ∀ D, H1 D = none → LcGoes J g tt te vs σ H1 D (fun H => Q (.ref D) H)) := rfl
theorem lg_range {lo : Int} {n : Nat} {g : TG} {tt : TT} {te : TE} {vs : List Nat} {σ : L2.St} {H1 : Hp} {D : Addr} {Qd : Hp → Prop} (Pv : Nat → Hp → Prop) (h0 : Pv 0 (upd H1 D (.lst [])))
    (hs : ∀ i H, i < n → Pv i H → g (.int (lo + i)) (wipe σ vs) H fun σ2 H2 => wipe σ2 vs = wipe σ vs ∧ tt σ2 H2 fun b H3 =>
      if b = true then te σ2 H3 fun y H4 => ∃ acc, H4 D = some (.lst acc) ∧ acc.length < sizeLine ∧ Pv (i + 1) (upd H4 D (.lst (acc ++ [y]))) else Pv (i + 1) H3) (hd : ∀ H, Pv n H → Qd H) : LcGoes (Itr lo n) g tt te vs σ H1 D Qd := lc_range Pv h0 hs hd
theorem lg_list {a : Addr} {xs : List V} {g : TG} {tt : TT} {te : TE} {vs : List Nat} {σ : L2.St} {H1 : Hp} {D : Addr} {Qd : Hp → Prop} (Pv : Nat → Hp → Prop) (h0 : Pv 0 (upd H1 D (.lst []))) (hl : ∀ i H, i ≤ xs.length → Pv i H → SqL K H a xs)
    (hs : ∀ i x H, xs[i]? = some x → Pv i H → g x (wipe σ vs) H fun σ2 H2 => wipe σ2 vs = wipe σ vs ∧ tt σ2 H2 fun b H3 =>
      if b = true then te σ2 H3 fun y H4 => ∃ acc, H4 D = some (.lst acc) ∧ acc.length < sizeLine ∧ Pv (i + 1) (upd H4 D (.lst (acc ++ [y]))) else Pv (i + 1) H3) (hd : ∀ H, Pv xs.length H → Qd H) : LcGoes (Itl K a) g tt te vs σ H1 D Qd := lc_list Pv h0 hl hs hd
theorem lg_tup {a : Addr} {xs : List V} {g : TG} {tt : TT} {te : TE} {vs : List Nat} {σ : L2.St} {H1 : Hp} {D : Addr} {Qd : Hp → Prop} (Pv : Nat → Hp → Prop) (h0 : Pv 0 (upd H1 D (.lst []))) (hl : ∀ i H, i ≤ xs.length → Pv i H → SqT K H a xs)
    (hs : ∀ i x H, xs[i]? = some x → Pv i H → g x (wipe σ vs) H fun σ2 H2 => wipe σ2 vs = wipe σ vs ∧ tt σ2 H2 fun b H3 =>
      if b = true then te σ2 H3 fun y H4 => ∃ acc, H4 D = some (.lst acc) ∧ acc.length < sizeLine ∧ Pv (i + 1) (upd H4 D (.lst (acc ++ [y]))) else Pv (i + 1) H3) (hd : ∀ H, Pv xs.length H → Qd H) : LcGoes (Itt K a) g tt te vs σ H1 D Qd := lc_tup Pv h0 hl hs hd
/-! ### a will, drawn -/
structure WillOk (ns : List Str) (shs : List Sh) : Prop where
  ne : shs ≠ []
  l3 : shs.length ≤ 3
  ok : ∀ s ∈ shs, ShOk s ∧ ShSmall s ∧ ∀ g ∈ s.2, ∀ n ∈ g, n ∈ ns
theorem hide_mut {p f : Addr} {H : Hp} {o : HO} : Same (hide f (hide p H)) (hide f (hide p (upd H f o))) := fun b u e => by
  have hb : b ≠ f := fun z => by rw [z, hide_self] at e; cases e
  rw [hide_ne hb] at e ⊢
  by_cases hp : b = p
  · rw [hp, hide_self] at e
    cases e
  · rw [hide_ne hp] at e ⊢
    rw [upd_ne hb]
    exact e
theorem hide_mut3 {p f d : Addr} {H : Hp} {o : HO} : Same (hide d (hide f (hide p H))) (hide d (hide f (hide p (upd H d o)))) := fun b u e => by
  have hb : b ≠ d := fun z => by rw [z, hide_self] at e; cases e
  rw [hide_ne hb] at e ⊢
  unfold hide at e ⊢
  rw [upd_ne hb]
  exact e
def spWill (K : PySem.W.Frag) : Sp := fun vs H Q _ => ∃ (p a : Addr) (ns : List Str), vs = [.ref p, .ref a] ∧ Box H p ∧ SqL K (hide p H) a (ns.map V.str) ∧ ns.length ≤ 9 ∧ Names ns ∧
  ∀ (shs : List Sh) (vs : List V) (r : Addr) (H' : Hp), Bx p H H' → WillOk ns shs → H r = none → H' r = some (.lst vs) → DpAll K (hide p H') vs (shs.map dSh) → Q (.ref r) H'
theorem ok_will (T : TxtG K mg) : FnOk P w K mg base CX0 4 T.dLawWill.f T.dLawWill.fd ["_law_box", "_law_others"] (spWill K) := by
  refine T.dLawWill.F.ok scDLawWill (fun vs H Q E h => ?_) (fun cdv A outer s H vs Q E hr h => ?_)
  · obtain ⟨p, a, ns, rfl, _⟩ := h
    rfl
  · obtain ⟨p, a, ns, rfl, hb, hS, hl, hN, q⟩ := h
    refine ⟨_, (pss_cons (ps_set (i := 2) scDLawWill.nd rfl (.inl rfl) (pe_lst pa_nil))
      (pss_cons (ps_for PassesOwn.never rfl (pi_range1 (by rfl) T.z_range (pa_cons (pe_op op_add pe_int (pe_call (ok_choose T) (hr.mono (by decide)) (by rfl) T.dLawChoose.g T.dLawChoose.F.kp T.dLawChoose.b .nil pass0 (pa_cons (pv 0) (pa_cons pe_int pa_nil)))) pa_nil)) (pg_name (i := 3) scDLawWill.nd rfl (.inl rfl))
      (pss_cons (ps_set (i := 4) scDLawWill.nd rfl (.inl rfl) (pe_ifExp (pt_cmpR (op_neNil hr.units) (pv 1) (pe_lst pa_nil) (nomark _)) (pe_lc (own := [("_law_turn", 5)]) (g := (gName 5)) (tt := tYes) rfl scDLawWill.nd (pi_range1 (by rfl) T.z_range (pa_cons (pe_call (ok_choose T) (hr.mono (by decide)) (by rfl) T.dLawChoose.g T.dLawChoose.F.kp T.dLawChoose.b .nil pass0 (pa_cons (pv 0) (pa_cons pe_int pa_nil))) pa_nil)) (blkOk_by (N := ["_law_box", "_law_others", "_law_found", "_law_share", "_law_groups", "_law_turn"]) (sc := defScope sDLawWill) (by decide +kernel)) (fun _ _ _ _ _ => (pg_name (i := 5) scDLawWill.nd rfl (.inl rfl))) (fun _ _ _ _ _ => pts_nil) (fun _ _ _ _ _ => (pe_call (ok_group T) (hr.mono (by decide)) (by rfl) T.dLawGroup.g T.dLawGroup.F.kp T.dLawGroup.b .nil pass0 (pa_cons (pv 0) (pa_cons (pv 1) pa_nil))))) (pe_lst pa_nil)))
      (pss_one (ps_expr (pe_bm PySem.F.plainAttrs_list PySem.F.slot_list_append PySem.F.type_list_append mt_append (pv 2) (pa_cons (pe_tup (pa_cons (pe_op op_add pe_int (pe_call (ok_choose T) (hr.mono (by decide)) (by rfl) T.dLawChoose.g T.dLawChoose.F.kp T.dLawChoose.b .nil pass0 (pa_cons (pv 0) (pa_cons pe_int pa_nil)))) (pa_cons (pv 4) pa_nil))) pa_nil))))))
      (pss_one (ps_ret (pv 2))))), ?_⟩
    simp only [and_assoc, tSeq, tAsg, tOp, tUn, rI, rI0, rU, tVar, tC, gName, L2.start, tIfS, tTest, tB, tCB, tCons, tNil, tIf, tRet, tRetN, tLst, tTup, tNext, tDrop, tNot, tNotV, tAnd, tOr, tAndV, tOrV, tPar, tAug, ipI, rEq, rNe, gSub, rSetL, rIxL, rIxT, tBM, tBM0, rAppend, rPopAt, gTup, gCons, gNil, tCall, tSl, tPart, tNoPart, rSlL, rCat, rEqD, rNeD, rIn, scal, List.map_cons, List.map_nil, List.length_cons, List.length_nil, List.length_map, List.cons_append, List.nil_append, List.append_nil, List.replicate, List.getElem?_cons_zero, List.getElem?_cons_succ, List.set_cons_zero, List.set_cons_succ, Option.some.injEq, exists_eq_left', exists_eq_left, exists_eq_right, exists_and_left, exists_and_right, V.int.injEq, V.ref.injEq, V.str.injEq, V.bl.injEq, reduceCtorEq, false_and, and_false, exists_false, or_false, false_or, true_and, and_true, List.cons.injEq, decide_eq_true_eq, cxOf, if_true, if_false, Bool.false_eq_true, Nat.reduceAdd, Nat.reduceSub, Nat.zero_add, Nat.add_sub_cancel_left, Nat.add_sub_cancel, Nat.sub_self, tFor_eq, tLc_eq, iRng1, iRng2, iList, iTup, iEnum, List.map_cons, List.map_nil, spChoose, spGroup, rNeNil]
    obtain ⟨b0, b1, eb, _⟩ := id hb
    refine ⟨by decide, fun f nf => ⟨hb.same (same_upd nf), by decide, by decide, fun k H1 B1 k0 k1 => ⟨by omega, by omega, ?_⟩⟩⟩
    obtain ⟨n, hn⟩ : ∃ n : Nat, 1 + k = (n : Int) := ⟨(1 + k).toNat, by omega⟩
    have fp : f ≠ p := fun z => by rw [z, eb] at nf; cases nf
    have B01 : Bx p H H1 := (Bx.of hb (same_upd nf)).trans B1
    have f1 : H1 f = some (.lst []) := B1.get fp upd_same
    rw [hn, Int.toNat_natCast]
    refine fg_range (fun i σ H2 => ∃ (g t z : Option V) (shs : List Sh) (vs : List V), σ = [some (.ref p), some (.ref a), some (.ref f), g, t, z] ∧ Bx p H H2 ∧ H2 f = some (.lst vs) ∧ shs.length = i ∧ (∀ s ∈ shs, ShOk s ∧ ShSmall s ∧ ∀ g ∈ s.2, ∀ n ∈ g, n ∈ ns) ∧
      DpAll K (hide f (hide p H2)) vs (shs.map dSh)) ⟨none, none, none, [], [], rfl, B01, f1, rfl, fun _ h => (nomatch h), .nil⟩ ?_ ?_
    · rintro i σ H2 hi ⟨g, t, z, shs, vs, rfl, B, ef, hl2, hok, hd⟩
      simp only [and_assoc, tSeq, tAsg, tOp, tUn, rI, rI0, rU, tVar, tC, gName, L2.start, tIfS, tTest, tB, tCB, tCons, tNil, tIf, tRet, tRetN, tLst, tTup, tNext, tDrop, tNot, tNotV, tAnd, tOr, tAndV, tOrV, tPar, tAug, ipI, rEq, rNe, gSub, rSetL, rIxL, rIxT, tBM, tBM0, rAppend, rPopAt, gTup, gCons, gNil, tCall, tSl, tPart, tNoPart, rSlL, rCat, rEqD, rNeD, rIn, scal, List.map_cons, List.map_nil, List.length_cons, List.length_nil, List.length_map, List.cons_append, List.nil_append, List.append_nil, List.replicate, List.getElem?_cons_zero, List.getElem?_cons_succ, List.set_cons_zero, List.set_cons_succ, Option.some.injEq, exists_eq_left', exists_eq_left, exists_eq_right, exists_and_left, exists_and_right, V.int.injEq, V.ref.injEq, V.str.injEq, V.bl.injEq, reduceCtorEq, false_and, and_false, exists_false, or_false, false_or, true_and, and_true, List.cons.injEq, decide_eq_true_eq, cxOf, if_true, if_false, Bool.false_eq_true, Nat.reduceAdd, Nat.reduceSub, Nat.zero_add, Nat.add_sub_cancel_left, Nat.add_sub_cancel, Nat.sub_self, tFor_eq, tLc_eq, iRng1, iRng2, iList, iTup, iEnum, List.map_cons, List.map_nil, spChoose, spGroup, rNeNil]
      have hS2 : SqL K (hide p H2) a (ns.map V.str) := B.2.seq hS
      refine ⟨by decide, fun e ne => ⟨ns.map V.str, (same_upd ne).seq (hide_le.seq hS2), sqL_of upd_same, ?_⟩⟩
      generalize h3 : upd H2 e _ = H3 at ⊢
      have s3 : Same H2 H3 := h3 ▸ same_upd ne
      have B3 : Bx p H H3 := B.trans (.of B.1 s3)
      have ef3 : H3 f = some (.lst vs) := s3 _ _ ef
      have hd3 : DpAll K (hide f (hide p H3)) vs (shs.map dSh) := dpA_mono (hide_same (hide_same s3)) _ _ hd
      have nf3 : ∀ {g : Addr}, H3 g = none → g ≠ f := fun h z => by rw [z, ef3] at h; cases h
      have fin : ∀ (gs : List (List Str)) (D : Addr) (gv : List V) (H4 : Hp), Bx p H3 H4 → gs.length ≤ 3 → (∀ g ∈ gs, GrpOk g ∧ g.length ≤ 3 ∧ ∀ n ∈ g, n ∈ ns) → H3 D = none → H4 D = some (.lst gv) → DpAll K (hide f (hide p H4)) gv (gs.map dGrp) →
          tyV K "list" (.ref f) H4 ∧ Box H4 p ∧ (0 : Int) < 4 ∧ (4 : Int) ≤ 1000000 ∧ ∀ (r : Int) (H' : Hp), Bx p H4 H' → 0 ≤ r → r < 4 → 2 ≤ sizeLine ∧ ∀ (u : Addr), H' u = none →
            ∃ x, upd H' u (.tup [.int (1 + r), .ref D]) f = some (.lst x) ∧ x.length < sizeLine ∧ Bx p H (upd (upd H' u (.tup [.int (1 + r), .ref D])) f (.lst (x ++ [.ref u]))) ∧
              ∃ (x_1 : List Sh) (x_2 : List V), upd (upd H' u (.tup [.int (1 + r), .ref D])) f (.lst (x ++ [.ref u])) f = some (.lst x_2) ∧ x_1.length = i + 1 ∧
                (∀ s : Sh, s ∈ x_1 → ShOk s ∧ ShSmall s ∧ ∀ g : List Str, g ∈ s.snd → ∀ n : Str, n ∈ g → n ∈ ns) ∧
                DpAll K (hide f (hide p (upd (upd H' u (.tup [.int (1 + r), .ref D])) f (.lst (x ++ [.ref u]))))) x_2 (x_1.map dSh) := by
        intro gs D gv H4 B4 hg3 hgo nD eD hgv
        refine ⟨.inl ⟨rfl, _, sqL_of (B4.get fp ef3)⟩, B4.1, by decide, by decide, fun r H5 B5 r0 r1 => ⟨by decide, fun u nu => ?_⟩⟩
        have Dp' : D ≠ p := B3.ne hb nD
        have Df : D ≠ f := nf3 nD
        have ef5 := B5.get fp (B4.get fp ef3)
        have su := same_upd (o := .tup [.int (1 + r), .ref D]) nu
        have uf : u ≠ f := fun z => by rw [z, ef5] at nu; cases nu
        have up : u ≠ p := fun z => by obtain ⟨_, _, e, _⟩ := B5.1; rw [z, e] at nu; cases nu
        have eu : upd H5 u (.tup [.int (1 + r), .ref D]) u = some (.tup [.int (1 + r), .ref D]) := upd_same
        generalize h6 : upd H5 u (.tup [.int (1 + r), .ref D]) = H6 at su eu ⊢
        have B36 : Bx p H3 H6 := (B4.trans B5).trans (.of B5.1 su)
        have B6 : Bx p H H6 := B3.trans B36
        have hvs : vs.length = i := by rw [dpA_len hd, List.length_map]; exact hl2
        refine ⟨vs, su _ _ ef5, small1000 (by omega), B6.mut nf fp, shs ++ [(1 + r, gs)], vs ++ [.ref u], upd_same, by rw [List.length_append, hl2]; rfl, fun s hs => ?_, ?_⟩
        · rcases List.mem_append.mp hs with h | h
          · exact hok s h
          · obtain rfl := List.mem_singleton.mp h
            exact ⟨⟨by show 1 ≤ 1 + r; omega, fun g hg => (hgo g hg).1⟩, ⟨by show 1 + r ≤ 999999; omega, by show gs.length ≤ 3; omega, fun g hg => (hgo g hg).2.1⟩, fun g hg => (hgo g hg).2.2⟩
        · rw [List.map_append]
          have m6 : Same (hide f (hide p H3)) (hide f (hide p H6)) := hide_same B36.2
          have m46 : Same (hide f (hide p H4)) (hide f (hide p H6)) := hide_same (B5.trans (.of B5.1 su)).2
          have eD6 : hide f (hide p H6) D = some (.lst gv) := by
            refine m46 _ _ ?_
            rw [hide_ne Df, hide_ne Dp']
            exact eD
          have eu6 : hide f (hide p H6) u = some (.tup [.int (1 + r), .ref D]) := by rw [hide_ne uf, hide_ne up]; exact eu
          refine dpA_append (dpA_mono hide_mut _ _ (dpA_mono m6 _ _ hd3)) (.cons (dp_mono hide_mut _ _ ?_) .nil)
          exact .tup (sqT_of eu6) (.cons (.int _) (.cons (.lst (sqL_of eD6) (dpA_mono m46 _ _ hgv)) .nil))
      by_cases hne : ns = []
      · rw [show (List.map V.str ns).isEmpty = true by rw [hne]; rfl]
        simp only [and_assoc, tSeq, tAsg, tOp, tUn, rI, rI0, rU, tVar, tC, gName, L2.start, tIfS, tTest, tB, tCB, tCons, tNil, tIf, tRet, tRetN, tLst, tTup, tNext, tDrop, tNot, tNotV, tAnd, tOr, tAndV, tOrV, tPar, tAug, ipI, rEq, rNe, gSub, rSetL, rIxL, rIxT, tBM, tBM0, rAppend, rPopAt, gTup, gCons, gNil, tCall, tSl, tPart, tNoPart, rSlL, rCat, rEqD, rNeD, rIn, scal, List.map_cons, List.map_nil, List.length_cons, List.length_nil, List.length_map, List.cons_append, List.nil_append, List.append_nil, List.replicate, List.getElem?_cons_zero, List.getElem?_cons_succ, List.set_cons_zero, List.set_cons_succ, Option.some.injEq, exists_eq_left', exists_eq_left, exists_eq_right, exists_and_left, exists_and_right, V.int.injEq, V.ref.injEq, V.str.injEq, V.bl.injEq, reduceCtorEq, false_and, and_false, exists_false, or_false, false_or, true_and, and_true, List.cons.injEq, decide_eq_true_eq, cxOf, if_true, if_false, Bool.false_eq_true, Nat.reduceAdd, Nat.reduceSub, Nat.zero_add, Nat.add_sub_cancel_left, Nat.add_sub_cancel, Nat.sub_self, tFor_eq, tLc_eq, iRng1, iRng2, iList, iTup, iEnum, List.map_cons, List.map_nil, Bool.not_true]
        refine ⟨by decide, fun D nD => ?_⟩
        exact fin [] D [] _ (.of B3.1 (same_upd nD)) (by decide) (fun _ h => nomatch h) nD upd_same .nil
      · have hie : ns.isEmpty = false := by cases ns with | nil => exact absurd rfl hne | cons _ _ => rfl
        rw [List.isEmpty_map, hie]
        simp only [and_assoc, tSeq, tAsg, tOp, tUn, rI, rI0, rU, tVar, tC, gName, L2.start, tIfS, tTest, tB, tCB, tCons, tNil, tIf, tRet, tRetN, tLst, tTup, tNext, tDrop, tNot, tNotV, tAnd, tOr, tAndV, tOrV, tPar, tAug, ipI, rEq, rNe, gSub, rSetL, rIxL, rIxT, tBM, tBM0, rAppend, rPopAt, gTup, gCons, gNil, tCall, tSl, tPart, tNoPart, rSlL, rCat, rEqD, rNeD, rIn, scal, List.map_cons, List.map_nil, List.length_cons, List.length_nil, List.length_map, List.cons_append, List.nil_append, List.append_nil, List.replicate, List.getElem?_cons_zero, List.getElem?_cons_succ, List.set_cons_zero, List.set_cons_succ, Option.some.injEq, exists_eq_left', exists_eq_left, exists_eq_right, exists_and_left, exists_and_right, V.int.injEq, V.ref.injEq, V.str.injEq, V.bl.injEq, reduceCtorEq, false_and, and_false, exists_false, or_false, false_or, true_and, and_true, List.cons.injEq, decide_eq_true_eq, cxOf, if_true, if_false, Bool.false_eq_true, Nat.reduceAdd, Nat.reduceSub, Nat.zero_add, Nat.add_sub_cancel_left, Nat.add_sub_cancel, Nat.sub_self, tFor_eq, tLc_eq, iRng1, iRng2, iList, iTup, iEnum, List.map_cons, List.map_nil, Bool.not_false]
        refine ⟨B3.1, by decide, by decide, fun r H4 B4 r0 r1 => ⟨by omega, by omega, fun D nD => ?_⟩⟩
        have nD3 : H3 D = none := B4.new nD
        have Dp' : D ≠ p := B3.ne hb nD3
        have Df : D ≠ f := nf3 nD3
        refine lg_range (fun j H5 => ∃ (gs : List (List Str)) (gv : List V), Bx p H3 H5 ∧ gs.length = j ∧ (∀ g ∈ gs, GrpOk g ∧ g.length ≤ 3 ∧ ∀ n ∈ g, n ∈ ns) ∧ H5 D = some (.lst gv) ∧ DpAll K (hide D (hide f (hide p H5))) gv (gs.map dGrp))
          ⟨[], [], B4.trans (.of B4.1 (same_upd nD)), rfl, fun _ h => (nomatch h), upd_same, .nil⟩ ?_ ?_
        · rintro j H5 hj ⟨gs, gv, B5, hgl, hgo, eD, hgv⟩
          simp only [and_assoc, tSeq, tAsg, tOp, tUn, rI, rI0, rU, tVar, tC, gName, L2.start, tIfS, tTest, tB, tCB, tCons, tNil, tIf, tRet, tRetN, tLst, tTup, tNext, tDrop, tNot, tNotV, tAnd, tOr, tAndV, tOrV, tPar, tAug, ipI, rEq, rNe, gSub, rSetL, rIxL, rIxT, tBM, tBM0, rAppend, rPopAt, gTup, gCons, gNil, tCall, tSl, tPart, tNoPart, rSlL, rCat, rEqD, rNeD, rIn, scal, List.map_cons, List.map_nil, List.length_cons, List.length_nil, List.length_map, List.cons_append, List.nil_append, List.append_nil, List.replicate, List.getElem?_cons_zero, List.getElem?_cons_succ, List.set_cons_zero, List.set_cons_succ, Option.some.injEq, exists_eq_left', exists_eq_left, exists_eq_right, exists_and_left, exists_and_right, V.int.injEq, V.ref.injEq, V.str.injEq, V.bl.injEq, reduceCtorEq, false_and, and_false, exists_false, or_false, false_or, true_and, and_true, List.cons.injEq, decide_eq_true_eq, cxOf, if_true, if_false, Bool.false_eq_true, Nat.reduceAdd, Nat.reduceSub, Nat.zero_add, Nat.add_sub_cancel_left, Nat.add_sub_cancel, Nat.sub_self, tFor_eq, tLc_eq, iRng1, iRng2, iList, iTup, iEnum, List.map_cons, List.map_nil, wipe, tYes, spGroup]
          have B05 : Bx p H H5 := B3.trans B5
          refine ⟨B5.1, ns, B05.2.seq hS, by omega, hne, fun xs m u H6 B6 pm m1 m3 nu eu => ?_⟩
          have eD6 := B6.get Dp' eD
          have B36 := B5.trans B6
          have uD : u ≠ D := fun z => by rw [z, eD] at nu; cases nu
          have uf : u ≠ f := fun z => by rw [z, B5.get fp ef3] at nu; cases nu
          have up : u ≠ p := fun z => by obtain ⟨_, _, e, _⟩ := B5.1; rw [z, e] at nu; cases nu
          have hgv6 : DpAll K (hide D (hide f (hide p H6))) gv (gs.map dGrp) := dpA_mono (hide_same (hide_same B6.2)) _ _ hgv
          have hgl2 : gv.length = j := by rw [dpA_len hgv, List.length_map]; exact hgl
          have eu6 : hide D (hide f (hide p H6)) u = some (.lst ((xs.take m).map V.str)) := by rw [hide_ne uD, hide_ne uf, hide_ne up]; exact eu
          refine ⟨gv, eD6, small1000 (by omega), B36.mut nD3 Dp', gs ++ [xs.take m], by rw [List.length_append, hgl]; rfl, fun g hg => ?_, gv ++ [.ref u], upd_same, ?_⟩
          · rcases List.mem_append.mp hg with h | h
            · exact hgo g h
            · obtain rfl := List.mem_singleton.mp h
              have hx0 : xs ≠ [] := fun z => hne (by rw [z] at pm; exact pm.nil_eq.symm)
              have sub : ∀ n ∈ xs.take m, n ∈ ns := fun n hn => pm.mem_iff.mp (List.mem_of_mem_take hn)
              refine ⟨⟨fun z => ?_, (pm.nodup_iff.mpr hN.nd).sublist (List.take_sublist _ _), fun n hn => hN.nm n (sub n hn)⟩, ?_, sub⟩
              · rcases List.take_eq_nil_iff.mp z with h1 | h1
                · omega
                · exact hx0 h1
              · rw [List.length_take]; omega
          · rw [List.map_append]
            have md : Same (hide D (hide f (hide p H6))) (hide D (hide f (hide p (upd H6 D (.lst (gv ++ [.ref u])))))) := hide_mut3
            exact dpA_append (dpA_mono md _ _ hgv6) (.cons (dp_mono md _ _ (.lst (sqL_of eu6) (dpA_strs _))) .nil)
        · rintro H5 ⟨gs, gv, B5, hgl, hgo, eD, hgv⟩
          exact fin gs D gv H5 B5 (by omega) hgo nD3 eD (dpA_mono hide_le _ _ hgv)
    · rintro σ H2 ⟨g, t, z, shs, vs, rfl, B, ef, hl2, hok, hd⟩
      simp only [and_assoc, tSeq, tAsg, tOp, tUn, rI, rI0, rU, tVar, tC, gName, L2.start, tIfS, tTest, tB, tCB, tCons, tNil, tIf, tRet, tRetN, tLst, tTup, tNext, tDrop, tNot, tNotV, tAnd, tOr, tAndV, tOrV, tPar, tAug, ipI, rEq, rNe, gSub, rSetL, rIxL, rIxT, tBM, tBM0, rAppend, rPopAt, gTup, gCons, gNil, tCall, tSl, tPart, tNoPart, rSlL, rCat, rEqD, rNeD, rIn, scal, List.map_cons, List.map_nil, List.length_cons, List.length_nil, List.length_map, List.cons_append, List.nil_append, List.append_nil, List.replicate, List.getElem?_cons_zero, List.getElem?_cons_succ, List.set_cons_zero, List.set_cons_succ, Option.some.injEq, exists_eq_left', exists_eq_left, exists_eq_right, exists_and_left, exists_and_right, V.int.injEq, V.ref.injEq, V.str.injEq, V.bl.injEq, reduceCtorEq, false_and, and_false, exists_false, or_false, false_or, true_and, and_true, List.cons.injEq, decide_eq_true_eq, cxOf, if_true, if_false, Bool.false_eq_true, Nat.reduceAdd, Nat.reduceSub, Nat.zero_add, Nat.add_sub_cancel_left, Nat.add_sub_cancel, Nat.sub_self, tFor_eq, tLc_eq, iRng1, iRng2, iList, iTup, iEnum, List.map_cons, List.map_nil]
      have hle : Same (hide f (hide p H2)) (hide p H2) := hide_le
      exact q shs vs f H2 B ⟨fun z => by rw [z] at hl2; simp at hl2; omega, by omega, hok⟩ nf ef (dpA_mono hle _ _ hd)

end
end He

namespace He
open PySem PySem.Spec PyProof.Rows L2
theorem tab_alpha : ((List.range 128).all fun c => Unicode.isAlpha c == ((decide (65 ≤ c) && decide (c ≤ 90)) || (decide (97 ≤ c) && decide (c ≤ 122)))) = true := by decide +kernel
theorem tab_lower : ((List.range 128).all fun c => Unicode.isLower c == (decide (97 ≤ c) && decide (c ≤ 122))) = true := by decide +kernel
theorem tab_upper : ((List.range 128).all fun c => (Unicode.isUpper c || Unicode.isTitle c) == (decide (65 ≤ c) && decide (c ≤ 90))) = true := by decide +kernel
theorem at_tab {f g : Nat → Bool} (h : ((List.range 128).all fun c => f c == g c) = true) {c : Nat} (hc : c < 128) : f c = g c := eq_of_beq (List.all_eq_true.mp h c (List.mem_range.mpr hc))
theorem lower_eq (l : List Nat) : (l.all (fun c => decide (c < 128)) && ((decide (l.length > 0) && l.all Unicode.isAlpha) && (l.any Unicode.isLower && !l.any fun c => Unicode.isUpper c || Unicode.isTitle c))) = (decide (1 ≤ l.length) && l.all fun c => decide (97 ≤ c) && decide (c ≤ 122)) := by
  rw [Bool.eq_iff_iff]
  simp only [Bool.and_eq_true, List.all_eq_true, decide_eq_true_eq, List.any_eq_true, Bool.not_eq_true', List.any_eq_false]
  constructor
  · rintro ⟨h1, ⟨h2, h3⟩, h4, h5⟩
    refine ⟨h2, fun c hc => ?_⟩
    have a := at_tab tab_alpha (h1 c hc)
    have u := at_tab tab_upper (h1 c hc)
    have nu := h5 c hc
    rw [h3 c hc] at a
    rw [Bool.not_eq_true] at nu
    rw [nu] at u
    simp at a u
    omega
  · rintro ⟨h1, h2⟩
    have lt : ∀ c ∈ l, c < 128 := fun c hc => by have := h2 c hc; omega
    refine ⟨lt, ⟨h1, fun c hc => ?_⟩, ?_, fun c hc => ?_⟩
    · rw [at_tab tab_alpha (lt c hc)]
      have := h2 c hc
      simp
      omega
    · obtain ⟨c, hc⟩ := List.exists_mem_of_length_pos h1
      refine ⟨c, hc, ?_⟩
      rw [at_tab tab_lower (lt c hc)]
      have := h2 c hc
      simp
      omega
    · have u := at_tab tab_upper (lt c hc)
      have := h2 c hc
      rw [u]
      simp
      omega
/-- what the program asks of a name is what a name is -/
theorem name_eq (x : Str) : (decide (x.length ≤ 5) && decide (x ≠ "crown") && (Txt.isascii x && (Txt.isalpha x && Txt.islower x))) = nameB x := by
  have h := lower_eq x.cps.toList
  have e1 : Txt.isascii x = x.cps.toList.all (fun c => decide (c < 128)) := by unfold Txt.isascii; rw [Array.all_toList]
  have e2 : Txt.isalpha x = (decide (x.cps.toList.length > 0) && x.cps.toList.all Unicode.isAlpha) := by unfold Txt.isalpha; rw [Array.all_toList, Array.length_toList]; rfl
  have e3 : Txt.islower x = (x.cps.toList.any Unicode.isLower && !x.cps.toList.any fun c => Unicode.isUpper c || Unicode.isTitle c) := by unfold Txt.islower; rw [Array.any_toList, Array.any_toList]
  rw [e1, e2, e3, h]
  unfold nameB
  rw [Array.all_toList, Array.length_toList]
  show (decide (x.cps.size ≤ 5) && _ && _) = _
  cases decide (x.cps.size ≤ 5) <;> cases decide (x ≠ "crown") <;> cases decide (1 ≤ x.cps.size) <;> simp
end He

namespace He
open PySem PySem.Spec PyProof.Rows L2
section
variable {P : Program} {w : World} {K : PySem.W.Frag} {mg : Str → Option Value} {base : Heap}

/-! ### any value at all: data, and instances of the program's own classes -/
inductive AD where
  | non | bl (b : Bool) | int (i : Int) | str (x : Str) | lst (ds : List AD) | tup (ds : List AD) | ins (C : Addr)
mutual
inductive Av (K : PySem.W.Frag) (H : Hp) : V → AD → Prop
  | non : Av K H .non .non
  | bl (b : Bool) : Av K H (.bl b) (.bl b)
  | int (i : Int) : Av K H (.int i) (.int i)
  | str (x : Str) : Av K H (.str x) (.str x)
  | lst {a : Addr} {xs : List V} {ds : List AD} : SqL K H a xs → AvAll K H xs ds → Av K H (.ref a) (.lst ds)
  | tup {a : Addr} {xs : List V} {ds : List AD} : SqT K H a xs → AvAll K H xs ds → Av K H (.ref a) (.tup ds)
  | ins {a C dx : Addr} {fs : List (Str × V)} : H a = some (.ins C dx fs) → TyOf K H (.ref a) (.ref C) → Av K H (.ref a) (.ins C)
inductive AvAll (K : PySem.W.Frag) (H : Hp) : List V → List AD → Prop
  | nil : AvAll K H [] []
  | cons {v : V} {vs : List V} {d : AD} {ds : List AD} : Av K H v d → AvAll K H vs ds → AvAll K H (v :: vs) (d :: ds)
end
theorem tyOf_mono {H H' : Hp} (s : Same H H') {v : V} {t : Value} (h : TyOf K H v t) : TyOf K H' v t := by
  cases h with
  | non => exact .non
  | bl b => exact .bl b
  | int i => exact .int i
  | str x => exact .str x
  | flt x => exact .flt x
  | lst e => exact .lst (s _ _ e)
  | frz e => exact .frz (s _ _ e)
  | tup e => exact .tup (s _ _ e)
  | dK e => exact .dK (s _ _ e)
  | dT e => exact .dT (s _ _ e)
  | ins e cl ha hn htk hm => exact .ins (s _ _ e) cl ha hn htk hm
mutual
theorem av_mono {K : PySem.W.Frag} {H H' : Hp} (s : Same H H') : ∀ (d : AD) (v : V), Av K H v d → Av K H' v d
  | .non, _, h => by cases h; exact .non
  | .bl b, _, h => by cases h; exact .bl b
  | .int i, _, h => by cases h; exact .int i
  | .str x, _, h => by cases h; exact .str x
  | .lst ds, _, h => by
    cases h with
    | lst hs ha => exact .lst (s.seq hs) (avA_mono s ds _ ha)
  | .tup ds, _, h => by
    cases h with
    | tup hs ha => exact .tup (Same.seqT s hs) (avA_mono s ds _ ha)
  | .ins C, _, h => by
    cases h with
    | ins e t => exact .ins (s _ _ e) (tyOf_mono s t)
theorem avA_mono {K : PySem.W.Frag} {H H' : Hp} (s : Same H H') : ∀ (ds : List AD) (vs : List V), AvAll K H vs ds → AvAll K H' vs ds
  | [], _, h => by cases h; exact .nil
  | d :: ds, _, h => by
    cases h with
    | cons a b => exact .cons (av_mono s d _ a) (avA_mono s ds _ b)
end
theorem avA_len {H : Hp} : ∀ {vs : List V} {ds : List AD}, AvAll K H vs ds → vs.length = ds.length
  | [], _, .nil => rfl
  | _ :: _, _, .cons _ b => congrArg (· + 1) (avA_len b)
theorem avA_get {H : Hp} : ∀ {vs : List V} {ds : List AD} {i : Nat} {v : V}, AvAll K H vs ds → vs[i]? = some v → ∃ d, ds[i]? = some d ∧ Av K H v d
  | _, _, i, _, .nil, e => by simp at e
  | _, _, 0, _, .cons a _, e => by
    cases (Option.some.inj e)
    exact ⟨_, rfl, a⟩
  | _, _, i + 1, _, .cons _ b, e => avA_get (i := i) b e
mutual
/-- plain data as any value -/
def ad : PyData → AD
  | .none => .non
  | .bool b => .bl b
  | .int i => .int i
  | .str x => .str x
  | .list ds => .lst (adA ds)
  | .tuple ds => .tup (adA ds)
  | .dict _ => .non
def adA : List PyData → List AD
  | [] => []
  | d :: ds => ad d :: adA ds
end
theorem adA_map (ds : List PyData) : adA ds = ds.map ad := by
  induction ds with
  | nil => rfl
  | cons d ds ih => show ad d :: adA ds = _; rw [ih]; rfl
mutual
theorem av_of {K : PySem.W.Frag} {H : Hp} : ∀ (d : PyData) (v : V), Dp K H v d → Av K H v (ad d)
  | .none, _, h => by cases h; exact .non
  | .bool b, _, h => by cases h; exact .bl b
  | .int i, _, h => by cases h; exact .int i
  | .str x, _, h => by cases h; exact .str x
  | .list ds, _, h => by
    cases h with
    | lst hs ha => exact .lst hs (avA_of ds _ ha)
  | .tuple ds, _, h => by
    cases h with
    | tup hs ha => exact .tup hs (avA_of ds _ ha)
  | .dict _, _, h => by cases h
theorem avA_of {K : PySem.W.Frag} {H : Hp} : ∀ (ds : List PyData) (vs : List V), DpAll K H vs ds → AvAll K H vs (adA ds)
  | [], _, h => by cases h; exact .nil
  | d :: ds, _, h => by
    cases h with
    | cons a b => exact .cons (av_of d _ a) (avA_of ds _ b)
end
/-! ### isinstance of any value -/
def tyA : AD → Value
  | .non => .type "NoneType"
  | .bl _ => .type "bool"
  | .int _ => .type "int"
  | .str _ => .type "str"
  | .lst _ => .type "list"
  | .tup _ => .type "tuple"
  | .ins C => .ref C
theorem av_ty {H : Hp} {v : V} {d : AD} (h : Av K H v d) : TyX K H v (tyA d) := by
  cases h with
  | non => exact .base .non
  | bl b => exact .base (.bl b)
  | int i => exact .base (.int i)
  | str x => exact .base (.str x)
  | lst hs ha =>
    rcases hs with (h | ⟨o, h⟩) | ⟨o, its, n, h, c, _⟩
    · exact .base (.lst h)
    · exact .base (.frz h)
    · exact .kList h c
  | tup hs ha =>
    rcases hs with (h | ⟨o, h⟩) | ⟨o, its, n, h, c, _⟩
    · exact .base (.tup h)
    · exact .fTuple h
    · exact .kTuple h c
  | ins e t => exact .base t
/-- of an own class of the program nothing built in -/
structure NoBuilt (K : PySem.W.Frag) (C : Addr) : Prop where
  i : PySem.W.kitOne K (.ref C) (.type "int") = some false
  s : PySem.W.kitOne K (.ref C) (.type "str") = some false
  l : PySem.W.kitOne K (.ref C) (.type "list") = some false
  t : PySem.W.kitOne K (.ref C) (.type "tuple") = some false
mutual
/-- each instance is of such a class -/
def AdOk (K : PySem.W.Frag) : AD → Prop
  | .ins C => NoBuilt K C
  | .lst ds => ds.length < 4000 ∧ AdOkA K ds
  | .tup ds => ds.length < 4000 ∧ AdOkA K ds
  | .str x => x.length ≤ sizeLine
  | _ => True
def AdOkA (K : PySem.W.Frag) : List AD → Prop
  | [] => True
  | d :: ds => AdOk K d ∧ AdOkA K ds
end
def isStrA : AD → Bool | .str _ => true | _ => false
def isIntT : AD → Bool | .int _ => true | .bl _ => true | _ => false
def isBoolA : AD → Bool | .bl _ => true | _ => false
def isIntA : AD → Bool | .int _ => true | _ => false
def isLstA : AD → Bool | .lst _ => true | _ => false
def isTupA : AD → Bool | .tup _ => true | _ => false
def isSeqA : AD → Bool | .lst _ => true | .tup _ => true | _ => false
def isPairA : AD → Bool | .tup [_, _] => true | _ => false
theorem kit_int : ∀ {d : AD}, AdOk K d → PySem.W.kitOne K (tyA d) (.type "int") = some (isIntT d)
  | .non, _ => (kit_ty (by decide +kernel) : PySem.W.kitOne K (.type "NoneType") (.type "int") = some false)
  | .bl _, _ => (kit_ty (by decide +kernel) : PySem.W.kitOne K (.type "bool") (.type "int") = some true)
  | .int _, _ => (kit_ty (by decide +kernel) : PySem.W.kitOne K (.type "int") (.type "int") = some true)
  | .str _, _ => (kit_ty (by decide +kernel) : PySem.W.kitOne K (.type "str") (.type "int") = some false)
  | .lst _, _ => (kit_ty (by decide +kernel) : PySem.W.kitOne K (.type "list") (.type "int") = some false)
  | .tup _, _ => (kit_ty (by decide +kernel) : PySem.W.kitOne K (.type "tuple") (.type "int") = some false)
  | .ins _, h => NoBuilt.i h
theorem kit_str : ∀ {d : AD}, AdOk K d → PySem.W.kitOne K (tyA d) (.type "str") = some (isStrA d)
  | .non, _ => (kit_ty (by decide +kernel) : PySem.W.kitOne K (.type "NoneType") (.type "str") = some false)
  | .bl _, _ => (kit_ty (by decide +kernel) : PySem.W.kitOne K (.type "bool") (.type "str") = some false)
  | .int _, _ => (kit_ty (by decide +kernel) : PySem.W.kitOne K (.type "int") (.type "str") = some false)
  | .str _, _ => (kit_ty (by decide +kernel) : PySem.W.kitOne K (.type "str") (.type "str") = some true)
  | .lst _, _ => (kit_ty (by decide +kernel) : PySem.W.kitOne K (.type "list") (.type "str") = some false)
  | .tup _, _ => (kit_ty (by decide +kernel) : PySem.W.kitOne K (.type "tuple") (.type "str") = some false)
  | .ins _, h => NoBuilt.s h
theorem kit_lst : ∀ {d : AD}, AdOk K d → PySem.W.kitOne K (tyA d) (.type "list") = some (isLstA d)
  | .non, _ => (kit_ty (by decide +kernel) : PySem.W.kitOne K (.type "NoneType") (.type "list") = some false)
  | .bl _, _ => (kit_ty (by decide +kernel) : PySem.W.kitOne K (.type "bool") (.type "list") = some false)
  | .int _, _ => (kit_ty (by decide +kernel) : PySem.W.kitOne K (.type "int") (.type "list") = some false)
  | .str _, _ => (kit_ty (by decide +kernel) : PySem.W.kitOne K (.type "str") (.type "list") = some false)
  | .lst _, _ => (kit_ty (by decide +kernel) : PySem.W.kitOne K (.type "list") (.type "list") = some true)
  | .tup _, _ => (kit_ty (by decide +kernel) : PySem.W.kitOne K (.type "tuple") (.type "list") = some false)
  | .ins _, h => NoBuilt.l h
theorem kit_tup : ∀ {d : AD}, AdOk K d → PySem.W.kitOne K (tyA d) (.type "tuple") = some (isTupA d)
  | .non, _ => (kit_ty (by decide +kernel) : PySem.W.kitOne K (.type "NoneType") (.type "tuple") = some false)
  | .bl _, _ => (kit_ty (by decide +kernel) : PySem.W.kitOne K (.type "bool") (.type "tuple") = some false)
  | .int _, _ => (kit_ty (by decide +kernel) : PySem.W.kitOne K (.type "int") (.type "tuple") = some false)
  | .str _, _ => (kit_ty (by decide +kernel) : PySem.W.kitOne K (.type "str") (.type "tuple") = some false)
  | .lst _, _ => (kit_ty (by decide +kernel) : PySem.W.kitOne K (.type "list") (.type "tuple") = some false)
  | .tup _, _ => (kit_ty (by decide +kernel) : PySem.W.kitOne K (.type "tuple") (.type "tuple") = some true)
  | .ins _, h => NoBuilt.t h
theorem kit_seq {d : AD} (h : AdOk K d) : PySem.W.kitAny K (tyA d) [.type "list", .type "tuple"] = some (isSeqA d) := by
  refine kitAny_cons (kit_lst h) (fun e => kitAny_cons (kit_tup h) (fun e2 => ?_) (fun e2 => ?_)) (fun e => ?_)
  · rw [kitAny_nil]
    cases d <;> first | rfl | (exact nomatch (show true = false from e)) | (exact nomatch (show true = false from e2))
  · cases d <;> first | rfl | (exact nomatch (show false = true from e2))
  · cases d <;> first | rfl | (exact nomatch (show false = true from e))
/-- a test of any value -/
def spIs (K : PySem.W.Frag) (f : AD → Bool) : Sp := fun vs H Q _ => ∃ (v : V) (d : AD), vs = [v] ∧ Av K H v d ∧ AdOk K d ∧ ∀ H', Same H H' → Q (.bl (f d)) H'
theorem ok_isint (T : TxtG K mg) : FnOk P w K mg base CX0 1 T.dIsInteger.f T.dIsInteger.fd ["value"] (spIs K isIntA) := by
  refine T.dIsInteger.F.ok scDIsInteger (fun vs H Q E h => ?_) (fun cdv A outer s H vs Q E hr h => ?_)
  · obtain ⟨v, d, rfl, _⟩ := h
    rfl
  · obtain ⟨v, d, rfl, hv, hd, q⟩ := h
    refine ⟨_, (pss_one (ps_ret (pe_and (pe_callB call_isi (by rfl) T.z_isinstance (by decide +kernel) (pa_cons (pv 0) (pa_cons (pe_bltn (v := .ty "int") (u := .type "int") (by rfl) T.z_int (by decide +kernel) rfl) pa_nil))) (pe_one (pe_not (pe_callB call_isi (by rfl) T.z_isinstance (by decide +kernel) (pa_cons (pv 0) (pa_cons (pe_bltn (v := .ty "bool") (u := .type "bool") (by rfl) T.z_bool (by decide +kernel) rfl) pa_nil)))))))), ?_⟩
    simp only [and_assoc, tSeq, tAsg, tOp, tUn, rI, rI0, rU, tVar, tC, gName, L2.start, tIfS, tTest, tB, tCB, tCons, tNil, tIf, tRet, tRetN, tLst, tTup, tNext, tDrop, tNot, tNotV, tAnd, tOr, tAndV, tOrV, tPar, tAug, ipI, rEq, rNe, gSub, rSetL, rIxL, rIxT, tBM, tBM0, rAppend, rPopAt, gTup, gCons, gNil, tCall, tSl, tPart, tNoPart, rSlL, rCat, rEqD, rNeD, rIn, scal, List.map_cons, List.map_nil, List.length_cons, List.length_nil, List.length_map, List.cons_append, List.nil_append, List.append_nil, List.replicate, List.getElem?_cons_zero, List.getElem?_cons_succ, List.set_cons_zero, List.set_cons_succ, Option.some.injEq, exists_eq_left', exists_eq_left, exists_eq_right, exists_and_left, exists_and_right, V.int.injEq, V.ref.injEq, V.str.injEq, V.bl.injEq, reduceCtorEq, false_and, and_false, exists_false, or_false, false_or, true_and, and_true, List.cons.injEq, decide_eq_true_eq, cxOf, if_true, if_false, Bool.false_eq_true, Nat.reduceAdd, Nat.reduceSub, Nat.zero_add, Nat.add_sub_cancel_left, Nat.add_sub_cancel, Nat.sub_self, tFor_eq, tLc_eq, iRng1, iRng2, iList, iTup, iEnum, rIsi, rIsiT]
    refine ⟨_, _, .ty "int", av_ty hv, _, kit_int hd, ?_⟩
    have kb : PySem.W.kitOne K (tyA d) (.type "bool") = some (isBoolA d) ∨ isIntT d = false := by
      cases d with
      | bl b => exact .inl (kit_ty (by decide +kernel) : PySem.W.kitOne K (.type "bool") (.type "bool") = some true)
      | int i => exact .inl (kit_ty (by decide +kernel) : PySem.W.kitOne K (.type "int") (.type "bool") = some false)
      | non => exact .inr rfl
      | str x => exact .inr rfl
      | lst x => exact .inr rfl
      | tup x => exact .inr rfl
      | ins x => exact .inr rfl
    have q0 := q H (Same.refl H)
    cases e : isIntT d with
    | false =>
      simp only [and_assoc, tSeq, tAsg, tOp, tUn, rI, rI0, rU, tVar, tC, gName, L2.start, tIfS, tTest, tB, tCB, tCons, tNil, tIf, tRet, tRetN, tLst, tTup, tNext, tDrop, tNot, tNotV, tAnd, tOr, tAndV, tOrV, tPar, tAug, ipI, rEq, rNe, gSub, rSetL, rIxL, rIxT, tBM, tBM0, rAppend, rPopAt, gTup, gCons, gNil, tCall, tSl, tPart, tNoPart, rSlL, rCat, rEqD, rNeD, rIn, scal, List.map_cons, List.map_nil, List.length_cons, List.length_nil, List.length_map, List.cons_append, List.nil_append, List.append_nil, List.replicate, List.getElem?_cons_zero, List.getElem?_cons_succ, List.set_cons_zero, List.set_cons_succ, Option.some.injEq, exists_eq_left', exists_eq_left, exists_eq_right, exists_and_left, exists_and_right, V.int.injEq, V.ref.injEq, V.str.injEq, V.bl.injEq, reduceCtorEq, false_and, and_false, exists_false, or_false, false_or, true_and, and_true, List.cons.injEq, decide_eq_true_eq, cxOf, if_true, if_false, Bool.false_eq_true, Nat.reduceAdd, Nat.reduceSub, Nat.zero_add, Nat.add_sub_cancel_left, Nat.add_sub_cancel, Nat.sub_self, tFor_eq, tLc_eq, iRng1, iRng2, iList, iTup, iEnum, rIsi, rIsiT]
      have e2 : isIntA d = false := by cases d <;> first | rfl | (exact nomatch (show true = false from e))
      rw [e2] at q0
      exact q0
    | true =>
      simp only [and_assoc, tSeq, tAsg, tOp, tUn, rI, rI0, rU, tVar, tC, gName, L2.start, tIfS, tTest, tB, tCB, tCons, tNil, tIf, tRet, tRetN, tLst, tTup, tNext, tDrop, tNot, tNotV, tAnd, tOr, tAndV, tOrV, tPar, tAug, ipI, rEq, rNe, gSub, rSetL, rIxL, rIxT, tBM, tBM0, rAppend, rPopAt, gTup, gCons, gNil, tCall, tSl, tPart, tNoPart, rSlL, rCat, rEqD, rNeD, rIn, scal, List.map_cons, List.map_nil, List.length_cons, List.length_nil, List.length_map, List.cons_append, List.nil_append, List.append_nil, List.replicate, List.getElem?_cons_zero, List.getElem?_cons_succ, List.set_cons_zero, List.set_cons_succ, Option.some.injEq, exists_eq_left', exists_eq_left, exists_eq_right, exists_and_left, exists_and_right, V.int.injEq, V.ref.injEq, V.str.injEq, V.bl.injEq, reduceCtorEq, false_and, and_false, exists_false, or_false, false_or, true_and, and_true, List.cons.injEq, decide_eq_true_eq, cxOf, if_true, if_false, Bool.false_eq_true, Nat.reduceAdd, Nat.reduceSub, Nat.zero_add, Nat.add_sub_cancel_left, Nat.add_sub_cancel, Nat.sub_self, tFor_eq, tLc_eq, iRng1, iRng2, iList, iTup, iEnum, rIsi, rIsiT]
      rcases kb with kb | kb
      · refine ⟨_, _, .ty "bool", av_ty hv, _, kb, ?_⟩
        have e2 : isIntA d = !isBoolA d := by cases d <;> first | rfl | (exact nomatch (show false = true from e))
        rw [e2] at q0
        exact q0
      · rw [e] at kb
        cases kb
theorem ok_isseq (T : TxtG K mg) : FnOk P w K mg base CX0 1 T.dIsSequence.f T.dIsSequence.fd ["value"] (spIs K isSeqA) := by
  refine T.dIsSequence.F.ok scDIsSequence (fun vs H Q E h => ?_) (fun cdv A outer s H vs Q E hr h => ?_)
  · obtain ⟨v, d, rfl, _⟩ := h
    rfl
  · obtain ⟨v, d, rfl, hv, hd, q⟩ := h
    refine ⟨_, (pss_one (ps_ret (pe_callB call_isiT (by rfl) T.z_isinstance (by decide +kernel) (pa_cons (pv 0) (pa_cons (pe_tup (pa_cons (pe_bltn (v := .ty "list") (u := .type "list") (by rfl) T.z_list (by decide +kernel) rfl) (pa_cons (pe_bltn (v := .ty "tuple") (u := .type "tuple") (by rfl) T.z_tuple (by decide +kernel) rfl) pa_nil))) pa_nil))))), ?_⟩
    simp only [and_assoc, tSeq, tAsg, tOp, tUn, rI, rI0, rU, tVar, tC, gName, L2.start, tIfS, tTest, tB, tCB, tCons, tNil, tIf, tRet, tRetN, tLst, tTup, tNext, tDrop, tNot, tNotV, tAnd, tOr, tAndV, tOrV, tPar, tAug, ipI, rEq, rNe, gSub, rSetL, rIxL, rIxT, tBM, tBM0, rAppend, rPopAt, gTup, gCons, gNil, tCall, tSl, tPart, tNoPart, rSlL, rCat, rEqD, rNeD, rIn, scal, List.map_cons, List.map_nil, List.length_cons, List.length_nil, List.length_map, List.cons_append, List.nil_append, List.append_nil, List.replicate, List.getElem?_cons_zero, List.getElem?_cons_succ, List.set_cons_zero, List.set_cons_succ, Option.some.injEq, exists_eq_left', exists_eq_left, exists_eq_right, exists_and_left, exists_and_right, V.int.injEq, V.ref.injEq, V.str.injEq, V.bl.injEq, reduceCtorEq, false_and, and_false, exists_false, or_false, false_or, true_and, and_true, List.cons.injEq, decide_eq_true_eq, cxOf, if_true, if_false, Bool.false_eq_true, Nat.reduceAdd, Nat.reduceSub, Nat.zero_add, Nat.add_sub_cancel_left, Nat.add_sub_cancel, Nat.sub_self, tFor_eq, tLc_eq, iRng1, iRng2, iList, iTup, iEnum, rIsi, rIsiT]
    refine ⟨by decide, fun t nt => ⟨_, upd_same, _, _, .cons (.ty "list") (.cons (.ty "tuple") .nil), av_ty (av_mono (same_upd nt) _ _ hv), _, kit_seq hd, ?_⟩⟩
    exact q _ (same_upd nt)
theorem ok_ispair (T : TxtG K mg) : FnOk P w K mg base CX0 1 T.dIsPair.f T.dIsPair.fd ["value"] (spIs K isPairA) := by
  refine T.dIsPair.F.ok scDIsPair (fun vs H Q E h => ?_) (fun cdv A outer s H vs Q E hr h => ?_)
  · obtain ⟨v, d, rfl, _⟩ := h
    rfl
  · obtain ⟨v, d, rfl, hv, hd, q⟩ := h
    refine ⟨_, (pss_one (ps_ret (pe_and (pe_callB call_isi (by rfl) T.z_isinstance (by decide +kernel) (pa_cons (pv 0) (pa_cons (pe_bltn (v := .ty "tuple") (u := .type "tuple") (by rfl) T.z_tuple (by decide +kernel) rfl) pa_nil))) (pe_one (pe_cmpR op_eq (pe_callB call_len_seq (by rfl) T.z_len (by decide +kernel) (pa_cons (pv 0) pa_nil)) pe_int (nomark _)))))), ?_⟩
    simp only [and_assoc, tSeq, tAsg, tOp, tUn, rI, rI0, rU, tVar, tC, gName, L2.start, tIfS, tTest, tB, tCB, tCons, tNil, tIf, tRet, tRetN, tLst, tTup, tNext, tDrop, tNot, tNotV, tAnd, tOr, tAndV, tOrV, tPar, tAug, ipI, rEq, rNe, gSub, rSetL, rIxL, rIxT, tBM, tBM0, rAppend, rPopAt, gTup, gCons, gNil, tCall, tSl, tPart, tNoPart, rSlL, rCat, rEqD, rNeD, rIn, scal, List.map_cons, List.map_nil, List.length_cons, List.length_nil, List.length_map, List.cons_append, List.nil_append, List.append_nil, List.replicate, List.getElem?_cons_zero, List.getElem?_cons_succ, List.set_cons_zero, List.set_cons_succ, Option.some.injEq, exists_eq_left', exists_eq_left, exists_eq_right, exists_and_left, exists_and_right, V.int.injEq, V.ref.injEq, V.str.injEq, V.bl.injEq, reduceCtorEq, false_and, and_false, exists_false, or_false, false_or, true_and, and_true, List.cons.injEq, decide_eq_true_eq, cxOf, if_true, if_false, Bool.false_eq_true, Nat.reduceAdd, Nat.reduceSub, Nat.zero_add, Nat.add_sub_cancel_left, Nat.add_sub_cancel, Nat.sub_self, tFor_eq, tLc_eq, iRng1, iRng2, iList, iTup, iEnum, rIsi, rIsiT]
    refine ⟨_, _, .ty "tuple", av_ty hv, _, kit_tup hd, ?_⟩
    have q0 := q H (Same.refl H)
    cases hv with
    | @tup a xs ds hs ha =>
      simp only [and_assoc, tSeq, tAsg, tOp, tUn, rI, rI0, rU, tVar, tC, gName, L2.start, tIfS, tTest, tB, tCB, tCons, tNil, tIf, tRet, tRetN, tLst, tTup, tNext, tDrop, tNot, tNotV, tAnd, tOr, tAndV, tOrV, tPar, tAug, ipI, rEq, rNe, gSub, rSetL, rIxL, rIxT, tBM, tBM0, rAppend, rPopAt, gTup, gCons, gNil, tCall, tSl, tPart, tNoPart, rSlL, rCat, rEqD, rNeD, rIn, scal, List.map_cons, List.map_nil, List.length_cons, List.length_nil, List.length_map, List.cons_append, List.nil_append, List.append_nil, List.replicate, List.getElem?_cons_zero, List.getElem?_cons_succ, List.set_cons_zero, List.set_cons_succ, Option.some.injEq, exists_eq_left', exists_eq_left, exists_eq_right, exists_and_left, exists_and_right, V.int.injEq, V.ref.injEq, V.str.injEq, V.bl.injEq, reduceCtorEq, false_and, and_false, exists_false, or_false, false_or, true_and, and_true, List.cons.injEq, decide_eq_true_eq, cxOf, if_true, if_false, Bool.false_eq_true, Nat.reduceAdd, Nat.reduceSub, Nat.zero_add, Nat.add_sub_cancel_left, Nat.add_sub_cancel, Nat.sub_self, tFor_eq, tLc_eq, iRng1, iRng2, iList, iTup, iEnum, rIsi, rIsiT, isTupA]
      refine ⟨xs, .inr hs, ?_⟩
      rw [avA_len ha]
      have e : isPairA (.tup ds) = decide ((ds.length : Int) = 2) := by
        match ds with
        | [] => rfl
        | [_] => rfl
        | [_, _] => rfl
        | _ :: _ :: _ :: r => exact (decide_eq_false (by simp only [List.length_cons]; omega)).symm
      rw [e] at q0
      exact q0
    | non => exact q0
    | bl b => exact q0
    | int i => exact q0
    | str x => exact q0
    | lst hs ha => exact q0
    | ins e t => exact q0
def isNameA : AD → Bool | .str x => nameB x | _ => false
theorem ok_isname (T : TxtG K mg) : FnOk P w K mg base CX0 1 T.dIsName.f T.dIsName.fd ["value"] (spIs K isNameA) := by
  refine T.dIsName.F.ok scDIsName (fun vs H Q E h => ?_) (fun cdv A outer s H vs Q E hr h => ?_)
  · obtain ⟨v, d, rfl, _⟩ := h
    rfl
  · obtain ⟨v, d, rfl, hv, hd, q⟩ := h
    refine ⟨_, (pss_cons (ps_if (PW.pt (pw_or (pt_not (pt_val (pe_callB call_isi (by rfl) T.z_isinstance (by decide +kernel) (pa_cons (pv 0) (pa_cons (pe_bltn (v := .ty "str") (u := .type "str") (by rfl) T.z_str (by decide +kernel) rfl) pa_nil))))) (pw_or (pt_cmpR op_gt (pe_callB call_len_str (by rfl) T.z_len (by decide +kernel) (pa_cons (pv 0) pa_nil)) (pe_glob (v := .int 5) (by rfl) T.k_LONGEST_NAME.choose_spec ⟨_, rfl⟩) (nomark _)) (pw_or1 (pt_cmpR op_eq (pv 0) (pe_glob (v := .str "crown") (by rfl) T.k_CROWN.choose_spec ⟨_, rfl⟩) (nomark _))))))
      (pss_one (ps_ret pe_bl))
      pss_nil)
      (pss_one (ps_ret (pe_and (pe_m0 PySem.F.slot_str_isascii PySem.F.type_str_isascii mt_isascii (pv 0)) (pe_and (pe_m0 PySem.F.slot_str_isalpha PySem.F.type_str_isalpha mt_isalpha (pv 0)) (pe_one (pe_m0 PySem.F.slot_str_islower PySem.F.type_str_islower mt_islower (pv 0)))))))), ?_⟩
    have q0 := q H (Same.refl H)
    simp only [and_assoc, tSeq, tAsg, tOp, tUn, rI, rI0, rU, tVar, tC, gName, L2.start, tIfS, tTest, tB, tCB, tCons, tNil, tIf, tRet, tRetN, tLst, tTup, tNext, tDrop, tNot, tNotV, tAnd, tOr, tAndV, tOrV, tPar, tAug, ipI, rEq, rNe, gSub, rSetL, rIxL, rIxT, tBM, tBM0, rAppend, rPopAt, gTup, gCons, gNil, tCall, tSl, tPart, tNoPart, rSlL, rCat, rEqD, rNeD, rIn, scal, List.map_cons, List.map_nil, List.length_cons, List.length_nil, List.length_map, List.cons_append, List.nil_append, List.append_nil, List.replicate, List.getElem?_cons_zero, List.getElem?_cons_succ, List.set_cons_zero, List.set_cons_succ, Option.some.injEq, exists_eq_left', exists_eq_left, exists_eq_right, exists_and_left, exists_and_right, V.int.injEq, V.ref.injEq, V.str.injEq, V.bl.injEq, reduceCtorEq, false_and, and_false, exists_false, or_false, false_or, true_and, and_true, List.cons.injEq, decide_eq_true_eq, cxOf, if_true, if_false, Bool.false_eq_true, Nat.reduceAdd, Nat.reduceSub, Nat.zero_add, Nat.add_sub_cancel_left, Nat.add_sub_cancel, Nat.sub_self, tFor_eq, tLc_eq, iRng1, iRng2, iList, iTup, iEnum, rIsi, rIsiT, tM0]
    refine ⟨_, _, .ty "str", av_ty hv, _, kit_str hd, ?_⟩
    cases hv with
    | str x =>
      simp only [and_assoc, tSeq, tAsg, tOp, tUn, rI, rI0, rU, tVar, tC, gName, L2.start, tIfS, tTest, tB, tCB, tCons, tNil, tIf, tRet, tRetN, tLst, tTup, tNext, tDrop, tNot, tNotV, tAnd, tOr, tAndV, tOrV, tPar, tAug, ipI, rEq, rNe, gSub, rSetL, rIxL, rIxT, tBM, tBM0, rAppend, rPopAt, gTup, gCons, gNil, tCall, tSl, tPart, tNoPart, rSlL, rCat, rEqD, rNeD, rIn, scal, List.map_cons, List.map_nil, List.length_cons, List.length_nil, List.length_map, List.cons_append, List.nil_append, List.append_nil, List.replicate, List.getElem?_cons_zero, List.getElem?_cons_succ, List.set_cons_zero, List.set_cons_succ, Option.some.injEq, exists_eq_left', exists_eq_left, exists_eq_right, exists_and_left, exists_and_right, V.int.injEq, V.ref.injEq, V.str.injEq, V.bl.injEq, reduceCtorEq, false_and, and_false, exists_false, or_false, false_or, true_and, and_true, List.cons.injEq, decide_eq_true_eq, cxOf, if_true, if_false, Bool.false_eq_true, Nat.reduceAdd, Nat.reduceSub, Nat.zero_add, Nat.add_sub_cancel_left, Nat.add_sub_cancel, Nat.sub_self, tFor_eq, tLc_eq, iRng1, iRng2, iList, iTup, iEnum, rIsi, rIsiT, isStrA, Bool.not_true]
      refine ⟨hd, ?_⟩
      have e := name_eq x
      have q0 : Q (.bl (nameB x)) H := q0
      rw [← e] at q0
      by_cases h5 : (5 : Int) < (x.length : Int)
      · rw [if_pos h5]
        rw [decide_eq_false (show ¬ x.length ≤ 5 by omega)] at q0
        exact q0
      · rw [if_neg h5]
        rw [decide_eq_true (show x.length ≤ 5 by omega)] at q0
        by_cases hc : x = Str.ofString "crown"
        · rw [if_pos hc]
          rw [decide_eq_false (show ¬ x ≠ Str.ofString "crown" from fun z => z hc)] at q0
          exact q0
        · rw [if_neg hc]
          rw [decide_eq_true (show x ≠ Str.ofString "crown" from hc)] at q0
          refine ⟨⟨x, rfl⟩, ?_⟩
          cases ea : Txt.isascii x with
          | false =>
            rw [ea] at q0
            exact q0
          | true =>
            rw [ea] at q0
            simp only [and_assoc, tSeq, tAsg, tOp, tUn, rI, rI0, rU, tVar, tC, gName, L2.start, tIfS, tTest, tB, tCB, tCons, tNil, tIf, tRet, tRetN, tLst, tTup, tNext, tDrop, tNot, tNotV, tAnd, tOr, tAndV, tOrV, tPar, tAug, ipI, rEq, rNe, gSub, rSetL, rIxL, rIxT, tBM, tBM0, rAppend, rPopAt, gTup, gCons, gNil, tCall, tSl, tPart, tNoPart, rSlL, rCat, rEqD, rNeD, rIn, scal, List.map_cons, List.map_nil, List.length_cons, List.length_nil, List.length_map, List.cons_append, List.nil_append, List.append_nil, List.replicate, List.getElem?_cons_zero, List.getElem?_cons_succ, List.set_cons_zero, List.set_cons_succ, Option.some.injEq, exists_eq_left', exists_eq_left, exists_eq_right, exists_and_left, exists_and_right, V.int.injEq, V.ref.injEq, V.str.injEq, V.bl.injEq, reduceCtorEq, false_and, and_false, exists_false, or_false, false_or, true_and, and_true, List.cons.injEq, decide_eq_true_eq, cxOf, if_true, if_false, Bool.false_eq_true, Nat.reduceAdd, Nat.reduceSub, Nat.zero_add, Nat.add_sub_cancel_left, Nat.add_sub_cancel, Nat.sub_self, tFor_eq, tLc_eq, iRng1, iRng2, iList, iTup, iEnum, rIsi, rIsiT]
            refine ⟨⟨x, rfl⟩, ?_⟩
            cases eb : Txt.isalpha x with
            | false =>
              rw [eb] at q0
              exact q0
            | true =>
              rw [eb] at q0
              simp only [and_assoc, tSeq, tAsg, tOp, tUn, rI, rI0, rU, tVar, tC, gName, L2.start, tIfS, tTest, tB, tCB, tCons, tNil, tIf, tRet, tRetN, tLst, tTup, tNext, tDrop, tNot, tNotV, tAnd, tOr, tAndV, tOrV, tPar, tAug, ipI, rEq, rNe, gSub, rSetL, rIxL, rIxT, tBM, tBM0, rAppend, rPopAt, gTup, gCons, gNil, tCall, tSl, tPart, tNoPart, rSlL, rCat, rEqD, rNeD, rIn, scal, List.map_cons, List.map_nil, List.length_cons, List.length_nil, List.length_map, List.cons_append, List.nil_append, List.append_nil, List.replicate, List.getElem?_cons_zero, List.getElem?_cons_succ, List.set_cons_zero, List.set_cons_succ, Option.some.injEq, exists_eq_left', exists_eq_left, exists_eq_right, exists_and_left, exists_and_right, V.int.injEq, V.ref.injEq, V.str.injEq, V.bl.injEq, reduceCtorEq, false_and, and_false, exists_false, or_false, false_or, true_and, and_true, List.cons.injEq, decide_eq_true_eq, cxOf, if_true, if_false, Bool.false_eq_true, Nat.reduceAdd, Nat.reduceSub, Nat.zero_add, Nat.add_sub_cancel_left, Nat.add_sub_cancel, Nat.sub_self, tFor_eq, tLc_eq, iRng1, iRng2, iList, iTup, iEnum, rIsi, rIsiT]
              exact ⟨⟨x, rfl⟩, q0⟩
    | non => exact q0
    | bl b => exact q0
    | int i => exact q0
    | lst hs ha => exact q0
    | tup hs ha => exact q0
    | ins e t => exact q0

end
end He

/-! set(xs) of any number of texts, with repetitions -/
namespace He
namespace SetT
open PySem PySem.Spec PyProof.Rows
def put1 (acc : List Str) (x : Str) : List Str := if acc.any (· == x) then acc else acc ++ [x]
/-- each once -/
def once (xs : List Str) : List Str := xs.foldl put1 []
theorem put1_any (acc : List Str) (x k : Str) : (put1 acc x).any (· == k) = (acc.any (· == k) || decide (k = x)) := by
  unfold put1
  by_cases h : acc.any (· == x) = true
  · rw [if_pos h]
    by_cases e : k = x
    · rw [e, h, decide_eq_true rfl]
      rfl
    · rw [decide_eq_false e, Bool.or_false]
  · rw [if_neg h, List.any_append]
    congr 1
    by_cases e : k = x
    · rw [e, decide_eq_true rfl]
      simp
    · rw [decide_eq_false e]
      simp only [List.any_cons, List.any_nil, Bool.or_false]
      exact beq_eq_false_iff_ne.mpr fun z => e z.symm
theorem put1_len (acc : List Str) (x : Str) : (put1 acc x).length = if acc.any (· == x) then acc.length else acc.length + 1 := by
  unfold put1
  split <;> simp
theorem once_snoc (xs : List Str) (x : Str) : once (xs ++ [x]) = put1 (once xs) x := by
  unfold once
  rw [List.foldl_append]
  rfl
theorem fold_len : ∀ (xs acc : List Str), (xs.foldl put1 acc).length ≤ acc.length + xs.length
  | [], acc => Nat.le_refl _
  | x :: xs, acc => by
    have h := fold_len xs (put1 acc x)
    have h2 := put1_len acc x
    show (xs.foldl put1 (put1 acc x)).length ≤ acc.length + (xs.length + 1)
    split at h2 <;> omega
theorem fold_eq : ∀ (xs acc : List Str), (xs.foldl put1 acc).length = acc.length + xs.length ↔ (xs.Nodup ∧ ∀ x ∈ xs, acc.any (· == x) = false)
  | [], acc => by simp
  | x :: xs, acc => by
    have h := fold_eq xs (put1 acc x)
    have hl := fold_len xs (put1 acc x)
    have h2 := put1_len acc x
    show (xs.foldl put1 (put1 acc x)).length = acc.length + (xs.length + 1) ↔ _
    cases e : acc.any (· == x) with
    | true =>
      rw [e, if_pos rfl] at h2
      constructor
      · intro z
        omega
      · rintro ⟨_, z⟩
        have := z x List.mem_cons_self
        rw [e] at this
        cases this
    | false =>
      rw [e, if_neg (by simp)] at h2
      have e3 : ((xs.foldl put1 (put1 acc x)).length = acc.length + (xs.length + 1)) ↔ ((xs.foldl put1 (put1 acc x)).length = (put1 acc x).length + xs.length) := by
        rw [h2]
        omega
      rw [e3, h, List.nodup_cons]
      constructor
      · rintro ⟨nd, z⟩
        refine ⟨⟨fun m => ?_, nd⟩, fun y hy => ?_⟩
        · have := z x m
          rw [put1_any] at this
          simp at this
        · rcases List.mem_cons.mp hy with rfl | hy
          · exact e
          · have := z y hy
            rw [put1_any, Bool.or_eq_false_iff] at this
            exact this.1
      · rintro ⟨⟨nm, nd⟩, z⟩
        refine ⟨nd, fun y hy => ?_⟩
        rw [put1_any, z y (List.mem_cons_of_mem _ hy)]
        simp only [Bool.false_or]
        exact decide_eq_false fun q => nm (q ▸ hy)
theorem once_len (xs : List Str) : (once xs).length = xs.length ↔ xs.Nodup := by
  have h := fold_eq xs []
  simp only [List.length_nil, Nat.zero_add, List.any_nil, implies_true, and_true] at h
  exact h
theorem once_le (xs : List Str) : (once xs).length ≤ xs.length := by
  have h := fold_len xs []
  simp only [List.length_nil, Nat.zero_add] at h
  exact h
/-! ### the loop of the set's making -/
section
variable {pr : Program} {wd : World} {A : Around} {R : Result → Shared → Prop} {it : Addr} {fp wr : List Addr} {G : Array GenState → Array GenState → Prop} {n : Nat} {Y : Nat → Value → Prop} {St : Nat → Shared → Prop}
/-- at z the first i texts, each once -/
def Holds (pr : Program) (wd : World) (h : Heap) (z : Addr) (xs : List Str) (i : Nat) : Prop := h.SetOf (PySem.strKind pr wd) z (fun k => (once (xs.take i)).any (· == k)) (once (xs.take i)).length
theorem Holds.at' {h h' : Heap} {z : Addr} {xs : List Str} {i : Nat} (q : Holds pr wd h z xs i) (k : ∀ o, h.get? z = some o → h'.get? z = some o) : Holds pr wd h' z xs i := by
  obtain ⟨ob, es, ep, tb, e, r⟩ := q
  exact ⟨ob, es, ep, tb, k _ e, r⟩
theorem turns (W : WalksS pr wd A.in1 it fp wr G n Y St) (z : Addr) (hz : z ∉ fp) (xs : List Str) (hx : xs.length = n) (hn : n + 1 < scanBound) (val : ∀ (i : Nat) v, Y i v → ∃ t x, xs[i]? = some x ∧ v = .str x t) :
    ∀ (m i : Nat) (s : Shared), n - i = m → i ≤ n → St i s → Holds pr wd s.heap z xs i →
      (∀ s', Moved (z :: wr) G s s' → Holds pr wd s'.heap z xs n → R (.ok (.ret .none)) s') →
      codeAny (model pr wd) A (.builtin "set.update.loop" ⟨[.ref z, .ref it], []⟩) R s := by
  have nw : z ∉ wr := fun q => hz (W.sub _ q)
  have up : ∀ b ∈ wr, b ∈ z :: wr := fun b q => List.mem_cons_of_mem _ q
  intro m
  induction m with
  | zero =>
    intro i s e le st hd fin
    obtain rfl : i = n := by omega
    refine codeAny_builtin PyProof.Rows.F.entry_set_update_loop (by
      rw [Around.under_plainId PyProof.Rows.F.plain_set_update_loop _]
      show wpAny _ A.in1 (pyNext (.ref it) >>= _) _ _ s
      exact wpAny_bind (W.done s _ _ st fun s2 mv => (show wpAny _ A.in1 (ret Value.none) _ _ s2 from wpAny_pure (fin s2 (mv.mono up) (hd.at' fun o q => mv.heap z o nw q)))))
  | succ m ih =>
    intro i s e le st hd fin
    have lt : i < n := by omega
    refine codeAny_builtin PyProof.Rows.F.entry_set_update_loop (by
      rw [Around.under_plainId PyProof.Rows.F.plain_set_update_loop _]
      show wpAny _ A.in1 (pyNext (.ref it) >>= _) _ _ s
      refine wpAny_bind (W.item i s _ _ lt st fun v s2 hY st2 mv => ?_)
      obtain ⟨t, x, ex, rfl⟩ := val i v hY
      have hd2 : Holds pr wd s2.heap z xs i := hd.at' fun o q => mv.heap z o nw q
      show wpAny _ A.in1 (holding [Value.str x t] (setAdd z (.str x t)) >>= _) _ _ s2
      refine wpAny_bind (wpAny_holding ?_)
      unfold setAdd
      refine wpAny_holding (wpAny_bind ((PySem.strKind pr wd).pyHash (k := x) (strKind_is _ _ _ _) ?_))
      have room : (once (xs.take i)).length + 1 < scanBound := by
        have := once_le (xs.take i)
        rw [List.length_take] at this
        omega
      refine wpAny_setAddHashed_of (knd := PySem.strKind pr wd) (k := x) (s := { s2 with toks := s2.toks + 1 }) (strKind_is _ _ _ _) rfl hd2 room fun h3 sb q3 => ?_
      have hd3 : Holds pr wd h3 z xs (i + 1) := by
        have ek : xs.take (i + 1) = xs.take i ++ [x] := by rw [List.take_add_one, ex]; rfl
        unfold Holds
        rw [ek, once_snoc]
        exact SetOf_congr q3 (fun k => (put1_any _ x k).symm) (put1_len _ x).symm
      refine wpAny_pure ⟨plainId_quiet PyProof.Rows.F.plain_set_update_loop _, ih (i + 1) _ (by omega) lt (W.frame _ s2 _ _ st2 (Nat.le_succ _) fun b hb o q => ?_) hd3 fun s4 mv4 hd4 => ?_⟩
      · rw [sb.2 b fun y : b = z => hz (y ▸ hb)]
        exact q
      · refine fin s4 (Moved.trans W.gtrans ((mv.mono up).then_heap (Nat.le_succ _) fun b o hb q => ?_) mv4) hd4
        rw [sb.2 b fun y : b = z => hb (y ▸ List.mem_cons_self)]
        exact q)
end
abbrev empty (led : Bool) : Obj := { cls := .type "set", dict := none, data := .set #[] 0 (.fresh 0 0 led) }
section
variable {pr : Program} {wd : World} {A : Around} {E : Value → Shared → Prop} {s : Shared}
set_option maxHeartbeats 4000000 in
theorem call_set_list {l : Addr} {its : Array Value} {xs : List Str} {Q : Value → Shared → Prop} (hh : A.handled = none) (hl : s.heap.IsList l its) (hx : xs.length = its.size) (hn : xs.length + 1 < scanBound)
    (val : ∀ (i : Nat) (v : Value), its[i]? = some v → ∃ t x, xs[i]? = some x ∧ v = .str x t)
    (q : ∀ (h' : Heap) (tk : Nat), Holds pr wd h' s.heap.objs.size xs xs.length → (∀ b o, b < s.heap.objs.size → s.heap.get? b = some o → h'.get? b = some o) → Q (.ref s.heap.objs.size) { s with heap := h', toks := tk }) :
    wpAny (model pr wd) A (call (.type "set") [.ref l]) Q E s := by
  obtain ⟨mc, ml, mro⟩ := PySem.F.called_set.mro
  have made := PySem.F.called_set.made
  have subt := PySem.F.called_set.sub
  refine wpAny_call (codeAny_of_tree (show wpAny _ _ (callAny (.type "set") _) _ _ _ from wpAny_pure ⟨Code.quiet_builtin _ (by decide +kernel), codeAny_builtin PySem.F.entry_type_call ?_⟩))
  rw [Around.under_plain (weight_type_call_type "set" [.ref l] []) rfl]
  have notT := PySem.F.called_set.notType
  have canC := PySem.F.called_set.canCreate
  have tcall := PySem.F.typeCall_set_1 (.ref l)
  repeat (any_goals (first | assumption | wp_step))
  refine codeAny_mono (code_set_new_1 (.ref l) (E := E) (Q₁ := fun ob s1 => ∃ led : Bool, ob = .ref s.heap.objs.size ∧ s1 = { s with heap := s.heap.push (empty led) }) fun led => ⟨led, rfl, rfl⟩) fun r s1 hr => ?_
  cases r with
  | error e => exact hr
  | ok fl =>
    cases fl with
    | next => exact hr.elim
    | brk => exact hr.elim
    | cont => exact hr.elim
    | ret ob =>
      obtain ⟨led, rfl, rfl⟩ := hr
      have atz : (s.heap.push (empty led)).get? s.heap.objs.size = some (empty led) := Heap.get?_push_size _ rfl
      have isz : Shared.TypeIs { s with heap := s.heap.push (empty led) } (.ref s.heap.objs.size) "set" := ⟨_, atz, rfl⟩
      have ilook := PySem.F.called_set.init.lookup
      have ibind := PySem.F.called_set.init.bind (.ref s.heap.objs.size)
      repeat (any_goals (first | assumption | wp_step))
      refine codeAny_mono (codeAny_call_builtin (R := wants (fun r s2 => r = .none ∧ ∃ h' tk, s2 = { s with heap := h', toks := tk } ∧ Holds pr wd h' s.heap.objs.size xs xs.length ∧ (∀ b o, b < s.heap.objs.size → s.heap.get? b = some o → h'.get? b = some o)) E)
        PySem.F.called_set.init.plain PySem.F.entry_set_init (check_set_init_1 isz ?_)) fun r2 s2 hr2 => ?_
      · obtain ⟨⟨oc, od, dt, osl⟩, gl, gc, nl, gd⟩ := hl
        simp only at gc gd
        subst gc gd
        have gl2 : (s.heap.push (empty led)).get? l = some { cls := .type "list", dict := od, data := .seq its nl, slots := osl } := Heap.get?_push_of_some _ gl
        have su1 := PySem.F.sub_list_set
        have su2 := PySem.F.sub_list_frozenset
        have nodict : (Value.type "list" == Value.type "dict") = false := by decide
        have isl : (s.heap.push (empty led)).IsList l its := ⟨_, gl2, rfl, nl, rfl⟩
        unfold Builtin.«set.__init__» noKeywords Builtin.Frozenset.updateFrom
        generalize hPI : pyIter = PI
        wp_walk
        subst hPI
        have llt : l < s.heap.objs.size := Heap.lt_size gl
        have nohd : A.in1.in1.in1.handled = none := by simp [hh]
        have psz : (s.heap.push (empty led)).objs.size = s.heap.objs.size + 1 := Heap.size_push _ _
        have nel : l ≠ (s.heap.push (empty led)).objs.size := by
          rw [psz]
          exact Nat.ne_of_lt (Nat.lt_succ_of_lt llt)
        have nez : s.heap.objs.size ∉ [(s.heap.push (empty led)).objs.size, l] := by
          rw [psz]
          simp only [List.mem_cons, List.not_mem_nil, or_false, not_or]
          exact ⟨Nat.ne_of_lt (Nat.lt_succ_self _), Nat.ne_of_gt llt⟩
        refine wpAny_pyIter_list isl (wpAny_bind (wpAny_runValue (turns ((Walks.list nohd _ l nel its).toS) s.heap.objs.size nez xs hx (by omega) val (its.size - 0) 0 _ (by omega) (Nat.zero_le _) ⟨⟨_, Heap.get?_push_size _ rfl, rfl, rfl⟩, isl.push _⟩ ?_ ?_)))
        · exact (setObjOf_fresh (knd := PySem.strKind pr wd) led).setOf (Heap.get?_push_of_some _ atz) (by unfold scanBound; omega)
        · rintro ⟨h', g', d', tk', os'⟩ mv hd
          obtain rfl : g' = s.gens := mv.gens
          obtain rfl : d' = s.drawn := mv.drawn
          obtain rfl : os' = s.os := mv.os
          refine (show wpAny _ _ _ _ _ _ from wpAny_pure (show wpAny _ _ (ret Value.none) _ _ _ from wpAny_pure ⟨rfl, h', tk', rfl, hx ▸ hd, fun b o hb e => ?_⟩))
          refine mv.heap b o ?_ (Heap.get?_push_of_some _ (Heap.get?_push_of_some _ e))
          rw [psz]
          simp only [List.mem_cons, List.not_mem_nil, or_false, not_or]
          exact ⟨Nat.ne_of_lt hb, Nat.ne_of_lt (Nat.lt_succ_of_lt hb)⟩
      · cases r2 with
        | error e => exact hr2
        | ok f2 =>
          cases f2 with
          | next => exact hr2.elim
          | brk => exact hr2.elim
          | cont => exact hr2.elim
          | ret v2 =>
            obtain ⟨rfl, h', tk, rfl, hd, kp⟩ := hr2
            repeat (any_goals (first | assumption | wp_step))
            exact q _ _ hd kp
end
section
variable {pr : Program} {wd : World} {A : Around} {E : Value → Shared → Prop} {s : Shared}
set_option maxHeartbeats 4000000 in
theorem call_set_tuple {l : Addr} {its : Array Value} {xs : List Str} {Q : Value → Shared → Prop} (hh : A.handled = none) (hl : s.heap.IsTuple l its) (hx : xs.length = its.size) (hn : xs.length + 1 < scanBound)
    (val : ∀ (i : Nat) (v : Value), its[i]? = some v → ∃ t x, xs[i]? = some x ∧ v = .str x t)
    (q : ∀ (h' : Heap) (tk : Nat), Holds pr wd h' s.heap.objs.size xs xs.length → (∀ b o, b < s.heap.objs.size → s.heap.get? b = some o → h'.get? b = some o) → Q (.ref s.heap.objs.size) { s with heap := h', toks := tk }) :
    wpAny (model pr wd) A (call (.type "set") [.ref l]) Q E s := by
  obtain ⟨mc, ml, mro⟩ := PySem.F.called_set.mro
  have made := PySem.F.called_set.made
  have subt := PySem.F.called_set.sub
  refine wpAny_call (codeAny_of_tree (show wpAny _ _ (callAny (.type "set") _) _ _ _ from wpAny_pure ⟨Code.quiet_builtin _ (by decide +kernel), codeAny_builtin PySem.F.entry_type_call ?_⟩))
  rw [Around.under_plain (weight_type_call_type "set" [.ref l] []) rfl]
  have notT := PySem.F.called_set.notType
  have canC := PySem.F.called_set.canCreate
  have tcall := PySem.F.typeCall_set_1 (.ref l)
  repeat (any_goals (first | assumption | wp_step))
  refine codeAny_mono (code_set_new_1 (.ref l) (E := E) (Q₁ := fun ob s1 => ∃ led : Bool, ob = .ref s.heap.objs.size ∧ s1 = { s with heap := s.heap.push (empty led) }) fun led => ⟨led, rfl, rfl⟩) fun r s1 hr => ?_
  cases r with
  | error e => exact hr
  | ok fl =>
    cases fl with
    | next => exact hr.elim
    | brk => exact hr.elim
    | cont => exact hr.elim
    | ret ob =>
      obtain ⟨led, rfl, rfl⟩ := hr
      have atz : (s.heap.push (empty led)).get? s.heap.objs.size = some (empty led) := Heap.get?_push_size _ rfl
      have isz : Shared.TypeIs { s with heap := s.heap.push (empty led) } (.ref s.heap.objs.size) "set" := ⟨_, atz, rfl⟩
      have ilook := PySem.F.called_set.init.lookup
      have ibind := PySem.F.called_set.init.bind (.ref s.heap.objs.size)
      repeat (any_goals (first | assumption | wp_step))
      refine codeAny_mono (codeAny_call_builtin (R := wants (fun r s2 => r = .none ∧ ∃ h' tk, s2 = { s with heap := h', toks := tk } ∧ Holds pr wd h' s.heap.objs.size xs xs.length ∧ (∀ b o, b < s.heap.objs.size → s.heap.get? b = some o → h'.get? b = some o)) E)
        PySem.F.called_set.init.plain PySem.F.entry_set_init (check_set_init_1 isz ?_)) fun r2 s2 hr2 => ?_
      · obtain ⟨⟨oc, od, dt, osl⟩, gl, gc, nl, gd⟩ := hl
        simp only at gc gd
        subst gc gd
        have gl2 : (s.heap.push (empty led)).get? l = some { cls := .type "tuple", dict := od, data := .seq its nl, slots := osl } := Heap.get?_push_of_some _ gl
        have su1 := PySem.F.sub_tuple_set
        have su2 := PySem.F.sub_tuple_frozenset
        have nodict : (Value.type "tuple" == Value.type "dict") = false := by decide
        have isl : (s.heap.push (empty led)).IsTuple l its := ⟨_, gl2, rfl, nl, rfl⟩
        unfold Builtin.«set.__init__» noKeywords Builtin.Frozenset.updateFrom
        generalize hPI : pyIter = PI
        wp_walk
        subst hPI
        have llt : l < s.heap.objs.size := Heap.lt_size gl
        have nohd : A.in1.in1.in1.handled = none := by simp [hh]
        have psz : (s.heap.push (empty led)).objs.size = s.heap.objs.size + 1 := Heap.size_push _ _
        have nel : l ≠ (s.heap.push (empty led)).objs.size := by
          rw [psz]
          exact Nat.ne_of_lt (Nat.lt_succ_of_lt llt)
        have nez : s.heap.objs.size ∉ [(s.heap.push (empty led)).objs.size, l] := by
          rw [psz]
          simp only [List.mem_cons, List.not_mem_nil, or_false, not_or]
          exact ⟨Nat.ne_of_lt (Nat.lt_succ_self _), Nat.ne_of_gt llt⟩
        refine wpAny_pyIter_tuple isl (wpAny_bind (wpAny_runValue (turns ((Walks.tuple nohd _ l nel its).toS) s.heap.objs.size nez xs hx (by omega) val (its.size - 0) 0 _ (by omega) (Nat.zero_le _) ⟨⟨_, Heap.get?_push_size _ rfl, rfl, rfl⟩, isl.push _⟩ ?_ ?_)))
        · exact (setObjOf_fresh (knd := PySem.strKind pr wd) led).setOf (Heap.get?_push_of_some _ atz) (by unfold scanBound; omega)
        · rintro ⟨h', g', d', tk', os'⟩ mv hd
          obtain rfl : g' = s.gens := mv.gens
          obtain rfl : d' = s.drawn := mv.drawn
          obtain rfl : os' = s.os := mv.os
          refine (show wpAny _ _ _ _ _ _ from wpAny_pure (show wpAny _ _ (ret Value.none) _ _ _ from wpAny_pure ⟨rfl, h', tk', rfl, hx ▸ hd, fun b o hb e => ?_⟩))
          refine mv.heap b o ?_ (Heap.get?_push_of_some _ (Heap.get?_push_of_some _ e))
          rw [psz]
          simp only [List.mem_cons, List.not_mem_nil, or_false, not_or]
          exact ⟨Nat.ne_of_lt hb, Nat.ne_of_lt (Nat.lt_succ_of_lt hb)⟩
      · cases r2 with
        | error e => exact hr2
        | ok f2 =>
          cases f2 with
          | next => exact hr2.elim
          | brk => exact hr2.elim
          | cont => exact hr2.elim
          | ret v2 =>
            obtain ⟨rfl, h', tk, rfl, hd, kp⟩ := hr2
            repeat (any_goals (first | assumption | wp_step))
            exact q _ _ hd kp
end
end SetT
end He

namespace He
open PySem PySem.Spec PyProof.Rows L2
section
variable {P : Program} {w : World} {K : PySem.W.Frag} {mg : Str → Option Value} {base : Heap}

/-! ### a list or a tuple, walked -/
def SeqIt (K : PySem.W.Frag) (H : Hp) (a : Addr) (xs : List V) (J : It) : Prop := (J = Itl K a ∧ SqL K H a xs) ∨ (J = Itt K a ∧ SqT K H a xs)
def Sq (K : PySem.W.Frag) (H : Hp) (a : Addr) (xs : List V) : Prop := SqL K H a xs ∨ SqT K H a xs
theorem Sq.it {H : Hp} {a : Addr} {xs : List V} (h : Sq K H a xs) : ∃ J, SeqIt K H a xs J := by
  rcases h with h | h
  · exact ⟨_, .inl ⟨rfl, h⟩⟩
  · exact ⟨_, .inr ⟨rfl, h⟩⟩
theorem Sq.mono {H H' : Hp} {a : Addr} {xs : List V} (s : Same H H') (h : Sq K H a xs) : Sq K H' a xs := by
  rcases h with h | h
  · exact .inl (s.seq h)
  · exact .inr (Same.seqT s h)
def iSeq (K : PySem.W.Frag) (tl : TE) : TI := fun σ H R => tl σ H fun x H1 => ∃ a xs J, x = .ref a ∧ SeqIt K H1 a xs J ∧ R J H1
theorem pi_seq {X : Cx} {tg : Expr} {l : Expr} {tl : TE} (hl : PE X l tl) : PI X tg l (iSeq X.K tl) := by
  refine ⟨fun pins s σ H R I h => thn (hl.run pins s σ H _ I h) fun v s1 ⟨x, H1, I1, r1, q1⟩ => ?_⟩
  obtain ⟨a, xs, J, rfl, hJ, q⟩ := q1
  cases r1
  have fin : ∀ b ∈ [s1.heap.objs.size], FpOk X pins H1 b := fun b hb => by
    obtain rfl := List.mem_singleton.mp hb
    exact I1.fpOk (Nat.le_refl _) (I1.hok.fresh (Nat.le_refl _))
  rcases hJ with ⟨rfl, hq⟩ | ⟨rfl, hq⟩
  · obtain ⟨its, rv, pl, _⟩ := I1.list hq
    exact wpAny_pyIter_list pl.isList ⟨_, [_], _, _, H1, rfl, I1.kept (t' := s1.toks) fun b o e => Heap.get?_push_of_some _ e, turn_list a _, ⟨_, Heap.get?_push_size _ rfl, rfl, rfl⟩, fin, q⟩
  · obtain ⟨its, rv, pl, _⟩ := I1.tuple hq
    exact wpAny_pyIter_tuple (show s1.heap.IsTuple a its.toArray from pl) ⟨_, [_], _, _, H1, rfl, I1.kept (t' := s1.toks) fun b o e => Heap.get?_push_of_some _ e, turn_tuple a _, ⟨_, Heap.get?_push_size _ rfl, rfl, rfl⟩, fin, q⟩
/-- a comprehension whose turns only make new things: the i-th value with Y i of it -/
theorem lg_pure {H1 : Hp} {a D : Addr} {xs : List V} {J : It} {g : TG} {te : TE} {vs : List Nat} {σ : L2.St} {Qd : Hp → Prop} (Y : Nat → V → Hp → Prop) (hJ : SeqIt K H1 a xs J) (hn : xs.length < sizeLine) (nD : H1 D = none)
    (mono : ∀ i y H H', Same H H' → Y i y H → Y i y H')
    (turn : ∀ (i : Nat) (x : V) (H : Hp) (Φ : V → Hp → Prop), xs[i]? = some x → Same H1 H → H D ≠ none → (∀ y H3, Same H H3 → Y i y (hide D H3) → Φ y H3) → g x (wipe σ vs) H fun σ2 H2 => wipe σ2 vs = wipe σ vs ∧ te σ2 H2 Φ)
    (done : ∀ (ys : List V) (H : Hp), Same H1 H → H D = some (.lst ys) → ys.length = xs.length → (∀ (i : Nat) (y : V), ys[i]? = some y → Y i y (hide D H)) → Qd H) : LcGoes J g tYes te vs σ H1 D Qd := by
  have hsame : ∀ {H : Hp} {o : HO}, Same H1 H → Same H1 (upd H D o) := fun s b o e => by
    rw [upd_ne (ne_of_none e nD)]
    exact s b o e
  have hD : ∀ {H : Hp} {o : HO}, Same (hide D H) (hide D (upd H D o)) := hide_upd
  let Pv : Nat → Hp → Prop := fun i H => ∃ ys, Same H1 H ∧ H D = some (.lst ys) ∧ ys.length = i ∧ ∀ (j : Nat) (y : V), ys[j]? = some y → Y j y (hide D H)
  have p0 : Pv 0 (upd H1 D (.lst [])) := ⟨[], hsame (Same.refl H1), upd_same, rfl, fun j y e => nomatch e⟩
  have ps : ∀ i x H, xs[i]? = some x → Pv i H → g x (wipe σ vs) H fun σ2 H2 => wipe σ2 vs = wipe σ vs ∧ tYes σ2 H2 fun b H3 =>
      if b = true then te σ2 H3 fun y H4 => ∃ acc, H4 D = some (.lst acc) ∧ acc.length < sizeLine ∧ Pv (i + 1) (upd H4 D (.lst (acc ++ [y]))) else Pv (i + 1) H3 := by
    rintro i x H hx ⟨ys, s1, eD, hl, hY⟩
    have hi : i < xs.length := (List.getElem?_eq_some_iff.mp hx).1
    have t := turn i x H (fun y H4 => ∃ acc, H4 D = some (.lst acc) ∧ acc.length < sizeLine ∧ Pv (i + 1) (upd H4 D (.lst (acc ++ [y])))) hx s1 (by rw [eD]; exact fun z => nomatch z) fun y H3 s3 hy => by
      refine ⟨ys, s3 _ _ eD, by omega, ys ++ [y], hsame (s1.trans s3), upd_same, by rw [List.length_append, hl]; rfl, fun j z e => ?_⟩
      refine mono j z _ _ hD ?_
      by_cases hj : j < ys.length
      · rw [List.getElem?_append_left hj] at e
        exact mono j z _ _ (hide_same s3) (hY j z e)
      · rw [List.getElem?_append_right (by omega)] at e
        have hj0 : j - ys.length = 0 := by
          rcases Nat.eq_zero_or_pos (j - ys.length) with h | h
          · exact h
          · rw [List.getElem?_eq_none (by simp; omega)] at e
            cases e
        rw [hj0] at e
        obtain rfl : y = z := Option.some.inj e
        have : j = i := by omega
        rw [this]
        exact hy
    exact t
  have pd : ∀ H, Pv xs.length H → Qd H := fun H ⟨ys, s1, eD, hl, hY⟩ => done ys H s1 eD hl hY
  rcases hJ with ⟨rfl, hq⟩ | ⟨rfl, hq⟩
  · exact lg_list Pv p0 (fun i H _ ⟨ys, s1, _⟩ => s1.seq hq) ps pd
  · exact lg_tup Pv p0 (fun i H _ ⟨ys, s1, _⟩ => Same.seqT s1 hq) ps pd
/-! ### len(set(texts)) -/
def tLenSetT (K : PySem.W.Frag) (ta : TE) : TE := fun σ H Q => ta σ H fun x H1 => ∃ l, ∃ xs : List Str, x = .ref l ∧ Sq K H1 l (xs.map V.str) ∧ xs.length < 4000 ∧ Q (.int ((SetT.once xs).length : Nat)) H1
theorem vals_str {xs : List Str} {us : List Value} (r : Vals (xs.map V.str) us) (i : Nat) (v : Value) (h : us[i]? = some v) : ∃ t x, xs[i]? = some x ∧ v = .str x t := by
  have hl := r.length
  rw [List.length_map] at hl
  have hi : i < us.length := (List.getElem?_eq_some_iff.mp h).1
  obtain ⟨u, e, t, ru⟩ := r.get (i := i) (x := .str (xs[i]'(by omega))) (by rw [List.getElem?_map, List.getElem?_eq_getElem (by omega)]; rfl)
  rw [h] at e
  cases e
  exact ⟨t, _, List.getElem?_eq_getElem (by omega), ru⟩
theorem pe_lenSetT {X : Cx} {a : Expr} {ta : TE} {p p2 q pos : Pos} (hc : X.calm = true) (hg : Gl X "len") (hm : X.mg "len" = none) (hg2 : Gl X "set") (hm2 : X.mg "set" = none) (ha : PE X a ta)
    (na : starEach [a] X.env = (false, eval a X.env) :: starEach [] X.env := by rfl) : PE X (.Call (.Name "len" p) [.Call (.Name "set" p2) [a] [] q] [] pos) (tLenSetT X.K ta) := by
  refine ⟨fun pins s σ H Q I h => Call_ (ld_blt I hg hm PySem.boot_len (PyProof.Rows.callWith_builtin1 (PyProof.Rows.args_cons ?_ rfl) rfl rfl))⟩
  refine Call_ (ld_blt I hg2 hm2 (show bootBuiltins "set" = some (.type "set") by decide +kernel) (PyProof.Rows.callWith_type1 (PyProof.Rows.args_cons (thn (ha.run pins s σ H _ I h) fun v s1 ⟨x, H1, I1, r1, q1⟩ => PyProof.Rows.args_nil ?_) na) na rfl))
  obtain ⟨l, xs, rfl, hq, hn, q1⟩ := q1
  cases r1
  have rest : ∀ (h' : Heap) (tk : Nat), SetT.Holds X.prog X.w h' s1.heap.objs.size xs xs.length → (∀ b o, b < s1.heap.objs.size → s1.heap.get? b = some o → h'.get? b = some o) →
      wpAny (model X.prog X.w) X.A (spliced (backTo pos (starEach [] X.env))) (fun vs s2 => wpAny (model X.prog X.w) X.A (call (.builtin "len") (Value.ref s1.heap.objs.size :: vs)) (EP X pins σ Q) X.xe s2) X.xe { s1 with heap := h', toks := tk } := by
    intro h' tk hd kp
    refine PyProof.Rows.args_nil ?_
    obtain ⟨ob, es, ep, tb, eo, ex, ed, _, _, _, hf, hz⟩ := hd
    rw [List.take_length] at hz
    have I2 : Inv X pins σ H1 { s1 with heap := h', toks := tk } := I1.kept fun b o e => kp b o (Heap.lt_size e) e
    have := SetT.once_le xs
    exact call_len_set eo ex ed hf (by omega) ⟨.int ((SetT.once xs).length : Nat), H1, I2.tok _, ⟨_, by rw [hz]⟩, q1⟩
  have hb : xs.length + 1 < scanBound := by unfold scanBound; omega
  rcases hq with hq | hq
  · obtain ⟨its, r, pl, _⟩ := I1.list hq
    exact SetT.call_set_list (I1.ok.hd hc) pl.isList (by rw [List.size_toArray, ← r.length, List.length_map]) hb (fun i v e => vals_str r i v (by simpa using e)) rest
  · obtain ⟨its, r, pl, _⟩ := I1.tuple hq
    exact SetT.call_set_tuple (I1.ok.hd hc) pl (by rw [List.size_toArray, ← r.length, List.length_map]) hb (fun i v e => vals_str r i v (by simpa using e)) rest

end
end He

namespace He
open PySem PySem.Spec PyProof.Rows L2
section
variable {P : Program} {w : World} {K : PySem.W.Frag} {mg : Str → Option Value} {base : Heap}

theorem adOkA_get {K : PySem.W.Frag} : ∀ {ds : List AD} {i : Nat} {d : AD}, AdOkA K ds → ds[i]? = some d → AdOk K d
  | [], i, d, _, e => by simp at e
  | _ :: _, 0, d, h, e => by
    cases Option.some.inj e
    exact h.1
  | _ :: ds, i + 1, d, h, e => adOkA_get (i := i) h.2 e
theorem avA_get2 {H : Hp} : ∀ {vs : List V} {ds : List AD} {i : Nat} {d : AD}, AvAll K H vs ds → ds[i]? = some d → ∃ v, vs[i]? = some v ∧ Av K H v d
  | _, _, i, _, .nil, e => by simp at e
  | _, _, 0, _, .cons a _, e => by
    cases (Option.some.inj e)
    exact ⟨_, rfl, a⟩
  | _, _, i + 1, _, .cons _ b, e => avA_get2 (i := i) b e
/-- a sequence's items -/
def itemsA : AD → Option (List AD) | .lst ds => some ds | .tup ds => some ds | _ => none
theorem av_items {H : Hp} {v : V} {d : AD} {ds : List AD} (h : Av K H v d) (e : itemsA d = some ds) : ∃ a xs, v = .ref a ∧ Sq K H a xs ∧ AvAll K H xs ds := by
  cases h with
  | lst hs ha => cases (Option.some.inj e); exact ⟨_, _, rfl, .inl hs, ha⟩
  | tup hs ha => cases (Option.some.inj e); exact ⟨_, _, rfl, .inr hs, ha⟩
  | non => cases e
  | bl b => cases e
  | int i => cases e
  | str x => cases e
  | ins a b => cases e
theorem ok_items {d : AD} {ds : List AD} (h : AdOk K d) (e : itemsA d = some ds) : ds.length < 4000 ∧ AdOkA K ds := by
  cases d <;> first | (cases (Option.some.inj e); exact h) | cases e
theorem seq_items (d : AD) : isSeqA d = (itemsA d).isSome := by cases d <;> rfl
/-- the texts, if all are -/
def strsA : List AD → Option (List Str)
  | [] => some []
  | .str x :: r => (strsA r).map (x :: ·)
  | _ :: _ => none
def grpA (d : AD) : Option (List Str) := match itemsA d with
  | some ds => if ds.isEmpty then none else if ds.all isNameA then (match strsA ds with | some xs => if xs.Nodup then some xs else none | none => none) else none
  | none => none
def isGrpA (d : AD) : Bool := (grpA d).isSome
theorem names_strs : ∀ {ds : List AD}, ds.all isNameA = true → ∃ xs, strsA ds = some xs ∧ ∀ x ∈ xs, nameB x = true
  | [], _ => ⟨[], rfl, fun _ h => nomatch h⟩
  | d :: r, h => by
    rw [List.all_cons, Bool.and_eq_true] at h
    obtain ⟨xs, e, hn⟩ := names_strs h.2
    cases d with
    | str x =>
      refine ⟨x :: xs, ?_, fun y hy => ?_⟩
      · show (strsA r).map (x :: ·) = _
        rw [e]
        rfl
      · rcases List.mem_cons.mp hy with rfl | hy
        · exact h.1
        · exact hn y hy
    | _ => exact nomatch h.1
theorem av_strs {H : Hp} : ∀ {vs : List V} {ds : List AD} {xs : List Str}, AvAll K H vs ds → strsA ds = some xs → vs = xs.map V.str
  | _, _, _, .nil, e => by cases (Option.some.inj e); rfl
  | v :: vs, d :: ds, xs, .cons a b, e => by
    cases a with
    | str x =>
      cases h : strsA ds with
      | none => rw [show strsA (.str x :: ds) = (strsA ds).map (x :: ·) from rfl, h] at e; cases e
      | some ys =>
        rw [show strsA (.str x :: ds) = (strsA ds).map (x :: ·) from rfl, h] at e
        cases (Option.some.inj e)
        rw [av_strs b h]
        rfl
    | _ => cases e
theorem bl_list {f : AD → Bool} {ds : List AD} {ys : List V} (hl : ys.length = ds.length) (h : ∀ (i : Nat) (y : V), ys[i]? = some y → ∃ d, ds[i]? = some d ∧ y = .bl (f d)) : ys = (ds.map f).map V.bl := by
  refine List.ext_getElem? fun i => ?_
  rw [List.getElem?_map, List.getElem?_map]
  cases e : ys[i]? with
  | none =>
    rw [List.getElem?_eq_none (by have := List.getElem?_eq_none_iff.mp e; omega)]
    rfl
  | some y =>
    obtain ⟨d, e2, rfl⟩ := h i y e
    rw [e2]
    rfl
/-- [f(x) for x in xs], f a test of any value -/
theorem lg_is {H1 : Hp} {a D : Addr} {xs : List V} {ds : List AD} {J : It} {i : Nat} {σ : L2.St} {Qd : Hp → Prop} {f : AD → Bool} (hJ : SeqIt K H1 a xs J) (hv : AvAll K H1 xs ds) (ho : AdOkA K ds) (hn : ds.length < 4000) (hi : i < σ.length) (nD : H1 D = none)
    (done : ∀ H : Hp, Same H1 H → H D = some (.lst ((ds.map f).map V.bl)) → Qd H) : LcGoes J (gName i) tYes (tCall (spIs K f) [] E0 (tCons (tVar i) tNil)) [i] σ H1 D Qd := by
  have hl := avA_len hv
  refine lg_pure (fun j y _ => ∃ d, ds[j]? = some d ∧ y = .bl (f d)) hJ (Nat.lt_of_lt_of_le (by omega : xs.length < 4000) (by decide)) nD (fun _ _ _ _ _ h => h) (fun j x H Φ hx s1 _ hΦ => ?_) (fun ys H s1 eD hl2 hY => ?_)
  · show wipe ((wipe σ [i]).set i (some x)) [i] = wipe σ [i] ∧ _
    refine ⟨by show ((σ.set i none).set i (some x)).set i none = σ.set i none; rw [List.set_set, List.set_set], ?_⟩
    obtain ⟨d, hd, hx2⟩ := avA_get hv hx
    refine ⟨x, ?_, ?_⟩
    · show ((σ.set i none).set i (some x))[i]? = _
      rw [List.set_set, List.getElem?_set_self hi]
    · exact ⟨x, d, rfl, av_mono s1 d x hx2, adOkA_get ho hd, fun H2 s2 => hΦ _ _ s2 ⟨d, hd, rfl⟩⟩
  · refine done H s1 ?_
    rw [eD, bl_list (f := f) (by rw [hl2, hl]) hY]
theorem ok_isgroup (T : TxtG K mg) : FnOk P w K mg base CX0 2 T.dIsGroup.f T.dIsGroup.fd ["value"] (spIs K isGrpA) := by
  refine T.dIsGroup.F.ok scDIsGroup (fun vs H Q E h => ?_) (fun cdv A outer s H vs Q E hr h => ?_)
  · obtain ⟨v, d, rfl, _⟩ := h
    rfl
  · obtain ⟨v, d, rfl, hv, hd, q⟩ := h
    refine ⟨_, (pss_cons (ps_if (PW.pt (pw_or (pt_not (pt_val (pe_call (ok_isseq T) (hr.mono (by decide)) (by rfl) T.dIsSequence.g T.dIsSequence.F.kp T.dIsSequence.b .nil pass0 (pa_cons (pv 0) pa_nil)))) (pw_or1 (pt_cmpR op_eq (pe_callB call_len_seq (by rfl) T.z_len (show bootBuiltins "len" = some (.builtin "len") by decide +kernel) (pa_cons (pv 0) pa_nil)) pe_int (nomark _)))))
      (pss_one (ps_ret pe_bl))
      pss_nil)
      (pss_one (ps_ret (pe_and (pe_callB (cr_all rfl) (by rfl) T.z_all (show bootBuiltins "all" = some (.builtin "all") by decide +kernel) (pa_cons (pe_lc (own := [("name", 1)]) (g := (gName 1)) (tt := tYes) rfl scDIsGroup.nd (pi_seq (pv 0)) (blkOk_by (N := ["value", "name"]) (sc := defScope sDIsGroup) (by decide +kernel)) (fun _ _ _ _ _ => (pg_name (i := 1) scDIsGroup.nd rfl (.inl rfl))) (fun _ _ _ _ _ => pts_nil) (fun _ _ _ _ _ => (pe_call (ok_isname T) (hr.mono (by decide)) (by rfl) T.dIsName.g T.dIsName.F.kp T.dIsName.b .nil pass0 (pa_cons (pv 1) pa_nil)))) pa_nil)) (pe_one (pe_cmpR op_eq (pe_lenSetT rfl (by rfl) T.z_len (by rfl) T.z_set (pv 0)) (pe_callB call_len_seq (by rfl) T.z_len (show bootBuiltins "len" = some (.builtin "len") by decide +kernel) (pa_cons (pv 0) pa_nil)) (nomark _))))))), ?_⟩
    simp only [and_assoc, tSeq, tAsg, tOp, tUn, rI, rI0, rU, tVar, tC, gName, L2.start, tIfS, tTest, tB, tCB, tCons, tNil, tIf, tRet, tRetN, tLst, tTup, tNext, tDrop, tNot, tNotV, tAnd, tOr, tAndV, tOrV, tPar, tAug, ipI, rEq, rNe, gSub, rSetL, rIxL, rIxT, tBM, tBM0, rAppend, rPopAt, gTup, gCons, gNil, tCall, tSl, tPart, tNoPart, rSlL, rCat, rEqD, rNeD, rIn, scal, List.map_cons, List.map_nil, List.length_cons, List.length_nil, List.length_map, List.cons_append, List.nil_append, List.append_nil, List.replicate, List.getElem?_cons_zero, List.getElem?_cons_succ, List.set_cons_zero, List.set_cons_succ, Option.some.injEq, exists_eq_left', exists_eq_left, exists_eq_right, exists_and_left, exists_and_right, V.int.injEq, V.ref.injEq, V.str.injEq, V.bl.injEq, reduceCtorEq, false_and, and_false, exists_false, or_false, false_or, true_and, and_true, List.cons.injEq, decide_eq_true_eq, cxOf, if_true, if_false, Bool.false_eq_true, Nat.reduceAdd, Nat.reduceSub, Nat.zero_add, Nat.add_sub_cancel_left, Nat.add_sub_cancel, Nat.sub_self, tFor_eq, tLc_eq, iRng1, iRng2, iList, iTup, iEnum, rIsi, rIsiT, spIs, tLenSetT, rAll, iSeq]
    refine ⟨d, hv, hd, fun H1 s1 => ?_⟩
    rw [seq_items]
    cases ei : itemsA d with
    | none =>
      simp only [and_assoc, tSeq, tAsg, tOp, tUn, rI, rI0, rU, tVar, tC, gName, L2.start, tIfS, tTest, tB, tCB, tCons, tNil, tIf, tRet, tRetN, tLst, tTup, tNext, tDrop, tNot, tNotV, tAnd, tOr, tAndV, tOrV, tPar, tAug, ipI, rEq, rNe, gSub, rSetL, rIxL, rIxT, tBM, tBM0, rAppend, rPopAt, gTup, gCons, gNil, tCall, tSl, tPart, tNoPart, rSlL, rCat, rEqD, rNeD, rIn, scal, List.map_cons, List.map_nil, List.length_cons, List.length_nil, List.length_map, List.cons_append, List.nil_append, List.append_nil, List.replicate, List.getElem?_cons_zero, List.getElem?_cons_succ, List.set_cons_zero, List.set_cons_succ, Option.some.injEq, exists_eq_left', exists_eq_left, exists_eq_right, exists_and_left, exists_and_right, V.int.injEq, V.ref.injEq, V.str.injEq, V.bl.injEq, reduceCtorEq, false_and, and_false, exists_false, or_false, false_or, true_and, and_true, List.cons.injEq, decide_eq_true_eq, cxOf, if_true, if_false, Bool.false_eq_true, Nat.reduceAdd, Nat.reduceSub, Nat.zero_add, Nat.add_sub_cancel_left, Nat.add_sub_cancel, Nat.sub_self, tFor_eq, tLc_eq, iRng1, iRng2, iList, iTup, iEnum, rIsi, rIsiT, Option.isSome_none, Bool.not_false]
      have e : isGrpA d = false := by unfold isGrpA grpA; rw [ei]; rfl
      rw [← e]
      exact q _ s1
    | some ds =>
      simp only [and_assoc, tSeq, tAsg, tOp, tUn, rI, rI0, rU, tVar, tC, gName, L2.start, tIfS, tTest, tB, tCB, tCons, tNil, tIf, tRet, tRetN, tLst, tTup, tNext, tDrop, tNot, tNotV, tAnd, tOr, tAndV, tOrV, tPar, tAug, ipI, rEq, rNe, gSub, rSetL, rIxL, rIxT, tBM, tBM0, rAppend, rPopAt, gTup, gCons, gNil, tCall, tSl, tPart, tNoPart, rSlL, rCat, rEqD, rNeD, rIn, scal, List.map_cons, List.map_nil, List.length_cons, List.length_nil, List.length_map, List.cons_append, List.nil_append, List.append_nil, List.replicate, List.getElem?_cons_zero, List.getElem?_cons_succ, List.set_cons_zero, List.set_cons_succ, Option.some.injEq, exists_eq_left', exists_eq_left, exists_eq_right, exists_and_left, exists_and_right, V.int.injEq, V.ref.injEq, V.str.injEq, V.bl.injEq, reduceCtorEq, false_and, and_false, exists_false, or_false, false_or, true_and, and_true, List.cons.injEq, decide_eq_true_eq, cxOf, if_true, if_false, Bool.false_eq_true, Nat.reduceAdd, Nat.reduceSub, Nat.zero_add, Nat.add_sub_cancel_left, Nat.add_sub_cancel, Nat.sub_self, tFor_eq, tLc_eq, iRng1, iRng2, iList, iTup, iEnum, rIsi, rIsiT, Option.isSome_some, Bool.not_true]
      obtain ⟨a, xs, rfl, hs, ha⟩ := av_items hv ei
      obtain ⟨hn, ho⟩ := ok_items hd ei
      have hl := avA_len ha
      refine ⟨a, rfl, xs, hs.mono s1, ?_⟩
      by_cases h0 : ds = []
      · rw [if_pos (by rw [hl, h0]; rfl)]
        have e : isGrpA d = false := by unfold isGrpA grpA; rw [ei, h0]; rfl
        rw [← e]
        exact q _ s1
      · have hpos : 0 < ds.length := List.length_pos_iff.mpr h0
        rw [if_neg (by omega)]
        obtain ⟨J, hJ⟩ := (hs.mono s1).it
        refine ⟨a, rfl, xs, J, hJ, fun D nD => lg_is hJ (avA_mono s1 _ _ ha) ho hn (by decide : 1 < 2) nD fun H2 s2 eD => ⟨_, sqL_of eD, ?_⟩⟩
        have ea : (ds.map isNameA).all id = ds.all isNameA := by rw [List.all_map]; rfl
        rw [ea]
        have hie : ds.isEmpty = false := by cases ds with | nil => exact absurd rfl h0 | cons _ _ => rfl
        cases hall : ds.all isNameA with
        | false =>
          simp only [and_assoc, tSeq, tAsg, tOp, tUn, rI, rI0, rU, tVar, tC, gName, L2.start, tIfS, tTest, tB, tCB, tCons, tNil, tIf, tRet, tRetN, tLst, tTup, tNext, tDrop, tNot, tNotV, tAnd, tOr, tAndV, tOrV, tPar, tAug, ipI, rEq, rNe, gSub, rSetL, rIxL, rIxT, tBM, tBM0, rAppend, rPopAt, gTup, gCons, gNil, tCall, tSl, tPart, tNoPart, rSlL, rCat, rEqD, rNeD, rIn, scal, List.map_cons, List.map_nil, List.length_cons, List.length_nil, List.length_map, List.cons_append, List.nil_append, List.append_nil, List.replicate, List.getElem?_cons_zero, List.getElem?_cons_succ, List.set_cons_zero, List.set_cons_succ, Option.some.injEq, exists_eq_left', exists_eq_left, exists_eq_right, exists_and_left, exists_and_right, V.int.injEq, V.ref.injEq, V.str.injEq, V.bl.injEq, reduceCtorEq, false_and, and_false, exists_false, or_false, false_or, true_and, and_true, List.cons.injEq, decide_eq_true_eq, cxOf, if_true, if_false, Bool.false_eq_true, Nat.reduceAdd, Nat.reduceSub, Nat.zero_add, Nat.add_sub_cancel_left, Nat.add_sub_cancel, Nat.sub_self, tFor_eq, tLc_eq, iRng1, iRng2, iList, iTup, iEnum, rIsi, rIsiT]
          have e : isGrpA d = false := by unfold isGrpA grpA; rw [ei]; simp only [hie, hall]; rfl
          rw [← e]
          exact q _ (s1.trans s2)
        | true =>
          simp only [and_assoc, tSeq, tAsg, tOp, tUn, rI, rI0, rU, tVar, tC, gName, L2.start, tIfS, tTest, tB, tCB, tCons, tNil, tIf, tRet, tRetN, tLst, tTup, tNext, tDrop, tNot, tNotV, tAnd, tOr, tAndV, tOrV, tPar, tAug, ipI, rEq, rNe, gSub, rSetL, rIxL, rIxT, tBM, tBM0, rAppend, rPopAt, gTup, gCons, gNil, tCall, tSl, tPart, tNoPart, rSlL, rCat, rEqD, rNeD, rIn, scal, List.map_cons, List.map_nil, List.length_cons, List.length_nil, List.length_map, List.cons_append, List.nil_append, List.append_nil, List.replicate, List.getElem?_cons_zero, List.getElem?_cons_succ, List.set_cons_zero, List.set_cons_succ, Option.some.injEq, exists_eq_left', exists_eq_left, exists_eq_right, exists_and_left, exists_and_right, V.int.injEq, V.ref.injEq, V.str.injEq, V.bl.injEq, reduceCtorEq, false_and, and_false, exists_false, or_false, false_or, true_and, and_true, List.cons.injEq, decide_eq_true_eq, cxOf, if_true, if_false, Bool.false_eq_true, Nat.reduceAdd, Nat.reduceSub, Nat.zero_add, Nat.add_sub_cancel_left, Nat.add_sub_cancel, Nat.sub_self, tFor_eq, tLc_eq, iRng1, iRng2, iList, iTup, iEnum, rIsi, rIsiT]
          obtain ⟨ns, en, _⟩ := names_strs hall
          have ex : xs = ns.map V.str := av_strs ha en
          have hnl : ns.length = ds.length := by rw [← hl, ex, List.length_map]
          have hs2 : Sq K H2 a xs := hs.mono (s1.trans s2)
          refine ⟨ns, by rw [← ex]; exact hs2, by omega, xs, hs2, ?_⟩
          have e : isGrpA d = decide (((SetT.once ns).length : Int) = (xs.length : Int)) := by
            have hiff := SetT.once_len ns
            unfold isGrpA grpA
            rw [ei]
            simp only [hie, hall, en]
            rw [show xs.length = ns.length by omega]
            by_cases hnd : ns.Nodup
            · rw [decide_eq_true (by rw [hiff.mpr hnd])]
              simp [hnd]
            · rw [decide_eq_false (fun z => hnd (hiff.mp (by omega)))]
              simp [hnd]
          rw [← e]
          exact q _ (s1.trans s2)

end
end He

namespace He
open PySem PySem.Spec PyProof.Rows L2
section
variable {P : Program} {w : World} {K : PySem.W.Frag} {mg : Str → Option Value} {base : Heap}

def isGrpsA (g : AD) : Bool := match itemsA g with | some gs => gs.all isGrpA | none => false
def wOkA : AD → Bool
  | .int n => decide (1 ≤ n)
  | _ => false
def isShA : AD → Bool
  | .tup [w, g] => wOkA w && isGrpsA g
  | _ => false
def isWillA (d : AD) : Bool := match itemsA d with | some ds => !ds.isEmpty && ds.all isShA | none => false
theorem pair_tup {d : AD} (h : isPairA d = true) : ∃ w g, d = .tup [w, g] := by
  match d, h with
  | .tup [w, g], _ => exact ⟨w, g, rfl⟩
theorem int_of {d : AD} (h : isIntA d = true) : ∃ n, d = .int n := by
  cases d with
  | int n => exact ⟨n, rfl⟩
  | _ => exact nomatch h
theorem ok_isshare (T : TxtG K mg) : FnOk P w K mg base CX0 3 T.dIsShare.f T.dIsShare.fd ["value"] (spIs K isShA) := by
  refine T.dIsShare.F.ok scDIsShare (fun vs H Q E h => ?_) (fun cdv A outer s H vs Q E hr h => ?_)
  · obtain ⟨v, d, rfl, _⟩ := h
    rfl
  · obtain ⟨v, d, rfl, hv, hd, q⟩ := h
    refine ⟨_, (pss_cons (ps_if (pt_not (pt_val (pe_call (ok_ispair T) (hr.mono (by decide)) (by rfl) T.dIsPair.g T.dIsPair.F.kp T.dIsPair.b .nil pass0 (pa_cons (pv 0) pa_nil))))
      (pss_one (ps_ret pe_bl))
      pss_nil)
      (pss_cons (ps_asg (pv 0) (pg_tup (n := 2) rfl (pgs_cons (pg_name (i := 1) scDIsShare.nd rfl (.inl rfl)) (pgs_cons (pg_name (i := 2) scDIsShare.nd rfl (.inl rfl)) pgs_nil))))
      (pss_cons (ps_if (PW.pt (pw_or (pt_not (pt_val (pe_call (ok_isint T) (hr.mono (by decide)) (by rfl) T.dIsInteger.g T.dIsInteger.F.kp T.dIsInteger.b .nil pass0 (pa_cons (pv 1) pa_nil)))) (pw_or (pt_cmpR op_lt (pv 1) pe_int (nomark _)) (pw_or1 (pt_not (pt_val (pe_call (ok_isseq T) (hr.mono (by decide)) (by rfl) T.dIsSequence.g T.dIsSequence.F.kp T.dIsSequence.b .nil pass0 (pa_cons (pv 2) pa_nil))))))))
      (pss_one (ps_ret pe_bl))
      pss_nil)
      (pss_one (ps_ret (pe_callB (cr_all rfl) (by rfl) T.z_all (show bootBuiltins "all" = some (.builtin "all") by decide +kernel) (pa_cons (pe_lc (own := [("group", 3)]) (g := (gName 3)) (tt := tYes) rfl scDIsShare.nd (pi_seq (pv 2)) (blkOk_by (N := ["value", "weight", "groups", "group"]) (sc := defScope sDIsShare) (by decide +kernel)) (fun _ _ _ _ _ => (pg_name (i := 3) scDIsShare.nd rfl (.inl rfl))) (fun _ _ _ _ _ => pts_nil) (fun _ _ _ _ _ => (pe_call (ok_isgroup T) (hr.mono (by decide)) (by rfl) T.dIsGroup.g T.dIsGroup.F.kp T.dIsGroup.b .nil pass0 (pa_cons (pv 3) pa_nil)))) pa_nil))))))), ?_⟩
    simp only [and_assoc, tSeq, tAsg, tOp, tUn, rI, rI0, rU, tVar, tC, gName, L2.start, tIfS, tTest, tB, tCB, tCons, tNil, tIf, tRet, tRetN, tLst, tTup, tNext, tDrop, tNot, tNotV, tAnd, tOr, tAndV, tOrV, tPar, tAug, ipI, rEq, rNe, gSub, rSetL, rIxL, rIxT, tBM, tBM0, rAppend, rPopAt, gTup, gCons, gNil, tCall, tSl, tPart, tNoPart, rSlL, rCat, rEqD, rNeD, rIn, scal, List.map_cons, List.map_nil, List.length_cons, List.length_nil, List.length_map, List.cons_append, List.nil_append, List.append_nil, List.replicate, List.getElem?_cons_zero, List.getElem?_cons_succ, List.set_cons_zero, List.set_cons_succ, Option.some.injEq, exists_eq_left', exists_eq_left, exists_eq_right, exists_and_left, exists_and_right, V.int.injEq, V.ref.injEq, V.str.injEq, V.bl.injEq, reduceCtorEq, false_and, and_false, exists_false, or_false, false_or, true_and, and_true, List.cons.injEq, decide_eq_true_eq, cxOf, if_true, if_false, Bool.false_eq_true, Nat.reduceAdd, Nat.reduceSub, Nat.zero_add, Nat.add_sub_cancel_left, Nat.add_sub_cancel, Nat.sub_self, tFor_eq, tLc_eq, iRng1, iRng2, iList, iTup, iEnum, rIsi, rIsiT, spIs, tLenSetT, rAll, iSeq]
    refine ⟨d, hv, hd, fun H1 s1 => ?_⟩
    cases hp : isPairA d with
    | false =>
      simp only [and_assoc, tSeq, tAsg, tOp, tUn, rI, rI0, rU, tVar, tC, gName, L2.start, tIfS, tTest, tB, tCB, tCons, tNil, tIf, tRet, tRetN, tLst, tTup, tNext, tDrop, tNot, tNotV, tAnd, tOr, tAndV, tOrV, tPar, tAug, ipI, rEq, rNe, gSub, rSetL, rIxL, rIxT, tBM, tBM0, rAppend, rPopAt, gTup, gCons, gNil, tCall, tSl, tPart, tNoPart, rSlL, rCat, rEqD, rNeD, rIn, scal, List.map_cons, List.map_nil, List.length_cons, List.length_nil, List.length_map, List.cons_append, List.nil_append, List.append_nil, List.replicate, List.getElem?_cons_zero, List.getElem?_cons_succ, List.set_cons_zero, List.set_cons_succ, Option.some.injEq, exists_eq_left', exists_eq_left, exists_eq_right, exists_and_left, exists_and_right, V.int.injEq, V.ref.injEq, V.str.injEq, V.bl.injEq, reduceCtorEq, false_and, and_false, exists_false, or_false, false_or, true_and, and_true, List.cons.injEq, decide_eq_true_eq, cxOf, if_true, if_false, Bool.false_eq_true, Nat.reduceAdd, Nat.reduceSub, Nat.zero_add, Nat.add_sub_cancel_left, Nat.add_sub_cancel, Nat.sub_self, tFor_eq, tLc_eq, iRng1, iRng2, iList, iTup, iEnum, rIsi, rIsiT, Bool.not_false]
      have e : isShA d = false := by
        match d, hp with
        | .tup [], _ => rfl
        | .tup [_], _ => rfl
        | .tup (_ :: _ :: _ :: _), _ => rfl
        | .non, _ => rfl
        | .bl _, _ => rfl
        | .int _, _ => rfl
        | .str _, _ => rfl
        | .lst _, _ => rfl
        | .ins _, _ => rfl
      rw [← e]
      exact q _ s1
    | true =>
      obtain ⟨wd, gd, rfl⟩ := pair_tup hp
      obtain ⟨a, xs, rfl, hs, ha⟩ : ∃ a xs, v = .ref a ∧ SqT K H a xs ∧ AvAll K H xs [wd, gd] := by
        cases hv with
        | tup hs' ha' => exact ⟨_, _, rfl, hs', ha'⟩
      obtain ⟨hn, ho⟩ := ok_items hd rfl
      simp only [and_assoc, tSeq, tAsg, tOp, tUn, rI, rI0, rU, tVar, tC, gName, L2.start, tIfS, tTest, tB, tCB, tCons, tNil, tIf, tRet, tRetN, tLst, tTup, tNext, tDrop, tNot, tNotV, tAnd, tOr, tAndV, tOrV, tPar, tAug, ipI, rEq, rNe, gSub, rSetL, rIxL, rIxT, tBM, tBM0, rAppend, rPopAt, gTup, gCons, gNil, tCall, tSl, tPart, tNoPart, rSlL, rCat, rEqD, rNeD, rIn, scal, List.map_cons, List.map_nil, List.length_cons, List.length_nil, List.length_map, List.cons_append, List.nil_append, List.append_nil, List.replicate, List.getElem?_cons_zero, List.getElem?_cons_succ, List.set_cons_zero, List.set_cons_succ, Option.some.injEq, exists_eq_left', exists_eq_left, exists_eq_right, exists_and_left, exists_and_right, V.int.injEq, V.ref.injEq, V.str.injEq, V.bl.injEq, reduceCtorEq, false_and, and_false, exists_false, or_false, false_or, true_and, and_true, List.cons.injEq, decide_eq_true_eq, cxOf, if_true, if_false, Bool.false_eq_true, Nat.reduceAdd, Nat.reduceSub, Nat.zero_add, Nat.add_sub_cancel_left, Nat.add_sub_cancel, Nat.sub_self, tFor_eq, tLc_eq, iRng1, iRng2, iList, iTup, iEnum, rIsi, rIsiT, Bool.not_true]
      have ha1 := avA_mono s1 _ _ ha
      cases ha1 with
      | @cons v1 _ _ _ w1 r1 =>
        cases r1 with
        | @cons v2 _ _ _ w2 r2 =>
          cases r2
          refine ⟨_, Same.seqT s1 hs, rfl, v1, _, rfl, v2, _, rfl, rfl, wd, w1, ho.1, fun H2 s2 => ?_⟩
          have w2' := av_mono s2 _ _ w2
          cases hi : isIntA wd with
          | false =>
            simp only [and_assoc, tSeq, tAsg, tOp, tUn, rI, rI0, rU, tVar, tC, gName, L2.start, tIfS, tTest, tB, tCB, tCons, tNil, tIf, tRet, tRetN, tLst, tTup, tNext, tDrop, tNot, tNotV, tAnd, tOr, tAndV, tOrV, tPar, tAug, ipI, rEq, rNe, gSub, rSetL, rIxL, rIxT, tBM, tBM0, rAppend, rPopAt, gTup, gCons, gNil, tCall, tSl, tPart, tNoPart, rSlL, rCat, rEqD, rNeD, rIn, scal, List.map_cons, List.map_nil, List.length_cons, List.length_nil, List.length_map, List.cons_append, List.nil_append, List.append_nil, List.replicate, List.getElem?_cons_zero, List.getElem?_cons_succ, List.set_cons_zero, List.set_cons_succ, Option.some.injEq, exists_eq_left', exists_eq_left, exists_eq_right, exists_and_left, exists_and_right, V.int.injEq, V.ref.injEq, V.str.injEq, V.bl.injEq, reduceCtorEq, false_and, and_false, exists_false, or_false, false_or, true_and, and_true, List.cons.injEq, decide_eq_true_eq, cxOf, if_true, if_false, Bool.false_eq_true, Nat.reduceAdd, Nat.reduceSub, Nat.zero_add, Nat.add_sub_cancel_left, Nat.add_sub_cancel, Nat.sub_self, tFor_eq, tLc_eq, iRng1, iRng2, iList, iTup, iEnum, rIsi, rIsiT, Bool.not_false]
            have e : isShA (.tup [wd, gd]) = false := by cases wd <;> first | rfl | (exact nomatch hi)
            rw [← e]
            exact q _ (s1.trans s2)
          | true =>
            obtain ⟨n, rfl⟩ := int_of hi
            cases w1
            simp only [and_assoc, tSeq, tAsg, tOp, tUn, rI, rI0, rU, tVar, tC, gName, L2.start, tIfS, tTest, tB, tCB, tCons, tNil, tIf, tRet, tRetN, tLst, tTup, tNext, tDrop, tNot, tNotV, tAnd, tOr, tAndV, tOrV, tPar, tAug, ipI, rEq, rNe, gSub, rSetL, rIxL, rIxT, tBM, tBM0, rAppend, rPopAt, gTup, gCons, gNil, tCall, tSl, tPart, tNoPart, rSlL, rCat, rEqD, rNeD, rIn, scal, List.map_cons, List.map_nil, List.length_cons, List.length_nil, List.length_map, List.cons_append, List.nil_append, List.append_nil, List.replicate, List.getElem?_cons_zero, List.getElem?_cons_succ, List.set_cons_zero, List.set_cons_succ, Option.some.injEq, exists_eq_left', exists_eq_left, exists_eq_right, exists_and_left, exists_and_right, V.int.injEq, V.ref.injEq, V.str.injEq, V.bl.injEq, reduceCtorEq, false_and, and_false, exists_false, or_false, false_or, true_and, and_true, List.cons.injEq, decide_eq_true_eq, cxOf, if_true, if_false, Bool.false_eq_true, Nat.reduceAdd, Nat.reduceSub, Nat.zero_add, Nat.add_sub_cancel_left, Nat.add_sub_cancel, Nat.sub_self, tFor_eq, tLc_eq, iRng1, iRng2, iList, iTup, iEnum, rIsi, rIsiT, Bool.not_true]
            by_cases h1 : n < 1
            · rw [if_pos h1]
              have e : isShA (.tup [.int n, gd]) = false := by
                show (decide (1 ≤ n) && isGrpsA gd) = false
                rw [decide_eq_false (by omega)]
                rfl
              rw [← e]
              exact q _ (s1.trans s2)
            · rw [if_neg h1]
              have e : isShA (.tup [.int n, gd]) = isGrpsA gd := by
                show (decide (1 ≤ n) && isGrpsA gd) = _
                rw [decide_eq_true (by omega)]
                rfl
              rw [e] at q
              refine ⟨gd, w2', ho.2.1, fun H3 s3 => ?_⟩
              rw [seq_items]
              cases ei : itemsA gd with
              | none =>
                simp only [and_assoc, tSeq, tAsg, tOp, tUn, rI, rI0, rU, tVar, tC, gName, L2.start, tIfS, tTest, tB, tCB, tCons, tNil, tIf, tRet, tRetN, tLst, tTup, tNext, tDrop, tNot, tNotV, tAnd, tOr, tAndV, tOrV, tPar, tAug, ipI, rEq, rNe, gSub, rSetL, rIxL, rIxT, tBM, tBM0, rAppend, rPopAt, gTup, gCons, gNil, tCall, tSl, tPart, tNoPart, rSlL, rCat, rEqD, rNeD, rIn, scal, List.map_cons, List.map_nil, List.length_cons, List.length_nil, List.length_map, List.cons_append, List.nil_append, List.append_nil, List.replicate, List.getElem?_cons_zero, List.getElem?_cons_succ, List.set_cons_zero, List.set_cons_succ, Option.some.injEq, exists_eq_left', exists_eq_left, exists_eq_right, exists_and_left, exists_and_right, V.int.injEq, V.ref.injEq, V.str.injEq, V.bl.injEq, reduceCtorEq, false_and, and_false, exists_false, or_false, false_or, true_and, and_true, List.cons.injEq, decide_eq_true_eq, cxOf, if_true, if_false, Bool.false_eq_true, Nat.reduceAdd, Nat.reduceSub, Nat.zero_add, Nat.add_sub_cancel_left, Nat.add_sub_cancel, Nat.sub_self, tFor_eq, tLc_eq, iRng1, iRng2, iList, iTup, iEnum, rIsi, rIsiT, Option.isSome_none, Bool.not_false]
                have e2 : isGrpsA gd = false := by unfold isGrpsA; rw [ei]
                rw [← e2]
                exact q _ ((s1.trans s2).trans s3)
              | some ds =>
                simp only [and_assoc, tSeq, tAsg, tOp, tUn, rI, rI0, rU, tVar, tC, gName, L2.start, tIfS, tTest, tB, tCB, tCons, tNil, tIf, tRet, tRetN, tLst, tTup, tNext, tDrop, tNot, tNotV, tAnd, tOr, tAndV, tOrV, tPar, tAug, ipI, rEq, rNe, gSub, rSetL, rIxL, rIxT, tBM, tBM0, rAppend, rPopAt, gTup, gCons, gNil, tCall, tSl, tPart, tNoPart, rSlL, rCat, rEqD, rNeD, rIn, scal, List.map_cons, List.map_nil, List.length_cons, List.length_nil, List.length_map, List.cons_append, List.nil_append, List.append_nil, List.replicate, List.getElem?_cons_zero, List.getElem?_cons_succ, List.set_cons_zero, List.set_cons_succ, Option.some.injEq, exists_eq_left', exists_eq_left, exists_eq_right, exists_and_left, exists_and_right, V.int.injEq, V.ref.injEq, V.str.injEq, V.bl.injEq, reduceCtorEq, false_and, and_false, exists_false, or_false, false_or, true_and, and_true, List.cons.injEq, decide_eq_true_eq, cxOf, if_true, if_false, Bool.false_eq_true, Nat.reduceAdd, Nat.reduceSub, Nat.zero_add, Nat.add_sub_cancel_left, Nat.add_sub_cancel, Nat.sub_self, tFor_eq, tLc_eq, iRng1, iRng2, iList, iTup, iEnum, rIsi, rIsiT, Option.isSome_some, Bool.not_true]
                obtain ⟨b, ys, rfl, hys, hay⟩ := av_items w2' ei
                obtain ⟨hn2, ho2⟩ := ok_items ho.2.1 ei
                obtain ⟨J, hJ⟩ := (hys.mono s3).it
                refine ⟨b, rfl, ys, J, hJ, fun D nD => lg_is hJ (avA_mono s3 _ _ hay) ho2 hn2 (by decide : 3 < 4) nD fun H4 s4 eD => ⟨_, sqL_of eD, ?_⟩⟩
                have e2 : (ds.map isGrpA).all id = isGrpsA gd := by unfold isGrpsA; rw [ei, List.all_map]; rfl
                rw [e2]
                exact q _ (((s1.trans s2).trans s3).trans s4)
theorem ok_areshares (T : TxtG K mg) : FnOk P w K mg base CX0 4 T.dAreShares.f T.dAreShares.fd ["value"] (spIs K isWillA) := by
  refine T.dAreShares.F.ok scDAreShares (fun vs H Q E h => ?_) (fun cdv A outer s H vs Q E hr h => ?_)
  · obtain ⟨v, d, rfl, _⟩ := h
    rfl
  · obtain ⟨v, d, rfl, hv, hd, q⟩ := h
    refine ⟨_, (pss_one (ps_ret (pe_and (pe_call (ok_isseq T) (hr.mono (by decide)) (by rfl) T.dIsSequence.g T.dIsSequence.F.kp T.dIsSequence.b .nil pass0 (pa_cons (pv 0) pa_nil)) (pe_and (pe_cmpR op_gt (pe_callB call_len_seq (by rfl) T.z_len (show bootBuiltins "len" = some (.builtin "len") by decide +kernel) (pa_cons (pv 0) pa_nil)) pe_int (nomark _)) (pe_one (pe_callB (cr_all rfl) (by rfl) T.z_all (show bootBuiltins "all" = some (.builtin "all") by decide +kernel) (pa_cons (pe_lc (own := [("share", 1)]) (g := (gName 1)) (tt := tYes) rfl scDAreShares.nd (pi_seq (pv 0)) (blkOk_by (N := ["value", "share"]) (sc := defScope sDAreShares) (by decide +kernel)) (fun _ _ _ _ _ => (pg_name (i := 1) scDAreShares.nd rfl (.inl rfl))) (fun _ _ _ _ _ => pts_nil) (fun _ _ _ _ _ => (pe_call (ok_isshare T) (hr.mono (by decide)) (by rfl) T.dIsShare.g T.dIsShare.F.kp T.dIsShare.b .nil pass0 (pa_cons (pv 1) pa_nil)))) pa_nil))))))), ?_⟩
    simp only [and_assoc, tSeq, tAsg, tOp, tUn, rI, rI0, rU, tVar, tC, gName, L2.start, tIfS, tTest, tB, tCB, tCons, tNil, tIf, tRet, tRetN, tLst, tTup, tNext, tDrop, tNot, tNotV, tAnd, tOr, tAndV, tOrV, tPar, tAug, ipI, rEq, rNe, gSub, rSetL, rIxL, rIxT, tBM, tBM0, rAppend, rPopAt, gTup, gCons, gNil, tCall, tSl, tPart, tNoPart, rSlL, rCat, rEqD, rNeD, rIn, scal, List.map_cons, List.map_nil, List.length_cons, List.length_nil, List.length_map, List.cons_append, List.nil_append, List.append_nil, List.replicate, List.getElem?_cons_zero, List.getElem?_cons_succ, List.set_cons_zero, List.set_cons_succ, Option.some.injEq, exists_eq_left', exists_eq_left, exists_eq_right, exists_and_left, exists_and_right, V.int.injEq, V.ref.injEq, V.str.injEq, V.bl.injEq, reduceCtorEq, false_and, and_false, exists_false, or_false, false_or, true_and, and_true, List.cons.injEq, decide_eq_true_eq, cxOf, if_true, if_false, Bool.false_eq_true, Nat.reduceAdd, Nat.reduceSub, Nat.zero_add, Nat.add_sub_cancel_left, Nat.add_sub_cancel, Nat.sub_self, tFor_eq, tLc_eq, iRng1, iRng2, iList, iTup, iEnum, rIsi, rIsiT, spIs, tLenSetT, rAll, iSeq]
    refine ⟨d, hv, hd, fun H1 s1 => ?_⟩
    rw [seq_items]
    cases ei : itemsA d with
    | none =>
      simp only [and_assoc, tSeq, tAsg, tOp, tUn, rI, rI0, rU, tVar, tC, gName, L2.start, tIfS, tTest, tB, tCB, tCons, tNil, tIf, tRet, tRetN, tLst, tTup, tNext, tDrop, tNot, tNotV, tAnd, tOr, tAndV, tOrV, tPar, tAug, ipI, rEq, rNe, gSub, rSetL, rIxL, rIxT, tBM, tBM0, rAppend, rPopAt, gTup, gCons, gNil, tCall, tSl, tPart, tNoPart, rSlL, rCat, rEqD, rNeD, rIn, scal, List.map_cons, List.map_nil, List.length_cons, List.length_nil, List.length_map, List.cons_append, List.nil_append, List.append_nil, List.replicate, List.getElem?_cons_zero, List.getElem?_cons_succ, List.set_cons_zero, List.set_cons_succ, Option.some.injEq, exists_eq_left', exists_eq_left, exists_eq_right, exists_and_left, exists_and_right, V.int.injEq, V.ref.injEq, V.str.injEq, V.bl.injEq, reduceCtorEq, false_and, and_false, exists_false, or_false, false_or, true_and, and_true, List.cons.injEq, decide_eq_true_eq, cxOf, if_true, if_false, Bool.false_eq_true, Nat.reduceAdd, Nat.reduceSub, Nat.zero_add, Nat.add_sub_cancel_left, Nat.add_sub_cancel, Nat.sub_self, tFor_eq, tLc_eq, iRng1, iRng2, iList, iTup, iEnum, rIsi, rIsiT, Option.isSome_none]
      have e : isWillA d = false := by unfold isWillA; rw [ei]
      rw [← e]
      exact q _ s1
    | some ds =>
      simp only [and_assoc, tSeq, tAsg, tOp, tUn, rI, rI0, rU, tVar, tC, gName, L2.start, tIfS, tTest, tB, tCB, tCons, tNil, tIf, tRet, tRetN, tLst, tTup, tNext, tDrop, tNot, tNotV, tAnd, tOr, tAndV, tOrV, tPar, tAug, ipI, rEq, rNe, gSub, rSetL, rIxL, rIxT, tBM, tBM0, rAppend, rPopAt, gTup, gCons, gNil, tCall, tSl, tPart, tNoPart, rSlL, rCat, rEqD, rNeD, rIn, scal, List.map_cons, List.map_nil, List.length_cons, List.length_nil, List.length_map, List.cons_append, List.nil_append, List.append_nil, List.replicate, List.getElem?_cons_zero, List.getElem?_cons_succ, List.set_cons_zero, List.set_cons_succ, Option.some.injEq, exists_eq_left', exists_eq_left, exists_eq_right, exists_and_left, exists_and_right, V.int.injEq, V.ref.injEq, V.str.injEq, V.bl.injEq, reduceCtorEq, false_and, and_false, exists_false, or_false, false_or, true_and, and_true, List.cons.injEq, decide_eq_true_eq, cxOf, if_true, if_false, Bool.false_eq_true, Nat.reduceAdd, Nat.reduceSub, Nat.zero_add, Nat.add_sub_cancel_left, Nat.add_sub_cancel, Nat.sub_self, tFor_eq, tLc_eq, iRng1, iRng2, iList, iTup, iEnum, rIsi, rIsiT, Option.isSome_some]
      obtain ⟨a, xs, rfl, hs, ha⟩ := av_items hv ei
      obtain ⟨hn, ho⟩ := ok_items hd ei
      have hl := avA_len ha
      refine ⟨a, rfl, xs, hs.mono s1, ?_⟩
      have e : isWillA d = (!ds.isEmpty && ds.all isShA) := by unfold isWillA; rw [ei]
      rw [e] at q
      by_cases h0 : ds = []
      · subst h0
        rw [if_neg (by rw [hl]; decide)]
        exact q _ s1
      · have hpos : 0 < ds.length := List.length_pos_iff.mpr h0
        have hie : ds.isEmpty = false := by cases ds with | nil => exact absurd rfl h0 | cons _ _ => rfl
        rw [if_pos (by omega)]
        obtain ⟨J, hJ⟩ := (hs.mono s1).it
        refine ⟨a, rfl, xs, J, hJ, fun D nD => lg_is hJ (avA_mono s1 _ _ ha) ho hn (by decide : 1 < 2) nD fun H2 s2 eD => ⟨_, sqL_of eD, ?_⟩⟩
        have e2 : (ds.map isShA).all id = (!ds.isEmpty && ds.all isShA) := by rw [hie, List.all_map]; rfl
        rw [e2]
        exact q _ (s1.trans s2)

end
end He

/-! the order of texts; a sorted list of texts is one -/
namespace He
open PySem PySem.Spec PyProof.Rows L2
def leC (a b : List Nat) : Prop := ltCps b a = false
theorem leC_refl : ∀ a : List Nat, leC a a
  | [] => rfl
  | x :: r => by
    have h : ltCps r r = false := leC_refl r
    show (decide (x < x) || (x == x && ltCps r r)) = false
    rw [h]
    simp
theorem leC_total : ∀ a b : List Nat, leC a b ∨ leC b a
  | [], b => .inl (by cases b <;> rfl)
  | _ :: _, [] => .inr rfl
  | x :: r, y :: t => by
    have e1 : leC (x :: r) (y :: t) ↔ (decide (y < x) || (y == x && ltCps t r)) = false := Iff.rfl
    have e2 : leC (y :: t) (x :: r) ↔ (decide (x < y) || (x == y && ltCps r t)) = false := Iff.rfl
    rw [e1, e2]
    rcases Nat.lt_trichotomy x y with h | h | h
    · exact .inl (by simp; omega)
    · subst h
      rcases leC_total r t with q | q
      · exact .inl (by rw [show ltCps t r = false from q]; simp)
      · exact .inr (by rw [show ltCps r t = false from q]; simp)
    · exact .inr (by simp; omega)
theorem leC_anti : ∀ {a b : List Nat}, leC a b → leC b a → a = b
  | [], [], _, _ => rfl
  | [], _ :: _, _, h => by cases (show true = false from h)
  | _ :: _, [], h, _ => by cases (show true = false from h)
  | x :: r, y :: t, h1, h2 => by
    have h1 : (decide (y < x) || (y == x && ltCps t r)) = false := h1
    have h2 : (decide (x < y) || (x == y && ltCps r t)) = false := h2
    rw [Bool.or_eq_false_iff] at h1 h2
    have e : x = y := by
      have a := of_decide_eq_false h1.1
      have b := of_decide_eq_false h2.1
      omega
    subst e
    have q1 : leC r t := (show ltCps t r = false by simpa using h1.2)
    have q2 : leC t r := (show ltCps r t = false by simpa using h2.2)
    rw [leC_anti q1 q2]
theorem leC_trans : ∀ {a b c : List Nat}, leC a b → leC b c → leC a c
  | [], _, c, _, _ => by cases c <;> rfl
  | _ :: _, [], _, h, _ => by cases (show true = false from h)
  | _ :: _, _ :: _, [], _, h => by cases (show true = false from h)
  | x :: r, y :: t, z :: u, h1, h2 => by
    have h1 : (decide (y < x) || (y == x && ltCps t r)) = false := h1
    have h2 : (decide (z < y) || (z == y && ltCps u t)) = false := h2
    rw [Bool.or_eq_false_iff] at h1 h2
    show (decide (z < x) || (z == x && ltCps u r)) = false
    have a := of_decide_eq_false h1.1
    have b := of_decide_eq_false h2.1
    rw [decide_eq_false (by omega : ¬ z < x), Bool.false_or]
    by_cases e : z = x
    · subst e
      have e2 : y = z := by omega
      subst e2
      have q1 : leC r t := (show ltCps t r = false by simpa using h1.2)
      have q2 : leC t u := (show ltCps u t = false by simpa using h2.2)
      have q3 : ltCps u r = false := leC_trans q1 q2
      rw [q3]
      simp
    · simp [e]
def leS (a b : Str) : Bool := !ltCps b.cps.toList a.cps.toList
theorem leS_iff {a b : Str} : leS a b = true ↔ leC a.cps.toList b.cps.toList := by unfold leS leC; simp
theorem leS_anti {a b : Str} (h1 : leS a b = true) (h2 : leS b a = true) : a = b := by
  have := leC_anti (leS_iff.mp h1) (leS_iff.mp h2)
  cases a; cases b
  exact congrArg Str.mk (Array.toList_inj.mp this)
/-- the texts ascending -/
def sortG (g : List Str) : List Str := g.mergeSort leS
theorem sortG_perm (g : List Str) : (sortG g).Perm g := List.mergeSort_perm g leS
theorem leS_trans (a b c : Str) (h1 : leS a b = true) (h2 : leS b c = true) : leS a c = true := leS_iff.mpr (leC_trans (leS_iff.mp h1) (leS_iff.mp h2))
theorem leS_total (a b : Str) : (leS a b || leS b a) = true := by
  rcases leC_total a.cps.toList b.cps.toList with h | h
  · rw [leS_iff.mpr h]; rfl
  · rw [leS_iff.mpr h, Bool.or_true]
theorem sortG_up (g : List Str) : (sortG g).Pairwise (fun a b => leS a b = true) := List.pairwise_mergeSort (leS_trans) (leS_total) g
theorem rising_up : ∀ (p : Str) (l : List Str), risingS p l = true → (p :: l).Pairwise (fun a b => leS a b = true)
  | p, [], _ => List.pairwise_singleton _ _
  | p, x :: r, h => by
    have h : (!ltCps x.cps.toList p.cps.toList && risingS x r) = true := h
    rw [Bool.and_eq_true] at h
    have ih := rising_up x r h.2
    have hpx : leS p x = true := h.1
    refine List.pairwise_cons.mpr ⟨fun y hy => ?_, ih⟩
    rcases List.mem_cons.mp hy with rfl | hy
    · exact hpx
    · exact leS_trans p x y hpx ((List.pairwise_cons.mp ih).1 y hy)
theorem sorted_up {l : List Str} (h : sortedS l = true) : l.Pairwise (fun a b => leS a b = true) := by
  cases l with
  | nil => exact List.Pairwise.nil
  | cons x r => exact rising_up x r h
theorem up_one : ∀ {a b : List Str}, a.Perm b → a.Pairwise (fun a b => leS a b = true) → b.Pairwise (fun a b => leS a b = true) → a = b
  | [], b, p, _, _ => p.nil_eq
  | x :: r, [], p, _, _ => by have := p.length_eq; simp at this
  | x :: r, y :: t, p, h1, h2 => by
    have e : x = y := by
      have hx : x ∈ y :: t := p.mem_iff.mp List.mem_cons_self
      have hy : y ∈ x :: r := p.mem_iff.mpr List.mem_cons_self
      rcases List.mem_cons.mp hx with q | q
      · exact q
      · rcases List.mem_cons.mp hy with q2 | q2
        · exact q2.symm
        · exact leS_anti ((List.pairwise_cons.mp h1).1 y q2) ((List.pairwise_cons.mp h2).1 x q)
    subst e
    rw [up_one (List.Perm.cons_inv p) (List.pairwise_cons.mp h1).2 (List.pairwise_cons.mp h2).2]
theorem sortG_of {ys g : List Str} (p : ys.Perm g) (h : sortedS ys = true) : ys = sortG g := up_one (p.trans (sortG_perm g).symm) (sorted_up h) (sortG_up g)
theorem sortG_perm_eq {a b : List Str} (p : a.Perm b) : sortG a = sortG b := up_one (((sortG_perm a).trans p).trans (sortG_perm b).symm) (sortG_up a) (sortG_up b)
theorem sortG_idem (g : List Str) : sortG (sortG g) = sortG g := sortG_perm_eq (sortG_perm g)
end He

/-! != by an own ==; str(x) by an own text -/
namespace He
namespace Own
open PySem PySem.W PySem.Calls PyProof.Rows
section
variable {pr : Program} {wd : World} {A : Around} {E : Value → Shared → Prop} {s : Shared} {K : PySem.W.Frag} {x C f L : Addr} {ox : Obj} {od : Option Obj} {h0 : Heap} {m : Str → Option Value} {b tb : Value}
theorem bound_builtin {M : Model} {nm : Str} {id : String} {args : List Value} {Q : Option Value → Shared → Prop} (X : K.In s.heap) (I : InstAt s.heap x ox C od) (at' : findIn K (.ref C) nm = some (some (.builtin id)))
    (bd : ∀ self, bindSpecial (.builtin id) self = pure (.builtin id, [self])) (go : wpAny M A (call (.builtin id) (.ref x :: args)) (fun v => Q (some v)) E s) : wpAny M A (callSpecialIfBound? (.ref x) nm args) Q E s := by
  simp only [callSpecialIfBound?, bindSpecialIfBound?]
  refine wpAny_holding (wpAny_bind (wpAny_bind (wpAny_bind (I.type.here ((looks_findIn X at').here ?_)))))
  have fin : wpAny M A (call (.builtin id) ([.ref x] ++ args) >>= fun v => pure (some v)) Q E s := wpAny_bind (wpAny_mono go (fun v s' q => wpAny_pure q) fun _ _ q => q)
  refine wpAny_bind (wpAny_askSetting (wpAny_ite ?_))
  split
  · exact wpAny_bind ((Looks.of_pure (bd _)).here (wpAny_pure (by exact fin)))
  · exact wpAny_tryCatch (wpAny_bind ((Looks.of_pure (bd _)).here (wpAny_pure (by exact fin))))
theorem not_eq {Q : Fin → Shared → Prop} (hu : A.units < cLine) (X : K.In s.heap) (I : InstAt s.heap x ox C od) (eqf : findIn K (.ref C) "__eq__" = some (some (.ref f))) (isf : isFn K (.ref f) = true)
    (go : wpAny (model pr wd) A (call (.ref f) [.ref x, b]) (fun v s' => ∃ r, v = .bool r ∧ Q (.done (.ret (.bool (!r)))) s') E s) : wpAny (model pr wd) A (Builtin.«object.__ne__» ⟨[.ref x, b], []⟩) Q E s := by
  unfold Builtin.«object.__ne__»
  refine wpAny_bind (m := slotArgs "__ne__" 1 _) (wpAny_pure ?_)
  refine wpAny_bind (m := cRoomFor _ _) (wpAny_cRoomFor hu ?_)
  refine wpAny_bind (m := callSpecialIfBound? (.ref x) (Str.ofString "__eq__") [b]) (ifBound_K X I eqf isf (wpAny_mono go (fun r s' q => ?_) fun _ _ q => q))
  obtain ⟨r, rfl, q⟩ := q
  exact wpAny_bind (wpAny_truthy_bool (wpAny_pure q))
theorem ne_K {Q : Value → Shared → Prop} (hu : A.units + 1 < cLine) (F : Fr h0 L s.heap m) (X0 : K.In h0) (I : InstAt s.heap x ox C od) (hb : Looks (model pr wd) s.heap (typeOf b) tb) (nf : notFirst K C tb = true)
    (nef : findIn K (.ref C) "__ne__" = some (some (.builtin "object.__ne__"))) (ob : mroIn K C (.type "object") = some true) (eqf : findIn K (.ref C) "__eq__" = some (some (.ref f))) (isf : isFn K (.ref f) = true)
    (go : wpAny (model pr wd) A.in1 (call (.ref f) [.ref x, b]) (fun v s' => ∃ r, v = .bool r ∧ Q (.bool (!r)) s') E s) : wpAny (model pr wd) A (richCompare .NotEq (.ref x) b) Q E s := by
  have X := X0.keeps F.keep
  have one : wpAny (model pr wd) A (tryCompare (.ref x) "__ne__" b) (fun r s' => ∃ v, r = some v ∧ Q v s') E s := by
    unfold tryCompare
    refine wpAny_bind (bound_builtin X I nef PySem.F.slot_object_ne.bind ?_)
    refine wpAny_call (codeAny_call_builtin PySem.F.slot_object_ne.plain PySem.F.cmpEntry_ne (check_slot (i := "object.__ne__") (owner := "object") (n := "__ne__") PySem.F.cmpKind_ne PySem.F.cmpSplit_ne (I.type.andThen (looks_mroIn X ob)) (PySem.F.cmpArgs_ne _ _) ?_))
    refine not_eq (A := A.in1) (by show A.units + 1 < cLine; exact hu) X I eqf isf (wpAny_mono go (fun v s' q => ?_) fun _ _ q => q)
    obtain ⟨r, rfl, q⟩ := q
    exact ⟨r, rfl, wpAny_pure ⟨_, rfl, q⟩⟩
  unfold richCompare
  simp only [oneThing_ref]
  refine wpAny_holding (wpAny_bind (wpAny_cRoomFor (by omega) ?_))
  refine wpAny_bind (I.type.here (wpAny_bind (hb.here ?_)))
  split
  · rename_i q
    have e : subIn K tb (.ref C) = some false := by
      rcases Bool.or_eq_true_iff.mp nf with e | e
      · rw [beq_iff_eq.mp e] at q; simp at q
      · exact beq_iff_eq.mp e
    refine wpAny_bind ((looks_subIn X e).here ?_)
    simp only [Bool.false_eq_true, if_false]
    refine wpAny_bind (wpAny_mono one (fun r s' z => ?_) fun _ _ e => e)
    obtain ⟨v, rfl, q⟩ := z
    exact wpAny_pure q
  · refine wpAny_bind (wpAny_pure ?_)
    simp only [Bool.false_eq_true, if_false]
    refine wpAny_bind (wpAny_mono one (fun r s' z => ?_) fun _ _ e => e)
    obtain ⟨v, rfl, q⟩ := z
    exact wpAny_pure q
end
end Own
end He

namespace He
open PySem PySem.Spec PyProof.Rows L2
/-- what the text says of a class with its own == and its own text -/
structure OwnCmp (K : PySem.W.Frag) (C fE fS : Addr) : Prop where
  ne : PySem.W.findIn K (.ref C) "__ne__" = some (some (.builtin "object.__ne__"))
  ob : PySem.W.mroIn K C (.type "object") = some true
  eq : PySem.W.findIn K (.ref C) "__eq__" = some (some (.ref fE))
  eqf : PySem.W.isFn K (.ref fE) = true
  str : PySem.W.findIn K (.ref C) "__str__" = some (some (.ref fS))
  strf : PySem.W.isFn K (.ref fS) = true
section
variable {X : Cx} {CX : CXT} {n : Nat} {C fE fS : Addr} {sp : Sp} {E : XK}
/-- what follows a call of a def from within a builtin -/
theorem run_in {pins : List (Addr × Obj)} {σ : L2.St} {H : Hp} {s : Shared} {A : Around} {f : Addr} {Q : VK} {us : List Value} {vs : List V} (F : FnR X.prog X.w X.K X.mg X.base CX n f sp) (hr : Room n A) (fr : A.frames = X.A.frames) (hx : Passes CX X E) (I : Inv X pins σ H s) (r : Vals vs us) (h : sp vs H Q E) :
    wpAny (model X.prog X.w) A (call (.ref f) us) (EP X pins σ Q) X.xe s := by
  have e := I.env0
  have e0 : Env0 X.prog X.w X.K X.mg X.base A X.stack s H := ⟨by rw [fr]; exact e.frames, e.mod, e.bs, e.bsz, e.funs, e.frf, e.hok, e.bare⟩
  refine wpAny_call (codeAny_mono (F A X.stack s H us vs Q E hr e0 r h) fun r s' hq => ?_)
  cases r with
  | error er => exact hx pins σ H s er s' I hq
  | ok fl =>
    cases fl with
    | ret u => exact I.after hq
    | next => exact False.elim hq
    | brk => exact False.elim hq
    | cont => exact False.elim hq
def rOwn (C : Addr) (sp : Sp) (E : XK) (neg : Bool) : R2 := fun x y H Q => ∃ a b dx dy fs gs, x = .ref a ∧ y = .ref b ∧ H a = some (.ins C dx fs) ∧ H b = some (.ins C dy gs) ∧ sp [.ref a, .ref b] H (fun v H' => ∃ r, v = .bl r ∧ Q (.bl (if neg then !r else r)) H') E
theorem op_neOwn (c : OwnCmp X.K C fE fS) (F : FnR X.prog X.w X.K X.mg X.base CX n fE sp) (hr : Room (n + 1) X.A) (hx : Passes CX X E) : OpR X (compareOp .NotEq) (rOwn C sp E true) := by
  intro pins s σ H x y v u Q I rx ry h
  obtain ⟨a, b, dx, dy, fs, gs, rfl, rfl, ha, hb, q⟩ := h
  cases rx
  cases ry
  obtain ⟨mA, J, _⟩ := ins_get I.hok ha
  obtain ⟨mB, J', _⟩ := ins_get I.hok hb
  obtain ⟨od, J, _⟩ := J.look
  obtain ⟨od', J', _⟩ := J'.look
  obtain ⟨m, hF⟩ := I.fr
  show wpAny (model X.prog X.w) X.A (richCompare .NotEq (.ref a) (.ref b)) _ _ _
  refine Own.ne_K (tb := .ref C) (by have := hr.un; omega) hF I.ok.mod.kin J J'.type (by simp [PySem.W.notFirst]) c.ne c.ob c.eq c.eqf ?_
  refine wpAny_mono (run_in F hr.in1 rfl (vs := [.ref a, .ref b]) hx I (.cons rfl (.cons rfl .nil)) q) (fun w s' hw => ?_) fun _ _ z => z
  obtain ⟨z, H', I', rz, r, rfl, q2⟩ := hw
  cases rz
  exact ⟨r, rfl, .bl (!r), H', I', rfl, q2⟩
theorem op_eqOwn (c : OwnCmp X.K C fE fS) (F : FnR X.prog X.w X.K X.mg X.base CX n fE sp) (hr : Room (n + 1) X.A) (hx : Passes CX X E) : OpR X (compareOp .Eq) (rOwn C sp E false) := by
  intro pins s σ H x y v u Q I rx ry h
  obtain ⟨a, b, dx, dy, fs, gs, rfl, rfl, ha, hb, q⟩ := h
  cases rx
  cases ry
  obtain ⟨mA, J, _⟩ := ins_get I.hok ha
  obtain ⟨mB, J', _⟩ := ins_get I.hok hb
  obtain ⟨od, J, _⟩ := J.look
  obtain ⟨od', J', _⟩ := J'.look
  obtain ⟨m, hF⟩ := I.fr
  show wpAny (model X.prog X.w) X.A (richCompare .Eq (.ref a) (.ref b)) _ _ _
  refine PySem.W.cmp_K (op := .Eq) (tb := .ref C) (by have := hr.un; omega) hF I.ok.mod.kin J J'.type (by simp [PySem.W.notFirst]) c.eq c.eqf ?_
  refine wpAny_mono (run_in F (hr.mono (Nat.le_succ n)) rfl (vs := [.ref a, .ref b]) hx I (.cons rfl (.cons rfl .nil)) q) (fun w s' hw => ?_) fun _ _ z => z
  obtain ⟨z, H', I', rz, r, rfl, q2⟩ := hw
  cases rz
  exact ⟨.bl r, H', I', rfl, q2⟩
/-- str(x), x of a class with its own text -/
theorem call_strOwn (c : OwnCmp X.K C fE fS) (F : FnR X.prog X.w X.K X.mg X.base CX n fS sp) (hr : Room (n + 2) X.A) (hx : Passes CX X E) :
    CallR X (.type "str") (fun xs H Q => ∃ a dx fs, xs = [.ref a] ∧ H a = some (.ins C dx fs) ∧ sp [.ref a] H (fun v H' => ∃ z, v = .str z ∧ Q (.str z) H') E) := by
  intro pins s σ H xs us Q I r h
  obtain ⟨a, dx, fs, rfl, ha, q⟩ := h
  obtain ⟨u, rfl, ru⟩ := vals1 r
  cases ru
  obtain ⟨mA, J, _⟩ := ins_get I.hok ha
  obtain ⟨od, J, _⟩ := J.look
  refine PySem.W.kso_call (by have := hr.un; show X.A.units + 1 + 1 < _; omega) I.kIn J c.str c.strf ?_
  refine wpAny_mono (run_in F hr.in1.in1 rfl (vs := [.ref a]) hx I (.cons rfl .nil) q) (fun w s' hw => ?_) fun _ _ z => z
  obtain ⟨z, H', I', rz, y, rfl, q2⟩ := hw
  obtain ⟨t, rfl⟩ := rz
  exact ⟨.str y, H', I', ⟨t, rfl⟩, q2⟩
end
end He

namespace He
open PySem PySem.Spec PyProof.Rows L2
section
variable {P : Program} {w : World} {K : PySem.W.Frag} {mg : Str → Option Value} {base : Heap}

/-! ### wills as lists of lists, and as the program keeps them -/
def adGrp (g : List Str) : AD := .lst (g.map AD.str)
def adSh (s : Sh) : AD := .tup [.int s.1, .lst (s.2.map adGrp)]
def adWill (shs : List Sh) : AD := .lst (shs.map adSh)
def nGrp (g : List Str) : PyData := .tuple ((sortG g).map PyData.str)
def nSh (s : Sh) : PyData := .tuple [.int s.1, .tuple (s.2.map nGrp)]
def nWill (shs : List Sh) : PyData := .tuple (shs.map nSh)
theorem adA_strs (g : List Str) : adA (g.map PyData.str) = g.map AD.str := by
  rw [adA_map, List.map_map]
  rfl
theorem ad_grp (g : List Str) : ad (dGrp g) = adGrp g := congrArg AD.lst (adA_strs g)
theorem ad_sh (s : Sh) : ad (dSh s) = adSh s := by
  show AD.tup [.int s.1, .lst (adA (s.2.map dGrp))] = _
  rw [adA_map, List.map_map]
  unfold adSh
  congr 4
  exact List.map_congr_left fun g _ => ad_grp g
theorem adA_shs (shs : List Sh) : adA (shs.map dSh) = shs.map adSh := by
  rw [adA_map, List.map_map]
  exact List.map_congr_left fun s _ => ad_sh s
theorem avA_strs {H : Hp} {vs : List V} {g : List Str} (h : AvAll K H vs (g.map AD.str)) : vs = g.map V.str := by
  have e : strsA (g.map AD.str) = some g := by
    clear h
    induction g with
    | nil => rfl
    | cons x g ih =>
      show (strsA (g.map AD.str)).map (x :: ·) = _
      rw [ih]
      rfl
  exact av_strs h e
theorem dp_list {H : Hp} {ys : List V} {ds : List PyData} (hl : ys.length = ds.length) (h : ∀ (i : Nat) (y : V), ys[i]? = some y → ∃ d, ds[i]? = some d ∧ Dp K H y d) : DpAll K H ys ds := by
  induction ys generalizing ds with
  | nil =>
    cases ds with
    | nil => exact .nil
    | cons _ _ => simp at hl
  | cons y ys ih =>
    cases ds with
    | nil => simp at hl
    | cons d ds =>
      obtain ⟨d', e, hd⟩ := h 0 y rfl
      cases Option.some.inj e
      exact .cons hd (ih (by simpa using hl) fun i z e => h (i + 1) z e)
def rTupOf (K : PySem.W.Frag) : List V → Hp → VK → Prop := fun xs H Q => ∃ p ys, xs = [.ref p] ∧ ((SqL K H p ys ∧ ∀ l, H l = none → Q (.ref l) (upd H l (.tup ys))) ∨ (SqT K H p ys ∧ Q (.ref p) H))
theorem cr_tup {X : Cx} : CallR X (.type "tuple") (rTupOf X.K) := call_tuple_of
def rLenL (K : PySem.W.Frag) : List V → Hp → VK → Prop := fun xs H Q => ∃ p ys, xs = [.ref p] ∧ SqL K H p ys ∧ Q (.int ys.length) H
/-- what has come since -/
def news (H H' : Hp) : Hp := fun b => match H b with
  | some _ => none
  | none => H' b
theorem news_at {H H' : Hp} {b : Addr} (h : H b = none) : news H H' b = H' b := by
  unfold news
  rw [h]
theorem news_get {H H' : Hp} {b : Addr} {o : HO} (h : news H H' b = some o) : H b = none ∧ H' b = some o := by
  unfold news at h
  split at h
  · cases h
  · rename_i e
    exact ⟨e, h⟩
theorem news_le {H H' : Hp} : Same (news H H') H' := fun b o e => (news_get e).2
theorem news_mono {H H1 H2 : Hp} (s : Same H1 H2) : Same (news H H1) (news H H2) := fun b o e => by
  obtain ⟨e1, e2⟩ := news_get e
  rw [news_at e1]
  exact s _ _ e2
theorem news_up {H0 H H' : Hp} (s : Same H0 H) : Same (news H H') (news H0 H') := fun b o e => by
  obtain ⟨e1, e2⟩ := news_get e
  rw [news_at (s.free e1)]
  exact e2
theorem news_hide {D : Addr} {H H' : Hp} (h : H D ≠ none) : Same (news H H') (news H (hide D H')) := fun b o e => by
  obtain ⟨e1, e2⟩ := news_get e
  have hb : b ≠ D := fun z => h (by rw [← z]; exact e1)
  rw [news_at e1, hide_ne hb]
  exact e2
theorem news_hide2 {D : Addr} {H H' : Hp} : Same (news H (hide D H')) (news H H') := news_mono hide_le
/-- groups, each sorted -/
def spLots (K : PySem.W.Frag) : Sp := fun vs H Q _ => ∃ (v : V) (gs : List (List Str)), vs = [v] ∧ Av K H v (.lst (gs.map adGrp)) ∧ gs.length < 1000 ∧ (∀ g ∈ gs, g.length < 64) ∧
  ∀ r H', Same H H' → Dp K (news H H') (.ref r) (.tuple (gs.map nGrp)) → Q (.ref r) H'
theorem ok_lots (T : TxtG K mg) : FnOk P w K mg base CX0 1 T.dLots.f T.dLots.fd ["groups"] (spLots K) := by
  refine T.dLots.F.ok scDLots (fun vs H Q E h => ?_) (fun cdv A outer s H vs Q E hr h => ?_)
  · obtain ⟨v, gs, rfl, _⟩ := h
    rfl
  · obtain ⟨v, gs, rfl, hv, hn, hg, q⟩ := h
    refine ⟨_, (pss_one (ps_ret (pe_callTy call_tuple_of (by rfl) T.z_tuple (show bootBuiltins "tuple" = some (.type "tuple") by decide +kernel) (pa_cons (pe_lc (own := [("group", 1)]) (g := (gName 1)) (tt := tYes) rfl scDLots.nd (pi_seq (pv 0)) (blkOk_by (N := ["groups", "group"]) (sc := defScope sDLots) (by decide +kernel)) (fun _ _ _ _ _ => (pg_name (i := 1) scDLots.nd rfl (.inl rfl))) (fun _ _ _ _ _ => pts_nil) (fun _ _ _ _ _ => (pe_callTy (show CallR _ (.type "tuple") (rTupOf K) from cr_tup) (by rfl) T.z_tuple (show bootBuiltins "tuple" = some (.type "tuple") by decide +kernel) (pa_cons (pe_callB (show CallR _ (.builtin "sorted") (rSortedS K) from cr_sortedS) (by rfl) T.z_sorted (show bootBuiltins "sorted" = some (.builtin "sorted") by decide +kernel) (pa_cons (pv 1) pa_nil)) pa_nil)))) pa_nil)))), ?_⟩
    simp only [and_assoc, tSeq, tAsg, tOp, tUn, rI, rI0, rU, tVar, tC, gName, L2.start, tIfS, tTest, tB, tCB, tCons, tNil, tIf, tRet, tRetN, tLst, tTup, tNext, tDrop, tNot, tNotV, tAnd, tOr, tAndV, tOrV, tPar, tAug, ipI, rEq, rNe, gSub, rSetL, rIxL, rIxT, tBM, tBM0, rAppend, rPopAt, gTup, gCons, gNil, tCall, tSl, tPart, tNoPart, rSlL, rCat, rEqD, rNeD, rIn, scal, List.map_cons, List.map_nil, List.length_cons, List.length_nil, List.length_map, List.cons_append, List.nil_append, List.append_nil, List.replicate, List.getElem?_cons_zero, List.getElem?_cons_succ, List.set_cons_zero, List.set_cons_succ, Option.some.injEq, exists_eq_left', exists_eq_left, exists_eq_right, exists_and_left, exists_and_right, V.int.injEq, V.ref.injEq, V.str.injEq, V.bl.injEq, reduceCtorEq, false_and, and_false, exists_false, or_false, false_or, true_and, and_true, List.cons.injEq, decide_eq_true_eq, cxOf, if_true, if_false, Bool.false_eq_true, Nat.reduceAdd, Nat.reduceSub, Nat.zero_add, Nat.add_sub_cancel_left, Nat.add_sub_cancel, Nat.sub_self, sFld, tFld, tFor_eq, tLc_eq, iRng1, iRng2, iList, iTup, iEnum, rIsi, rIsiT, iSeq]
    obtain ⟨a, xs, rfl, hs, ha⟩ := av_items hv rfl
    obtain ⟨J, hJ⟩ := hs.it
    have hxl : xs.length = gs.length := by rw [avA_len ha, List.length_map]
    obtain ⟨H0, hH0⟩ : ∃ H0, H0 = H := ⟨H, rfl⟩
    refine ⟨a, rfl, xs, J, hJ, fun D nD => ?_⟩
    refine lg_pure (fun i y H => ∃ g r, gs[i]? = some g ∧ y = .ref r ∧ H0 r = none ∧ H r = some (.tup ((sortG g).map V.str))) hJ (small1000 (by omega)) nD (fun i y H H' s h => let ⟨g, r, e1, e2, e3, e4⟩ := h; ⟨g, r, e1, e2, e3, s _ _ e4⟩) (fun i x H1 Φ hx s1 hD hΦ => ?_) (fun ys H1 s1 eD hl2 hY => ?_)
    · simp only [and_assoc, tSeq, tAsg, tOp, tUn, rI, rI0, rU, tVar, tC, gName, L2.start, tIfS, tTest, tB, tCB, tCons, tNil, tIf, tRet, tRetN, tLst, tTup, tNext, tDrop, tNot, tNotV, tAnd, tOr, tAndV, tOrV, tPar, tAug, ipI, rEq, rNe, gSub, rSetL, rIxL, rIxT, tBM, tBM0, rAppend, rPopAt, gTup, gCons, gNil, tCall, tSl, tPart, tNoPart, rSlL, rCat, rEqD, rNeD, rIn, scal, List.map_cons, List.map_nil, List.length_cons, List.length_nil, List.length_map, List.cons_append, List.nil_append, List.append_nil, List.replicate, List.getElem?_cons_zero, List.getElem?_cons_succ, List.set_cons_zero, List.set_cons_succ, Option.some.injEq, exists_eq_left', exists_eq_left, exists_eq_right, exists_and_left, exists_and_right, V.int.injEq, V.ref.injEq, V.str.injEq, V.bl.injEq, reduceCtorEq, false_and, and_false, exists_false, or_false, false_or, true_and, and_true, List.cons.injEq, decide_eq_true_eq, cxOf, if_true, if_false, Bool.false_eq_true, Nat.reduceAdd, Nat.reduceSub, Nat.zero_add, Nat.add_sub_cancel_left, Nat.add_sub_cancel, Nat.sub_self, sFld, tFld, tFor_eq, tLc_eq, iRng1, iRng2, iList, iTup, iEnum, rIsi, rIsiT, wipe, rSortedS]
      obtain ⟨d, ed, hx2⟩ := avA_get (avA_mono s1 _ _ ha) hx
      rw [List.getElem?_map] at ed
      obtain ⟨g, eg, rfl⟩ := Option.map_eq_some_iff.mp ed
      have hgm : g ∈ gs := List.mem_of_getElem? eg
      cases hx2 with
      | @lst b zs _ hb hzs =>
        have ez := avA_strs hzs
        subst ez
        refine ⟨b, rfl, g, hb, hg g hgm, fun ys p pm so np => ?_⟩
        simp only [and_assoc, tSeq, tAsg, tOp, tUn, rI, rI0, rU, tVar, tC, gName, L2.start, tIfS, tTest, tB, tCB, tCons, tNil, tIf, tRet, tRetN, tLst, tTup, tNext, tDrop, tNot, tNotV, tAnd, tOr, tAndV, tOrV, tPar, tAug, ipI, rEq, rNe, gSub, rSetL, rIxL, rIxT, tBM, tBM0, rAppend, rPopAt, gTup, gCons, gNil, tCall, tSl, tPart, tNoPart, rSlL, rCat, rEqD, rNeD, rIn, scal, List.map_cons, List.map_nil, List.length_cons, List.length_nil, List.length_map, List.cons_append, List.nil_append, List.append_nil, List.replicate, List.getElem?_cons_zero, List.getElem?_cons_succ, List.set_cons_zero, List.set_cons_succ, Option.some.injEq, exists_eq_left', exists_eq_left, exists_eq_right, exists_and_left, exists_and_right, V.int.injEq, V.ref.injEq, V.str.injEq, V.bl.injEq, reduceCtorEq, false_and, and_false, exists_false, or_false, false_or, true_and, and_true, List.cons.injEq, decide_eq_true_eq, cxOf, if_true, if_false, Bool.false_eq_true, Nat.reduceAdd, Nat.reduceSub, Nat.zero_add, Nat.add_sub_cancel_left, Nat.add_sub_cancel, Nat.sub_self, sFld, tFld, tFor_eq, tLc_eq, iRng1, iRng2, iList, iTup, iEnum, rIsi, rIsiT, rTupOf]
        have e := sortG_of pm so
        subst e
        refine ⟨_, .inl ⟨sqL_of upd_same, fun l nl => ?_⟩⟩
        have lD : l ≠ D := fun z => by
          rw [z] at nl
          by_cases h : D = p
          · rw [h, upd_same] at nl; cases nl
          · rw [upd_ne h] at nl; exact hD nl
        refine hΦ _ _ ((same_upd np).trans (same_upd nl)) ⟨g, l, eg, rfl, hH0 ▸ (s1.trans (same_upd np)).free nl, ?_⟩
        rw [hide_ne lD, upd_same]
    · refine ⟨ys, .inl ⟨sqL_of eD, fun l nl => ?_⟩⟩
      subst hH0
      have hds : DpAll K (news H0 H1) ys (gs.map nGrp) := dp_list (by rw [hl2, List.length_map]; exact hxl) fun i y e => by
        obtain ⟨g, r, eg, rfl, nr, er⟩ := hY i y e
        exact ⟨nGrp g, by rw [List.getElem?_map, eg]; rfl, .tup (sqT_of (by rw [news_at nr]; exact hide_le _ _ er)) (dpA_strs _)⟩
      exact q l _ (s1.trans (same_upd nl)) (.tup (sqT_of (by rw [news_at (s1.free nl), upd_same])) (dpA_mono (news_mono (same_upd nl)) _ _ hds))

end
end He

namespace He
open PySem PySem.Spec PyProof.Rows L2
section
variable {P : Program} {w : World} {K : PySem.W.Frag} {mg : Str → Option Value} {base : Heap}

/-! ### the class Will -/
structure TxtW (K : PySem.W.Frag) (mg : Str → Option Value) where
  t : TxtG K mg
  cl : Cls K t.cWill
  nS : NoAttr K t.cWill "shares"
  iF : Addr
  iD : FuncData
  iFn : Fun K "__init__" "Will.__init__" sDWillInit iF iD
  iB : Binds K iD ["self", "shares"] []
  iM : Mk K t.cWill iF
  eF : Addr
  eD : FuncData
  eFn : Fun K "__eq__" "Will.__eq__" sDWillEq eF eD
  eB : Binds K eD ["self", "other"] []
  sF : Addr
  sD : FuncData
  sFn : Fun K "__str__" "Will.__str__" sDWillStr sF sD
  sB : Binds K sD ["self"] []
  oc : OwnCmp K t.cWill eF sF
  rP : Addr
  rC : Value
  rF : Addr
  rD : FuncData
  rFn : Fun K "read" "Will.read" sDWillRead rF rD
  rB : Binds K rD ["cls", "text"] []
  rR : ClX.CRead K t.cWill rC
  rM : ClX.CMet K t.cWill rC "read" rP rF
  ty : ∀ {H : Hp} {a dx : Addr} {fs : List (Str × V)}, H a = some (.ins t.cWill dx fs) → TyOf K H (.ref a) (.ref t.cWill)
  is : PySem.W.kitOne K (.ref t.cWill) (.ref t.cWill) = some true
structure WOk (shs : List Sh) : Prop where
  ne : shs ≠ []
  l : shs.length ≤ 40
  ok : ∀ s ∈ shs, ShOk s ∧ s.2.length ≤ 40 ∧ ∀ g ∈ s.2, g.length ≤ 40
  w : ∀ s ∈ shs, s.1 ≤ 999999999
theorem WillOk.wok {ns : List Str} {shs : List Sh} (h : WillOk ns shs) : WOk shs := ⟨h.ne, by have := h.l3; omega, fun s hs => ⟨(h.ok s hs).1, by have := (h.ok s hs).2.1.l; omega, fun g hg => by have := (h.ok s hs).2.1.g g hg; omega⟩, fun s hs => by have := (h.ok s hs).2.1.w; omega⟩
theorem strsA_map (g : List Str) : strsA (g.map AD.str) = some g := by
  induction g with
  | nil => rfl
  | cons x g ih =>
    show (strsA (g.map AD.str)).map (x :: ·) = _
    rw [ih]
    rfl
theorem grp_ad {g : List Str} (h : GrpOk g) : isGrpA (adGrp g) = true := by
  unfold isGrpA grpA adGrp
  show Option.isSome (if (g.map AD.str).isEmpty then none else if (g.map AD.str).all isNameA then _ else none) = true
  rw [strsA_map]
  have h1 : (g.map AD.str).isEmpty = false := by
    cases g with
    | nil => exact absurd rfl h.ne
    | cons _ _ => rfl
  have h2 : (g.map AD.str).all isNameA = true := by
    rw [List.all_map]
    exact List.all_eq_true.mpr fun x hx => h.nm x hx
  rw [h1, h2]
  simp [h.nd]
theorem sh_ad {s : Sh} (h : ShOk s) : isShA (adSh s) = true := by
  show (decide (1 ≤ s.1) && isGrpsA (.lst (s.2.map adGrp))) = true
  rw [decide_eq_true h.w1]
  show (s.2.map adGrp).all isGrpA = true
  rw [List.all_map]
  exact List.all_eq_true.mpr fun g hg => grp_ad (h.gs g hg)
theorem will_ad {shs : List Sh} (h : WOk shs) : isWillA (adWill shs) = true := by
  show (!(shs.map adSh).isEmpty && (shs.map adSh).all isShA) = true
  have h1 : (shs.map adSh).isEmpty = false := by
    have := h.ne
    cases shs with
    | nil => exact absurd rfl this
    | cons _ _ => rfl
  rw [h1, List.all_map]
  exact List.all_eq_true.mpr fun s hs => sh_ad (h.ok s hs).1
theorem adOkA_of {ds : List AD} (h : ∀ d ∈ ds, AdOk K d) : AdOkA K ds := by
  induction ds with
  | nil => trivial
  | cons d ds ih => exact ⟨h d List.mem_cons_self, ih fun e he => h e (List.mem_cons_of_mem _ he)⟩
theorem name_len {x : Str} (h : nameB x = true) : x.length ≤ 5 := by
  unfold nameB at h
  simp only [Bool.and_eq_true, decide_eq_true_eq] at h
  exact h.1.1.2
theorem ok_grp {g : List Str} (h : GrpOk g) (hl : g.length ≤ 40) : AdOk K (adGrp g) := by
  refine ⟨by rw [List.length_map]; omega, adOkA_of fun d hd => ?_⟩
  obtain ⟨x, hx, rfl⟩ := List.mem_map.mp hd
  exact Nat.le_trans (name_len (h.nm x hx)) (by decide)
theorem adok_will {shs : List Sh} (h : WOk shs) : AdOk K (adWill shs) := by
  refine ⟨by rw [List.length_map]; have := h.l; omega, adOkA_of fun d hd => ?_⟩
  obtain ⟨s, hs, rfl⟩ := List.mem_map.mp hd
  obtain ⟨h1, h2, h3⟩ := h.ok s hs
  refine ⟨by show 2 < 4000; decide, trivial, ⟨by rw [List.length_map]; omega, adOkA_of fun e he => ?_⟩, trivial⟩
  obtain ⟨g, hg, rfl⟩ := List.mem_map.mp he
  exact ok_grp (h1.gs g hg) (h3 g hg)
/-- a will of the program at x -/
def WillAt (K : PySem.W.Frag) (C : Addr) (H : Hp) (x : Addr) (shs : List Sh) : Prop := ∃ dx t, H x = some (.ins C dx [("shares", .ref t)]) ∧ Dp K H (.ref t) (nWill shs)
theorem WillAt.mono {C : Addr} {H H' : Hp} {x : Addr} {shs : List Sh} (s : Same H H') (h : WillAt K C H x shs) : WillAt K C H' x shs := by
  obtain ⟨dx, t, e, d⟩ := h
  exact ⟨dx, t, s _ _ e, dp_mono s _ _ d⟩
def spWInit (K : PySem.W.Frag) (C : Addr) : Sp := fun vs H Q _ => ∃ (x dx : Addr) (v : V) (shs : List Sh), vs = [.ref x, v] ∧ H x = some (.ins C dx []) ∧ Av K H v (adWill shs) ∧ WOk shs ∧
  ∀ t H', (∀ b o, b ≠ x → H b = some o → H' b = some o) → H' x = some (.ins C dx [("shares", .ref t)]) → Dp K (news H H') (.ref t) (nWill shs) → Q .non H'
theorem ok_winit (W : TxtW K mg) : FnOk P w K mg base CX0 5 W.iF W.iD ["self", "shares"] (spWInit K W.t.cWill) := by
  refine W.iFn.ok scDWillInit (fun vs H Q E h => ?_) (fun cdv A outer s H vs Q E hr h => ?_)
  · obtain ⟨x, dx, v, shs, rfl, _⟩ := h
    rfl
  · obtain ⟨x, dx, v, shs, rfl, hx, hv, hw, q⟩ := h
    refine ⟨_, (pss_cons (ps_if (pt_not (pt_val (pe_call (ok_areshares W.t) (hr.mono (by decide)) (by rfl) W.t.dAreShares.g W.t.dAreShares.F.kp W.t.dAreShares.b .nil pass0 (pa_cons (pv 1) pa_nil))))
      (pss_one ps_never)
      pss_nil)
      (pss_one (ps_fld (pv 0) (pe_callTy call_tuple_of (by rfl) W.t.z_tuple (show bootBuiltins "tuple" = some (.type "tuple") by decide +kernel) (pa_cons (pe_lc (own := [("weight", 2), ("groups", 3)]) (g := (gTup K 2 (gCons (gName 2) (gCons (gName 3) gNil)))) (tt := tYes) rfl scDWillInit.nd (pi_seq (pv 1)) (blkOk_by (N := ["self", "shares", "weight", "groups"]) (sc := defScope sDWillInit) (by decide +kernel)) (fun _ _ _ _ _ => (pg_tup (n := 2) rfl (pgs_cons (pg_name (i := 2) scDWillInit.nd rfl (.inl rfl)) (pgs_cons (pg_name (i := 3) scDWillInit.nd rfl (.inl rfl)) pgs_nil)))) (fun _ _ _ _ _ => pts_nil) (fun _ _ _ _ _ => (pe_tup (pa_cons (pv 2) (pa_cons (pe_call (ok_lots W.t) (hr.mono (by decide)) (by rfl) W.t.dLots.g W.t.dLots.F.kp W.t.dLots.b .nil pass0 (pa_cons (pv 3) pa_nil)) pa_nil))))) pa_nil)) rfl))), ?_⟩
    simp only [and_assoc, tSeq, tAsg, tOp, tUn, rI, rI0, rU, tVar, tC, gName, L2.start, tIfS, tTest, tB, tCB, tCons, tNil, tIf, tRet, tRetN, tLst, tTup, tNext, tDrop, tNot, tNotV, tAnd, tOr, tAndV, tOrV, tPar, tAug, ipI, rEq, rNe, gSub, rSetL, rIxL, rIxT, tBM, tBM0, rAppend, rPopAt, gTup, gCons, gNil, tCall, tSl, tPart, tNoPart, rSlL, rCat, rEqD, rNeD, rIn, scal, List.map_cons, List.map_nil, List.length_cons, List.length_nil, List.length_map, List.cons_append, List.nil_append, List.append_nil, List.replicate, List.getElem?_cons_zero, List.getElem?_cons_succ, List.set_cons_zero, List.set_cons_succ, Option.some.injEq, exists_eq_left', exists_eq_left, exists_eq_right, exists_and_left, exists_and_right, V.int.injEq, V.ref.injEq, V.str.injEq, V.bl.injEq, reduceCtorEq, false_and, and_false, exists_false, or_false, false_or, true_and, and_true, List.cons.injEq, decide_eq_true_eq, cxOf, if_true, if_false, Bool.false_eq_true, Nat.reduceAdd, Nat.reduceSub, Nat.zero_add, Nat.add_sub_cancel_left, Nat.add_sub_cancel, Nat.sub_self, sFld, tFld, tFor_eq, tLc_eq, iRng1, iRng2, iList, iTup, iEnum, rIsi, rIsiT, iSeq, spIs, spLots]
    refine ⟨adWill shs, hv, adok_will hw, fun H1 s1 => ?_⟩
    rw [will_ad hw]
    simp only [and_assoc, tSeq, tAsg, tOp, tUn, rI, rI0, rU, tVar, tC, gName, L2.start, tIfS, tTest, tB, tCB, tCons, tNil, tIf, tRet, tRetN, tLst, tTup, tNext, tDrop, tNot, tNotV, tAnd, tOr, tAndV, tOrV, tPar, tAug, ipI, rEq, rNe, gSub, rSetL, rIxL, rIxT, tBM, tBM0, rAppend, rPopAt, gTup, gCons, gNil, tCall, tSl, tPart, tNoPart, rSlL, rCat, rEqD, rNeD, rIn, scal, List.map_cons, List.map_nil, List.length_cons, List.length_nil, List.length_map, List.cons_append, List.nil_append, List.append_nil, List.replicate, List.getElem?_cons_zero, List.getElem?_cons_succ, List.set_cons_zero, List.set_cons_succ, Option.some.injEq, exists_eq_left', exists_eq_left, exists_eq_right, exists_and_left, exists_and_right, V.int.injEq, V.ref.injEq, V.str.injEq, V.bl.injEq, reduceCtorEq, false_and, and_false, exists_false, or_false, false_or, true_and, and_true, List.cons.injEq, decide_eq_true_eq, cxOf, if_true, if_false, Bool.false_eq_true, Nat.reduceAdd, Nat.reduceSub, Nat.zero_add, Nat.add_sub_cancel_left, Nat.add_sub_cancel, Nat.sub_self, sFld, tFld, tFor_eq, tLc_eq, iRng1, iRng2, iList, iTup, iEnum, rIsi, rIsiT, iSeq, Bool.not_true]
    obtain ⟨a, xs, rfl, hs, ha⟩ := av_items hv rfl
    obtain ⟨J, hJ⟩ := (hs.mono s1).it
    have hxl : xs.length = shs.length := by rw [avA_len ha, List.length_map]
    have hlt := hw.l
    obtain ⟨H0, hH0⟩ : ∃ H0, H0 = H := ⟨H, rfl⟩
    refine ⟨a, rfl, xs, J, hJ, fun D nD => ?_⟩
    refine lg_pure (fun i y H => ∃ s, shs[i]? = some s ∧ Dp K (news H0 H) y (nSh s)) hJ (small1000 (by omega)) nD (fun i y H H' s h => let ⟨g, e1, e2⟩ := h; ⟨g, e1, dp_mono (news_mono s) _ _ e2⟩) (fun i x H2 Φ hx s2 hD hΦ => ?_) (fun ys H2 s2 eD hl2 hY => ?_)
    · simp only [and_assoc, tSeq, tAsg, tOp, tUn, rI, rI0, rU, tVar, tC, gName, L2.start, tIfS, tTest, tB, tCB, tCons, tNil, tIf, tRet, tRetN, tLst, tTup, tNext, tDrop, tNot, tNotV, tAnd, tOr, tAndV, tOrV, tPar, tAug, ipI, rEq, rNe, gSub, rSetL, rIxL, rIxT, tBM, tBM0, rAppend, rPopAt, gTup, gCons, gNil, tCall, tSl, tPart, tNoPart, rSlL, rCat, rEqD, rNeD, rIn, scal, List.map_cons, List.map_nil, List.length_cons, List.length_nil, List.length_map, List.cons_append, List.nil_append, List.append_nil, List.replicate, List.getElem?_cons_zero, List.getElem?_cons_succ, List.set_cons_zero, List.set_cons_succ, Option.some.injEq, exists_eq_left', exists_eq_left, exists_eq_right, exists_and_left, exists_and_right, V.int.injEq, V.ref.injEq, V.str.injEq, V.bl.injEq, reduceCtorEq, false_and, and_false, exists_false, or_false, false_or, true_and, and_true, List.cons.injEq, decide_eq_true_eq, cxOf, if_true, if_false, Bool.false_eq_true, Nat.reduceAdd, Nat.reduceSub, Nat.zero_add, Nat.add_sub_cancel_left, Nat.add_sub_cancel, Nat.sub_self, sFld, tFld, tFor_eq, tLc_eq, iRng1, iRng2, iList, iTup, iEnum, rIsi, rIsiT, iSeq, wipe, spLots]
      obtain ⟨d, ed, hx2⟩ := avA_get (avA_mono (s1.trans s2) _ _ ha) hx
      rw [List.getElem?_map] at ed
      obtain ⟨sh, eg, rfl⟩ := Option.map_eq_some_iff.mp ed
      obtain ⟨hok, h1, h2⟩ := hw.ok sh (List.mem_of_getElem? eg)
      cases hx2 with
      | @tup b zs _ hb hzs =>
        cases hzs with
        | cons w1 r1 =>
          cases w1
          cases r1 with
          | @cons v2 _ _ _ w2 r2 =>
            cases r2
            refine ⟨b, rfl, _, hb, rfl, _, _, rfl, v2, _, rfl, rfl, sh.2, w2, by omega, fun g hg => by have := h2 g hg; omega, fun r H3 s3 hr3 => ⟨by decide, fun p np => ?_⟩⟩
            have pD : p ≠ D := fun z => by
              cases e : H2 D with
              | none => exact hD e
              | some o => rw [z, s3 _ _ e] at np; cases np
            have s02 : Same H0 H2 := hH0 ▸ (s1.trans s2)
            refine hΦ _ _ (s3.trans (same_upd np)) ⟨sh, eg, ?_⟩
            have np0 : H0 p = none := s02.free (s3.free np)
            refine .tup (sqT_of (by rw [news_at np0, hide_ne pD, upd_same])) (.cons (.int _) (.cons ?_ .nil))
            exact dp_mono ((news_hide hD).trans ((news_up s02).trans (news_mono (hide_same (same_upd np))))) _ _ hr3
    · subst hH0
      have s02 : Same H0 H2 := s1.trans s2
      refine ⟨ys, .inl ⟨sqL_of eD, fun l nl => ?_⟩⟩
      have hds : DpAll K (news H0 H2) ys (shs.map nSh) := dp_list (by rw [hl2, List.length_map]; exact hxl) fun i y e => by
        obtain ⟨g, eg, er⟩ := hY i y e
        exact ⟨nSh g, by rw [List.getElem?_map, eg]; rfl, dp_mono news_hide2 _ _ er⟩
      have hx2 := same_upd (o := .tup ys) nl _ _ (s02 _ _ hx)
      have lx : l ≠ x := fun z => by rw [z, s02 _ _ hx] at nl; cases nl
      refine ⟨_, _, _, hx2, W.cl, W.nS, by show 0 < 1000; decide, q l _ (fun b o hb e => ?_) upd_same ?_⟩
      · rw [upd_ne hb]
        exact same_upd nl _ _ (s02 _ _ e)
      · have nl0 := s02.free nl
        refine .tup (sqT_of (by rw [news_at nl0, upd_ne lx, upd_same])) (dpA_mono (fun b o e => ?_) _ _ hds)
        obtain ⟨e1, e2⟩ := news_get e
        have bx : b ≠ x := fun z => by rw [z, hx] at e1; cases e1
        rw [news_at e1, upd_ne bx]
        exact same_upd nl _ _ e2

end
end He

/-! enumerate(t), t a tuple -/
namespace EnT
open PySem PySem.Spec PyProof.Rows
open PySem.Sem (wp)
open PySem.AutoSeq1 (wpAny_loadPart')
theorem meets_enumT (l : Addr) (items : Array Value) (n : Nat) (dct : Option Addr) (sl : Array (Option Value)) :
    Meets (Builtin.«enumerate.__new__» ⟨[.type "enumerate", .ref l], []⟩) (fun _ R s => s.heap.get? l = some { cls := .type "tuple", dict := dct, data := .seq items n, slots := sl } ∧
      R (.ok (.ret (.ref (s.heap.push { cls := .type "tuple_iterator", data := .fields #[.ref l, .int 0 0] }).objs.size)))
        { s with heap := (s.heap.push { cls := .type "tuple_iterator", data := .fields #[.ref l, .int 0 0] }).push { cls := .type "enumerate", data := .fields #[.none, .bool false, .ref s.heap.objs.size, rawInt 0, .none, .none] } }) :=
  .of_wp fun prog w A R s h => by
    obtain ⟨hp, g, d, tk, os⟩ := s; obtain ⟨hl, h⟩ := h; have hsub := sub_enumerate
    have hL : Heap.IsTuple (Shared.heap ⟨hp, g, d, tk, os⟩) l items := ⟨_, hl, rfl, n, rfl⟩
    wp_walk using wpAny_loadPart' hl; refine wpAny_stack_any fun st => wpAny_pure ?_
    split
    · rename_i c _ _ _ _ _; cases (c == Value.type "enumerate")
      · wp_walk using wpAny_loadPart' hl, wpAny_pyIter_tuple hL; exact ⟨_, rfl, h⟩
      · wp_walk using wpAny_loadPart' hl, wpAny_pyIter_tuple hL; exact ⟨_, rfl, h⟩
    · wp_walk using wpAny_loadPart' hl, wpAny_pyIter_tuple hL; exact ⟨_, rfl, h⟩
section
variable {prog : Program} {w : World} {A : Around} {E : Value → Shared → Prop} {s : Shared}
theorem call_enumT {l : Addr} {items : Array Value} {Q : Value → Shared → Prop} (hL : s.heap.IsTuple l items)
    (h : ∀ h', IsEnum h' (s.heap.objs.size + 1) s.heap.objs.size 0 .none → h'.IsTupleIter s.heap.objs.size l 0 → h'.objs.size = s.heap.objs.size + 2 →
      (∀ b o, s.heap.get? b = some o → h'.get? b = some o) → Q (.ref (s.heap.objs.size + 1)) { s with heap := h' }) : wpAny (model prog w) A (call (.type "enumerate") [.ref l]) Q E s := by
  obtain ⟨⟨c, dct, dt, sl⟩, hl, hc, n, hd⟩ := hL
  replace hc : c = .type "tuple" := hc
  replace hd : dt = .seq items n := hd
  subst hc hd
  refine callType_new F.called_enumerate (by decide) (F.typeCall_enumerate_1 _) (F.newCall_enumerate_1 _) (fun obj => F.args_object_init_2 obj _) F.entry_enumerate_new (meets_enumT l items n dct sl) ⟨hl, ?_⟩
  have hz : (s.heap.push { cls := .type "tuple_iterator", data := .fields #[.ref l, .int 0 0] }).objs.size = s.heap.objs.size + 1 := Heap.size_push ..
  show _ ∧ _
  rw [hz]
  have he : IsEnum ((s.heap.push { cls := .type "tuple_iterator", data := .fields #[.ref l, .int 0 0] }).push { cls := .type "enumerate", data := .fields #[.none, .bool false, .ref s.heap.objs.size, rawInt 0, .none, .none] }) (s.heap.objs.size + 1) s.heap.objs.size 0 .none := by
    have := Heap.get?_push_size (s.heap.push { cls := .type "tuple_iterator", data := .fields #[.ref l, .int 0 0] }) (o := { cls := .type "enumerate", data := .fields #[.none, .bool false, .ref s.heap.objs.size, rawInt 0, .none, .none] }) rfl
    rw [hz] at this; exact this
  exact ⟨⟨_, he, rfl⟩, h _ he ⟨_, Heap.get?_push_of_some _ (Heap.get?_push_size _ rfl), rfl, rfl⟩ (by rw [Heap.size_push, hz]) fun b o x => Heap.get?_push_of_some _ (Heap.get?_push_of_some _ x)⟩
theorem next_endT {e it l : Addr} {i : Nat} {items : Array Value} {old : Value} {Q : Option Value → Shared → Prop} (hh : A.handled = none) (he : IsEnum s.heap e it i old) (hit : s.heap.IsTupleIter it l i) (hl : s.heap.IsTuple l items) (hx : items[i]? = none)
    (hQ : ∀ h', Heap.ExtBut it s.heap h' → Q none { s with heap := h' }) : wpAny (model prog w) A (pyNext (.ref e)) Q E s := by
  have hT : s.TypeIs (.ref e) "enumerate" := ⟨_, he, rfl⟩; unfold pyNext
  refine wpAny_bind (wpAny_attempt (wpAny_callSpecial?_slot (name := Str.ofString "__next__") hT F.slot_enumerate_next (wpAny_call_entry F.slot_enumerate_next hT F.entry_enumerate_next ?_ (F.args_enumerate_next_1 _))))
  show wpAny _ _ (field (.ref e) 2 >>= _) _ _ _; refine wpAny_bind (wpAny_field he rfl (x := .ref it) rfl ?_); refine wpAny_bind (wpAny_nextOf_tuple_end hh hit hl hx fun h' x he' hx' => ?_)
  obtain ⟨o, ho, hc⟩ := hx'; refine wpAny_bind (wpAny_isInstance (T := "StopIteration") (b := true) ⟨o, ho, hc⟩ isSubtype_stop ?_); exact wpAny_pure (hQ _ he')
end
end EnT
namespace He
open PySem PySem.Spec PyProof.Rows L2
/-- the tuple at a at each turn, each item in a new pair -/
def Iten (K : PySem.W.Frag) (a : Addr) : It :=
  ⟨fun i H => ∃ (xs : List V) (x : V), SqT K H a xs ∧ xs[i]? = some x, fun i H v H' => ∃ T x, v = .ref T ∧ H T = none ∧ H' = upd H T (.tup [.int (i : Nat), x]) ∧ ∀ xs, SqT K H a xs → xs[i]? = some x, fun i H => ∃ xs : List V, SqT K H a xs ∧ xs.length ≤ i⟩
theorem turn_enumT {P : Program} {w : World} {K : PySem.W.Frag} {elts : List Expr} {kk : Nat} {tpos : Pos} (a e it : Addr) :
    Turn P w K (.Tuple elts kk tpos) (Iten K a) [e, it] e (fun i h => (∃ old, IsEnum h e it ((i : Nat) : Int) old) ∧ h.IsTupleIter it a i ∧ e ≠ it) where
  mem := by simp
  obj := fun i h st b hb => by
    obtain ⟨⟨old, he⟩, ⟨o, ho, hc, hd⟩, _⟩ := st
    rcases (show b = e ∨ b = it by simpa using hb) with z | z
    · rw [z]; exact ⟨_, he, fun v q => nomatch q⟩
    · rw [z]; exact ⟨o, ho, fun v q => by rw [hd] at q; cases q⟩
  keep := fun i h h' st k => let ⟨⟨old, he⟩, hi, hne⟩ := st; ⟨⟨old, k e (by simp) _ he⟩, (let ⟨o, ho, hc, hd⟩ := hi; ⟨o, k it (by simp) o ho, hc, hd⟩), hne⟩
  item := by
    intro X hP hw hK hc i pins s σ H E I hf st hg
    subst hP hw hK
    obtain ⟨⟨old, he⟩, hit, hne⟩ := st
    obtain ⟨xs, x, hq, hx⟩ := hg
    obtain ⟨its, rv, p, hz⟩ := I.tuple hq
    obtain ⟨u, hu, ru⟩ := rv.get hx
    have hel : e < s.heap.objs.size := Heap.lt_size he
    have hil : it < s.heap.objs.size := by obtain ⟨_, q, _⟩ := hit; exact Heap.lt_size q
    have hp : s.heap.IsTuple a its.toArray := p
    have hai : a ≠ it := fun z => by
      obtain ⟨o, ho, h1, _⟩ := id hp
      obtain ⟨o2, ho2, h2, _⟩ := id hit
      rw [z, ho2] at ho
      rw [Option.some.inj ho, h1] at h2
      exact absurd h2 (by decide)
    have hea : e ≠ a := fun z => by
      obtain ⟨o, ho, h1, _⟩ := id hp
      rw [← z] at ho
      have he2 : s.heap.get? e = some _ := he
      rw [he2] at ho
      rw [← Option.some.inj ho] at h1
      have h3 : Value.type "enumerate" = Value.type "tuple" := h1
      exact absurd h3 (by decide)
    refine wpAny_pyNext_enum_itemD (Draws.tuple (A := X.A.in1) (I.ok.hd hc) it a hai its.toArray) he ⟨hit, hp⟩ (by have := (List.getElem?_eq_some_iff.mp hu).1; simpa using this) hne (by simp [hne, hea]) fun y h' tk hy ho hst' hT hsz hk => ?_
    have hyu : y = u := by
      have : its.toArray[i]? = some u := by simpa using hu
      rw [this] at hy
      exact (Option.some.inj hy).symm
    subst hyu
    refine ⟨_, rfl, wpAny_letOwnedTupleGo_enum (s := { s with heap := h', toks := tk + 1 }) ho fun h'' he' sb => ?_⟩
    have hT2 : h''.get? s.heap.objs.size = some { cls := .type "tuple", data := .seq #[.int i tk, y] } := (sb.2 _ (Nat.ne_of_gt hel)).trans hT
    have new : ObjOk X.prog X.w (upd H s.heap.objs.size (.tup [.int (i : Nat), x])) h'' s.heap.objs.size (.tup [.int (i : Nat), x]) := ⟨by show 2 ≤ sizeLine; decide, [.int i tk, y], .cons ⟨_, rfl⟩ (.cons ru .nil), ⟨_, hT2, rfl, _, rfl⟩⟩
    have I1 : Inv X pins σ (upd H s.heap.objs.size (.tup [.int (i : Nat), x])) { s with heap := h'', toks := tk + 1 } := I.turnedNew (ch := [e, it]) (fun b ob hb q => (sb.2 b (fun z => hb (by simp [z]))).trans (hk b ob (fun z => hb (by simp [z])) (fun z => hb (by simp [z])) q)) hf (Nat.le_refl _) new
    refine ⟨.ref s.heap.objs.size, _, I1, rfl, ⟨_, x, rfl, I.hok.fresh (Nat.le_refl _), rfl, fun ys hy => ?_⟩, ⟨⟨y, ?_⟩, ?_, hne⟩, fun b hb => ?_⟩
    · rw [I.tuple_inj hy hq]; exact hx
    · rw [show ((i + 1 : Nat) : Int) = (i : Int) + 1 by omega]; exact he'
    · obtain ⟨o, ho, r⟩ := hst'.1
      exact ⟨o, (sb.2 it (Ne.symm hne)).trans ho, r⟩
    · have hb' : b < s.heap.objs.size := by
        rcases (show b = e ∨ b = it by simpa using hb) with z | z
        · rw [z]; exact hel
        · rw [z]; exact hil
      rw [upd_ne (Nat.ne_of_lt hb')]; exact (hf b hb).1
  done := by
    intro X hP hw hK hc i pins s σ H E I hf st hg
    subst hP hw hK
    obtain ⟨⟨old, he⟩, hit, hne⟩ := st
    obtain ⟨xs, hq, hx⟩ := hg
    obtain ⟨its, rv, p, hz⟩ := I.tuple hq
    obtain ⟨f0, f1, f2, f3, f4, f5⟩ := hf it (by simp)
    have hl := rv.length
    exact EnT.next_endT (I.ok.hd hc) he hit p (by simp; omega) fun h' eb => ⟨rfl, I.turned (t' := s.toks) (fun b o hb q => eb b o hb q) f0 f1 f3 f4 f5⟩
  self := fun A i s Q E st h => let ⟨⟨_, he⟩, _⟩ := st; wpAny_pyIter_enum he h
end He

namespace He
open PySem PySem.Spec PyProof.Rows L2
section
variable {P : Program} {w : World} {K : PySem.W.Frag} {mg : Str → Option Value} {base : Heap}
def EnQ (K : PySem.W.Frag) (H : Hp) (a : Addr) (xs : List V) (J : It) : Prop := (J = Ite K a ∧ SqL K H a xs) ∨ (J = Iten K a ∧ SqT K H a xs)
def iEnumQ (K : PySem.W.Frag) (ta : TA) : TI := fun σ H R => ta σ H fun vs H1 => ∃ a xs J, vs = [.ref a] ∧ EnQ K H1 a xs J ∧ R J H1
theorem pi_enumQ {X : Cx} {e : Expr} {ta : TA} {p pos tpos : Pos} {elts : List Expr} {kk : Nat} (hg : Gl X "enumerate") (hm : X.mg "enumerate" = none) (ha : PA X [e] ta) (hs : starEach [e] X.env = [(false, eval e X.env)] := by rfl) :
    PI X (.Tuple elts kk tpos) (.Call (.Name "enumerate" p) [e] [] pos) (iEnumQ X.K ta) := by
  refine ⟨fun pins s σ H R I h => ?_⟩
  refine Call_ (ld_blt I hg hm boot_enumerate (PyProof.Rows.callWith_type1 (thn (ha.run pos pins s σ H _ I h) fun us s1 ⟨vs, H1, I1, r1, q1⟩ => ?_) hs rfl))
  obtain ⟨a, xs, J, ex, hq, q⟩ := q1
  subst ex
  cases r1 with
  | cons r rr =>
    cases rr
    cases r
    have fin : ∀ b ∈ [s1.heap.objs.size + 1, s1.heap.objs.size], FpOk X pins H1 b := fun b hb => by
      have hle : s1.heap.objs.size ≤ b := by
        rcases (show b = s1.heap.objs.size + 1 ∨ b = s1.heap.objs.size by simpa using hb) with z | z
        · rw [z]; exact Nat.le_add_right _ _
        · rw [z]; exact Nat.le_refl _
      exact I1.fpOk hle (I1.hok.fresh hle)
    rcases hq with ⟨rfl, hq⟩ | ⟨rfl, hq⟩
    · obtain ⟨its, rv, p', hz⟩ := I1.list hq
      refine call_enumerate_list p'.isList fun h' he hit hsz hk => wpAny_pyIter_enum he ?_
      have I2 : Inv X pins σ H1 { s1 with heap := h' } := I1.kept (t' := s1.toks) hk
      exact ⟨s1.heap.objs.size + 1, [s1.heap.objs.size + 1, s1.heap.objs.size], _, _, H1, rfl, I2, turn_enum a (s1.heap.objs.size + 1) s1.heap.objs.size, ⟨⟨.none, he⟩, hit, Nat.succ_ne_self _⟩, fin, q⟩
    · obtain ⟨its, rv, p', hz⟩ := I1.tuple hq
      refine EnT.call_enumT p' fun h' he hit hsz hk => wpAny_pyIter_enum he ?_
      have I2 : Inv X pins σ H1 { s1 with heap := h' } := I1.kept (t' := s1.toks) hk
      exact ⟨s1.heap.objs.size + 1, [s1.heap.objs.size + 1, s1.heap.objs.size], _, _, H1, rfl, I2, turn_enumT a (s1.heap.objs.size + 1) s1.heap.objs.size, ⟨⟨.none, he⟩, hit, Nat.succ_ne_self _⟩, fin, q⟩
theorem walk_enumT {K : PySem.W.Frag} {a : Addr} {xs : List V} : Walk (Iten K a) xs.length (fun H => SqT K H a xs) (YPair (fun i => some (.int (i : Nat))) (fun i => xs[i]?)) := by
  refine ⟨fun i _ hi q => ⟨xs, xs[i], q, by simp [hi]⟩, fun _ q => ⟨xs, q, Nat.le_refl _⟩, fun i H v H' _ q y => ?_⟩
  obtain ⟨T, x, h1, h2, h3, h4⟩ := y
  exact ⟨T, .int (i : Nat), x, h1, h2, h3, rfl, h4 xs q⟩
theorem fg_enumQ {H1 : Hp} {a : Addr} {xs : List V} {J : It} {g : TG} {tb : TS} {D : Ends} {σ : L2.St} (hJ : EnQ K H1 a xs J) (Pv : Nat → L2.St → Hp → Prop) (h0 : Pv 0 σ H1) (hG : ∀ i σ H, Pv i σ H → Same H1 H)
    (hs : ∀ (i : Nat) (x : V) (T : Addr) σ H, xs[i]? = some x → Pv i σ H → H T = none → g (.ref T) σ (upd H T (.tup [.int (i : Nat), x])) fun σ2 H2 => tb { D with nx := Pv (i + 1), ct := Pv (i + 1), bk := D.nx } σ2 H2) (hd : ∀ σ H, Pv xs.length σ H → D.nx σ H) : ForGoes J g tb D σ H1 := by
  rcases hJ with ⟨rfl, hq⟩ | ⟨rfl, hq⟩
  · refine for_it (walk_enum (K := K) (a := a) (xs := xs)) Pv h0 (fun i σ H _ p => (hG i σ H p).seq hq) (fun i x σ H H' hi hp y => ?_) hd
    obtain ⟨T, x1, y1, rfl, hn, rfl, h1, h2⟩ := y
    cases Option.some.inj h1
    exact hs i y1 T σ H h2 hp hn
  · refine for_it (walk_enumT (K := K) (a := a) (xs := xs)) Pv h0 (fun i σ H _ p => Same.seqT (hG i σ H p) hq) (fun i x σ H H' hi hp y => ?_) hd
    obtain ⟨T, x1, y1, rfl, hn, rfl, h1, h2⟩ := y
    cases Option.some.inj h1
    exact hs i y1 T σ H h2 hp hn
end
end He

namespace He
open PySem PySem.Spec PyProof.Rows L2
section
variable {P : Program} {w : World} {K : PySem.W.Frag} {mg : Str → Option Value} {base : Heap}
def rEqNil (K : PySem.W.Frag) : R2 := fun x y H Q => ∃ l e xs, x = .ref l ∧ y = .ref e ∧ SqL K H l xs ∧ SqL K H e [] ∧ Q (.bl xs.isEmpty) H
theorem op_eqNil {X : Cx} (hu : X.A.units + 64 < cLine) : OpR X (compareOp .Eq) (rEqNil X.K) := by
  intro pins s σ H x y v u Q I rx ry h
  obtain ⟨l, e, xs, rfl, rfl, hl, he, q⟩ := h
  cases rx
  cases ry
  obtain ⟨its, r1, p1, _⟩ := I.list hl
  obtain ⟨its2, r2, p2, _⟩ := I.list he
  cases r2
  have hu' : X.A.units < cLine := by omega
  cases r1 with
  | nil => exact SeqAt.RcAt.lists (e := fun _ => true) p1.isList p2.isList rfl hu' (fun j h1 => absurd h1 (by simp)) X.prog X.w X.xe _ ⟨.bl true, H, I, rfl, q⟩
  | cons a b => exact SeqAt.RcAt.lists_lengths p1.isList p2.isList (by simp) hu' X.prog X.w X.xe _ ⟨.bl false, H, I, rfl, q⟩
/-- a comprehension that keeps what passes its test -/
theorem lg_filter {J : It} {n : Nat} {G : Hp → Prop} {Y : Nat → Hp → V → Hp → Prop} (wk : Walk J n G Y) {g : TG} {tt : TT} {te : TE} {vs : List Nat} {σ : L2.St} {H1 : Hp} {D : Addr} {Qd : Hp → Prop} (t : Nat → Bool) (ye : Nat → V) (hn : n < sizeLine) (nD : H1 D = none) (hG : ∀ H, Same H1 H → G H)
    (turn : ∀ (i : Nat) (x : V) (H H' : Hp) (Aq : V → Hp → Prop) (Bq : Hp → Prop), i < n → Same H1 H → H D ≠ none → Y i H x H' → (∀ H4, t i = true → Same H H4 → Aq (ye i) H4) → (∀ H3, t i = false → Same H H3 → Bq H3) →
      g x (wipe σ vs) H' fun σ2 H2 => wipe σ2 vs = wipe σ vs ∧ tt σ2 H2 fun b H3 => if b = true then te σ2 H3 Aq else Bq H3)
    (done : ∀ H, Same H1 H → H D = some (.lst (((List.range n).filter t).map ye)) → Qd H) : LcGoes J g tt te vs σ H1 D Qd := by
  have hl : ∀ i, (((List.range i).filter t).map ye).length ≤ i := fun i => by
    rw [List.length_map]
    exact Nat.le_trans (List.length_filter_le _ _) (by rw [List.length_range]; exact Nat.le_refl _)
  refine lc_it wk (fun i H => Same H1 H ∧ H D = some (.lst (((List.range i).filter t).map ye))) ⟨same_upd nD, upd_same⟩ (fun i H _ h => hG H h.1) (fun i x H H' hi ⟨s1, eD⟩ hY => ?_) (fun H ⟨s1, eD⟩ => done H s1 eD)
  refine turn i x H H' _ _ hi s1 (by rw [eD]; exact fun z => nomatch z) hY (fun H4 ht s4 => ?_) (fun H3 ht s3 => ?_)
  · refine ⟨_, s4 _ _ eD, by have := hl i; omega, fun b o e => by rw [upd_ne (ne_of_none e nD)]; exact s4 _ _ (s1 _ _ e), ?_⟩
    rw [upd_same, List.range_succ, List.filter_append, List.map_append]
    simp [ht]
  · refine ⟨s1.trans s3, ?_⟩
    rw [s3 _ _ eD, List.range_succ, List.filter_append, List.map_append]
    simp [ht]
end
end He

namespace He
open PySem PySem.Spec PyProof.Rows L2
section
variable {P : Program} {w : World} {K : PySem.W.Frag} {mg : Str → Option Value} {base : Heap}
theorem range_pick {α : Type} (g : List α) (d : α) : (List.range g.length).map (fun i => g.getD i d) = g := by
  refine List.ext_getElem? fun i => ?_
  rw [List.getElem?_map]
  by_cases h : i < g.length
  · rw [List.getElem?_range h, List.getElem?_eq_getElem h]
    show some (g.getD i d) = _
    rw [List.getD_eq_getElem?_getD, List.getElem?_eq_getElem h]
    rfl
  · rw [List.getElem?_eq_none (by rw [List.length_range]; omega), List.getElem?_eq_none (by omega)]
    rfl
theorem range_filter {α β : Type} (g : List α) (d : α) (t : α → Bool) (f : α → β) : ((List.range g.length).filter fun i => t (g.getD i d)).map (fun i => f (g.getD i d)) = (g.filter t).map f := by
  conv => rhs; rw [← range_pick g d]
  rw [List.filter_map, List.map_map]
  rfl
/-- a comprehension over items, kept by a test, the values plain -/
theorem lg_keep {α : Type} {H1 : Hp} {a D : Addr} {J : It} {gt : TG} {tt : TT} {te : TE} {vs : List Nat} {σ : L2.St} {Qd : Hp → Prop} (g : List α) (e f : α → V) (t : α → Bool) (hJ : SeqIt K H1 a (g.map e) J) (hn : g.length < sizeLine) (nD : H1 D = none)
    (turn : ∀ (x : α) (H : Hp) (Aq : V → Hp → Prop) (Bq : Hp → Prop), x ∈ g → Same H1 H → H D ≠ none → (∀ H4, t x = true → Same H H4 → Aq (f x) H4) → (∀ H3, t x = false → Same H H3 → Bq H3) →
      gt (e x) (wipe σ vs) H fun σ2 H2 => wipe σ2 vs = wipe σ vs ∧ tt σ2 H2 fun b H3 => if b = true then te σ2 H3 Aq else Bq H3)
    (done : ∀ H, Same H1 H → H D = some (.lst ((g.filter t).map f)) → Qd H) : LcGoes J gt tt te vs σ H1 D Qd := by
  by_cases h0 : g = []
  · subst h0
    rcases hJ with ⟨rfl, hq⟩ | ⟨rfl, hq⟩
    · refine lg_list (xs := []) (fun i H => Same H1 H ∧ H D = some (.lst [])) ⟨same_upd nD, upd_same⟩ (fun i H _ h => h.1.seq hq) (fun i x H h => nomatch h) (fun H h => done H h.1 h.2)
    · refine lg_tup (xs := []) (fun i H => Same H1 H ∧ H D = some (.lst [])) ⟨same_upd nD, upd_same⟩ (fun i H _ h => Same.seqT h.1 hq) (fun i x H h => nomatch h) (fun H h => done H h.1 h.2)
  · obtain ⟨d, hd⟩ := List.exists_mem_of_ne_nil _ h0
    have at_ : ∀ {i : Nat} {v : V}, (g.map e)[i]? = some v → i < g.length ∧ v = e (g.getD i d) ∧ g.getD i d ∈ g := fun {i v} h => by
      rw [List.getElem?_map] at h
      obtain ⟨x, hx, rfl⟩ := Option.map_eq_some_iff.mp h
      have e2 : g.getD i d = x := by rw [List.getD_eq_getElem?_getD, hx]; rfl
      rw [e2]
      exact ⟨(List.getElem?_eq_some_iff.mp hx).1, rfl, List.mem_of_getElem? hx⟩
    have fin : ∀ H, Same H1 H → H D = some (.lst (((List.range (g.map e).length).filter fun i => t (g.getD i d)).map fun i => f (g.getD i d))) → Qd H := fun H s h => by
      rw [List.length_map, range_filter] at h
      exact done H s h
    rcases hJ with ⟨rfl, hq⟩ | ⟨rfl, hq⟩
    · refine lg_filter walk_list (fun i => t (g.getD i d)) (fun i => f (g.getD i d)) (by rw [List.length_map]; exact hn) nD (fun H s => s.seq hq) (fun i x H H' Aq Bq _ s hD hY hA hB => ?_) fin
      obtain ⟨rfl, hx⟩ := hY
      obtain ⟨_, rfl, hm⟩ := at_ hx
      exact turn _ H' Aq Bq hm s hD hA hB
    · refine lg_filter walk_tup (fun i => t (g.getD i d)) (fun i => f (g.getD i d)) (by rw [List.length_map]; exact hn) nD (fun H s => Same.seqT s hq) (fun i x H H' Aq Bq _ s hD hY hA hB => ?_) fin
      obtain ⟨rfl, hx⟩ := hY
      obtain ⟨_, rfl, hm⟩ := at_ hx
      exact turn _ H' Aq Bq hm s hD hA hB
end
end He

namespace He
open PySem PySem.Spec PyProof.Rows L2
/-! ### sorted(d.items()), the keys texts, the values objects -/
section
variable {P : Program} {w : World} {A : Around} {E : Value → Shared → Prop} {s : Shared}
theorem eq_itself {a : Addr} {Q : Bool → Shared → Prop} (h : Q true s) : wpAny (model P w) A (eqBool (.ref a) (.ref a)) Q E s := by
  unfold eqBool
  refine wpAny_holding ?_
  refine wpAny_ite_split (fun _ => ?_) fun n => absurd (beq_self_eq_true _) n
  exact wpAny_bind (wpAny_rule (wpAny_pure h))
/-- a pair of a text and an object -/
def TxPair (h : Heap) (v : Value) (y : Str) (b : Addr) : Prop := ∃ (a : Addr) (t : Tok), v = .ref a ∧ IsTup h a #[.str y t, .ref b]
def headTx (h : Heap) (v : Value) : Str := DT.txOf (DT.seqAt0 h (DT.refOf (some v)))
theorem TxPair.tx {h : Heap} {v : Value} {y : Str} {b : Addr} (x : TxPair h v y b) : headTx h v = y := by
  obtain ⟨a, t, rfl, h1⟩ := x
  show DT.txOf (DT.seqAt0 h a) = y
  rw [DT.seqAt0_of h1]
  rfl
theorem tx_firsts {h : Heap} : ∀ vs : List Value, (∀ v ∈ vs, ∃ y b, TxPair h v y b) → ∃ fs : List Value, PySem.W.KatTups h vs fs ∧ fs.length = vs.length ∧ ∀ f ∈ fs, ∃ y t, f = Value.str y t
  | [], _ => ⟨[], trivial, rfl, fun f hf => nomatch hf⟩
  | v :: vs, x => by
    obtain ⟨fs, k, hl, hi⟩ := tx_firsts vs fun u hu => x u (List.mem_cons_of_mem _ hu)
    obtain ⟨y, b, a, t, rfl, o, ho, hc, n, hd⟩ := x v List.mem_cons_self
    refine ⟨.str y t :: fs, ⟨⟨a, o, _, n, rfl, ho, hc, hd, rfl⟩, k⟩, congrArg (· + 1) hl, fun f hf => ?_⟩
    rcases List.mem_cons.mp hf with rfl | hf
    · exact ⟨y, t, rfl⟩
    · exact hi f hf
theorem tx_kind {vs : List Value} {ρ : Str → Int} (h2 : 2 ≤ vs.length) (x : ∀ v ∈ vs, ∃ y b, TxPair s.heap v y b) (one : ∀ v ∈ vs, ∀ u ∈ vs, headTx s.heap v = headTx s.heap u → v = u)
    (hρ : ∀ v ∈ vs, ∀ u ∈ vs, decide ((headTx s.heap v).cps.toList < (headTx s.heap u).cps.toList) = decide (ρ (headTx s.heap v) < ρ (headTx s.heap u))) (Q : SortKind → Shared → Prop)
    (h : ∀ κ, TS.Cmp P w A s κ (pairsOf vs) (fun v => ρ (headTx s.heap v)) → Q κ s) : wpAny (model P w) A (keyKind' vs.toArray) Q E s := by
  obtain ⟨fs, k, hl, hi⟩ := tx_firsts vs x
  refine PySem.W.kat_kind (T := Value.type "str") k (by omega) (fun f hf => ?_) rfl (h _ ?_)
  · obtain ⟨y, t, rfl⟩ := hi f hf
    exact PySem.W.Looks.now
  · intro p q hp hq Q' E' hQ
    rw [pairsOf_toList] at hp hq
    have mp := (mem_zip_self hp).2
    have mq := (mem_zip_self hq).2
    obtain ⟨y, b, py⟩ := x _ mp
    obtain ⟨z, c, pz⟩ := x _ mq
    have hr := hρ _ mp _ mq
    have hQ2 : Q' (decide (ρ (headTx s.heap p.1) < ρ (headTx s.heap q.1))) s := hQ
    rw [← hr, py.tx, pz.tx] at hQ2
    have same : y = z → b = c := fun e => by
      have e2 := one _ mp _ mq (by rw [py.tx, pz.tx, e])
      obtain ⟨a1, t1, e3, o1, g1, _, n1, d1⟩ := py
      obtain ⟨a2, t2, e4, o2, g2, _, n2, d2⟩ := pz
      rw [e3, e4] at e2
      cases e2
      rw [g1] at g2
      cases g2
      rw [d1] at d2
      cases d2
      rfl
    obtain ⟨a1, t1, e3, o1, g1, _, n1, d1⟩ := py
    obtain ⟨a2, t2, e4, o2, g2, _, n2, d2⟩ := pz
    rw [e3, e4]
    refine PySem.W.kat_lt g1 d1 g2 d2 ?_
    show PySem.W.KatLex P w A _ false Q' [(Value.str y t1, Value.str z t2), (Value.ref b, Value.ref c)] 0 s
    refine PySem.W.kat_cons (PySem.wpAny_eqBool_str ?_)
    by_cases e : y = z
    · obtain rfl := same e
      rw [decide_eq_true e]
      have irr : decide (y.cps.toList < z.cps.toList) = false := by
        rw [e]
        exact decide_eq_false (List.lt_irrefl _)
      rw [irr] at hQ2
      exact PySem.W.kat_yes (PySem.W.kat_cons (eq_itself (PySem.W.kat_yes (PySem.W.kat_nil hQ2))))
    · rw [decide_eq_false e]
      exact PySem.W.kat_no (PyProof.Rows.oneLt_any_str hQ2)
end

/-- how many of l stand ahead -/
def aheadS (y x : Str) : Bool := decide (x.cps.toList < y.cps.toList)
def rankS (l : List Str) (x : Str) : Int := ((l.filter (aheadS x)).length : Nat)
theorem rank_lt {l : List Str} {x y : Str} (hx : x ∈ l) : decide (x.cps.toList < y.cps.toList) = decide (rankS l x < rankS l y) := by
  have mono : ∀ {x y : Str}, ¬ (x.cps.toList < y.cps.toList) → rankS l y ≤ rankS l x := fun {x y} h => by
    unfold rankS
    refine Int.ofNat_le.mpr ?_
    rw [← List.countP_eq_length_filter, ← List.countP_eq_length_filter]
    refine List.countP_mono_left fun z _ hz => ?_
    have hz := of_decide_eq_true hz
    refine decide_eq_true (Decidable.byContradiction fun n => h ?_)
    exact List.lt_of_le_of_lt (List.not_lt.mp n) hz
  by_cases h : x.cps.toList < y.cps.toList
  · rw [decide_eq_true h]
    refine (decide_eq_true ?_).symm
    unfold rankS
    refine Int.ofNat_lt.mpr ?_
    have sub : ∀ m : List Str, (m.filter (aheadS x)).length ≤ (m.filter (aheadS y)).length ∧ (x ∈ m → (m.filter (aheadS x)).length < (m.filter (aheadS y)).length) := by
      intro m
      induction m with
      | nil => exact ⟨Nat.le_refl _, fun z => nomatch z⟩
      | cons z m ih =>
        obtain ⟨i1, i2⟩ := ih
        by_cases q : z.cps.toList < x.cps.toList
        · rw [List.filter_cons_of_pos (show aheadS x z = true from decide_eq_true q), List.filter_cons_of_pos (show aheadS y z = true from decide_eq_true (List.lt_trans q h)), List.length_cons, List.length_cons]
          refine ⟨by omega, fun hm => ?_⟩
          rcases List.mem_cons.mp hm with e | hm
          · rw [e] at q
            exact absurd q (List.lt_irrefl _)
          · have := i2 hm
            omega
        · rw [List.filter_cons_of_neg (show ¬ aheadS x z = true from fun k => q (of_decide_eq_true k))]
          by_cases q2 : z.cps.toList < y.cps.toList
          · rw [List.filter_cons_of_pos (show aheadS y z = true from decide_eq_true q2), List.length_cons]
            exact ⟨by omega, fun _ => by omega⟩
          · rw [List.filter_cons_of_neg (show ¬ aheadS y z = true from fun k => q2 (of_decide_eq_true k))]
            refine ⟨i1, fun hm => ?_⟩
            rcases List.mem_cons.mp hm with e | hm
            · rw [← e] at q2
              exact absurd h q2
            · exact i2 hm
    exact (sub l).2 hx
  · rw [decide_eq_false h]
    refine (decide_eq_false ?_).symm
    have := mono h
    omega
section
variable {P : Program} {w : World}
theorem pairs_get {knd : PySem.KeyKind P w L2.Key} : ∀ {es : List DictEntry} {vs : List (L2.Key × Value)} {j : Nat} {e : DictEntry}, Pairs knd es vs → es[j]? = some e → ∃ kv, vs[j]? = some kv ∧ knd.is kv.1 e.key = true ∧ e.val = kv.2
  | _, _, j, e, .nil, h => by simp at h
  | _, _, 0, e, .cons (kv := kv) a b _, h => by
    cases Option.some.inj h
    exact ⟨kv, rfl, a, b⟩
  | _, _, j + 1, e, .cons _ _ t, h => pairs_get (j := j) t h
theorem pairs_len {knd : PySem.KeyKind P w L2.Key} : ∀ {es : List DictEntry} {vs : List (L2.Key × Value)}, Pairs knd es vs → es.length = vs.length
  | _, _, .nil => rfl
  | _, _, .cons _ _ t => congrArg (· + 1) (pairs_len t)
end
section
variable {X : Cx}
/-- d.items() of a dict with keys that are ints or texts: the view -/
def rItemsK : V → List V → Hp → VK → Prop := fun x xs H Q => ∃ (a : Addr) (kvs : List (L2.Key × V)), x = .ref a ∧ xs = [] ∧ H a = some (.dK kvs) ∧ ∀ p, H p = none → Q (.ref p) (upd H p (DX.itemsO p a))
theorem mt_itemsK : MtR X "dict.items" rItemsK := by
  intro pins s σ H x xs v us Q I rx rxs h
  obtain ⟨d, kvs, rfl, rfl, hd, q⟩ := h
  cases rx
  cases rxs
  obtain ⟨_, nsys, vs, _, o, es, ep, ho, hx, hdat, _⟩ := dk_of I.hok hd
  refine DT.callItems (es := es) (ep := ep) nsys ⟨o, ho, hx, hdat⟩ ?_
  exact ⟨.ref s.heap.objs.size, _, I.laid (t' := s.toks) (fun b u e => Heap.get?_push_of_some _ e) (Nat.le_refl _) (DX.itemsO_ok (Heap.get?_push_size _ rfl)), rfl, q _ (I.hok.fresh (Nat.le_refl _))⟩
abbrev entS (e : Str × Addr) : L2.Key × V := (Sum.inr e.1, V.ref e.2)
/-- sorted(d.items()): pairs, by their texts -/
def rSortItK : List V → Hp → VK → Prop := fun vs H Q => ∃ (p a : Addr) (ks : List (Str × Addr)), vs = [.ref p] ∧ H p = some (DX.itemsO p a) ∧ H a = some (.dK (ks.map entS)) ∧ ks.length < 64 ∧
  ∀ (H' : Hp) (l : Addr) (ps : List (Addr × Str × Addr)), (∀ b o, H b = some o → H' b = some o) → (ps.map (·.2)).Perm ks → (ps.map (·.2.1)).Pairwise (fun x y => ¬ (y.cps.toList < x.cps.toList)) → (ks.map (·.1)).Nodup → H l = none → H' l = some (.lst (ps.map fun z => V.ref z.1)) →
    (∀ z ∈ ps, H' z.1 = some (.tup [.str z.2.1, .ref z.2.2])) → Q (.ref l) H'
theorem kv_get {κ : Type} : ∀ {l : List (κ × V)} {m : List (κ × Value)} {j : Nat} {y : κ × Value}, KV l m → m[j]? = some y → ∃ x, l[j]? = some x ∧ x.1 = y.1 ∧ RelV x.2 y.2
  | _, _, j, y, Paired.nil, h => by simp at h
  | _, _, 0, y, Paired.cons (a := x) f _, h => by
    cases Option.some.inj h
    exact ⟨x, rfl, f⟩
  | _, _, j + 1, y, Paired.cons _ t, h => kv_get (j := j) t h
theorem kv_keys {κ : Type} : ∀ {l : List (κ × V)} {m : List (κ × Value)}, KV l m → l.map (·.1) = m.map (·.1)
  | _, _, Paired.nil => rfl
  | _, _, Paired.cons f t => by rw [List.map_cons, List.map_cons, f.1, kv_keys t]
theorem cr_sortedItemsK (hc : X.calm = true) : CallR X (.builtin "sorted") rSortItK := by
  intro pins s σ H xs us Q I r h
  obtain ⟨p, a, ks, rfl, hp, ha, few, q⟩ := h
  obtain rfl := Vals.ref1 r
  have view : s.heap.IsItemsView p a := (show ObjOk X.prog X.w H s.heap p (DX.itemsO p a) from I.hok p _ hp).1
  obtain ⟨_, nsys, vs, rel, o, es, ep, ho, hx, hdat, _, hps, hnd⟩ := dk_of I.hok ha
  have n1 : ks.length = vs.length := by
    have := Paired.length rel
    rw [List.length_map] at this
    exact this
  have n2 : es.size = vs.length := by rw [← Array.length_toList]; exact pairs_len hps
  have nk : (ks.map (·.1)).Nodup := by
    have e := kv_keys rel
    rw [List.map_map] at e
    rw [← e] at hnd
    have e2 : ((fun x : L2.Key × V => x.1) ∘ entS) = (fun x : Str => (Sum.inr x : L2.Key)) ∘ (·.1) := rfl
    rw [e2, ← List.map_map] at hnd
    exact (List.pairwise_map.mp hnd).imp fun {x y} h e => h (by rw [e])
  refine DT.sortedI (es := es) (ep := ep) (I.ok.hd hc) view ⟨o, ho, hx, hdat⟩ (by rw [sizeLine_eq]; omega) fun h1 tk as old bigger cnt mk => ?_
  have na : as.length = ks.length := by omega
  have ndA : as.Nodup := List.Pairwise.imp (fun z => Nat.ne_of_lt z) mk.rise
  -- what was laid for each entry
  have laid : ∀ (j : Nat) (b : Addr), as[j]? = some b → ∃ (e : Str × Addr) (t : Tok), ks[j]? = some e ∧ h1.get? b = some { cls := .type "tuple", data := .seq #[Value.str e.1 t, Value.ref e.2] } := by
    intro j b hj
    obtain ⟨en, g1, g2⟩ := mk.pairs j b hj
    obtain ⟨kv, g3, g4, g5⟩ := pairs_get (j := j) hps (by rw [Array.getElem?_toList]; exact g1)
    obtain ⟨x, g6, g7, g8⟩ := kv_get rel g3
    rw [List.getElem?_map] at g6
    cases g9 : ks[j]? with
    | none => rw [g9] at g6; cases g6
    | some e =>
      rw [g9] at g6
      cases Option.some.inj g6
      rw [← g7] at g4
      rcases keyIs_shape (show keyIs (Sum.inr e.1) en.key = true from g4) with ⟨i, t, z1, z2⟩ | ⟨y, t, z1, z2⟩
      · cases z1
      · cases z1
        refine ⟨e, t, rfl, ?_⟩
        have z3 : kv.2 = Value.ref e.2 := g8
        rw [g2, z2, g5, z3]
  generalize hD : h1.objs.size = D
  have top : (h1.push { cls := .type "list", data := .seq (as.map Value.ref).toArray }).get? D = some (seqObj "list" (as.map Value.ref).toArray 0) := hD ▸ Heap.get?_push_size _ rfl
  have up1 : ∀ b u, h1.get? b = some u → (h1.push { cls := .type "list", data := .seq (as.map Value.ref).toArray }).get? b = some u := fun b u e => Heap.get?_push_of_some _ e
  have offD : ∀ b u, h1.get? b = some u → b ≠ D := fun b u e => hD ▸ Nat.ne_of_lt (Heap.lt_size e)
  have sD : s.heap.objs.size ≤ D := hD ▸ Nat.le_of_lt bigger
  generalize h1.push { cls := .type "list", data := .seq (as.map Value.ref).toArray } = h2 at top up1 ⊢
  have pin : ∀ (j : Nat) (b : Addr), as[j]? = some b → ∃ e : Str × Addr, ks[j]? = some e ∧ TxPair (TS.midHeap h2 D (as.map Value.ref)) (.ref b) e.1 e.2 := fun j b hj => by
    obtain ⟨e, t, g1, g2⟩ := laid j b hj
    exact ⟨e, g1, b, t, rfl, _, TS.midHeap_old (offD _ _ g2) (up1 _ _ g2), rfl, 0, rfl⟩
  have tx : ∀ (j : Nat) (b : Addr) (e : Str × Addr), as[j]? = some b → ks[j]? = some e → headTx (TS.midHeap h2 D (as.map Value.ref)) (.ref b) = e.1 := fun j b e hj he => by
    obtain ⟨e2, g1, g2⟩ := pin j b hj
    rw [he] at g1
    cases Option.some.inj g1
    exact g2.tx
  have whose : ∀ v ∈ as.map Value.ref, ∃ (j : Nat) (b : Addr) (e : Str × Addr), v = .ref b ∧ as[j]? = some b ∧ ks[j]? = some e := fun v hv => by
    obtain ⟨b, hb, rfl⟩ := List.mem_map.mp hv
    obtain ⟨j, hj⟩ := List.mem_iff_getElem?.mp hb
    obtain ⟨e, _, he, _⟩ := laid j b hj
    exact ⟨j, b, e, rfl, hj, he⟩
  have keyAt : ∀ {j : Nat} {e : Str × Addr}, ks[j]? = some e → (ks.map (·.1))[j]? = some e.1 := fun {j e} h => by rw [List.getElem?_map, h]; rfl
  refine wpAny_call_entry PyProof.Rows.slot_list_sort ⟨_, top, rfl⟩ PyProof.Rows.entry_list_sort
    (SK.plain_sort (s := { s with heap := h2, toks := tk }) (r := fun v => rankS (ks.map (·.1)) (headTx (TS.midHeap h2 D (as.map Value.ref)) v)) top (by rw [List.length_map]; omega) (fun two Qk hQk => ?_) fun ps out o1 o2 o3 => ⟨.none, rfl, ?_⟩) (PyProof.Rows.args_list_sort _)
  · refine tx_kind (s := { s with heap := TS.midHeap h2 D (as.map Value.ref), toks := tk }) (ρ := rankS (ks.map (·.1))) two (fun v hv => ?_) (fun v hv u hu e => ?_) (fun v hv u hu => ?_) Qk hQk
    · obtain ⟨j, b, e, rfl, hj, _⟩ := whose v hv
      obtain ⟨e2, _, g⟩ := pin j b hj
      exact ⟨_, _, g⟩
    · obtain ⟨j, b, e1, rfl, hj, he1⟩ := whose v hv
      obtain ⟨i, c, e2, rfl, hi, he2⟩ := whose u hu
      have e : headTx (TS.midHeap h2 D (as.map Value.ref)) (.ref b) = headTx (TS.midHeap h2 D (as.map Value.ref)) (.ref c) := e
      rw [tx j b e1 hj he1, tx i c e2 hi he2] at e
      have ji : j = i := (List.getElem?_inj (List.getElem?_eq_some_iff.mp (keyAt he1)).1 nk).mp (by rw [keyAt he1, keyAt he2, e])
      subst ji
      rw [hj] at hi
      cases hi
      rfl
    · obtain ⟨j, b, e1, rfl, hj, he1⟩ := whose v hv
      obtain ⟨i, c, e2, rfl, hi, he2⟩ := whose u hu
      have t1 := tx j b e1 hj he1
      have t2 := tx i c e2 hi he2
      show decide ((headTx (TS.midHeap h2 D (as.map Value.ref)) (.ref b)).cps.toList < (headTx (TS.midHeap h2 D (as.map Value.ref)) (.ref c)).cps.toList) = decide (rankS _ (headTx (TS.midHeap h2 D (as.map Value.ref)) (.ref b)) < rankS _ (headTx (TS.midHeap h2 D (as.map Value.ref)) (.ref c)))
      rw [t1, t2]
      exact rank_lt (List.mem_of_getElem? (keyAt he1))
  · show EP X pins σ Q (.ref D) { s with heap := sortedHeap h2 D (as.map Value.ref) out, toks := tk }
    obtain ⟨zs, pz, ez⟩ := perm_lift (fun z : Addr × Str × Addr => (Value.ref z.1, Value.ref z.1)) o2 (as.zip ks) (DX.zip_self Value.ref as ks na)
    have idx : ∀ z ∈ zs, ∃ j : Nat, as[j]? = some z.1 ∧ ks[j]? = some z.2 := fun z hz => by
      obtain ⟨j, hj⟩ := List.mem_iff_getElem?.mp (pz.mem_iff.mp hz)
      exact ⟨j, List.getElem?_zip_eq_some.mp hj⟩
    have outs : out.toList = zs.map fun z => Value.ref z.1 := by
      rw [o1, ← ez, List.map_map]
      rfl
    have perm : (zs.map (·.2)).Perm ks := by
      have e := pz.map (·.2)
      rw [List.map_snd_zip (by omega)] at e
      exact e
    have up : (zs.map (·.2.1)).Pairwise (fun x y => ¬ (y.cps.toList < x.cps.toList)) := by
      rw [← ez, List.pairwise_map] at o3
      rw [List.pairwise_map]
      refine List.Pairwise.imp_of_mem (fun {x y} hx hy h => ?_) o3
      obtain ⟨j, j1, j2⟩ := idx x hx
      obtain ⟨i, i1, i2⟩ := idx y hy
      have h : rankS (ks.map (·.1)) (headTx (TS.midHeap h2 D (as.map Value.ref)) (.ref x.1)) ≤ rankS (ks.map (·.1)) (headTx (TS.midHeap h2 D (as.map Value.ref)) (.ref y.1)) := h
      rw [tx j _ _ j1 j2, tx i _ _ i1 i2] at h
      intro k
      have := rank_lt (l := ks.map (·.1)) (x := y.2.1) (y := x.2.1) (List.mem_of_getElem? (keyAt i2))
      rw [decide_eq_true k] at this
      have := of_decide_eq_true this.symm
      omega
    have later : ∀ b u, b ≠ D → h2.get? b = some u → (sortedHeap h2 D (as.map Value.ref) out).get? b = some u := fun b u nb e => (PyProof.Rows.sortedHeap_old nb (Heap.lt_size e)).trans e
    have kept : ∀ b u, s.heap.get? b = some u → (sortedHeap h2 D (as.map Value.ref) out).get? b = some u := fun b u e => later b u (offD b u (old b u e)) (up1 b u (old b u e))
    obtain ⟨ep2, atD⟩ := PyProof.Rows.sortedHeap_at (vs := as.map Value.ref) (out := out) top
    have freeD : H D = none := I.hok.fresh sD
    have short : (zs.map fun z => V.ref z.1).length ≤ sizeLine := by
      have := perm.length_eq
      rw [List.length_map] at this ⊢
      rw [sizeLine_eq]
      omega
    have vals : Vals (zs.map fun z => V.ref z.1) out.toList := outs ▸ vals_maps (fun z : Addr × Str × Addr => V.ref z.1) (fun z => Value.ref z.1) zs fun _ _ => rfl
    have I2 : Inv X pins σ (upd H D (.lst (zs.map fun z => V.ref z.1))) { s with heap := sortedHeap h2 D (as.map Value.ref) out, toks := tk } :=
      (I.kept (t' := tk) kept).take (t' := tk) (fun b ob _ e => e) (I.fpOk sD freeD) ⟨short, out.toList, ep2, vals, atD⟩
    obtain ⟨H2, I3, g, laidT⟩ := DX.takeT (P := fun b ws => ∃ (j : Nat) (e : Str × Addr), as[j]? = some b ∧ ks[j]? = some e ∧ ws = [.str e.1, .ref e.2]) I as _ I2 ndA fun b hb => by
      obtain ⟨j, hj⟩ := List.mem_iff_getElem?.mp hb
      obtain ⟨e, t, he, hg⟩ := laid j b hj
      have hbl : s.heap.objs.size ≤ b := Nat.le_of_lt (mk.above b hb)
      refine ⟨hbl, ?_, [.str e.1, .ref e.2], ⟨j, e, hj, he, rfl⟩, fun H3 => ⟨by show 2 ≤ sizeLine; rw [sizeLine_eq]; decide, [Value.str e.1 t, Value.ref e.2], .cons ⟨t, rfl⟩ (.cons rfl .nil), _, later _ _ (offD _ _ hg) (up1 _ _ hg), rfl, 0, rfl⟩⟩
      rw [upd_ne (offD _ _ hg)]
      exact I.hok.fresh hbl
    refine ⟨.ref D, H2, I3, rfl, q H2 D zs (fun b u e => g b u (by rw [upd_ne (ne_of_none e freeD)]; exact e)) perm up nk freeD (g _ _ upd_same) fun z hz => ?_⟩
    obtain ⟨i, i1, i2⟩ := idx z hz
    obtain ⟨ws, ⟨j, e, j1, j2, rfl⟩, hH⟩ := laidT z.1 (List.mem_of_getElem? i1)
    have eij : i = j := (List.getElem?_inj (List.getElem?_eq_some_iff.mp i1).1 ndA).mp (i1.trans j1.symm)
    subst eij
    rw [i2] at j2
    cases Option.some.inj j2
    exact hH
end
end He

namespace He
open PySem PySem.Spec PyProof.Rows L2
/-! ### defs that are entered where no repr runs: their A's guards are told -/
structure FnOkG (P : Program) (w : World) (K : PySem.W.Frag) (mg : Str → Option Value) (base : Heap) (CX : CXT) (k : Nat) (f : Addr) (fd : FuncData) (ps : List Str) (sp : Sp) : Prop where
  len : ∀ vs H Q E, sp vs H Q E → vs.length = ps.length
  go : ∀ (A : Around) (outer : List Env) (s : Shared) (H : Hp) (args : Args) (us : List Value) (vs : List V) (Q : VK) (E : XK), A.guards = some [] → Room k A → Env0 P w K mg base A outer s H →
    BindsTo s fd args (ps.zip us) → Vals vs us → sp vs H Q E → codeAny (model P w) A (.call (.ref f) args) (CR CX outer P w H s Q E) s
section
variable {P : Program} {w : World} {K : PySem.W.Frag} {mg : Str → Option Value} {base : Heap}
/-- one entry of a def by its body -/
theorem enter_of {C : CXT} {A : Around} {outer : List Env} {s : Shared} {H : Hp} {args : Args} {us : List Value} {vs : List V} {Q : VK} {E : XK} {k : Nat} {x qual : Str} {st : Stmt} {f : Addr} {N ps : List Str}
    {oc kV doc pm cdv ct : Value} {od an : Option Addr} {osl : Array (Option Value)} (lk : K.lookup f = some ⟨oc, od, .func (PySem.W.fnOf x qual (defArgs st) (defBody st) (defScope st) .none kV doc pm an cdv ct), osl⟩)
    (code : PySem.W.codeIn K cdv qual = true) (S : FnScope N ps (defScope st)) (hv : vs.length = ps.length) (room : Room (k + 1) A) (e0 : Env0 P w K mg base A outer s H)
    (bt : BindsTo s (PySem.W.fnOf x qual (defArgs st) (defBody st) (defScope st) .none kV doc pm an cdv ct) args (ps.zip us)) (rv : Vals vs us)
    (body : ∃ t, PSs (cxOf C P w K mg base N qual (defScope st) f cdv A outer s H E) (defBody st) t ∧ t { nx := fun _ H' => Q .non H', rt := Q } (start N vs) H) :
    codeAny (model P w) A (.call (.ref f) args) (CR C outer P w H s Q E) s := by
  have inK : K.In s.heap := e0.mod.kin.keeps fun b o z => (e0.bs b o z).1
  have nol : s.heap.NoLimit := e0.mod.nolimit.keeps fun b o z => (e0.bs b o z).1
  have kinds : ∀ y ∈ ps.zip us, (defScope st).names.lookup y.1 = some .local ∨ ((defScope st).names.lookup y.1 = some .cell ∧ ((cellsFrom (s.heap.objs.size + 1) (defScope st).names []).lookup y.1).isSome = true) := fun y hy =>
    (S.par y.1 (List.of_mem_zip (show (y.1, y.2) ∈ ps.zip us from hy)).1).imp id fun z => ⟨z, PySem.W.cellsFrom_some _ _ _ (.inl z)⟩
  refine codeAny_call_function room.depth (inK _ _ lk) rfl S.co S.gen rfl (PySem.W.codeRec_of inK code) (bt _ _ _ _ (wpAny_newFunctionEnv_cells S.kind kinds fun env isE s1 inC => ?_))
  subst isE
  obtain ⟨t, tp, tq⟩ := body
  refine ⟨nol.keeps inC.toInCall.keep, codeAny_func (wpAny_mono (tp.run [] s1 (start N vs) H _ (inv_start S room.hd e0 hv rv inC) tq) (fun fl s2 out => ?_) fun e s2 out => out)⟩
  match fl, out with
  | .ret u, ⟨v, _, H2, J, r2, q2⟩ => exact ⟨v, H2, J.os, J.bare, J.base, J.hok, r2, q2⟩
  | .next, ⟨_, H2, J, q2⟩ => exact ⟨V.non, H2, J.os, J.bare, J.base, J.hok, rfl, q2⟩
  | .brk, ⟨_, _, _, no⟩ => exact no.elim
  | .cont, ⟨_, _, _, no⟩ => exact no.elim
theorem okG {x qual : Str} {st : Stmt} {f : Addr} {fd : FuncData} {N ps : List Str} {k : Nat} {sp : Sp} (F : Fun K x qual st f fd) (S : FnScope N ps (defScope st)) (len : ∀ vs H Q E, sp vs H Q E → vs.length = ps.length)
    (body : ∀ (cdv : Value) (A : Around) (outer : List Env) (s : Shared) (H : Hp) (vs : List V) (Q : VK) (E : XK), A.guards = some [] → Room k (A.deeper (envOfC qual (defScope st) s.heap.objs.size f cdv)) → sp vs H Q E →
      ∃ t, PSs (cxOf CX0 P w K mg base N qual (defScope st) f cdv A outer s H E).nox (defBody st) t ∧ t { nx := fun _ H' => Q .non H', rt := Q } (start N vs) H) : FnOkG P w K mg base CX0 (k + 1) f fd ps sp := by
  obtain ⟨oc, od, kV, doc, pm, an, cdv, ct, osl, rfl, lk, code⟩ := F.ex
  refine ⟨len, fun A outer s H args us vs Q E hg room e0 bt rv hs => enter_of lk code S (len _ _ _ _ hs) room e0 bt rv ?_⟩
  obtain ⟨t, tp, tq⟩ := body cdv A outer s H vs Q E hg (room.deeper _) hs
  exact ⟨t, tp.nox, tq⟩
theorem deeper_guards {A : Around} {e : Env} (h : A.guards = some []) : (A.deeper e).guards = some [] := h
end
section
variable {X : Cx}
mutual
/-- no dict in it, and how deep it is -/
def plainD : PyData → Bool
  | .list ds => plainDA ds
  | .tuple ds => plainDA ds
  | .dict _ => false
  | _ => true
def plainDA : List PyData → Bool
  | [] => true
  | d :: ds => plainD d && plainDA ds
end
/-- repr of nested data -/
def rReprD (K : PySem.W.Frag) : List V → Hp → VK → Prop := fun xs H Q => ∃ (a : Addr) (d : PyData), xs = [.ref a] ∧ Dp K H (.ref a) d ∧ d.showable = true ∧ d.hasDict = false ∧ d.depth ≤ 30 ∧ d.shown.length ≤ sizeLine ∧ Q (.str d.shown) H
theorem call_reprD (hu : X.A.units + 64 < cLine) (hg : X.A.guards = some []) : CallR X (.builtin "repr") (rReprD X.K) := by
  intro pins s σ H xs us Q I r h
  obtain ⟨a, d, rfl, hd, sh, nd, dp, sz, q⟩ := h
  obtain rfl := Vals.ref1 r
  obtain ⟨as, rd⟩ := Dp.reads I d (.ref a) (.ref a) hd rfl
  refine repr_of_reads' rd sh (fun z => by rw [nd] at z; cases z) hg (by omega) (fun _ _ e => e) (fun h' u tk keep => ?_) sz
  exact ⟨.str d.shown, H, I.kept (t' := tk) keep, ⟨u, rfl⟩, q⟩
end
end He

namespace He
open PySem PySem.Spec PyProof.Rows L2
section
variable {P : Program} {w : World} {K : PySem.W.Frag} {mg : Str → Option Value}
/-- what is tracked at the law's entry: the script at a, or nothing -/
structure Entry (K : PySem.W.Frag) (H : Hp) (s : Shared) (P : Program) (w : World) (a : Addr) (ns : List Int) : Prop where
  only : Only H
  seq : SqL K H a (ns.map V.int)
  ok : HOk P w H s.heap
  here : ∀ b, H b ≠ none → b = a
  own : H a ≠ none → K.lookup a = none
theorem entry_env {mb : Str → Option Value} {H : Hp} {s : Shared} {a : Addr} {ns : List Int} {vs : List Value} (T : Entry K H s P w a ns) (inK : K.In s.heap) (gl : s.heap.Ns mainGlobals mg) (bl : s.heap.Ns builtinsNs mb)
    (bb : ∀ x : Str, x ≠ "__name__" → mb x = bootBuiltins x) (nol : s.heap.NoLimit) (gens : s.gens = #[]) (ha : s.heap.get? a = some { cls := .type "list", data := .seq vs.toArray }) : Env0 P w K mg (hidT s.heap H) callerA [] s H := by
  have un : ∀ {b : Addr} {o : Obj}, s.heap.get? b = some o → (∀ q : b = a, False) → (hidT s.heap H).get? b = some o := fun {b o} e q => by
    refine hidT_get e ?_
    cases z : H b with
    | none => rfl
    | some u => exact (q (T.here b fun n => by rw [z] at n; cases n)).elim
  have ns : ∀ {b : Addr} {m : Str → Option Value}, s.heap.Ns b m → (hidT s.heap H).Ns b m := fun {b m} ⟨o, es, ep, e, d, r⟩ => by
    refine ⟨o, es, ep, un e fun q => ?_, d, r⟩
    rw [q, ha] at e
    cases e
    cases (show Data.seq vs.toArray _ = Data.dict es ep from d)
  have kk : K.In (hidT s.heap H) := fun b o e => by
    have e1 := inK b o e
    by_cases q : H b = none
    · exact hidT_get e1 q
    · have z := T.here b q
      rw [z] at e q
      rw [T.own q] at e
      cases e
  refine ⟨rfl, ⟨kk, ns gl, ⟨mb, ns bl, bb⟩, ?_⟩, fun _ _ => of_hidT, Nat.le_of_eq (hidT_size _ _), trivial, fun b z => (nomatch (show b ∈ ([] : List Addr) from z)), T.ok, .of_eq gens⟩
  obtain ⟨mc, l1, l2⟩ := nol
  exact ⟨mc, ns l1, l2⟩
theorem entry_go {k : Nat} {fa a : Addr} {fd : FuncData} {x : Str} {sp : Sp} {H : Hp} {s : Shared} {ns : List Int} {base : Heap} (T : Entry K H s P w a ns) (e0 : Env0 P w K mg base callerA [] s H) (room : Room k callerA)
    (F : FnOkG P w K mg base CX0 k fa fd [x] sp) (bt : ∀ (s : Shared) (u : Value), BindsTo s fd ⟨[u], []⟩ [(x, u)]) (hs : sp [.ref a] H (fun v _ => v = .bl true) fun _ _ _ => False) :
    codeAny (model P w) callerA (.call (.ref fa) ⟨[.ref a], []⟩) (fun r s2 => r = .ok (.ret (.bool true)) ∧ OldK s.heap s2.heap ∧ s2.os = s.os ∧ AllBare s2.gens) s := by
  refine codeAny_mono (F.go callerA [] s H ⟨[.ref a], []⟩ [.ref a] [.ref a] _ _ rfl room e0 (bt s _) (.cons rfl .nil) hs) fun r s2 h => ?_
  match r, h with
  | .error e, h => exact False.elim h
  | .ok .next, h => exact False.elim h
  | .ok .brk, h => exact False.elim h
  | .ok .cont, h => exact False.elim h
  | .ok (.ret u), ⟨v, H2, os, bare, ch, ok2, rv, q⟩ =>
    have q : v = .bl true := q
    rw [q] at rv
    have rv : u = Value.bool true := rv
    refine ⟨by rw [rv], OldK.of_keep fun b o e => ?_, os, bare⟩
    rcases T.only b with n | ⟨ob, xs, z⟩
    · exact ch.keep b o e n (fun m => nomatch (show b ∈ ([] : List Addr) from m)) (fun m => nomatch m)
    · have g1 := (T.ok b _ z).1
      have g2 := (ok2 b _ (ch.frzs b ob _ z)).1
      rw [e] at g1
      cases g1
      exact g2
theorem entry_at {s : Shared} {a : Addr} {ns : List Int} {vs : List Value} (inK : K.In s.heap) (ha : s.heap.get? a = some { cls := .type "list", data := .seq vs.toArray }) (hi : IntsAre vs ns) (hl : ns.length ≤ sizeLine) : ∃ H, Entry K H s P w a ns := by
  have rv := vals_ints hi
  cases lk : K.lookup a with
  | some o =>
    have e := inK a o lk
    rw [ha] at e
    cases e
    refine ⟨fun _ => none, fun _ => .inl rfl, .inr ⟨_, vs.toArray, _, lk, rfl, rfl, rfl, ?_, by simpa using rv⟩, fun b u z => (by cases (show (none : Option HO) = some u from z)), fun b z => absurd rfl z, fun z => absurd rfl z⟩
    have := hi.length
    rw [List.size_toArray]
    omega
  | none =>
    have at1 : ∀ {b : Addr} {u : HO}, (if b = a then some (HO.frz { cls := .type "list", data := .seq vs.toArray } (.lst (ns.map V.int))) else none) = some u → b = a ∧ u = .frz { cls := .type "list", data := .seq vs.toArray } (.lst (ns.map V.int)) := fun {b u} z => by
      split at z
      · rename_i e
        exact ⟨e, (Option.some.inj z).symm⟩
      · cases z
    refine ⟨fun b => if b = a then some (.frz { cls := .type "list", data := .seq vs.toArray } (.lst (ns.map V.int))) else none, fun b => ?_, .inl (.inr ⟨{ cls := .type "list", data := .seq vs.toArray }, if_pos rfl⟩), fun b u z => ?_, fun b z => ?_, fun _ => lk⟩
    · by_cases e : b = a
      · exact .inr ⟨_, _, if_pos e⟩
      · exact .inl (if_neg e)
    · obtain ⟨rfl, rfl⟩ := at1 z
      exact ⟨ha, by rw [List.length_map]; exact hl, vs, _, rv, ha⟩
    · exact Decidable.byContradiction fun n => z (if_neg n)
/-- the law's end where its def is told its guards -/
theorem walk_G {l : PySem.W.OpenLaw} {n k : Nat} {q : Program} {loose : List Str} {XP : (Str → Option Value) → Heap → Prop} {YP : World → Heap → Prop} {d : DefRec} {K : Params → PySem.W.Frag} {sp : World → Sp} {x : Str}
    (hn : l.most = some n) (hn2 : n ≤ sizeLine) (hdf : d.params.defaults = []) (room : Room k callerA) (inK : ∀ (w : World) (h : Heap), YP w h → (K w.params).In h)
    (F : ∀ (w : World) (mg : Str → Option Value) (fa : Addr) (h : Heap), (K w.params).In h → h.Ns mainGlobals mg → mg d.name = some (.ref fa) → ∃ fd : FuncData, (∀ (s : Shared) (v : Value), BindsTo s fd ⟨[v], []⟩ [(x, v)]) ∧
      ∀ base : Heap, (K w.params).In base → base.Ns mainGlobals mg → FnOkG l.prog w (K w.params) mg base CX0 k fa fd [x] (sp w))
    (hsp : ∀ (w : World) (H : Hp) (a : Addr) (ns : List Int), ns.length ≤ n → Only H → SqL (K w.params) H a (ns.map V.int) → sp w [.ref a] H (fun v _ => v = .bl true) fun _ _ _ => False) :
    PySem.W.WalkO q loose XP YP l.row.toRowW d [] (fun f vs => PySem.call f vs) := by
  refine Att.attach_call hn hdf fun w s0 s mg mb fa o pm cd doc a vs ns G Y _ _ _ named ha hi short gens => ?_
  have kw := inK w _ Y
  obtain ⟨fd, bt, ok⟩ := F w mg fa _ kw G.T.g named
  obtain ⟨H, T⟩ := entry_at (P := l.prog) (w := w) kw ha hi (Nat.le_trans short hn2)
  have e0 := entry_env T kw G.T.g G.T.b G.T.builtins G.T.nolimit gens ha
  exact entry_go T e0 room (ok _ e0.mod.kin e0.mod.glob) bt (hsp w H a ns short T.only T.seq)
end
end He

namespace He
open PySem PySem.Spec PyProof.Rows L2
/-! ### what repr tells, and how long it is -/
structure ShD (n k : Nat) (d : PyData) : Prop where
  sh : d.showable = true
  nd : d.hasDict = false
  dp : d.depth ≤ k
  ln : d.shown.length ≤ n
  cl : d.canLay0 = true
theorem ShD.mono {n k m j : Nat} {d : PyData} (h : ShD n k d) (a : n ≤ m) (b : k ≤ j) : ShD m j d := ⟨h.sh, h.nd, Nat.le_trans h.dp b, Nat.le_trans h.ln a, h.cl⟩
theorem ShD.shaped {n k : Nat} {d : PyData} (h : ShD n k d) (hk : k ≤ 64) : SeqAt.shaped d = true := by
  unfold SeqAt.shaped
  rw [h.cl, decide_eq_true (Nat.le_trans h.dp hk)]
  rfl
theorem ShD.eqv {n k : Nat} {d : PyData} (h : ShD n k d) : PyData.eqv d d = true := PySem.SeqAt.eqv_refl d h.cl
theorem shd_non : ShD 4 0 .none := ⟨rfl, rfl, Nat.le_refl _, by rw [PyData.shown_none]; decide, rfl⟩
theorem shd_bool (b : Bool) : ShD 5 0 (.bool b) := ⟨rfl, rfl, Nat.le_refl _, by rw [PyData.shown_bool]; cases b <;> decide, rfl⟩
theorem shd_int {i : Int} {k : Nat} (hk : 0 < k) (h : i.natAbs < 10 ^ k) (h2 : i.natAbs < 2 ^ 1900) : ShD (k + 1) 0 (.int i) := by
  refine ⟨?_, rfl, Nat.le_refl _, ?_, rfl⟩
  · show decide (i.natAbs.log2 < 1920) = true
    exact decide_eq_true (Nat.lt_of_lt_of_le (PySem.Flt.log2_lt_of (by decide) h2) (by decide))
  · rw [PyData.shown_int, PySem.ofString_length]
    exact int_text_length_le10 hk h
theorem shd_str {x : Str} {k : Nat} (hk : x.cps.size ≤ k) (h : ∀ c ∈ x.cps.toList, c < 0x110000) : ShD (10 * k + 2) 0 (.str x) := by
  refine ⟨rfl, rfl, Nat.le_refl _, ?_, ?_⟩
  · rw [PyData.shown_str]
    have := PySem.StrLaws.reprText_len x fun c hc => Nat.lt_trans (h c hc) (by decide)
    have e : x.length = x.cps.size := rfl
    omega
  · show x.cps.all (· < 0x110000) = true
    rw [← Array.all_toList, List.all_eq_true]
    exact fun c hc => decide_eq_true (h c hc)
theorem shown_tup (ds : List PyData) : (PyData.tuple ds).shown = tupleText (PyData.shownAll ds) := by simp only [PyData.shown]
theorem shown_lst (ds : List PyData) : (PyData.list ds).shown = listText (PyData.shownAll ds) := by simp only [PyData.shown]
theorem shd_all {n k : Nat} : ∀ {ds : List PyData}, (∀ d ∈ ds, ShD n k d) → PyData.showableAll ds = true ∧ PyData.hasDictAll ds = false ∧ PyData.depthAll ds ≤ k ∧ ((PyData.shownAll ds).map (·.length)).sum ≤ ds.length * n ∧ (PyData.shownAll ds).length = ds.length ∧ PyData.canLayAll0 ds = true
  | [], _ => ⟨rfl, rfl, Nat.zero_le _, by rw [PyData.shownAll_nil]; simp, by rw [PyData.shownAll_nil]; rfl, rfl⟩
  | d :: ds, h => by
    have a := h d List.mem_cons_self
    obtain ⟨b1, b2, b3, b4, b5, b6⟩ := shd_all (ds := ds) fun e he => h e (List.mem_cons_of_mem _ he)
    refine ⟨?_, ?_, ?_, ?_, ?_, ?_⟩
    · show (d.showable && PyData.showableAll ds) = true
      rw [a.sh, b1]
      rfl
    · show (d.hasDict || PyData.hasDictAll ds) = false
      rw [a.nd, b2]
      rfl
    · show max d.depth (PyData.depthAll ds) ≤ k
      exact Nat.max_le.mpr ⟨a.dp, b3⟩
    · rw [PyData.shownAll_cons, List.map_cons, List.sum_cons, List.length_cons, Nat.succ_mul]
      have := a.ln
      omega
    · rw [PyData.shownAll_cons, List.length_cons, List.length_cons, b5]
    · show (d.canLay0 && PyData.canLayAll0 ds) = true
      rw [a.cl, b6]
      rfl
theorem shd_tup {n k m : Nat} {ds : List PyData} (h : ∀ d ∈ ds, ShD n k d) (hm : ds.length ≤ m) : ShD (m * (n + 2) + 3) (k + 1) (.tuple ds) := by
  obtain ⟨b1, b2, b3, b4, b5, b6⟩ := shd_all h
  refine ⟨b1, b2, Nat.succ_le_succ b3, ?_, b6⟩
  rw [shown_tup]
  have := tupleText_len_le (PyData.shownAll ds)
  have : ds.length * (n + 2) ≤ m * (n + 2) := Nat.mul_le_mul_right _ hm
  have : ds.length * (n + 2) = ds.length * n + 2 * ds.length := by rw [Nat.mul_add]; omega
  omega
theorem shd_lst {n k m : Nat} {ds : List PyData} (h : ∀ d ∈ ds, ShD n k d) (hm : ds.length ≤ m) : ShD (m * (n + 2) + 3) (k + 1) (.list ds) := by
  obtain ⟨b1, b2, b3, b4, b5, b6⟩ := shd_all h
  refine ⟨b1, b2, Nat.succ_le_succ b3, ?_, b6⟩
  rw [shown_lst]
  have := listText_len_le (PyData.shownAll ds)
  have : ds.length * (n + 2) ≤ m * (n + 2) := Nat.mul_le_mul_right _ hm
  have : ds.length * (n + 2) = ds.length * n + 2 * ds.length := by rw [Nat.mul_add]; omega
  omega
theorem name_cps {x : Str} (h : nameB x = true) : ∀ c ∈ x.cps.toList, c < 0x110000 := fun c hc => by
  unfold nameB at h
  simp only [Bool.and_eq_true] at h
  have := List.all_eq_true.mp (by rw [← Array.all_toList] at h; exact h.1.2) c hc
  simp only [Bool.and_eq_true, decide_eq_true_eq] at this
  omega
theorem shd_name {x : Str} (h : nameB x = true) : ShD 52 0 (.str x) := by
  refine shd_str (k := 5) ?_ (name_cps h)
  unfold nameB at h
  simp only [Bool.and_eq_true, decide_eq_true_eq] at h
  exact h.1.1.2
end He

namespace He
open PySem PySem.Spec PyProof.Rows L2
section
variable {P : Program} {w : World} {K : PySem.W.Frag} {mg : Str → Option Value} {base : Heap}

/-! ### fractions -/
theorem dp_tup2 {H : Hp} {v : V} {d e : PyData} (h : Dp K H v (.tuple [d, e])) : ∃ a x y, v = .ref a ∧ SqT K H a [x, y] ∧ Dp K H x d ∧ Dp K H y e := by
  cases h with
  | tup hs ha =>
    cases ha with
    | cons h1 h2 =>
      cases h2 with
      | cons h3 h4 =>
        cases h4
        exact ⟨_, _, _, rfl, hs, h1, h3⟩
abbrev Fq := Int × Int
def dFr (p : Fq) : PyData := .tuple [.int p.1, .int p.2]
theorem dFr_inv {H : Hp} {v : V} {p : Fq} (h : Dp K H v (dFr p)) : ∃ a, v = .ref a ∧ SqT K H a [.int p.1, .int p.2] := by
  obtain ⟨a, x, y, rfl, hs, h1, h2⟩ := dp_tup2 h
  cases h1
  cases h2
  exact ⟨a, rfl, hs⟩
theorem dFr_new {H : Hp} {a : Addr} {p : Fq} (h : H a = some (.tup [.int p.1, .int p.2])) : Dp K H (.ref a) (dFr p) := .tup (sqT_of h) (.cons (.int _) (.cons (.int _) .nil))
def gcdI (a b : Int) : Int := ((Nat.gcd a.natAbs b.natAbs : Nat) : Int)
def lowM (a b : Int) : Fq := (a / gcdI a b, b / gcdI a b)
def plusM (p q : Fq) : Fq := lowM (p.1 * q.2 + q.1 * p.2) (p.2 * q.2)
def timesM (p q : Fq) : Fq := lowM (p.1 * q.1) (p.2 * q.2)
theorem gcdI_pos {a b : Int} (h : 0 < b) : 0 < gcdI a b := by
  unfold gcdI
  exact Int.ofNat_lt.mpr (Nat.gcd_pos_of_pos_right _ (by omega))
theorem gcdI_le {a b : Int} (h : 0 < b) : gcdI a b ≤ b := by
  unfold gcdI
  have := Nat.gcd_le_right a.natAbs (show 0 < b.natAbs by omega)
  omega
theorem gcdI_l (a b : Int) : gcdI a b ∣ a := by unfold gcdI; exact Int.ofNat_dvd_left.mpr (Nat.gcd_dvd_left _ _)
theorem gcdI_r (a b : Int) : gcdI a b ∣ b := by unfold gcdI; exact Int.ofNat_dvd_left.mpr (Nat.gcd_dvd_right _ _)
structure FrOk (n : Nat) (p : Fq) : Prop where
  a0 : 0 ≤ p.1
  b0 : 0 < p.2
  a1 : p.1 < 2 ^ n
  b1 : p.2 < 2 ^ n
theorem pow_i {n m : Nat} (h : n ≤ m) : (2 : Int) ^ n ≤ 2 ^ m := by
  have := Nat.pow_le_pow_right (n := 2) (by decide) h
  exact_mod_cast this
theorem FrOk.mono {n m : Nat} {p : Fq} (h : FrOk n p) (l : n ≤ m) : FrOk m p := ⟨h.a0, h.b0, Int.lt_of_lt_of_le h.a1 (pow_i l), Int.lt_of_lt_of_le h.b1 (pow_i l)⟩
theorem nat_of {n : Nat} {a : Int} (h0 : 0 ≤ a) (h : a < 2 ^ n) : a.natAbs < 2 ^ n := by
  have e : ((2 ^ n : Nat) : Int) = 2 ^ n := by norm_cast
  omega
theorem lowM_ok {n : Nat} {a b : Int} (h0 : 0 ≤ a) (h1 : 0 < b) (ha : a < 2 ^ n) (hb : b < 2 ^ n) : FrOk n (lowM a b) := by
  have g := gcdI_pos (a := a) h1
  refine ⟨Int.ediv_nonneg h0 (by omega), Int.ediv_pos_of_pos_of_dvd h1 (by omega) (gcdI_r a b), ?_, ?_⟩
  · exact Int.lt_of_le_of_lt (Int.ediv_le_self _ h0) ha
  · exact Int.lt_of_le_of_lt (Int.ediv_le_self _ (by omega)) hb
theorem mul_lt {n m : Nat} {a b : Int} (h0 : 0 ≤ a) (k0 : 0 ≤ b) (h : a < 2 ^ n) (k : b < 2 ^ m) : a * b < 2 ^ (n + m) := by
  have x := wide_lt (nat_of h0 h) (nat_of k0 k)
  have e : ((2 ^ (n + m) : Nat) : Int) = 2 ^ (n + m) := by norm_cast
  have z : 0 ≤ a * b := Int.mul_nonneg h0 k0
  omega
theorem cross_lt {n m : Nat} {p q : Fq} (h : FrOk n p) (k : FrOk m q) : p.1 * q.2 + q.1 * p.2 < 2 ^ (n + m + 1) := by
  have x := mul_lt h.a0 (by have := k.b0; omega) h.a1 k.b1
  have y := mul_lt k.a0 (by have := h.b0; omega) k.a1 h.b1
  rw [Nat.add_comm m n] at y
  have e : (2 : Int) ^ (n + m + 1) = 2 * 2 ^ (n + m) := by rw [Int.pow_succ]; omega
  omega
theorem cross0 {n m : Nat} {p q : Fq} (h : FrOk n p) (k : FrOk m q) : 0 ≤ p.1 * q.2 + q.1 * p.2 := by
  have := Int.mul_nonneg h.a0 (show 0 ≤ q.2 by have := k.b0; omega)
  have := Int.mul_nonneg k.a0 (show 0 ≤ p.2 by have := h.b0; omega)
  omega
theorem den_lt {n m : Nat} {p q : Fq} (h : FrOk n p) (k : FrOk m q) : p.2 * q.2 < 2 ^ (n + m + 1) := by
  have x := mul_lt (by have := h.b0; omega) (by have := k.b0; omega) h.b1 k.b1
  have := pow_i (show n + m ≤ n + m + 1 by omega)
  omega
theorem plusM_ok {n m : Nat} {p q : Fq} (h : FrOk n p) (k : FrOk m q) : FrOk (n + m + 1) (plusM p q) := lowM_ok (cross0 h k) (Int.mul_pos h.b0 k.b0) (cross_lt h k) (den_lt h k)
theorem timesM_ok {n m : Nat} {p q : Fq} (h : FrOk n p) (k : FrOk m q) : FrOk (n + m) (timesM p q) := lowM_ok (Int.mul_nonneg h.a0 k.a0) (Int.mul_pos h.b0 k.b0) (mul_lt h.a0 k.a0 h.a1 k.a1) (mul_lt (by have := h.b0; omega) (by have := k.b0; omega) h.b1 k.b1)
theorem gcdI_mul {c a b : Int} (h : 0 < c) : gcdI (c * a) (c * b) = c * gcdI a b := by
  unfold gcdI
  rw [Int.natAbs_mul, Int.natAbs_mul, Nat.gcd_mul_left, Int.natCast_mul, Int.natAbs_of_nonneg (by omega)]
theorem lowM_mul {c a b : Int} (h : 0 < c) : lowM (c * a) (c * b) = lowM a b := by
  unfold lowM
  rw [gcdI_mul h, Int.mul_ediv_mul_of_pos _ _ h, Int.mul_ediv_mul_of_pos _ _ h]
/-- a summand need not be in lowest terms -/
theorem plusM_low {p : Fq} {a b : Int} (h1 : 0 < b) : plusM p (lowM a b) = plusM p (a, b) := by
  have g := gcdI_pos (a := a) h1
  obtain ⟨x, hx⟩ := gcdI_l a b
  obtain ⟨y, hy⟩ := gcdI_r a b
  unfold plusM
  show lowM (p.1 * (b / gcdI a b) + a / gcdI a b * p.2) (p.2 * (b / gcdI a b)) = lowM (p.1 * b + a * p.2) (p.2 * b)
  generalize gcdI a b = c at g hx hy ⊢
  subst hx hy
  rw [Int.mul_ediv_cancel_left _ (show c ≠ 0 by omega), Int.mul_ediv_cancel_left _ (show c ≠ 0 by omega)]
  have f1 : p.1 * (c * y) + c * x * p.2 = c * (p.1 * y + x * p.2) := by rw [Int.mul_add, Int.mul_left_comm, Int.mul_assoc]
  have f2 : p.2 * (c * y) = c * (p.2 * y) := by rw [Int.mul_left_comm]
  rw [f1, f2, lowM_mul g]
def spLowest (K : PySem.W.Frag) : Sp := fun vs H Q _ => ∃ (a b : Int), vs = [.int a, .int b] ∧ 0 ≤ a ∧ 0 < b ∧ b < 2 ^ 9000 ∧
  ∀ t H', Same H H' → H t = none → H' t = some (.tup [.int (lowM a b).1, .int (lowM a b).2]) → Q (.ref t) H'
theorem ok_lowest (T : TxtG K mg) : FnOk P w K mg base CX0 1 T.dLowest.f T.dLowest.fd ["above", "below"] (spLowest K) := by
  refine T.dLowest.F.ok scDLowest (fun vs H Q E h => ?_) (fun cdv A outer s H vs Q E hr h => ?_)
  · obtain ⟨a, b, rfl, _⟩ := h
    rfl
  · obtain ⟨a, b, rfl, h0, h1, h2, q⟩ := h
    refine ⟨_, (pss_cons (ps_set (i := 2) scDLowest.nd rfl (.inl rfl) (pe_callBfun cr_gcd (by rfl) T.m_gcd (pa_cons (pv 0) (pa_cons (pv 1) pa_nil))))
      (pss_one (ps_ret (pe_tup (pa_cons (pe_op op_fdivW (pv 0) (pv 2)) (pa_cons (pe_op op_fdivW (pv 1) (pv 2)) pa_nil)))))), ?_⟩
    simp only [and_assoc, tSeq, tAsg, tOp, tUn, rI, rI0, rU, tVar, tC, gName, L2.start, tIfS, tTest, tB, tCB, tCons, tNil, tIf, tRet, tRetN, tLst, tTup, tNext, tDrop, tNot, tNotV, tAnd, tOr, tAndV, tOrV, tPar, tAug, ipI, rEq, rNe, gSub, rSetL, rIxL, rIxT, tBM, tBM0, rAppend, rPopAt, gTup, gCons, gNil, tCall, tSl, tPart, tNoPart, rSlL, rCat, rEqD, rNeD, rIn, scal, List.map_cons, List.map_nil, List.length_cons, List.length_nil, List.length_map, List.cons_append, List.nil_append, List.append_nil, List.replicate, List.getElem?_cons_zero, List.getElem?_cons_succ, List.set_cons_zero, List.set_cons_succ, Option.some.injEq, exists_eq_left', exists_eq_left, exists_eq_right, exists_and_left, exists_and_right, V.int.injEq, V.ref.injEq, V.str.injEq, V.bl.injEq, reduceCtorEq, false_and, and_false, exists_false, or_false, false_or, true_and, and_true, List.cons.injEq, decide_eq_true_eq, cxOf, if_true, if_false, Bool.false_eq_true, Nat.reduceAdd, Nat.reduceSub, Nat.zero_add, Nat.add_sub_cancel_left, Nat.add_sub_cancel, Nat.sub_self, sFld, tFld, rGcd, CDivW]
    have g := gcdI_pos (a := a) h1
    have w : CDivW a (gcdI a b) := wide_div g (nat_of (by omega) (Int.lt_of_le_of_lt (gcdI_le h1) h2)) (by decide) (by decide)
    refine ⟨w.1, w.2, w.1, w.2, by decide, fun t nt => ?_⟩
    exact q t _ (same_upd nt) nt upd_same
def spPlus (K : PySem.W.Frag) : Sp := fun vs H Q _ => ∃ (x y : V) (p r : Fq) (n m : Nat), vs = [x, y] ∧ Dp K H x (dFr p) ∧ Dp K H y (dFr r) ∧ FrOk n p ∧ FrOk m r ∧ n + m + 1 ≤ 9000 ∧
  ∀ t H', Same H H' → H t = none → H' t = some (.tup [.int (plusM p r).1, .int (plusM p r).2]) → Q (.ref t) H'
theorem ok_plus (T : TxtG K mg) : FnOk P w K mg base CX0 2 T.dPlus.f T.dPlus.fd ["left", "right"] (spPlus K) := by
  refine T.dPlus.F.ok scDPlus (fun vs H Q E h => ?_) (fun cdv A outer s H vs Q E hr h => ?_)
  · obtain ⟨x, y, p, r, n, m, rfl, _⟩ := h
    rfl
  · obtain ⟨x, y, p, r, n, m, rfl, hx, hy, h1, h2, hn, q⟩ := h
    refine ⟨_, (pss_one (ps_ret (pe_call (ok_lowest T) (hr.mono (by decide)) (by rfl) T.dLowest.g T.dLowest.F.kp T.dLowest.b .nil pass0 (pa_cons (pe_op op_add (pe_op op_mulW (pe_ix ix_tup (pv 0) pe_int (fun _ _ => rfl)) (pe_ix ix_tup (pv 1) pe_int (fun _ _ => rfl))) (pe_op op_mulW (pe_ix ix_tup (pv 1) pe_int (fun _ _ => rfl)) (pe_ix ix_tup (pv 0) pe_int (fun _ _ => rfl)))) (pa_cons (pe_op op_mulW (pe_ix ix_tup (pv 0) pe_int (fun _ _ => rfl)) (pe_ix ix_tup (pv 1) pe_int (fun _ _ => rfl))) pa_nil))))), ?_⟩
    obtain ⟨a, rfl, ha⟩ := dFr_inv hx
    obtain ⟨b, rfl, hb⟩ := dFr_inv hy
    simp only [and_assoc, tSeq, tAsg, tOp, tUn, rI, rI0, rU, tVar, tC, gName, L2.start, tIfS, tTest, tB, tCB, tCons, tNil, tIf, tRet, tRetN, tLst, tTup, tNext, tDrop, tNot, tNotV, tAnd, tOr, tAndV, tOrV, tPar, tAug, ipI, rEq, rNe, gSub, rSetL, rIxL, rIxT, tBM, tBM0, rAppend, rPopAt, gTup, gCons, gNil, tCall, tSl, tPart, tNoPart, rSlL, rCat, rEqD, rNeD, rIn, scal, List.map_cons, List.map_nil, List.length_cons, List.length_nil, List.length_map, List.cons_append, List.nil_append, List.append_nil, List.replicate, List.getElem?_cons_zero, List.getElem?_cons_succ, List.set_cons_zero, List.set_cons_succ, Option.some.injEq, exists_eq_left', exists_eq_left, exists_eq_right, exists_and_left, exists_and_right, V.int.injEq, V.ref.injEq, V.str.injEq, V.bl.injEq, reduceCtorEq, false_and, and_false, exists_false, or_false, false_or, true_and, and_true, List.cons.injEq, decide_eq_true_eq, cxOf, if_true, if_false, Bool.false_eq_true, Nat.reduceAdd, Nat.reduceSub, Nat.zero_add, Nat.add_sub_cancel_left, Nat.add_sub_cancel, Nat.sub_self, sFld, tFld, spLowest]
    have mw : ∀ {i j : Int} {n m : Nat}, n + m + 1 ≤ 9000 → 0 ≤ i → i < 2 ^ n → 0 ≤ j → j < 2 ^ m → CMulW i j := fun {i j n m} l i0 i1 j0 j1 =>
      wide_mul (nat_of i0 (Int.lt_of_lt_of_le i1 (pow_i (Nat.le_succ n)))) (nat_of j0 (Int.lt_of_lt_of_le j1 (pow_i (Nat.le_succ m)))) (by omega) (by omega) (by omega)
    refine ⟨_, ha, _, rfl, _, hb, _, rfl, _, rfl, _, rfl, mw hn h1.a0 h1.a1 (Int.le_of_lt h2.b0) h2.b1, _, hb, _, rfl, _, ha, _, rfl, _, rfl, _, rfl, mw (by omega) h2.a0 h2.a1 (Int.le_of_lt h1.b0) h1.b1, _, ha, _, rfl, _, hb, _, rfl, _, rfl, _, rfl, mw hn (Int.le_of_lt h1.b0) h1.b1 (Int.le_of_lt h2.b0) h2.b1, ?_⟩
    exact ⟨cross0 h1 h2, Int.mul_pos h1.b0 h2.b0, Int.lt_of_lt_of_le (den_lt h1 h2) (pow_i hn), fun t H' s nt ht => q t H' s nt ht⟩

end
end He

namespace He
open PySem PySem.Spec PyProof.Rows L2
section
variable {P : Program} {w : World} {K : PySem.W.Frag} {mg : Str → Option Value} {base : Heap}

/-! ### who gets a share -/
/-- names in a list or tuple -/
def SqN (K : PySem.W.Frag) (H : Hp) (v : V) (ns : List Str) : Prop := ∃ a, v = .ref a ∧ Sq K H a (ns.map V.str)
theorem SqN.mono {H H' : Hp} {v : V} {ns : List Str} (s : Same H H') (h : SqN K H v ns) : SqN K H' v ns := let ⟨a, e, q⟩ := h; ⟨a, e, q.mono s⟩
def hitB (ns : List Str) (g : List Str) : Bool := g.any fun n => decide (n ∈ ns)
theorem inV_str (n : Str) (ns : List Str) : inV (.str n) (ns.map V.str) = decide (n ∈ ns) := by
  unfold inV
  rw [List.any_map]
  rw [Bool.eq_iff_iff, List.any_eq_true, decide_eq_true_eq]
  constructor
  · rintro ⟨y, hy, e⟩
    have e : (y == n) = true := e
    rw [← eq_of_beq e]
    exact hy
  · intro h
    exact ⟨n, h, beq_self_eq_true n⟩
theorem flat_strs (ns : List Str) : (ns.map V.str).all flatV = true := by
  rw [List.all_map]
  exact List.all_eq_true.mpr fun _ _ => rfl
theorem ys_map {α : Type} {ys : List V} {g : List α} {f : α → V} (hl : ys.length = g.length) (h : ∀ (i : Nat) (y : V), ys[i]? = some y → ∃ n, g[i]? = some n ∧ y = f n) : ys = g.map f := by
  refine List.ext_getElem? fun i => ?_
  rw [List.getElem?_map]
  cases e : ys[i]? with
  | none =>
    rw [List.getElem?_eq_none (by have := List.getElem?_eq_none_iff.mp e; omega)]
    rfl
  | some y =>
    obtain ⟨n, e2, rfl⟩ := h i y e
    rw [e2]
    rfl
def tGrp (g : List Str) : PyData := .tuple (g.map PyData.str)
def optV : Option Nat → V
  | none => .non
  | some i => .int (i : Nat)
theorem dp_strsT {H : Hp} {v : V} {g : List Str} (h : Dp K H v (tGrp g)) : ∃ a, v = .ref a ∧ SqT K H a (g.map V.str) := by
  cases h with
  | tup hs ha =>
    rw [dpA_strs_inv ha] at hs
    exact ⟨_, rfl, hs⟩
theorem find_none {α : Type} {f : α → Bool} {l : List α} (h : ∀ (j : Nat) (x : α), l[j]? = some x → f x = false) : l.findIdx? f = none := by
  rw [List.findIdx?_eq_none_iff]
  intro x hx
  obtain ⟨j, hj⟩ := List.mem_iff_getElem?.mp hx
  exact h j x hj
theorem find_some {α : Type} {f : α → Bool} {l : List α} {i : Nat} {x : α} (hx : l[i]? = some x) (hf : f x = true) (h : ∀ (j : Nat) (y : α), j < i → l[j]? = some y → f y = false) : l.findIdx? f = some i := by
  have hi := (List.getElem?_eq_some_iff.mp hx)
  rw [List.findIdx?_eq_some_iff_getElem]
  refine ⟨hi.1, by rw [hi.2]; exact hf, fun j hj => ?_⟩
  have hl := hi.1
  have e := h j (l[j]'(by omega)) hj (List.getElem?_eq_getElem (by omega))
  rw [e]
  exact Bool.false_ne_true

end
end He

namespace He
open PySem PySem.Spec PyProof.Rows L2
/-! ### lists of pairs, a name each -/
section
variable {β γ : Type}
def getL (m : List (Str × β)) (n : Str) : Option β := (m.find? fun x => decide (x.1 = n)).map (·.2)
def putL (m : List (Str × β)) (n : Str) (v : β) : List (Str × β) := if (m.any fun x => decide (x.1 = n)) = true then m.map (fun x => if x.1 = n then (x.1, v) else x) else m ++ [(n, v)]
def keysL (m : List (Str × β)) : List Str := m.map (·.1)
theorem getL_map (f : β → γ) (m : List (Str × β)) (n : Str) : getL (m.map fun x => (x.1, f x.2)) n = (getL m n).map f := by
  unfold getL
  rw [List.find?_map, Option.map_map, Option.map_map]
  rfl
theorem putL_map (f : β → γ) (m : List (Str × β)) (n : Str) (v : β) : (putL m n v).map (fun x => (x.1, f x.2)) = putL (m.map fun x => (x.1, f x.2)) n (f v) := by
  unfold putL
  rw [List.any_map]
  show List.map _ (if (m.any fun x => decide (x.1 = n)) = true then _ else _) = if (m.any fun x => decide (x.1 = n)) = true then _ else _
  split
  · rw [List.map_map, List.map_map]
    refine List.map_congr_left fun x _ => ?_
    show (fun x : Str × β => (x.1, f x.2)) (if x.1 = n then (x.1, v) else x) = if x.1 = n then (x.1, f v) else (x.1, f x.2)
    split <;> rfl
  · rw [List.map_append]
    rfl
theorem any_key (m : List (Str × β)) (n : Str) : (m.any fun x => decide (x.1 = n)) = decide (n ∈ keysL m) := by
  rw [Bool.eq_iff_iff, List.any_eq_true, decide_eq_true_eq]
  unfold keysL
  rw [List.mem_map]
  exact ⟨fun ⟨x, hx, e⟩ => ⟨x, hx, of_decide_eq_true e⟩, fun ⟨x, hx, e⟩ => ⟨x, hx, decide_eq_true e⟩⟩
theorem getL_none {m : List (Str × β)} {n : Str} (h : n ∉ keysL m) : getL m n = none := by
  unfold getL
  rw [List.find?_eq_none.mpr]
  · rfl
  · intro x hx e
    exact h (List.mem_map.mpr ⟨x, hx, of_decide_eq_true e⟩)
theorem getL_some {m : List (Str × β)} {n : Str} {v : β} (h : getL m n = some v) : (n, v) ∈ m := by
  unfold getL at h
  obtain ⟨x, hx, rfl⟩ := Option.map_eq_some_iff.mp h
  have e0 := List.find?_some hx
  have e : x.1 = n := of_decide_eq_true e0
  rw [← e]
  exact List.mem_of_find?_eq_some hx
theorem getL_in {m : List (Str × β)} {n : Str} (h : n ∈ keysL m) : ∃ v, getL m n = some v := by
  cases e : getL m n with
  | some v => exact ⟨v, rfl⟩
  | none =>
    exfalso
    unfold getL at e
    rw [Option.map_eq_none_iff, List.find?_eq_none] at e
    obtain ⟨x, hx, rfl⟩ := List.mem_map.mp h
    exact e x hx (decide_eq_true rfl)
theorem getL_mem {m : List (Str × β)} (nd : (keysL m).Nodup) {x : Str × β} (hx : x ∈ m) : getL m x.1 = some x.2 := by
  obtain ⟨v, hv⟩ := getL_in (m := m) (n := x.1) (List.mem_map.mpr ⟨x, hx, rfl⟩)
  have h2 := getL_some hv
  rw [hv]
  obtain ⟨i, hi⟩ := List.mem_iff_getElem?.mp hx
  obtain ⟨j, hj⟩ := List.mem_iff_getElem?.mp h2
  have ki : (keysL m)[i]? = some x.1 := by unfold keysL; rw [List.getElem?_map, hi]; rfl
  have kj : (keysL m)[j]? = some x.1 := by unfold keysL; rw [List.getElem?_map, hj]; rfl
  have ij : i = j := (List.getElem?_inj (List.getElem?_eq_some_iff.mp ki).1 nd).mp (ki.trans kj.symm)
  subst ij
  rw [hi] at hj
  have e := congrArg Prod.snd (Option.some.inj hj)
  exact congrArg some e.symm
theorem keys_put (m : List (Str × β)) (n : Str) (v : β) : keysL (putL m n v) = if n ∈ keysL m then keysL m else keysL m ++ [n] := by
  unfold putL
  rw [any_key]
  by_cases h : n ∈ keysL m
  · rw [if_pos (decide_eq_true h), if_pos h]
    unfold keysL
    rw [List.map_map]
    refine List.map_congr_left fun x _ => ?_
    show (if x.1 = n then (x.1, v) else x).1 = x.1
    by_cases e : x.1 = n
    · rw [if_pos e]
    · rw [if_neg e]
  · rw [if_neg (by simpa using h), if_neg h]
    unfold keysL
    rw [List.map_append]
    rfl
theorem keys_put_nodup {m : List (Str × β)} {n : Str} {v : β} (h : (keysL m).Nodup) : (keysL (putL m n v)).Nodup := by
  rw [keys_put]
  split
  · exact h
  · rename_i k
    exact List.nodup_append.mpr ⟨h, by simp, fun a ha b hb e => k (by rw [← List.mem_singleton.mp hb, ← e]; exact ha)⟩
theorem mem_put {m : List (Str × β)} {n k : Str} {v : β} : k ∈ keysL (putL m n v) ↔ k = n ∨ k ∈ keysL m := by
  rw [keys_put]
  split
  · rename_i h
    exact ⟨.inr, fun z => z.elim (fun e => e ▸ h) id⟩
  · rw [List.mem_append, List.mem_singleton]
    exact Or.comm
theorem getL_put (m : List (Str × β)) (n k : Str) (v : β) : getL (putL m n v) k = if k = n then some v else getL m k := by
  unfold putL
  rw [any_key]
  by_cases h : n ∈ keysL m
  · rw [if_pos (decide_eq_true h)]
    induction m with
    | nil => cases h
    | cons x m ih =>
      rw [List.map_cons]
      unfold getL
      by_cases e : x.1 = k
      · rw [List.find?_cons_of_pos (by show decide ((if x.1 = n then (x.1, v) else x).1 = k) = true; split <;> exact decide_eq_true e), List.find?_cons_of_pos (by exact decide_eq_true e)]
        by_cases e2 : k = n
        · rw [if_pos e2, if_pos (e.trans e2)]
          rfl
        · rw [if_neg e2, if_neg (fun z => e2 (e.symm.trans z))]
      · rw [List.find?_cons_of_neg (by show ¬ decide ((if x.1 = n then (x.1, v) else x).1 = k) = true; split <;> exact fun z => e (of_decide_eq_true z)), List.find?_cons_of_neg (by exact fun z => e (of_decide_eq_true z))]
        by_cases h2 : n ∈ keysL m
        · exact ih h2
        · have e3 : x.1 = n := by
            rcases List.mem_cons.mp h with z | z
            · exact z.symm
            · exact absurd z h2
          have same : m.map (fun x => if x.1 = n then (x.1, v) else x) = m := by
            conv => rhs; rw [← List.map_id m]
            refine List.map_congr_left fun y hy => ?_
            rw [if_neg (fun z => h2 (List.mem_map.mpr ⟨y, hy, z⟩))]
            rfl
          rw [same, if_neg (fun z => e (e3.trans z.symm))]
  · rw [if_neg (by simpa using h)]
    unfold getL
    rw [List.find?_append]
    by_cases e : k = n
    · rw [if_pos e, List.find?_eq_none.mpr (fun x hx z => h (List.mem_map.mpr ⟨x, hx, (of_decide_eq_true z).trans e⟩)), Option.none_or, List.find?_cons_of_pos (by exact decide_eq_true e.symm)]
      rfl
    · rw [if_neg e, List.find?_cons_of_neg (by exact fun z => e (of_decide_eq_true z).symm), List.find?_nil, Option.or_none]
end
/-! ### fractions added up -/
abbrev Mf := List (Str × Fq)
def zeroF : Fq := (0, 1)
def addOne (m : Mf) (n : Str) (q : Fq) : Mf := putL m n (plusM ((getL m n).getD zeroF) q)
def addAll (m : Mf) (tk : List Str) (q : Fq) : Mf := tk.foldl (fun m n => addOne m n q) m
theorem addAll_get : ∀ (tk : List Str) (m : Mf) (q : Fq) (k : Str), tk.Nodup → getL (addAll m tk q) k = if k ∈ tk then some (plusM ((getL m k).getD zeroF) q) else getL m k
  | [], m, q, k, _ => by simp [addAll]
  | n :: tk, m, q, k, nd => by
    have nd' := List.nodup_cons.mp nd
    show getL (addAll (addOne m n q) tk q) k = _
    rw [addAll_get tk _ q k nd'.2]
    unfold addOne
    rw [getL_put]
    by_cases e : k = n
    · rw [if_neg (e ▸ nd'.1), if_pos e, if_pos (by rw [e]; exact List.mem_cons_self), e]
    · rw [if_neg e]
      by_cases h : k ∈ tk
      · rw [if_pos h, if_pos (List.mem_cons_of_mem _ h)]
      · rw [if_neg h, if_neg (fun z => (List.mem_cons.mp z).elim e h)]
theorem addAll_keys : ∀ (tk : List Str) (m : Mf) (q : Fq) (k : Str), k ∈ keysL (addAll m tk q) ↔ k ∈ tk ∨ k ∈ keysL m
  | [], m, q, k => by simp [addAll]
  | n :: tk, m, q, k => by
    show k ∈ keysL (addAll (addOne m n q) tk q) ↔ _
    rw [addAll_keys tk _ q k]
    unfold addOne
    rw [mem_put, List.mem_cons]
    exact ⟨fun h => h.elim (fun z => .inl (.inr z)) fun z => z.elim (fun z => .inl (.inl z)) .inr, fun h => h.elim (fun z => z.elim (fun z => .inr (.inl z)) .inl) fun z => .inr (.inr z)⟩
theorem addAll_nodup : ∀ (tk : List Str) (m : Mf) (q : Fq), (keysL m).Nodup → (keysL (addAll m tk q)).Nodup
  | [], _, _, h => h
  | n :: tk, m, q, h => addAll_nodup tk _ q (keys_put_nodup h)
/-- the same names with the same fractions -/
structure Alike (m m' : Mf) : Prop where
  n1 : (keysL m).Nodup
  n2 : (keysL m').Nodup
  get : ∀ k, getL m k = getL m' k
theorem Alike.keys {m m' : Mf} (h : Alike m m') (k : Str) : k ∈ keysL m ↔ k ∈ keysL m' := by
  have one : ∀ {a b : Mf}, (∀ k, getL a k = getL b k) → k ∈ keysL a → k ∈ keysL b := fun {a b} g z => by
    obtain ⟨v, hv⟩ := getL_in z
    exact List.mem_map.mpr ⟨(k, v), getL_some ((g k).symm.trans hv), rfl⟩
  exact ⟨one h.get, one fun k => (h.get k).symm⟩
theorem Alike.perm {m m' : Mf} (h : Alike m m') : (keysL m).Perm (keysL m') := (List.perm_ext_iff_of_nodup h.n1 h.n2).mpr h.keys
theorem Alike.add {m m' : Mf} {tk tk' : List Str} {q q' : Fq} (h : Alike m m') (p : tk.Perm tk') (nd : tk.Nodup) (hq : ∀ x : Fq, plusM x q = plusM x q') : Alike (addAll m tk q) (addAll m' tk' q') := by
  refine ⟨addAll_nodup _ _ _ h.n1, addAll_nodup _ _ _ h.n2, fun k => ?_⟩
  rw [addAll_get _ _ _ _ nd, addAll_get _ _ _ _ (p.nodup_iff.mp nd), h.get k, hq]
  by_cases e : k ∈ tk
  · rw [if_pos e, if_pos (p.mem_iff.mp e)]
  · rw [if_neg e, if_neg (fun z => e (p.mem_iff.mpr z))]
def dItem (n : Str) (q : Fq) : PyData := .tuple [.str n, dFr q]
/-- the names ascending, with their fractions -/
def itemsD (m : Mf) : PyData := .tuple ((sortG (keysL m)).map fun n => dItem n ((getL m n).getD zeroF))
theorem Alike.items {m m' : Mf} (h : Alike m m') : itemsD m = itemsD m' := by
  unfold itemsD
  rw [sortG_perm_eq h.perm]
  congr 1
  exact List.map_congr_left fun n _ => by rw [h.get n]
theorem up_sortG {ys g : List Str} (p : ys.Perm g) (h : ys.Pairwise fun x y => ¬ (y.cps.toList < x.cps.toList)) : ys = sortG g := by
  refine up_one (p.trans (sortG_perm g).symm) (h.imp fun {a b} z => ?_) (sortG_up g)
  unfold leS
  rw [ltCps_eq, decide_eq_false z]
  rfl
/-! ### who takes a share -/
def takersM (gs : List (List Str)) (ns : List Str) : List Str := match gs.find? (hitB ns) with
  | none => ["crown"]
  | some g => g.filter fun n => decide (n ∈ ns)
theorem hit_sort (ns g : List Str) : hitB ns (sortG g) = hitB ns g := by
  unfold hitB
  rw [Bool.eq_iff_iff, List.any_eq_true, List.any_eq_true]
  exact ⟨fun ⟨x, hx, h⟩ => ⟨x, (sortG_perm g).mem_iff.mp hx, h⟩, fun ⟨x, hx, h⟩ => ⟨x, (sortG_perm g).mem_iff.mpr hx, h⟩⟩
theorem takers_sort (gs : List (List Str)) (ns : List Str) : (takersM (gs.map sortG) ns).Perm (takersM gs ns) := by
  unfold takersM
  rw [List.find?_map]
  have e : (hitB ns ∘ sortG) = hitB ns := funext fun g => hit_sort ns g
  rw [e]
  cases gs.find? (hitB ns) with
  | none => exact List.Perm.refl _
  | some g => exact (sortG_perm g).filter _
theorem takers_nodup {gs : List (List Str)} {ns : List Str} (h : ∀ g ∈ gs, g.Nodup) : (takersM gs ns).Nodup := by
  unfold takersM
  cases e : gs.find? (hitB ns) with
  | none => simp
  | some g => exact (h g (List.mem_of_find?_eq_some e)).sublist List.filter_sublist
theorem takers_len {gs : List (List Str)} {ns : List Str} {b : Nat} (h : ∀ g ∈ gs, g.length ≤ b) (hb : 1 ≤ b) : 1 ≤ (takersM gs ns).length ∧ (takersM gs ns).length ≤ b := by
  unfold takersM
  cases e : gs.find? (hitB ns) with
  | none => exact ⟨Nat.le_refl _, hb⟩
  | some g =>
    refine ⟨?_, Nat.le_trans (List.length_filter_le _ _) (h g (List.mem_of_find?_eq_some e))⟩
    have := List.find?_some e
    obtain ⟨x, hx, hn⟩ := List.any_eq_true.mp this
    exact List.length_pos_of_mem (List.mem_filter.mpr ⟨hx, hn⟩)
def totalW (shs : List Sh) : Int := (shs.map (·.1)).sum
/-- the program's way: groups ascending, parts in lowest terms -/
def stepP (T : Int) (ns : List Str) (m : Mf) (s : Sh) : Mf := let tk := takersM (s.2.map sortG) ns; addAll m tk (lowM s.1 (T * tk.length))
def heirsM (shs : List Sh) (ns : List Str) : Mf := shs.foldl (stepP (totalW shs) ns) []
/-- the law's way -/
def stepL (T : Int) (ns : List Str) (m : Mf) (s : Sh) : Mf := let tk := takersM s.2 ns; addAll m tk (s.1, T * tk.length)
def heirsL (shs : List Sh) (ns : List Str) : Mf := shs.foldl (stepL (totalW shs) ns) []
theorem total_pos {shs : List Sh} (h : ∀ s ∈ shs, 1 ≤ s.1) (h0 : shs ≠ []) : 0 < totalW shs := by
  have nn : ∀ l : List Sh, (∀ s ∈ l, 1 ≤ s.1) → 0 ≤ totalW l := by
    intro l
    induction l with
    | nil => exact fun _ => Int.le_refl _
    | cons x l ih =>
      intro h
      have a := h x List.mem_cons_self
      have b := ih fun s hs => h s (List.mem_cons_of_mem _ hs)
      show 0 ≤ x.1 + totalW l
      omega
  cases shs with
  | nil => exact absurd rfl h0
  | cons x l =>
    have a := h x List.mem_cons_self
    have b := nn l fun s hs => h s (List.mem_cons_of_mem _ hs)
    show 0 < x.1 + totalW l
    omega
theorem total_le {b : Int} : ∀ {shs : List Sh}, (∀ s ∈ shs, s.1 ≤ b) → totalW shs ≤ b * shs.length
  | [], _ => by show (0 : Int) ≤ b * 0; omega
  | x :: l, h => by
    have a := h x List.mem_cons_self
    have c := total_le (shs := l) fun s hs => h s (List.mem_cons_of_mem _ hs)
    show x.1 + totalW l ≤ b * ((l.length + 1 : Nat) : Int)
    rw [Int.natCast_add, Int.mul_add]
    omega
theorem heirs_alike {shs : List Sh} (h : ∀ s ∈ shs, ShOk s) (h0 : shs ≠ []) (ns : List Str) : Alike (heirsM shs ns) (heirsL shs ns) := by
  have tp := total_pos (fun s hs => (h s hs).w1) h0
  unfold heirsM heirsL
  generalize totalW shs = T at tp
  have go : ∀ (l : List Sh) (m m' : Mf), (∀ s ∈ l, ShOk s) → Alike m m' → Alike (l.foldl (stepP T ns) m) (l.foldl (stepL T ns) m') := by
    intro l
    induction l with
    | nil => exact fun _ _ _ a => a
    | cons s l ih =>
      intro m m' hs a
      refine ih _ _ (fun t ht => hs t (List.mem_cons_of_mem _ ht)) ?_
      have ok := hs s List.mem_cons_self
      have pm := takers_sort s.2 ns
      have nd : (takersM s.2 ns).Nodup := takers_nodup fun g hg => (ok.gs g hg).nd
      refine a.add pm (pm.nodup_iff.mpr nd) fun x => ?_
      have l1 : 1 ≤ (takersM s.2 ns).length := by
        unfold takersM
        cases e : s.2.find? (hitB ns) with
        | none => exact Nat.le_refl _
        | some g =>
          have e0 := List.find?_some e
          obtain ⟨x, hx, hn⟩ := List.any_eq_true.mp e0
          exact List.length_pos_of_mem (List.mem_filter.mpr ⟨hx, hn⟩)
      rw [pm.length_eq, plusM_low (Int.mul_pos tp (by omega))]
  exact go shs [] [] h ⟨List.nodup_nil, List.nodup_nil, fun _ => rfl⟩
def heirsD (shs : List Sh) (ns : List Str) : PyData := itemsD (heirsM shs ns)
end He

namespace He
open PySem PySem.Spec PyProof.Rows L2
section
variable {P : Program} {w : World} {K : PySem.W.Frag} {mg : Str → Option Value} {base : Heap}

theorem find_of {α : Type} {f : α → Bool} {l : List α} {i : Nat} (h : l.findIdx? f = some i) : ∃ x, l[i]? = some x ∧ l.find? f = some x := by
  rw [List.findIdx?_eq_some_iff_getElem] at h
  obtain ⟨hi, h1, h2⟩ := h
  refine ⟨l[i], List.getElem?_eq_getElem hi, ?_⟩
  rw [List.find?_eq_some_iff_getElem]
  exact ⟨h1, i, hi, rfl, fun j hj => by simpa using h2 j hj⟩
theorem find_of_none {α : Type} {f : α → Bool} {l : List α} (h : l.findIdx? f = none) : l.find? f = none := by
  rw [List.findIdx?_eq_none_iff] at h
  rw [List.find?_eq_none]
  intro x hx
  rw [h x hx]
  exact Bool.false_ne_true
def spTakers (K : PySem.W.Frag) : Sp := fun vs H Q _ => ∃ (g al : V) (gs : List (List Str)) (ns : List Str), vs = [g, al] ∧ Dp K H g (.tuple (gs.map tGrp)) ∧ SqN K H al ns ∧ gs.length < 1000 ∧ (∀ g ∈ gs, g.length < 1000) ∧
  ∀ r H', Same H H' → H r = none → H' r = some (.lst ((takersM gs ns).map V.str)) → Q (.ref r) H'
theorem ok_takers (T : TxtG K mg) : FnOk P w K mg base CX0 2 T.dTakers.f T.dTakers.fd ["groups", "alive"] (spTakers K) := by
  refine T.dTakers.F.ok scDTakers (fun vs H Q E h => ?_) (fun cdv A outer s H vs Q E hr h => ?_)
  · obtain ⟨g, al, gs, ns, rfl, _⟩ := h
    rfl
  · obtain ⟨g, al, gs, ns, rfl, hg, hal, hn, hgs, q⟩ := h
    refine ⟨_, (pss_cons (ps_for PassesOwn.never rfl (pi_seq (pv 0)) (pg_name (i := 2) scDTakers.nd rfl (.inl rfl))
      (pss_cons (ps_setLc (i := 3) (own := [("name", 4)]) (g := (gName 4)) rfl scDTakers.nd rfl rfl (sw_true rfl rfl rfl (by decide +kernel)) (pi_seq (pv 2)) (blkOk_by (N := ["groups", "alive", "group", "takers", "name"]) (sc := defScope sDTakers) (by decide +kernel)) (fun _ _ _ _ _ => (pg_name (i := 4) scDTakers.nd rfl (.inl rfl))) (fun _ _ _ _ _ => (pts_one (pt_cmpR (show OpR _ (compareOp .In) (rIn K false) from op_in_seq) (pv 4) (pv 1) (by rfl)))) (fun _ _ _ _ _ => (pv 4)))
      (pss_one (ps_if (pt_truth (pv 3) (by intro _; rfl))
      (pss_one (ps_ret (pv 3)))
      pss_nil))))
      (pss_one (ps_ret (pe_lst (pa_cons (pe_glob (v := .str "crown") (by rfl) T.k_CROWN.choose_spec ⟨_, rfl⟩) pa_nil))))), ?_⟩
    obtain ⟨al, rfl, hal0⟩ := id hal
    obtain ⟨a, vs, rfl, hs, hd⟩ : ∃ a vs, g = .ref a ∧ SqT K H a vs ∧ DpAll K H vs (gs.map tGrp) := by
      cases hg with
      | tup h1 h2 => exact ⟨_, _, rfl, h1, h2⟩
    have hvl : vs.length = gs.length := by rw [dpA_len hd, List.length_map]
    simp only [and_assoc, tSeq, tAsg, tOp, tUn, rI, rI0, rU, tVar, tC, gName, L2.start, tIfS, tTest, tB, tCB, tCons, tNil, tIf, tRet, tRetN, tLst, tTup, tNext, tDrop, tNot, tNotV, tAnd, tOr, tAndV, tOrV, tPar, tAug, ipI, rEq, rNe, gSub, rSetL, rIxL, rIxT, tBM, tBM0, rAppend, rPopAt, gTup, gCons, gNil, tCall, tSl, tPart, tNoPart, rSlL, rCat, rEqD, rNeD, rIn, scal, List.map_cons, List.map_nil, List.length_cons, List.length_nil, List.length_map, List.cons_append, List.nil_append, List.append_nil, List.replicate, List.getElem?_cons_zero, List.getElem?_cons_succ, List.set_cons_zero, List.set_cons_succ, Option.some.injEq, exists_eq_left', exists_eq_left, exists_eq_right, exists_and_left, exists_and_right, V.int.injEq, V.ref.injEq, V.str.injEq, V.bl.injEq, reduceCtorEq, false_and, and_false, exists_false, or_false, false_or, true_and, and_true, List.cons.injEq, decide_eq_true_eq, cxOf, if_true, if_false, Bool.false_eq_true, Nat.reduceAdd, Nat.reduceSub, Nat.zero_add, Nat.add_sub_cancel_left, Nat.add_sub_cancel, Nat.sub_self, sFld, tFld, tFor_eq, tLc_eq, iRng1, iRng2, iList, iTup, iEnum, iEnumQ, rIsi, rIsiT, iSeq, wipe]
    refine ⟨vs, _, .inr ⟨rfl, hs⟩, ?_⟩
    refine fg_tup (xs := vs) (fun i σ H2 => ∃ (o2 o3 o4 : Option V), σ = [some (.ref a), some (.ref al), o2, o3, o4] ∧ Same H H2 ∧ ∀ (j : Nat) (x : List Str), j < i → gs[j]? = some x → hitB ns x = false) ⟨none, none, none, rfl, Same.refl _, fun j x h => absurd h (Nat.not_lt_zero j)⟩ (fun i σ H2 _ ⟨_, _, _, _, s, _⟩ => Same.seqT s hs) ?_ ?_
    · rintro i x σ H2 hx ⟨o2, o3, o4, rfl, s2, hno⟩
      obtain ⟨d, ed, hx2⟩ := dpA_get (dpA_mono s2 _ _ hd) hx
      rw [List.getElem?_map] at ed
      obtain ⟨gr, eg, rfl⟩ := Option.map_eq_some_iff.mp ed
      have hgl := hgs gr (List.mem_of_getElem? eg)
      obtain ⟨b, rfl, hb⟩ := dp_strsT hx2
      simp only [and_assoc, tSeq, tAsg, tOp, tUn, rI, rI0, rU, tVar, tC, gName, L2.start, tIfS, tTest, tB, tCB, tCons, tNil, tIf, tRet, tRetN, tLst, tTup, tNext, tDrop, tNot, tNotV, tAnd, tOr, tAndV, tOrV, tPar, tAug, ipI, rEq, rNe, gSub, rSetL, rIxL, rIxT, tBM, tBM0, rAppend, rPopAt, gTup, gCons, gNil, tCall, tSl, tPart, tNoPart, rSlL, rCat, rEqD, rNeD, rIn, scal, List.map_cons, List.map_nil, List.length_cons, List.length_nil, List.length_map, List.cons_append, List.nil_append, List.append_nil, List.replicate, List.getElem?_cons_zero, List.getElem?_cons_succ, List.set_cons_zero, List.set_cons_succ, Option.some.injEq, exists_eq_left', exists_eq_left, exists_eq_right, exists_and_left, exists_and_right, V.int.injEq, V.ref.injEq, V.str.injEq, V.bl.injEq, reduceCtorEq, false_and, and_false, exists_false, or_false, false_or, true_and, and_true, List.cons.injEq, decide_eq_true_eq, cxOf, if_true, if_false, Bool.false_eq_true, Nat.reduceAdd, Nat.reduceSub, Nat.zero_add, Nat.add_sub_cancel_left, Nat.add_sub_cancel, Nat.sub_self, sFld, tFld, tFor_eq, tLc_eq, iRng1, iRng2, iList, iTup, iEnum, iEnumQ, rIsi, rIsiT, iSeq, wipe]
      refine ⟨_, _, .inr ⟨rfl, hb⟩, fun D nD => ?_⟩
      refine lg_keep gr V.str V.str (fun n => decide (n ∈ ns)) (.inr ⟨rfl, hb⟩) (small1000 (by omega)) nD (fun n H3 Aq Bq hm s3 hD hA hB => ?_) (fun H3 s3 eD => ?_)
      · simp only [and_assoc, tSeq, tAsg, tOp, tUn, rI, rI0, rU, tVar, tC, gName, L2.start, tIfS, tTest, tB, tCB, tCons, tNil, tIf, tRet, tRetN, tLst, tTup, tNext, tDrop, tNot, tNotV, tAnd, tOr, tAndV, tOrV, tPar, tAug, ipI, rEq, rNe, gSub, rSetL, rIxL, rIxT, tBM, tBM0, rAppend, rPopAt, gTup, gCons, gNil, tCall, tSl, tPart, tNoPart, rSlL, rCat, rEqD, rNeD, rIn, scal, List.map_cons, List.map_nil, List.length_cons, List.length_nil, List.length_map, List.cons_append, List.nil_append, List.append_nil, List.replicate, List.getElem?_cons_zero, List.getElem?_cons_succ, List.set_cons_zero, List.set_cons_succ, Option.some.injEq, exists_eq_left', exists_eq_left, exists_eq_right, exists_and_left, exists_and_right, V.int.injEq, V.ref.injEq, V.str.injEq, V.bl.injEq, reduceCtorEq, false_and, and_false, exists_false, or_false, false_or, true_and, and_true, List.cons.injEq, decide_eq_true_eq, cxOf, if_true, if_false, Bool.false_eq_true, Nat.reduceAdd, Nat.reduceSub, Nat.zero_add, Nat.add_sub_cancel_left, Nat.add_sub_cancel, Nat.sub_self, sFld, tFld, tFor_eq, tLc_eq, iRng1, iRng2, iList, iTup, iEnum, iEnumQ, rIsi, rIsiT, iSeq, wipe, rIn]
        refine ⟨_, hal0.mono (s2.trans s3), rfl, flat_strs ns, ?_⟩
        rw [inV_str]
        cases h : decide (n ∈ ns) with
        | true => exact hA _ h (Same.refl _)
        | false => exact hB _ h (Same.refl _)
      · have e0 : (!((gr.filter fun n => decide (n ∈ ns)).map V.str).isEmpty) = hitB ns gr := by
          unfold hitB
          rw [Bool.eq_iff_iff, List.any_eq_true]
          simp only [List.isEmpty_map, Bool.not_eq_true', List.isEmpty_eq_false_iff]
          constructor
          · intro h
            obtain ⟨x, hx⟩ := List.exists_mem_of_ne_nil _ h
            have := List.mem_filter.mp hx
            exact ⟨x, this.1, this.2⟩
          · rintro ⟨x, h1, h2⟩
            exact List.ne_nil_of_mem (List.mem_filter.mpr ⟨h1, h2⟩)
        refine ⟨_, .inl ⟨_, sqL_of eD, rfl⟩, ?_⟩
        rw [e0]
        cases hh : hitB ns gr with
        | true =>
          rw [if_pos rfl]
          refine q D H3 (s2.trans s3) (s2.free nD) ?_
          rw [eD]
          obtain ⟨x, ex, ef⟩ := find_of (find_some eg hh hno)
          rw [eg] at ex
          cases ex
          unfold takersM
          rw [ef]
        | false =>
          rw [if_neg Bool.false_ne_true]
          refine ⟨s2.trans s3, fun j y hj ey => ?_⟩
          by_cases e : j = i
          · rw [e, eg] at ey
            cases ey
            exact hh
          · exact hno j y (by omega) ey
    · rintro σ H2 ⟨o2, o3, o4, rfl, s2, hno⟩
      simp only [and_assoc, tSeq, tAsg, tOp, tUn, rI, rI0, rU, tVar, tC, gName, L2.start, tIfS, tTest, tB, tCB, tCons, tNil, tIf, tRet, tRetN, tLst, tTup, tNext, tDrop, tNot, tNotV, tAnd, tOr, tAndV, tOrV, tPar, tAug, ipI, rEq, rNe, gSub, rSetL, rIxL, rIxT, tBM, tBM0, rAppend, rPopAt, gTup, gCons, gNil, tCall, tSl, tPart, tNoPart, rSlL, rCat, rEqD, rNeD, rIn, scal, List.map_cons, List.map_nil, List.length_cons, List.length_nil, List.length_map, List.cons_append, List.nil_append, List.append_nil, List.replicate, List.getElem?_cons_zero, List.getElem?_cons_succ, List.set_cons_zero, List.set_cons_succ, Option.some.injEq, exists_eq_left', exists_eq_left, exists_eq_right, exists_and_left, exists_and_right, V.int.injEq, V.ref.injEq, V.str.injEq, V.bl.injEq, reduceCtorEq, false_and, and_false, exists_false, or_false, false_or, true_and, and_true, List.cons.injEq, decide_eq_true_eq, cxOf, if_true, if_false, Bool.false_eq_true, Nat.reduceAdd, Nat.reduceSub, Nat.zero_add, Nat.add_sub_cancel_left, Nat.add_sub_cancel, Nat.sub_self, sFld, tFld, tFor_eq, tLc_eq, iRng1, iRng2, iList, iTup, iEnum, iEnumQ, rIsi, rIsiT, iSeq, wipe]
      refine ⟨by decide, fun l nl => ?_⟩
      refine q l _ (s2.trans (same_upd nl)) (s2.free nl) ?_
      rw [upd_same]
      unfold takersM
      rw [find_of_none (find_none fun j x e => hno j x (by have := (List.getElem?_eq_some_iff.mp e).1; omega) e)]
      rfl

end
end He

namespace He
open PySem PySem.Spec PyProof.Rows L2
section
variable {P : Program} {w : World} {K : PySem.W.Frag} {mg : Str → Option Value} {base : Heap}

/-- the class Will with its heirs -/
structure TxtH (K : PySem.W.Frag) (mg : Str → Option Value) where
  w : TxtW K mg
  hF : Addr
  hD : FuncData
  hFn : Fun K "heirs" "Will.heirs" sDWillHeirs hF hD
  hB : Binds K hD ["self", "alive"] []
  hM : Meth K w.t.cWill "heirs" hF
/-! ### the dict of fractions -/
abbrev L3 := List (Str × Addr × Fq)
def ent3 (t : Str × Addr × Fq) : L2.Key × V := (Sum.inr t.1, V.ref t.2.1)
def mOf (L : L3) : Mf := L.map fun t => (t.1, t.2.2)
structure FqD (K : PySem.W.Frag) (b : Nat) (H : Hp) (d : Addr) (L : L3) : Prop where
  at_ : H d = some (.dK (L.map ent3))
  val : ∀ t ∈ L, Dp K (hide d H) (.ref t.2.1) (dFr t.2.2)
  bd : ∀ t ∈ L, FrOk b t.2.2
theorem FqD.same {b : Nat} {H H' : Hp} {d : Addr} {L : L3} (h : FqD K b H d L) (s : Same H H') : FqD K b H' d L := ⟨s _ _ h.at_, fun t ht => dp_mono (hide_same s) _ _ (h.val t ht), h.bd⟩
theorem FqD.mono {b c : Nat} {H : Hp} {d : Addr} {L : L3} (h : FqD K b H d L) (l : b ≤ c) : FqD K c H d L := ⟨h.at_, h.val, fun t ht => (h.bd t ht).mono l⟩
theorem valV_ent3 (L : L3) (n : Str) : valV (L.map ent3) (Sum.inr n) = (getL L n).map fun t => V.ref t.1 := by
  unfold valV getL
  rw [List.find?_map, Option.map_map, Option.map_map]
  have e : ((fun kv : L2.Key × V => decide (kv.1 = Sum.inr n)) ∘ ent3) = fun x : Str × Addr × Fq => decide (x.1 = n) := funext fun x => by
    show decide ((Sum.inr x.1 : L2.Key) = Sum.inr n) = decide (x.1 = n)
    by_cases h : x.1 = n
    · rw [decide_eq_true h, decide_eq_true (by rw [h])]
    · rw [decide_eq_false h, decide_eq_false (fun z => h (Sum.inr.inj z))]
  rw [e]
  rfl
theorem putK_ent3 (L : L3) (n : Str) (a : Addr) (q : Fq) : putK (L.map ent3) (Sum.inr n) (.ref a) = (putL L n (a, q)).map ent3 := by
  unfold putK putL
  rw [List.any_map]
  have e : ((fun kv : L2.Key × V => decide (kv.1 = Sum.inr n)) ∘ ent3) = fun x : Str × Addr × Fq => decide (x.1 = n) := funext fun x => by
    show decide ((Sum.inr x.1 : L2.Key) = Sum.inr n) = decide (x.1 = n)
    by_cases h : x.1 = n
    · rw [decide_eq_true h, decide_eq_true (by rw [h])]
    · rw [decide_eq_false h, decide_eq_false (fun z => h (Sum.inr.inj z))]
  rw [e]
  split
  · rw [List.map_map, List.map_map]
    refine List.map_congr_left fun x _ => ?_
    show (if (Sum.inr x.1 : L2.Key) = Sum.inr n then (Sum.inr x.1, V.ref a) else ent3 x) = ent3 (if x.1 = n then (x.1, (a, q)) else x)
    by_cases h : x.1 = n
    · rw [if_pos h, if_pos (by rw [h])]
      rfl
    · rw [if_neg h, if_neg (fun z => h (Sum.inr.inj z))]
  · rw [List.map_append]
    rfl
theorem mOf_get (L : L3) (n : Str) : getL (mOf L) n = (getL L n).map (·.2) := getL_map _ L n
theorem mOf_put (L : L3) (n : Str) (a : Addr) (q : Fq) : mOf (putL L n (a, q)) = putL (mOf L) n q := putL_map _ L n _
theorem mOf_keys (L : L3) : keysL (mOf L) = L.map (·.1) := by
  unfold keysL mOf
  rw [List.map_map]
  rfl
/-- what get tells, or nought -/
theorem FqD.get {b : Nat} {H : Hp} {d z : Addr} {L : L3} (h : FqD K b H d L) (n : Str) (hz : Dp K (hide d H) (.ref z) (dFr zeroF)) (hb : 1 ≤ b) :
    Dp K (hide d H) (((getL L n).map fun t => V.ref t.1).getD (.ref z)) (dFr ((getL (mOf L) n).getD zeroF)) ∧ FrOk b ((getL (mOf L) n).getD zeroF) := by
  rw [mOf_get]
  cases e : getL L n with
  | none =>
    refine ⟨hz, ?_⟩
    have p : (2 : Int) ^ 1 ≤ 2 ^ b := pow_i hb
    exact ⟨by decide, by decide, by show (0 : Int) < 2 ^ b; omega, by show (1 : Int) < 2 ^ b; omega⟩
  | some t => exact ⟨h.val _ (getL_some e), h.bd _ (getL_some e)⟩
theorem mem_putL {β : Type} {m : List (Str × β)} {n : Str} {v : β} {x : Str × β} (h : x ∈ putL m n v) : x = (n, v) ∨ x ∈ m := by
  unfold putL at h
  split at h
  · obtain ⟨y, hy, e⟩ := List.mem_map.mp h
    by_cases q : y.1 = n
    · rw [if_pos q] at e
      rw [← e, q]
      exact .inl rfl
    · rw [if_neg q] at e
      rw [← e]
      exact .inr hy
  · rcases List.mem_append.mp h with h | h
    · exact .inr h
    · exact .inl (List.mem_singleton.mp h)
theorem FqD.put {b : Nat} {H : Hp} {d a : Addr} {L : L3} {q : Fq} (h : FqD K b H d L) (n : Str) (ha : Dp K (hide d H) (.ref a) (dFr q)) (hq : FrOk b q) : FqD K b (upd H d (.dK (putK (L.map ent3) (Sum.inr n) (.ref a)))) d (putL L n (a, q)) := by
  refine ⟨by rw [upd_same, putK_ent3 L n a q], fun t ht => dp_mono hide_upd _ _ ?_, fun t ht => ?_⟩
  · rcases mem_putL ht with rfl | ht
    · exact ha
    · exact h.val t ht
  · rcases mem_putL ht with rfl | ht
    · exact hq
    · exact h.bd t ht
theorem FqD.items {b : Nat} {H H' : Hp} {d l : Addr} {L : L3} {ps : List (Addr × Str × Addr)} (h : FqD K b H d L) (s : Same H H') (pm : (ps.map (·.2)).Perm (L.map fun t => (t.1, t.2.1))) (up : (ps.map (·.2.1)).Pairwise fun x y => ¬ (y.cps.toList < x.cps.toList)) (nd : ((L.map fun t => (t.1, t.2.1)).map (·.1)).Nodup)
    (hz : ∀ z ∈ ps, H' z.1 = some (.tup [.str z.2.1, .ref z.2.2])) (hl : SqT K H' l (ps.map fun z => V.ref z.1)) : Dp K H' (.ref l) (itemsD (mOf L)) := by
  have k1 : (ps.map (·.2.1)).Perm (keysL (mOf L)) := by
    have e := pm.map (·.1)
    rw [List.map_map, List.map_map] at e
    rw [mOf_keys]
    exact e
  have k2 := up_sortG k1 up
  have nk : (keysL (mOf L)).Nodup := by
    rw [List.map_map] at nd
    rw [mOf_keys]
    exact nd
  unfold itemsD
  rw [← k2, List.map_map]
  refine .tup hl (dp_list (by rw [List.length_map, List.length_map]) fun i y e => ?_)
  rw [List.getElem?_map] at e
  obtain ⟨z, ez, rfl⟩ := Option.map_eq_some_iff.mp e
  have hm := List.mem_of_getElem? ez
  refine ⟨_, by rw [List.getElem?_map, ez]; rfl, ?_⟩
  obtain ⟨t, ht, et⟩ := List.mem_map.mp (pm.mem_iff.mp (List.mem_map.mpr ⟨z, hm, rfl⟩))
  have e1 : t.1 = z.2.1 := congrArg Prod.fst et
  have e2 : t.2.1 = z.2.2 := congrArg Prod.snd et
  have g := getL_mem nk (List.mem_map.mpr ⟨t, ht, rfl⟩)
  have g : getL (mOf L) t.1 = some t.2.2 := g
  show Dp K H' (.ref z.1) (dItem z.2.1 ((getL (mOf L) z.2.1).getD zeroF))
  rw [← e1, g]
  refine .tup (sqT_of (hz z hm)) (.cons (by rw [e1]; exact .str _) (.cons ?_ .nil))
  rw [← e2]
  exact dp_mono (hide_le.trans s) _ _ (h.val t ht)
def spHeirs (K : PySem.W.Frag) (C : Addr) : Sp := fun vs H Q _ => ∃ (x : Addr) (al : V) (shs : List Sh) (ns : List Str), vs = [.ref x, al] ∧ WillAt K C H x shs ∧ WOk shs ∧ SqN K H al ns ∧ shs.length ≤ 6 ∧ (∀ s ∈ shs, ∀ g ∈ s.2, g.length ≤ 9) ∧
  ∀ r H', Same H H' → H r = none → Dp K H' (.ref r) (heirsD shs ns) → Q (.ref r) H'
theorem sum_map (shs : List Sh) : (shs.map (·.1)).sum = totalW shs := rfl
theorem len_addAll {m : Mf} {tk : List Str} {q : Fq} : (addAll m tk q).length ≤ m.length + tk.length := by
  unfold addAll
  induction tk generalizing m with
  | nil => exact Nat.le_refl _
  | cons n tk ih =>
    refine Nat.le_trans (ih (m := addOne m n q)) ?_
    have : (addOne m n q).length ≤ m.length + 1 := by
      unfold addOne putL
      split
      · rw [List.length_map]; omega
      · rw [List.length_append]; exact Nat.le_refl _
    rw [List.length_cons]
    omega
theorem plus_zero {a b : Int} (h : 0 < b) : plusM zeroF (lowM a b) = lowM a b := by
  rw [plusM_low h]
  show lowM (0 * b + a * 1) (1 * b) = _
  rw [Int.zero_mul, Int.zero_add, Int.mul_one, Int.one_mul]
theorem ok_heirs (W : TxtH K mg) : FnOk P w K mg base CX0 3 W.hF W.hD ["self", "alive"] (spHeirs K W.w.t.cWill) := by
  refine W.hFn.ok scDWillHeirs (fun vs H Q E h => ?_) (fun cdv A outer s H vs Q E hr h => ?_)
  · obtain ⟨x, al, shs, ns, rfl, _⟩ := h
    rfl
  · obtain ⟨x, al, shs, ns, rfl, h1, hw, hal, h6, h9, q⟩ := h
    refine ⟨_, (pss_cons (ps_set (i := 2) scDWillHeirs.nd rfl (.inl rfl) (pe_callB (cr_sum rfl) (by rfl) W.w.t.z_sum (show bootBuiltins "sum" = some (.builtin "sum") by decide +kernel) (pa_cons (pe_lc (own := [("weight", 3), ("_", 4)]) (g := (gTup K 2 (gCons (gName 3) (gCons (gName 4) gNil)))) (tt := tYes) rfl scDWillHeirs.nd (pi_seq (pe_fld (pv 0) rfl)) (blkOk_by (N := ["self", "alive", "total", "weight", "_", "parts", "groups", "takers", "part", "name"]) (sc := defScope sDWillHeirs) (by decide +kernel)) (fun _ _ _ _ _ => (pg_tup (n := 2) rfl (pgs_cons (pg_name (i := 3) scDWillHeirs.nd rfl (.inl rfl)) (pgs_cons (pg_name (i := 4) scDWillHeirs.nd rfl (.inl rfl)) pgs_nil)))) (fun _ _ _ _ _ => pts_nil) (fun _ _ _ _ _ => (pv 3))) pa_nil)))
      (pss_cons (ps_set (i := 5) scDWillHeirs.nd rfl (.inl rfl) pe_dnewK)
      (pss_cons (ps_for PassesOwn.never rfl (pi_seq (pe_fld (pv 0) rfl)) (pg_tup (n := 2) rfl (pgs_cons (pg_name (i := 3) scDWillHeirs.nd rfl (.inl rfl)) (pgs_cons (pg_name (i := 6) scDWillHeirs.nd rfl (.inl rfl)) pgs_nil)))
      (pss_cons (ps_set (i := 7) scDWillHeirs.nd rfl (.inl rfl) (pe_call (ok_takers W.w.t) (hr.mono (by decide)) (by rfl) W.w.t.dTakers.g W.w.t.dTakers.F.kp W.w.t.dTakers.b .nil pass0 (pa_cons (pv 6) (pa_cons (pv 1) pa_nil))))
      (pss_cons (ps_set (i := 8) scDWillHeirs.nd rfl (.inl rfl) (pe_call (ok_lowest W.w.t) (hr.mono (by decide)) (by rfl) W.w.t.dLowest.g W.w.t.dLowest.F.kp W.w.t.dLowest.b .nil pass0 (pa_cons (pv 3) (pa_cons (pe_op op_mulW (pv 2) (pe_callB call_lenL (by rfl) W.w.t.z_len (show bootBuiltins "len" = some (.builtin "len") by decide +kernel) (pa_cons (pv 7) pa_nil))) pa_nil))))
      (pss_one (ps_for PassesOwn.never rfl (pi_list (pv 7)) (pg_name (i := 9) scDWillHeirs.nd rfl (.inl rfl))
      (pss_one (ps_dput (hu_of hr) (pv 5) (pv 9) (pe_ifExp (pt_cmp (pc_din (hu_of hr) (pv 9) (pv 5))) (pe_call (ok_plus W.w.t) (hr.mono (by decide)) (by rfl) W.w.t.dPlus.g W.w.t.dPlus.F.kp W.w.t.dPlus.b .nil pass0 (pa_cons (pe_dget (hu_of hr) (pv 5) (pv 9) (fun _ _ => rfl)) (pa_cons (pv 8) pa_nil))) (pv 8)) rfl)))))))
      (pss_one (ps_ret (pe_callTy cr_tup (by rfl) W.w.t.z_tuple (show bootBuiltins "tuple" = some (.type "tuple") by decide +kernel) (pa_cons (pe_callB (cr_sortedItemsK rfl) (by rfl) W.w.t.z_sorted (show bootBuiltins "sorted" = some (.builtin "sorted") by decide +kernel) (pa_cons (pe_bm0 PySem.F.plainAttrs_dict PySem.F.slot_dict_items PySem.F.type_dict_items mt_itemsK (pv 5)) pa_nil)) pa_nil))))))), ?_⟩
    obtain ⟨dx, t, e1, d1⟩ := h1
    obtain ⟨xs, hs, ha⟩ : ∃ xs, SqT K H t xs ∧ DpAll K H xs (shs.map nSh) := by
      cases d1 with
      | tup h1 h2 => exact ⟨_, h1, h2⟩
    have hxl : xs.length = shs.length := by rw [dpA_len ha, List.length_map]
    simp only [and_assoc, tSeq, tAsg, tOp, tUn, rI, rI0, rU, tVar, tC, gName, L2.start, tIfS, tTest, tB, tCB, tCons, tNil, tIf, tRet, tRetN, tLst, tTup, tNext, tDrop, tNot, tNotV, tAnd, tOr, tAndV, tOrV, tPar, tAug, ipI, rEq, rNe, gSub, rSetL, rIxL, rIxT, tBM, tBM0, rAppend, rPopAt, gTup, gCons, gNil, tCall, tSl, tPart, tNoPart, rSlL, rCat, rEqD, rNeD, rIn, scal, List.map_cons, List.map_nil, List.length_cons, List.length_nil, List.length_map, List.cons_append, List.nil_append, List.append_nil, List.replicate, List.getElem?_cons_zero, List.getElem?_cons_succ, List.set_cons_zero, List.set_cons_succ, Option.some.injEq, exists_eq_left', exists_eq_left, exists_eq_right, exists_and_left, exists_and_right, V.int.injEq, V.ref.injEq, V.str.injEq, V.bl.injEq, reduceCtorEq, false_and, and_false, exists_false, or_false, false_or, true_and, and_true, List.cons.injEq, decide_eq_true_eq, cxOf, if_true, if_false, Bool.false_eq_true, Nat.reduceAdd, Nat.reduceSub, Nat.zero_add, Nat.add_sub_cancel_left, Nat.add_sub_cancel, Nat.sub_self, sFld, tFld, tFor_eq, tLc_eq, iRng1, iRng2, iList, iTup, iEnum, iEnumQ, rIsi, rIsiT, iSeq, wipe, tDNewK, tDIn, tDGet, sDPut, rSum, spTakers, spLowest, spPlus]
    refine ⟨_, _, _, e1, W.w.cl, W.w.nS, _, rfl, t, rfl, _, _, .inr ⟨rfl, hs⟩, fun D nD => ?_⟩
    refine lg_pure (fun i y _ => ∃ s, shs[i]? = some s ∧ y = .int s.1) (.inr ⟨rfl, hs⟩) (small1000 (by omega)) nD (fun _ _ _ _ _ h => h) (fun i x2 H2 Φ hx s2 hD hΦ => ?_) (fun ys H2 s2 eD hl2 hY => ?_)
    · obtain ⟨d, ed, hx2⟩ := dpA_get (dpA_mono s2 _ _ ha) hx
      rw [List.getElem?_map] at ed
      obtain ⟨g, eg, rfl⟩ := Option.map_eq_some_iff.mp ed
      obtain ⟨b, v1, v2, rfl, hb, a1, a2⟩ := dp_tup2 hx2
      cases a1
      simp only [and_assoc, tSeq, tAsg, tOp, tUn, rI, rI0, rU, tVar, tC, gName, L2.start, tIfS, tTest, tB, tCB, tCons, tNil, tIf, tRet, tRetN, tLst, tTup, tNext, tDrop, tNot, tNotV, tAnd, tOr, tAndV, tOrV, tPar, tAug, ipI, rEq, rNe, gSub, rSetL, rIxL, rIxT, tBM, tBM0, rAppend, rPopAt, gTup, gCons, gNil, tCall, tSl, tPart, tNoPart, rSlL, rCat, rEqD, rNeD, rIn, scal, List.map_cons, List.map_nil, List.length_cons, List.length_nil, List.length_map, List.cons_append, List.nil_append, List.append_nil, List.replicate, List.getElem?_cons_zero, List.getElem?_cons_succ, List.set_cons_zero, List.set_cons_succ, Option.some.injEq, exists_eq_left', exists_eq_left, exists_eq_right, exists_and_left, exists_and_right, V.int.injEq, V.ref.injEq, V.str.injEq, V.bl.injEq, reduceCtorEq, false_and, and_false, exists_false, or_false, false_or, true_and, and_true, List.cons.injEq, decide_eq_true_eq, cxOf, if_true, if_false, Bool.false_eq_true, Nat.reduceAdd, Nat.reduceSub, Nat.zero_add, Nat.add_sub_cancel_left, Nat.add_sub_cancel, Nat.sub_self, sFld, tFld, tFor_eq, tLc_eq, iRng1, iRng2, iList, iTup, iEnum, iEnumQ, rIsi, rIsiT, iSeq, wipe, tDNewK, tDIn, tDGet, sDPut, rSum]
      exact ⟨_, hb, rfl, _, _, rfl, _, _, rfl, rfl, hΦ _ _ (Same.refl _) ⟨g, eg, rfl⟩⟩
    · have ey : ys = (shs.map (·.1)).map V.int := by
        rw [List.map_map]
        exact ys_map (by rw [hl2, hxl]) hY
      subst ey
      refine ⟨_, sqL_of eD, fun d nd => ?_⟩
      rw [sum_map]
      have nd0 : H d = none := s2.free nd
      have s3 : Same H (upd H2 d (.dK [])) := s2.trans (same_upd nd)
      have f3 : FqD K 1 (upd H2 d (.dK [])) d [] := ⟨upd_same, fun _ h => (nomatch h), fun _ h => (nomatch h)⟩
      generalize upd H2 d (.dK []) = H3 at s3 f3 ⊢
      refine ⟨_, _, _, s3 _ _ e1, W.w.cl, W.w.nS, _, rfl, t, rfl, _, _, .inr ⟨rfl, Same.seqT s3 hs⟩, ?_⟩
      have tp := total_pos (fun s hs => (hw.ok s hs).1.w1) hw.ne
      have tl : totalW shs ≤ 999999999 * shs.length := total_le hw.w
      refine fg_tup (xs := xs) (fun i σ H4 => ∃ (o3 o4 o6 o7 o8 o9 : Option V) (L : L3), σ = [some (.ref x), some al, some (.int (totalW shs)), o3, o4, some (.ref d), o6, o7, o8, o9] ∧ Same H H4 ∧ FqD K (43 * (9 * i) + 1) H4 d L ∧ mOf L = (shs.take i).foldl (stepP (totalW shs) ns) [] ∧ L.length ≤ 9 * i)
        ⟨none, none, none, none, none, none, [], rfl, s3, f3, rfl, Nat.le_refl _⟩ (fun i σ H4 _ ⟨_, _, _, _, _, _, _, _, s, _⟩ => Same.seqT s hs) ?_ ?_
      · rintro i x2 σ H4 hx ⟨o3, o4, o6, o7, o8, o9, L, rfl, s4, f4, m4, l4⟩
        obtain ⟨dd, ed, hx2⟩ := dpA_get (dpA_mono s4 _ _ ha) hx
        rw [List.getElem?_map] at ed
        obtain ⟨g, eg, rfl⟩ := Option.map_eq_some_iff.mp ed
        obtain ⟨b, v1, v2, rfl, hb, a1, a2⟩ := dp_tup2 hx2
        cases a1
        simp only [and_assoc, tSeq, tAsg, tOp, tUn, rI, rI0, rU, tVar, tC, gName, L2.start, tIfS, tTest, tB, tCB, tCons, tNil, tIf, tRet, tRetN, tLst, tTup, tNext, tDrop, tNot, tNotV, tAnd, tOr, tAndV, tOrV, tPar, tAug, ipI, rEq, rNe, gSub, rSetL, rIxL, rIxT, tBM, tBM0, rAppend, rPopAt, gTup, gCons, gNil, tCall, tSl, tPart, tNoPart, rSlL, rCat, rEqD, rNeD, rIn, scal, List.map_cons, List.map_nil, List.length_cons, List.length_nil, List.length_map, List.cons_append, List.nil_append, List.append_nil, List.replicate, List.getElem?_cons_zero, List.getElem?_cons_succ, List.set_cons_zero, List.set_cons_succ, Option.some.injEq, exists_eq_left', exists_eq_left, exists_eq_right, exists_and_left, exists_and_right, V.int.injEq, V.ref.injEq, V.str.injEq, V.bl.injEq, reduceCtorEq, false_and, and_false, exists_false, or_false, false_or, true_and, and_true, List.cons.injEq, decide_eq_true_eq, cxOf, if_true, if_false, Bool.false_eq_true, Nat.reduceAdd, Nat.reduceSub, Nat.zero_add, Nat.add_sub_cancel_left, Nat.add_sub_cancel, Nat.sub_self, sFld, tFld, tFor_eq, tLc_eq, iRng1, iRng2, iList, iTup, iEnum, iEnumQ, rIsi, rIsiT, iSeq, wipe, tDNewK, tDIn, tDGet, sDPut, rSum, spTakers, spLowest, spPlus]
        have gm := List.mem_of_getElem? eg
        have il := (List.getElem?_eq_some_iff.mp eg).1
        have gok := hw.ok g gm
        have glen : ∀ k ∈ g.2.map sortG, k.length ≤ 9 := fun k hk => by
          obtain ⟨k0, h0, rfl⟩ := List.mem_map.mp hk
          rw [(sortG_perm k0).length_eq]
          exact h9 g gm k0 h0
        refine ⟨_, hb, rfl, _, _, rfl, _, _, rfl, rfl, g.2.map sortG, by rw [List.map_map]; exact a2, ns, hal.mono s4, by rw [List.length_map]; have := gok.2.1; omega, fun k hk => by have := glen k hk; omega, fun r H5 s5 nr er => ⟨_, sqL_of er, ?_⟩⟩
        obtain ⟨k1, k2⟩ := takers_len (ns := ns) glen (by decide)
        have stp : stepP (totalW shs) ns (mOf L) g = addAll (mOf L) (takersM (g.2.map sortG) ns) (lowM g.1 (totalW shs * (takersM (g.2.map sortG) ns).length)) := rfl
        rw [List.length_map]
        generalize takersM (g.2.map sortG) ns = tk at er k1 k2 stp ⊢
        have tT : totalW shs ≤ 5999999994 := by
          have : (999999999 : Int) * shs.length ≤ 999999999 * 6 := by omega
          omega
        have tb : totalW shs * (tk.length : Int) ≤ 5999999994 * 9 := Int.mul_le_mul tT (by omega) (by omega) (by omega)
        have tq : 0 < totalW shs * (tk.length : Int) := Int.mul_pos tp (by omega)
        have two : (5999999994 : Int) * 9 < 2 ^ 42 := by decide
        have fq : FrOk 42 (lowM g.1 (totalW shs * tk.length)) := lowM_ok (by have := gok.1.w1; omega) tq (by have := hw.w g gm; omega) (by omega)
        refine ⟨wide_mul (a := 42) (b := 42) (nat_of (by omega) (by omega)) (nat_of (by omega) (by omega)) (by decide) (by decide) (by decide), g.1, rfl, by have := gok.1.w1; omega, tq, Int.lt_of_lt_of_le (by omega) (pow_i (show 42 ≤ 9000 by decide)), fun u H6 s6 nu eu => ⟨⟨_, sqL_of (s6 _ _ er)⟩, ?_⟩⟩
        have pz : plusM zeroF (lowM g.1 (totalW shs * tk.length)) = lowM g.1 (totalW shs * tk.length) := plus_zero tq
        generalize lowM g.1 (totalW shs * tk.length) = pt at fq eu stp pz ⊢
        have s46 := s5.trans s6
        have f6 := f4.same s46
        have rd : r ≠ d := fun z => by rw [z, f4.at_] at nr; cases nr
        have ud : u ≠ d := fun z => by rw [z, s5 _ _ f4.at_] at nu; cases nu
        have er6 : hide d H6 r = some (.lst (tk.map V.str)) := by rw [hide_ne rd]; exact s6 _ _ er
        have eu6 : hide d H6 u = some (.tup [.int pt.1, .int pt.2]) := by rw [hide_ne ud]; exact eu
        have keep : ∀ {H7 : Hp} {o : HO}, Same H H7 → Same H (upd H7 d o) := fun s b o e => by rw [upd_ne (ne_of_none e nd0)]; exact s b o e
        refine fg_list (xs := tk.map V.str) (fun j σ H7 => ∃ (o9 : Option V) (L7 : L3), σ = [some (.ref x), some al, some (.int (totalW shs)), some (.int g.1), o4, some (.ref d), some v2, some (.ref r), some (.ref u), o9] ∧ Same H H7 ∧ Same (hide d H6) (hide d H7) ∧ FqD K (43 * (9 * i + j) + 1) H7 d L7 ∧ mOf L7 = addAll (mOf L) (tk.take j) pt ∧ L7.length ≤ 9 * i + j)
          ⟨o9, L, rfl, s4.trans s46, Same.refl _, f6, rfl, l4⟩ (fun j σ H7 _ ⟨_, _, _, _, s7, _⟩ => hide_le.seq (s7.seq (sqL_of er6))) ?_ ?_
        · rintro j n σ H7 hn ⟨o9, L7, rfl, s7, h7, f7, m7, l7⟩
          rw [List.getElem?_map] at hn
          obtain ⟨nm, en, rfl⟩ := Option.map_eq_some_iff.mp hn
          have jl := (List.getElem?_eq_some_iff.mp en).1
          simp only [and_assoc, tSeq, tAsg, tOp, tUn, rI, rI0, rU, tVar, tC, gName, L2.start, tIfS, tTest, tB, tCB, tCons, tNil, tIf, tRet, tRetN, tLst, tTup, tNext, tDrop, tNot, tNotV, tAnd, tOr, tAndV, tOrV, tPar, tAug, ipI, rEq, rNe, gSub, rSetL, rIxL, rIxT, tBM, tBM0, rAppend, rPopAt, gTup, gCons, gNil, tCall, tSl, tPart, tNoPart, rSlL, rCat, rEqD, rNeD, rIn, scal, List.map_cons, List.map_nil, List.length_cons, List.length_nil, List.length_map, List.cons_append, List.nil_append, List.append_nil, List.replicate, List.getElem?_cons_zero, List.getElem?_cons_succ, List.set_cons_zero, List.set_cons_succ, Option.some.injEq, exists_eq_left', exists_eq_left, exists_eq_right, exists_and_left, exists_and_right, V.int.injEq, V.ref.injEq, V.str.injEq, V.bl.injEq, reduceCtorEq, false_and, and_false, exists_false, or_false, false_or, true_and, and_true, List.cons.injEq, decide_eq_true_eq, cxOf, if_true, if_false, Bool.false_eq_true, Nat.reduceAdd, Nat.reduceSub, Nat.zero_add, Nat.add_sub_cancel_left, Nat.add_sub_cancel, Nat.sub_self, sFld, tFld, tFor_eq, tLc_eq, iRng1, iRng2, iList, iTup, iEnum, iEnumQ, rIsi, rIsiT, iSeq, wipe, tDNewK, tDIn, tDGet, sDPut, rSum, spPlus]
          have dp7 : ∀ {v : V} {q : Fq}, Dp K (hide d H7) v (dFr q) → Dp K H7 v (dFr q) := fun h => dp_mono hide_le _ _ h
          have tkj : tk.take (j + 1) = tk.take j ++ [nm] := by rw [List.take_add_one, en]; rfl
          have fold : ∀ m : Mf, addAll m (tk.take (j + 1)) pt = addOne (addAll m (tk.take j) pt) nm pt := fun m => by
            rw [tkj]
            unfold addAll
            rw [List.foldl_append]
            rfl
          have lput : ∀ v : Addr × Fq, (putL L7 nm v).length ≤ L7.length + 1 := fun v => by
            unfold putL
            split
            · rw [List.length_map]; omega
            · rw [List.length_append]; exact Nat.le_refl _
          refine ⟨_, DGet.k (k := Sum.inr nm) f7.at_, ?_⟩
          rw [valV_ent3]
          cases eg7 : getL L7 nm with
          | some v7 =>
            obtain ⟨a7, q7⟩ := v7
            have mem7 := getL_some eg7
            have gm7 : getL (mOf L7) nm = some q7 := by rw [mOf_get, eg7]; rfl
            have g2 := f7.bd _ mem7
            refine (if_pos rfl).mpr ?_
            refine ⟨.ref a7, by have := DGet.k (k := Sum.inr nm) f7.at_; rw [valV_ent3, eg7] at this; exact this, q7, dp7 (f7.val _ mem7), pt, dp7 (dFr_new (h7 _ _ eu6)), _, g2, 42, fq, by omega, fun a H8 s8 na ea => ?_⟩
            have f8 := f7.same s8
            have ad : a ≠ d := fun z => by rw [z, f7.at_] at na; cases na
            refine ⟨_, DPut.k (k := Sum.inr nm) f8.at_ (small1000 (by rw [List.length_map]; omega)), keep (s7.trans s8), h7.trans ((hide_same s8).trans hide_upd), putL L7 nm (a, plusM q7 pt), ?_, ?_, ?_⟩
            · refine (f8.mono (by omega)).put nm (dFr_new (by rw [hide_ne ad]; exact ea)) ((plusM_ok g2 fq).mono (by omega))
            · rw [mOf_put, fold, ← m7]
              unfold addOne
              rw [gm7]
              rfl
            · have := lput (a, plusM q7 pt)
              omega
          | none =>
            have gm7 : getL (mOf L7) nm = none := by rw [mOf_get, eg7]; rfl
            refine (if_neg Bool.false_ne_true).mpr ?_
            refine ⟨_, DPut.k (k := Sum.inr nm) f7.at_ (small1000 (by rw [List.length_map]; omega)), keep s7, h7.trans hide_upd, putL L7 nm (u, pt), ?_, ?_, ?_⟩
            · exact (f7.mono (by omega)).put nm (dFr_new (h7 _ _ eu6)) (fq.mono (by omega))
            · rw [mOf_put, fold, ← m7]
              unfold addOne
              rw [gm7]
              show _ = putL (mOf L7) nm (plusM zeroF pt)
              rw [pz]
            · have := lput (u, pt)
              omega
        · rintro σ H7 ⟨o9, L7, rfl, s7, h7, f7, m7, l7⟩
          rw [List.length_map] at f7 m7 l7
          refine ⟨⟨_, _, _, _, _, _, rfl⟩, s7, L7, f7.mono (by omega), ?_, by omega⟩
          rw [List.take_of_length_le (Nat.le_refl _)] at m7
          rw [List.take_add_one, eg, m7, ← stp, m4]
          show _ = List.foldl _ _ (shs.take i ++ [g])
          rw [List.foldl_append]
          rfl
      · rintro σ H4 ⟨o3, o4, o6, o7, o8, o9, L, rfl, s4, f4, m4, l4⟩
        simp only [and_assoc, tSeq, tAsg, tOp, tUn, rI, rI0, rU, tVar, tC, gName, L2.start, tIfS, tTest, tB, tCB, tCons, tNil, tIf, tRet, tRetN, tLst, tTup, tNext, tDrop, tNot, tNotV, tAnd, tOr, tAndV, tOrV, tPar, tAug, ipI, rEq, rNe, gSub, rSetL, rIxL, rIxT, tBM, tBM0, rAppend, rPopAt, gTup, gCons, gNil, tCall, tSl, tPart, tNoPart, rSlL, rCat, rEqD, rNeD, rIn, scal, List.map_cons, List.map_nil, List.length_cons, List.length_nil, List.length_map, List.cons_append, List.nil_append, List.append_nil, List.replicate, List.getElem?_cons_zero, List.getElem?_cons_succ, List.set_cons_zero, List.set_cons_succ, Option.some.injEq, exists_eq_left', exists_eq_left, exists_eq_right, exists_and_left, exists_and_right, V.int.injEq, V.ref.injEq, V.str.injEq, V.bl.injEq, reduceCtorEq, false_and, and_false, exists_false, or_false, false_or, true_and, and_true, List.cons.injEq, decide_eq_true_eq, cxOf, if_true, if_false, Bool.false_eq_true, Nat.reduceAdd, Nat.reduceSub, Nat.zero_add, Nat.add_sub_cancel_left, Nat.add_sub_cancel, Nat.sub_self, sFld, tFld, tFor_eq, tLc_eq, iRng1, iRng2, iList, iTup, iEnum, iEnumQ, rIsi, rIsiT, iSeq, wipe, tDNewK, tDIn, tDGet, sDPut, rSum, rItemsK, rSortItK, rTupOf]
        refine ⟨.inr (.inr (.inl ⟨rfl, .inl ⟨_, f4.at_⟩⟩)), ⟨_, f4.at_⟩, fun p np => ?_⟩
        have sp := same_upd (o := DX.itemsO p d) np
        refine ⟨d, upd_same, L.map fun t => (t.1, t.2.1), ?_, by rw [List.length_map]; omega, fun H5 l ps ext pm up nk nl el hz => ⟨_, .inl ⟨sqL_of el, fun l2 nl2 => ?_⟩⟩⟩
        · rw [List.map_map]
          exact sp _ _ f4.at_
        · have sx : Same H4 H5 := fun b o e => ext b o (sp b o e)
          have s45 := sx.trans (same_upd (o := .tup (ps.map fun z => V.ref z.1)) nl2)
          refine q l2 _ (s4.trans s45) ((s4.trans sx).free nl2) ?_
          have it := f4.items s45 pm up nk (fun z hz2 => same_upd nl2 _ _ (hz z hz2)) (sqT_of (a := l2) upd_same)
          rw [m4, List.take_of_length_le (by omega)] at it
          exact it

end
end He

namespace He
open PySem PySem.Spec PyProof.Rows L2
section
variable {P : Program} {w : World} {K : PySem.W.Frag} {mg : Str → Option Value} {base : Heap}

/-! ### the law's own fractions -/
theorem gcdI_step {a b : Int} (h0 : 0 ≤ a) (h1 : 0 < b) : gcdI b (a % b) = gcdI a b := by
  unfold gcdI
  have e : (a % b).natAbs = a.natAbs % b.natAbs := by
    obtain ⟨x, rfl⟩ := Int.eq_ofNat_of_zero_le h0
    obtain ⟨y, rfl⟩ := Int.eq_ofNat_of_zero_le (show 0 ≤ b by omega)
    rfl
  rw [e, Nat.gcd_comm b.natAbs, ← Nat.gcd_rec, Nat.gcd_comm]
def spDivisor (K : PySem.W.Frag) : Sp := fun vs H Q _ => ∃ (a b : Int), vs = [.int a, .int b] ∧ 0 ≤ a ∧ 0 ≤ b ∧ Q (.int (gcdI a b)) H
theorem ok_divisor (T : TxtG K mg) : FnOk P w K mg base CX0 1 T.dLawDivisor.f T.dLawDivisor.fd ["_law_one", "_law_other"] (spDivisor K) := by
  refine T.dLawDivisor.F.ok scDLawDivisor (fun vs H Q E h => ?_) (fun cdv A outer s H vs Q E hr h => ?_)
  · obtain ⟨a, b, rfl, _⟩ := h
    rfl
  · obtain ⟨a, b, rfl, h0, h1, q⟩ := h
    refine ⟨_, (pss_cons (ps_while PassesOwn.never (pt_cmpR op_ne (pv 1) pe_int (nomark _))
      (pss_one (ps_par (i := 0) (j := 1) (by rfl) scDLawDivisor.nd rfl rfl (by decide) rfl rfl (pa_cons (pv 1) (pa_cons (pe_op op_mod (pe_callTy call_intI (by rfl) T.z_int (show bootBuiltins "int" = some (.type "int") by decide +kernel) (pa_cons (pv 0) pa_nil)) (pv 1)) pa_nil)) (by rfl))))
      (pss_one (ps_ret (pv 0)))), ?_⟩
    simp only [and_assoc, tSeq, tAsg, tOp, tUn, rI, rI0, rU, tVar, tC, gName, L2.start, tIfS, tTest, tB, tCB, tCons, tNil, tIf, tRet, tRetN, tLst, tTup, tNext, tDrop, tNot, tNotV, tAnd, tOr, tAndV, tOrV, tPar, tAug, ipI, rEq, rNe, gSub, rSetL, rIxL, rIxT, tBM, tBM0, rAppend, rPopAt, gTup, gCons, gNil, tCall, tSl, tPart, tNoPart, rSlL, rCat, rEqD, rNeD, rIn, scal, List.map_cons, List.map_nil, List.length_cons, List.length_nil, List.length_map, List.cons_append, List.nil_append, List.append_nil, List.replicate, List.getElem?_cons_zero, List.getElem?_cons_succ, List.set_cons_zero, List.set_cons_succ, Option.some.injEq, exists_eq_left', exists_eq_left, exists_eq_right, exists_and_left, exists_and_right, V.int.injEq, V.ref.injEq, V.str.injEq, V.bl.injEq, reduceCtorEq, false_and, and_false, exists_false, or_false, false_or, true_and, and_true, List.cons.injEq, decide_eq_true_eq, cxOf, if_true, if_false, Bool.false_eq_true, Nat.reduceAdd, Nat.reduceSub, Nat.zero_add, Nat.add_sub_cancel_left, Nat.add_sub_cancel, Nat.sub_self, sFld, tFld, tFor_eq, tLc_eq, iRng1, iRng2, iList, iTup, iEnum, iEnumQ, rIsi, rIsiT, iSeq, wipe, tDNewK, tDGet2, sDPut, rSum]
    refine while_by (fun σ H1 => ∃ x y : Int, σ = [some (.int x), some (.int y)] ∧ 0 ≤ x ∧ 0 ≤ y ∧ gcdI x y = gcdI a b ∧ H1 = H) (fun σ _ => match σ with
      | [_, some (.int y)] => y.toNat
      | _ => 0) ⟨a, b, rfl, h0, h1, rfl, rfl⟩ ?_ ?_
    · rintro σ H1 ⟨x, y, rfl, x0, y0, e, rfl⟩
      simp only [and_assoc, tSeq, tAsg, tOp, tUn, rI, rI0, rU, tVar, tC, gName, L2.start, tIfS, tTest, tB, tCB, tCons, tNil, tIf, tRet, tRetN, tLst, tTup, tNext, tDrop, tNot, tNotV, tAnd, tOr, tAndV, tOrV, tPar, tAug, ipI, rEq, rNe, gSub, rSetL, rIxL, rIxT, tBM, tBM0, rAppend, rPopAt, gTup, gCons, gNil, tCall, tSl, tPart, tNoPart, rSlL, rCat, rEqD, rNeD, rIn, scal, List.map_cons, List.map_nil, List.length_cons, List.length_nil, List.length_map, List.cons_append, List.nil_append, List.append_nil, List.replicate, List.getElem?_cons_zero, List.getElem?_cons_succ, List.set_cons_zero, List.set_cons_succ, Option.some.injEq, exists_eq_left', exists_eq_left, exists_eq_right, exists_and_left, exists_and_right, V.int.injEq, V.ref.injEq, V.str.injEq, V.bl.injEq, reduceCtorEq, false_and, and_false, exists_false, or_false, false_or, true_and, and_true, List.cons.injEq, decide_eq_true_eq, cxOf, if_true, if_false, Bool.false_eq_true, Nat.reduceAdd, Nat.reduceSub, Nat.zero_add, Nat.add_sub_cancel_left, Nat.add_sub_cancel, Nat.sub_self, sFld, tFld, tFor_eq, tLc_eq, iRng1, iRng2, iList, iTup, iEnum, iEnumQ, rIsi, rIsiT, iSeq, wipe, tDNewK, tDGet2, sDPut, rSum]
      by_cases h : y = 0
      · rw [if_neg (by simp [h])]
        subst h
        have e2 : gcdI x 0 = x := by
          unfold gcdI
          rw [show (0 : Int).natAbs = 0 from rfl, Nat.gcd_zero_right]
          omega
        rw [← e, e2] at q
        exact q
      · rw [if_pos (by simpa using h)]
        have y1 : 0 < y := by omega
        have lt := Int.emod_lt_of_pos x y1
        have ge := Int.emod_nonneg x h
        exact ⟨y1, by omega, ge, by rw [gcdI_step x0 y1]; exact e, by omega⟩
    · intro σ H1 Q1 Q2 hQ h
      simp only [and_assoc, tSeq, tAsg, tOp, tUn, rI, rI0, rU, tVar, tC, gName, L2.start, tIfS, tTest, tB, tCB, tCons, tNil, tIf, tRet, tRetN, tLst, tTup, tNext, tDrop, tNot, tNotV, tAnd, tOr, tAndV, tOrV, tPar, tAug, ipI, rEq, rNe, gSub, rSetL, rIxL, rIxT, tBM, tBM0, rAppend, rPopAt, gTup, gCons, gNil, tCall, tSl, tPart, tNoPart, rSlL, rCat, rEqD, rNeD, rIn, scal, List.map_cons, List.map_nil, List.length_cons, List.length_nil, List.length_map, List.cons_append, List.nil_append, List.append_nil, List.replicate, List.getElem?_cons_zero, List.getElem?_cons_succ, List.set_cons_zero, List.set_cons_succ, Option.some.injEq, exists_eq_left', exists_eq_left, exists_eq_right, exists_and_left, exists_and_right, V.int.injEq, V.ref.injEq, V.str.injEq, V.bl.injEq, reduceCtorEq, false_and, and_false, exists_false, or_false, false_or, true_and, and_true, List.cons.injEq, decide_eq_true_eq, cxOf, if_true, if_false, Bool.false_eq_true, Nat.reduceAdd, Nat.reduceSub, Nat.zero_add, Nat.add_sub_cancel_left, Nat.add_sub_cancel, Nat.sub_self, sFld, tFld, tFor_eq, tLc_eq, iRng1, iRng2, iList, iTup, iEnum, iEnumQ, rIsi, rIsiT, iSeq, wipe, tDNewK, tDGet2, sDPut, rSum] at h ⊢
      obtain ⟨v, hv, hz, k⟩ := h
      exact ⟨v, hv, hz, hQ _ _ k⟩
theorem gcdI_abs {a b : Int} (h : 0 ≤ a) : gcdI (if a < 0 then -a else a) b = gcdI a b := by rw [if_neg (by omega)]
def spRatio (K : PySem.W.Frag) : Sp := spLowest K
theorem ok_ratio (T : TxtG K mg) : FnOk P w K mg base CX0 2 T.dLawRatio.f T.dLawRatio.fd ["_law_upper", "_law_lower"] (spLowest K) := by
  refine T.dLawRatio.F.ok scDLawRatio (fun vs H Q E h => ?_) (fun cdv A outer s H vs Q E hr h => ?_)
  · obtain ⟨a, b, rfl, _⟩ := h
    rfl
  · obtain ⟨a, b, rfl, h0, h1, h2, q⟩ := h
    refine ⟨_, (pss_cons (ps_set (i := 2) scDLawRatio.nd rfl (.inl rfl) (pe_call (ok_divisor T) (hr.mono (by decide)) (by rfl) T.dLawDivisor.g T.dLawDivisor.F.kp T.dLawDivisor.b .nil pass0 (pa_cons (pe_callB call_abs (by rfl) T.z_abs (show bootBuiltins "abs" = some (.builtin "abs") by decide +kernel) (pa_cons (pv 0) pa_nil)) (pa_cons (pv 1) pa_nil))))
      (pss_one (ps_ret (pe_tup (pa_cons (pe_op op_fdivW (pv 0) (pv 2)) (pa_cons (pe_op op_fdivW (pv 1) (pv 2)) pa_nil)))))), ?_⟩
    simp only [and_assoc, tSeq, tAsg, tOp, tUn, rI, rI0, rU, tVar, tC, gName, L2.start, tIfS, tTest, tB, tCB, tCons, tNil, tIf, tRet, tRetN, tLst, tTup, tNext, tDrop, tNot, tNotV, tAnd, tOr, tAndV, tOrV, tPar, tAug, ipI, rEq, rNe, gSub, rSetL, rIxL, rIxT, tBM, tBM0, rAppend, rPopAt, gTup, gCons, gNil, tCall, tSl, tPart, tNoPart, rSlL, rCat, rEqD, rNeD, rIn, scal, List.map_cons, List.map_nil, List.length_cons, List.length_nil, List.length_map, List.cons_append, List.nil_append, List.append_nil, List.replicate, List.getElem?_cons_zero, List.getElem?_cons_succ, List.set_cons_zero, List.set_cons_succ, Option.some.injEq, exists_eq_left', exists_eq_left, exists_eq_right, exists_and_left, exists_and_right, V.int.injEq, V.ref.injEq, V.str.injEq, V.bl.injEq, reduceCtorEq, false_and, and_false, exists_false, or_false, false_or, true_and, and_true, List.cons.injEq, decide_eq_true_eq, cxOf, if_true, if_false, Bool.false_eq_true, Nat.reduceAdd, Nat.reduceSub, Nat.zero_add, Nat.add_sub_cancel_left, Nat.add_sub_cancel, Nat.sub_self, sFld, tFld, tFor_eq, tLc_eq, iRng1, iRng2, iList, iTup, iEnum, iEnumQ, rIsi, rIsiT, iSeq, wipe, tDNewK, tDGet2, sDPut, rSum, spDivisor]
    have g := gcdI_pos (a := a) h1
    have w : CDivW a (gcdI a b) := wide_div g (nat_of (by omega) (Int.lt_of_le_of_lt (gcdI_le h1) h2)) (by decide) (by decide)
    rw [if_neg (show ¬ a < 0 by omega)]
    refine ⟨h0, Int.le_of_lt h1, w, w, by decide, fun t nt => ?_⟩
    exact q t _ (same_upd nt) nt upd_same
theorem ok_lplus (T : TxtG K mg) : FnOk P w K mg base CX0 3 T.dLawPlus.f T.dLawPlus.fd ["_law_one", "_law_other"] (spPlus K) := by
  refine T.dLawPlus.F.ok scDLawPlus (fun vs H Q E h => ?_) (fun cdv A outer s H vs Q E hr h => ?_)
  · obtain ⟨x, y, p, r, n, m, rfl, _⟩ := h
    rfl
  · obtain ⟨x, y, p, r, n, m, rfl, hx, hy, h1, h2, hn, q⟩ := h
    refine ⟨_, (pss_one (ps_ret (pe_call (ok_ratio T) (hr.mono (by decide)) (by rfl) T.dLawRatio.g T.dLawRatio.F.kp T.dLawRatio.b .nil pass0 (pa_cons (pe_op op_add (pe_op op_mulW (pe_ix ix_tup (pv 0) pe_int (fun _ _ => rfl)) (pe_ix ix_tup (pv 1) pe_int (fun _ _ => rfl))) (pe_op op_mulW (pe_ix ix_tup (pv 1) pe_int (fun _ _ => rfl)) (pe_ix ix_tup (pv 0) pe_int (fun _ _ => rfl)))) (pa_cons (pe_op op_mulW (pe_ix ix_tup (pv 0) pe_int (fun _ _ => rfl)) (pe_ix ix_tup (pv 1) pe_int (fun _ _ => rfl))) pa_nil))))), ?_⟩
    obtain ⟨a, rfl, ha⟩ := dFr_inv hx
    obtain ⟨b, rfl, hb⟩ := dFr_inv hy
    simp only [and_assoc, tSeq, tAsg, tOp, tUn, rI, rI0, rU, tVar, tC, gName, L2.start, tIfS, tTest, tB, tCB, tCons, tNil, tIf, tRet, tRetN, tLst, tTup, tNext, tDrop, tNot, tNotV, tAnd, tOr, tAndV, tOrV, tPar, tAug, ipI, rEq, rNe, gSub, rSetL, rIxL, rIxT, tBM, tBM0, rAppend, rPopAt, gTup, gCons, gNil, tCall, tSl, tPart, tNoPart, rSlL, rCat, rEqD, rNeD, rIn, scal, List.map_cons, List.map_nil, List.length_cons, List.length_nil, List.length_map, List.cons_append, List.nil_append, List.append_nil, List.replicate, List.getElem?_cons_zero, List.getElem?_cons_succ, List.set_cons_zero, List.set_cons_succ, Option.some.injEq, exists_eq_left', exists_eq_left, exists_eq_right, exists_and_left, exists_and_right, V.int.injEq, V.ref.injEq, V.str.injEq, V.bl.injEq, reduceCtorEq, false_and, and_false, exists_false, or_false, false_or, true_and, and_true, List.cons.injEq, decide_eq_true_eq, cxOf, if_true, if_false, Bool.false_eq_true, Nat.reduceAdd, Nat.reduceSub, Nat.zero_add, Nat.add_sub_cancel_left, Nat.add_sub_cancel, Nat.sub_self, sFld, tFld, tFor_eq, tLc_eq, iRng1, iRng2, iList, iTup, iEnum, iEnumQ, rIsi, rIsiT, iSeq, wipe, tDNewK, tDGet2, sDPut, rSum, spLowest]
    have mw : ∀ {i j : Int} {n m : Nat}, n + m + 1 ≤ 9000 → 0 ≤ i → i < 2 ^ n → 0 ≤ j → j < 2 ^ m → CMulW i j := fun {i j n m} l i0 i1 j0 j1 =>
      wide_mul (nat_of i0 (Int.lt_of_lt_of_le i1 (pow_i (Nat.le_succ n)))) (nat_of j0 (Int.lt_of_lt_of_le j1 (pow_i (Nat.le_succ m)))) (by omega) (by omega) (by omega)
    refine ⟨_, ha, _, rfl, _, hb, _, rfl, _, rfl, _, rfl, mw hn h1.a0 h1.a1 (Int.le_of_lt h2.b0) h2.b1, _, hb, _, rfl, _, ha, _, rfl, _, rfl, _, rfl, mw (by omega) h2.a0 h2.a1 (Int.le_of_lt h1.b0) h1.b1, _, ha, _, rfl, _, hb, _, rfl, _, rfl, _, rfl, mw hn (Int.le_of_lt h1.b0) h1.b1 (Int.le_of_lt h2.b0) h2.b1, ?_⟩
    exact ⟨cross0 h1 h2, Int.mul_pos h1.b0 h2.b0, Int.lt_of_lt_of_le (den_lt h1 h2) (pow_i hn), fun t H' s nt ht => q t H' s nt ht⟩

end
end He

namespace He
open PySem PySem.Spec PyProof.Rows L2
section
variable {P : Program} {w : World} {K : PySem.W.Frag} {mg : Str → Option Value} {base : Heap}

/-! ### the law's own heirs -/
def spLHeirs (K : PySem.W.Frag) : Sp := fun vs H Q _ => ∃ (a : Addr) (al : V) (ws : List V) (shs : List Sh) (ns : List Str), vs = [.ref a, al] ∧ SqL K H a ws ∧ DpAll K H ws (shs.map dSh) ∧ WOk shs ∧ SqN K H al ns ∧ shs.length ≤ 6 ∧ (∀ s ∈ shs, ∀ g ∈ s.2, g.length ≤ 9) ∧
  ∀ d H' L, Same H H' → H d = none → FqD K (43 * (9 * shs.length) + 1) H' d L → L.length ≤ 54 → mOf L = heirsL shs ns → Q (.ref d) H'
theorem takers_cons (g : List Str) (gs : List (List Str)) (ns : List Str) : takersM (g :: gs) ns = if hitB ns g = true then g.filter (fun n => decide (n ∈ ns)) else takersM gs ns := by
  unfold takersM
  by_cases h : hitB ns g = true
  · rw [List.find?_cons_of_pos h, if_pos h]
  · rw [List.find?_cons_of_neg h, if_neg h]
theorem hit_filter (ns g : List Str) : (g.filter fun n => decide (n ∈ ns)).isEmpty = !hitB ns g := by
  rw [Bool.eq_iff_iff, List.isEmpty_iff, List.filter_eq_nil_iff]
  unfold hitB
  rw [Bool.not_eq_true', List.any_eq_false]
theorem dp_strsL {H : Hp} {v : V} {g : List Str} (h : Dp K H v (dGrp g)) : ∃ a, v = .ref a ∧ SqL K H a (g.map V.str) := by
  cases h with
  | lst hs ha =>
    rw [dpA_strs_inv ha] at hs
    exact ⟨_, rfl, hs⟩
theorem dp_lstI {H : Hp} {v : V} {ds : List PyData} (h : Dp K H v (.list ds)) : ∃ a xs, v = .ref a ∧ SqL K H a xs ∧ DpAll K H xs ds := by
  cases h with
  | lst hs ha => exact ⟨_, _, rfl, hs, ha⟩
theorem dp_tupI {H : Hp} {v : V} {ds : List PyData} (h : Dp K H v (.tuple ds)) : ∃ a xs, v = .ref a ∧ SqT K H a xs ∧ DpAll K H xs ds := by
  cases h with
  | tup hs ha => exact ⟨_, _, rfl, hs, ha⟩
theorem ok_lheirs (T : TxtG K mg) : FnOk P w K mg base CX0 4 T.dLawHeirs.f T.dLawHeirs.fd ["_law_will_here", "_law_alive"] (spLHeirs K) := by
  refine T.dLawHeirs.F.ok scDLawHeirs (fun vs H Q E h => ?_) (fun cdv A outer s H vs Q E hr h => ?_)
  · obtain ⟨a, al, ws, shs, ns, rfl, _⟩ := h
    rfl
  · obtain ⟨a, al, ws, shs, ns, rfl, hs, ha, hw, hal, h6, h9, q⟩ := h
    refine ⟨_, (pss_cons (ps_par (i := 2) (j := 3) (by rfl) scDLawHeirs.nd rfl rfl (by decide) rfl rfl (pa_cons (pe_callB (cr_sum rfl) (by rfl) T.z_sum (show bootBuiltins "sum" = some (.builtin "sum") by decide +kernel) (pa_cons (pe_lc (own := [("_law_weight", 4), ("_law_groups", 5)]) (g := (gTup K 2 (gCons (gName 4) (gCons (gName 5) gNil)))) (tt := tYes) rfl scDLawHeirs.nd (pi_list (pv 0)) (blkOk_by (N := ["_law_will_here", "_law_alive", "_law_whole", "_law_found", "_law_weight", "_law_groups", "_law_some", "_law_group_here", "_law_here", "_law_name"]) (sc := defScope sDLawHeirs) (by decide +kernel)) (fun _ _ _ _ _ => (pg_tup (n := 2) rfl (pgs_cons (pg_name (i := 4) scDLawHeirs.nd rfl (.inl rfl)) (pgs_cons (pg_name (i := 5) scDLawHeirs.nd rfl (.inl rfl)) pgs_nil)))) (fun _ _ _ _ _ => pts_nil) (fun _ _ _ _ _ => (pv 4))) pa_nil)) (pa_cons pe_dnewK pa_nil)) (by rfl))
      (pss_cons (ps_for PassesOwn.never rfl (pi_list (pv 0)) (pg_tup (n := 2) rfl (pgs_cons (pg_name (i := 4) scDLawHeirs.nd rfl (.inl rfl)) (pgs_cons (pg_name (i := 5) scDLawHeirs.nd rfl (.inl rfl)) pgs_nil)))
      (pss_cons (ps_set (i := 6) scDLawHeirs.nd rfl (.inl rfl) (pe_lst (pa_cons pe_str pa_nil)))
      (pss_cons (ps_for PassesOwn.never rfl (pi_list (pe_revL (pv 5))) (pg_name (i := 7) scDLawHeirs.nd rfl (.inl rfl))
      (pss_cons (ps_setLc (i := 8) (own := [("_law_name", 9)]) (g := (gName 9)) rfl scDLawHeirs.nd rfl rfl (sw_true rfl rfl rfl (by decide +kernel)) (pi_list (pv 7)) (blkOk_by (N := ["_law_will_here", "_law_alive", "_law_whole", "_law_found", "_law_weight", "_law_groups", "_law_some", "_law_group_here", "_law_here", "_law_name"]) (sc := defScope sDLawHeirs) (by decide +kernel)) (fun _ _ _ _ _ => (pg_name (i := 9) scDLawHeirs.nd rfl (.inl rfl))) (fun _ _ _ _ _ => (pts_one (pt_cmpR (show OpR _ (compareOp .In) (rIn K false) from op_in_seq) (pv 9) (pv 1) (by rfl)))) (fun _ _ _ _ _ => (pv 9)))
      (pss_one (ps_set (i := 6) scDLawHeirs.nd rfl (.inl rfl) (pe_ifExp (pt_cmpR (op_neNil hr.units) (pv 8) (pe_lst pa_nil) (nomark _)) (pv 8) (pv 6))))))
      (pss_one (ps_for PassesOwn.never rfl (pi_list (pv 6)) (pg_name (i := 9) scDLawHeirs.nd rfl (.inl rfl))
      (pss_one (ps_dput (hu_of hr) (pv 3) (pv 9) (pe_call (ok_lplus T) (hr.mono (by decide)) (by rfl) T.dLawPlus.g T.dLawPlus.F.kp T.dLawPlus.b .nil pass0 (pa_cons (pe_dget2 (hu_of hr) (pv 3) (pv 9) (pe_tup (pa_cons pe_int (pa_cons pe_int pa_nil))) ⟨rfl, rfl, rfl, rfl⟩) (pa_cons (pe_tup (pa_cons (pv 4) (pa_cons (pe_op op_mulW (pv 2) (pe_callB call_lenL (by rfl) T.z_len (show bootBuiltins "len" = some (.builtin "len") by decide +kernel) (pa_cons (pv 6) pa_nil))) pa_nil))) pa_nil))) rfl)))))))
      (pss_one (ps_ret (pv 3))))), ?_⟩
    have hxl : ws.length = shs.length := by rw [dpA_len ha, List.length_map]
    simp only [and_assoc, tSeq, tAsg, tOp, tUn, rI, rI0, rU, tVar, tC, gName, L2.start, tIfS, tTest, tB, tCB, tCons, tNil, tIf, tRet, tRetN, tLst, tTup, tNext, tDrop, tNot, tNotV, tAnd, tOr, tAndV, tOrV, tPar, tAug, ipI, rEq, rNe, gSub, rSetL, rIxL, rIxT, tBM, tBM0, rAppend, rPopAt, gTup, gCons, gNil, tCall, tSl, tPart, tNoPart, rSlL, rCat, rEqD, rNeD, rIn, scal, List.map_cons, List.map_nil, List.length_cons, List.length_nil, List.length_map, List.cons_append, List.nil_append, List.append_nil, List.replicate, List.getElem?_cons_zero, List.getElem?_cons_succ, List.set_cons_zero, List.set_cons_succ, Option.some.injEq, exists_eq_left', exists_eq_left, exists_eq_right, exists_and_left, exists_and_right, V.int.injEq, V.ref.injEq, V.str.injEq, V.bl.injEq, reduceCtorEq, false_and, and_false, exists_false, or_false, false_or, true_and, and_true, List.cons.injEq, decide_eq_true_eq, cxOf, if_true, if_false, Bool.false_eq_true, Nat.reduceAdd, Nat.reduceSub, Nat.zero_add, Nat.add_sub_cancel_left, Nat.add_sub_cancel, Nat.sub_self, sFld, tFld, tFor_eq, tLc_eq, iRng1, iRng2, iList, iTup, iEnum, iEnumQ, rIsi, rIsiT, iSeq, wipe, tDNewK, tDGet2, sDPut, rSum, tRevL, rNeNil]
    refine ⟨⟨_, hs⟩, fun D nD => ?_⟩
    refine lg_pure (fun i y _ => ∃ s, shs[i]? = some s ∧ y = .int s.1) (.inl ⟨rfl, hs⟩) (small1000 (by omega)) nD (fun _ _ _ _ _ h => h) (fun i x2 H2 Φ hx s2 hD hΦ => ?_) (fun ys H2 s2 eD hl2 hY => ?_)
    · obtain ⟨d, ed, hx2⟩ := dpA_get (dpA_mono s2 _ _ ha) hx
      rw [List.getElem?_map] at ed
      obtain ⟨g, eg, rfl⟩ := Option.map_eq_some_iff.mp ed
      obtain ⟨b, v1, v2, rfl, hb, a1, a2⟩ := dp_tup2 hx2
      cases a1
      simp only [and_assoc, tSeq, tAsg, tOp, tUn, rI, rI0, rU, tVar, tC, gName, L2.start, tIfS, tTest, tB, tCB, tCons, tNil, tIf, tRet, tRetN, tLst, tTup, tNext, tDrop, tNot, tNotV, tAnd, tOr, tAndV, tOrV, tPar, tAug, ipI, rEq, rNe, gSub, rSetL, rIxL, rIxT, tBM, tBM0, rAppend, rPopAt, gTup, gCons, gNil, tCall, tSl, tPart, tNoPart, rSlL, rCat, rEqD, rNeD, rIn, scal, List.map_cons, List.map_nil, List.length_cons, List.length_nil, List.length_map, List.cons_append, List.nil_append, List.append_nil, List.replicate, List.getElem?_cons_zero, List.getElem?_cons_succ, List.set_cons_zero, List.set_cons_succ, Option.some.injEq, exists_eq_left', exists_eq_left, exists_eq_right, exists_and_left, exists_and_right, V.int.injEq, V.ref.injEq, V.str.injEq, V.bl.injEq, reduceCtorEq, false_and, and_false, exists_false, or_false, false_or, true_and, and_true, List.cons.injEq, decide_eq_true_eq, cxOf, if_true, if_false, Bool.false_eq_true, Nat.reduceAdd, Nat.reduceSub, Nat.zero_add, Nat.add_sub_cancel_left, Nat.add_sub_cancel, Nat.sub_self, sFld, tFld, tFor_eq, tLc_eq, iRng1, iRng2, iList, iTup, iEnum, iEnumQ, rIsi, rIsiT, iSeq, wipe, tDNewK, tDGet2, sDPut, rSum, tRevL, rNeNil]
      exact ⟨_, hb, rfl, _, _, rfl, _, _, rfl, rfl, hΦ _ _ (Same.refl _) ⟨g, eg, rfl⟩⟩
    · have ey : ys = (shs.map (·.1)).map V.int := by
        rw [List.map_map]
        exact ys_map (by rw [hl2, hxl]) hY
      subst ey
      refine ⟨_, sqL_of eD, fun d nd => ?_⟩
      rw [sum_map]
      have nd0 : H d = none := s2.free nd
      have s3 : Same H (upd H2 d (.dK [])) := s2.trans (same_upd nd)
      have f3 : FqD K 1 (upd H2 d (.dK [])) d [] := ⟨upd_same, fun _ h => (nomatch h), fun _ h => (nomatch h)⟩
      generalize upd H2 d (.dK []) = H3 at s3 f3 ⊢
      have tp := total_pos (fun s hs => (hw.ok s hs).1.w1) hw.ne
      have tl : totalW shs ≤ 999999999 * shs.length := total_le hw.w
      have tT : totalW shs ≤ 5999999994 := by
        have : (999999999 : Int) * shs.length ≤ 999999999 * 6 := by omega
        omega
      refine ⟨⟨_, s3.seq hs⟩, ?_⟩
      refine fg_list (xs := ws) (fun i σ H4 => ∃ (o4 o5 o6 o7 o8 o9 : Option V) (L : L3), σ = [some (.ref a), some al, some (.int (totalW shs)), some (.ref d), o4, o5, o6, o7, o8, o9] ∧ Same H H4 ∧ FqD K (43 * (9 * i) + 1) H4 d L ∧ mOf L = (shs.take i).foldl (stepL (totalW shs) ns) [] ∧ L.length ≤ 9 * i)
        ⟨none, none, none, none, none, none, [], rfl, s3, f3, rfl, Nat.le_refl _⟩ (fun i σ H4 _ ⟨_, _, _, _, _, _, _, _, s, _⟩ => s.seq hs) ?_ ?_
      · rintro i x2 σ H4 hx ⟨o4, o5, o6, o7, o8, o9, L, rfl, s4, f4, m4, l4⟩
        obtain ⟨dd, ed, hx2⟩ := dpA_get (dpA_mono s4 _ _ ha) hx
        rw [List.getElem?_map] at ed
        obtain ⟨g, eg, rfl⟩ := Option.map_eq_some_iff.mp ed
        obtain ⟨b, v1, v2, rfl, hb, a1, a2⟩ := dp_tup2 hx2
        cases a1
        obtain ⟨c, gv, rfl, hc, hgv⟩ := dp_lstI a2
        simp only [and_assoc, tSeq, tAsg, tOp, tUn, rI, rI0, rU, tVar, tC, gName, L2.start, tIfS, tTest, tB, tCB, tCons, tNil, tIf, tRet, tRetN, tLst, tTup, tNext, tDrop, tNot, tNotV, tAnd, tOr, tAndV, tOrV, tPar, tAug, ipI, rEq, rNe, gSub, rSetL, rIxL, rIxT, tBM, tBM0, rAppend, rPopAt, gTup, gCons, gNil, tCall, tSl, tPart, tNoPart, rSlL, rCat, rEqD, rNeD, rIn, scal, List.map_cons, List.map_nil, List.length_cons, List.length_nil, List.length_map, List.cons_append, List.nil_append, List.append_nil, List.replicate, List.getElem?_cons_zero, List.getElem?_cons_succ, List.set_cons_zero, List.set_cons_succ, Option.some.injEq, exists_eq_left', exists_eq_left, exists_eq_right, exists_and_left, exists_and_right, V.int.injEq, V.ref.injEq, V.str.injEq, V.bl.injEq, reduceCtorEq, false_and, and_false, exists_false, or_false, false_or, true_and, and_true, List.cons.injEq, decide_eq_true_eq, cxOf, if_true, if_false, Bool.false_eq_true, Nat.reduceAdd, Nat.reduceSub, Nat.zero_add, Nat.add_sub_cancel_left, Nat.add_sub_cancel, Nat.sub_self, sFld, tFld, tFor_eq, tLc_eq, iRng1, iRng2, iList, iTup, iEnum, iEnumQ, rIsi, rIsiT, iSeq, wipe, tDNewK, tDGet2, sDPut, rSum, tRevL, rNeNil, spPlus]
        have gm := List.mem_of_getElem? eg
        have il := (List.getElem?_eq_some_iff.mp eg).1
        have gok := hw.ok g gm
        have gvl : gv.length = g.2.length := by rw [dpA_len hgv, List.length_map]
        refine ⟨_, hb, rfl, _, _, rfl, _, _, rfl, rfl, by decide, fun l0 nl0 => ?_⟩
        have sl0 := same_upd (o := .lst [V.str "crown"]) nl0
        have el0 : upd H4 l0 (.lst [V.str "crown"]) l0 = some (.lst [V.str "crown"]) := upd_same
        generalize upd H4 l0 (.lst [V.str "crown"]) = H5 at sl0 el0 ⊢
        refine ⟨c, rfl, gv, sl0.seq hc, fun rv nrv => ⟨⟨_, sqL_of upd_same⟩, ?_⟩⟩
        have srv := same_upd (o := .lst gv.reverse) nrv
        have erv : upd H5 rv (.lst gv.reverse) rv = some (.lst gv.reverse) := upd_same
        generalize upd H5 rv (.lst gv.reverse) = H6 at srv erv ⊢
        have s46 := sl0.trans srv
        refine fg_list (xs := gv.reverse) (fun j σ H7 => ∃ (o7 o8 o9 : Option V) (so : Addr) (tk : List Str), σ = [some (.ref a), some al, some (.int (totalW shs)), some (.ref d), some (.int g.1), some (.ref c), some (.ref so), o7, o8, o9] ∧ Same H6 H7 ∧ H4 so = none ∧ H7 so = some (.lst (tk.map V.str)) ∧ tk = takersM (g.2.drop (g.2.length - j)) ns)
          ⟨o7, o8, o9, l0, ["crown"], rfl, Same.refl _, nl0, srv _ _ el0, by rw [List.drop_eq_nil_of_le (by omega)]; rfl⟩ (fun j σ H7 _ ⟨_, _, _, _, _, _, s7, _⟩ => s7.seq (sqL_of erv)) ?_ ?_
        · rintro j xg σ H7 hxg ⟨o7, o8, o9, so, tk, rfl, s7, nso, eso, htk⟩
          have jl : j < g.2.length := by
            have := (List.getElem?_eq_some_iff.mp hxg).1
            rw [List.length_reverse] at this
            omega
          rw [List.getElem?_reverse (by omega)] at hxg
          obtain ⟨dg, edg, hxg2⟩ := dpA_get (dpA_mono (s46.trans s7) _ _ hgv) hxg
          rw [List.getElem?_map] at edg
          obtain ⟨gr, egr, rfl⟩ := Option.map_eq_some_iff.mp edg
          obtain ⟨gb, rfl, hgb⟩ := dp_strsL hxg2
          have grl := h9 g gm gr (List.mem_of_getElem? egr)
          simp only [and_assoc, tSeq, tAsg, tOp, tUn, rI, rI0, rU, tVar, tC, gName, L2.start, tIfS, tTest, tB, tCB, tCons, tNil, tIf, tRet, tRetN, tLst, tTup, tNext, tDrop, tNot, tNotV, tAnd, tOr, tAndV, tOrV, tPar, tAug, ipI, rEq, rNe, gSub, rSetL, rIxL, rIxT, tBM, tBM0, rAppend, rPopAt, gTup, gCons, gNil, tCall, tSl, tPart, tNoPart, rSlL, rCat, rEqD, rNeD, rIn, scal, List.map_cons, List.map_nil, List.length_cons, List.length_nil, List.length_map, List.cons_append, List.nil_append, List.append_nil, List.replicate, List.getElem?_cons_zero, List.getElem?_cons_succ, List.set_cons_zero, List.set_cons_succ, Option.some.injEq, exists_eq_left', exists_eq_left, exists_eq_right, exists_and_left, exists_and_right, V.int.injEq, V.ref.injEq, V.str.injEq, V.bl.injEq, reduceCtorEq, false_and, and_false, exists_false, or_false, false_or, true_and, and_true, List.cons.injEq, decide_eq_true_eq, cxOf, if_true, if_false, Bool.false_eq_true, Nat.reduceAdd, Nat.reduceSub, Nat.zero_add, Nat.add_sub_cancel_left, Nat.add_sub_cancel, Nat.sub_self, sFld, tFld, tFor_eq, tLc_eq, iRng1, iRng2, iList, iTup, iEnum, iEnumQ, rIsi, rIsiT, iSeq, wipe, tDNewK, tDGet2, sDPut, rSum, tRevL, rNeNil]
          refine ⟨⟨_, hgb⟩, fun D2 nD2 => ?_⟩
          refine lg_keep gr V.str V.str (fun n => decide (n ∈ ns)) (.inl ⟨rfl, hgb⟩) (small1000 (by omega)) nD2 (fun n H8 Aq Bq hm s8 hD hA hB => ?_) (fun H8 s8 eD8 => ?_)
          · obtain ⟨al', rfl, hal0⟩ := id hal
            simp only [and_assoc, tSeq, tAsg, tOp, tUn, rI, rI0, rU, tVar, tC, gName, L2.start, tIfS, tTest, tB, tCB, tCons, tNil, tIf, tRet, tRetN, tLst, tTup, tNext, tDrop, tNot, tNotV, tAnd, tOr, tAndV, tOrV, tPar, tAug, ipI, rEq, rNe, gSub, rSetL, rIxL, rIxT, tBM, tBM0, rAppend, rPopAt, gTup, gCons, gNil, tCall, tSl, tPart, tNoPart, rSlL, rCat, rEqD, rNeD, rIn, scal, List.map_cons, List.map_nil, List.length_cons, List.length_nil, List.length_map, List.cons_append, List.nil_append, List.append_nil, List.replicate, List.getElem?_cons_zero, List.getElem?_cons_succ, List.set_cons_zero, List.set_cons_succ, Option.some.injEq, exists_eq_left', exists_eq_left, exists_eq_right, exists_and_left, exists_and_right, V.int.injEq, V.ref.injEq, V.str.injEq, V.bl.injEq, reduceCtorEq, false_and, and_false, exists_false, or_false, false_or, true_and, and_true, List.cons.injEq, decide_eq_true_eq, cxOf, if_true, if_false, Bool.false_eq_true, Nat.reduceAdd, Nat.reduceSub, Nat.zero_add, Nat.add_sub_cancel_left, Nat.add_sub_cancel, Nat.sub_self, sFld, tFld, tFor_eq, tLc_eq, iRng1, iRng2, iList, iTup, iEnum, iEnumQ, rIsi, rIsiT, iSeq, wipe, tDNewK, tDGet2, sDPut, rSum, tRevL, rNeNil, rIn]
            refine ⟨_, hal0.mono (s4.trans ((s46.trans s7).trans s8)), rfl, flat_strs ns, ?_⟩
            rw [inV_str]
            cases h : decide (n ∈ ns) with
            | true => exact hA _ h (Same.refl _)
            | false => exact hB _ h (Same.refl _)
          · refine ⟨by decide, fun e ne => ⟨_, sqL_of (same_upd ne _ _ eD8), sqL_of upd_same, ?_⟩⟩
            have s9 := s8.trans (same_upd (o := .lst []) ne)
            have eD9 := same_upd (o := .lst []) ne _ _ eD8
            generalize upd H8 e (.lst []) = H9 at s9 eD9 ⊢
            have dr : g.2.drop (g.2.length - (j + 1)) = gr :: g.2.drop (g.2.length - j) := by
              have h1 : g.2.length - (j + 1) < g.2.length := by omega
              have h2 : g.2.length - (j + 1) + 1 = g.2.length - j := by omega
              rw [List.drop_eq_getElem_cons h1, h2]
              have h3 : g.2[g.2.length - (j + 1)]? = some gr := by rw [← egr, gvl]; congr 1; omega
              rw [List.getElem?_eq_getElem h1] at h3
              rw [Option.some.inj h3]
            rw [List.isEmpty_map, hit_filter, Bool.not_not]
            have tk2 := takers_cons gr (g.2.drop (g.2.length - j)) ns
            rw [← dr] at tk2
            cases hh : hitB ns gr with
            | true =>
              rw [if_pos rfl]
              rw [hh, if_pos rfl] at tk2
              exact ⟨s7.trans s9, s46.free (s7.free nD2), by rw [tk2]; exact eD9⟩
            | false =>
              rw [if_neg (by simp)]
              rw [hh, if_neg (by simp), ← htk] at tk2
              exact ⟨s7.trans s9, nso, by rw [tk2]; exact s9 _ _ eso⟩
        · rintro σ H7 ⟨o7, o8, o9, so, tk, rfl, s7, nso, eso, htk⟩
          rw [List.length_reverse, gvl, Nat.sub_self, List.drop_zero] at htk
          simp only [and_assoc, tSeq, tAsg, tOp, tUn, rI, rI0, rU, tVar, tC, gName, L2.start, tIfS, tTest, tB, tCB, tCons, tNil, tIf, tRet, tRetN, tLst, tTup, tNext, tDrop, tNot, tNotV, tAnd, tOr, tAndV, tOrV, tPar, tAug, ipI, rEq, rNe, gSub, rSetL, rIxL, rIxT, tBM, tBM0, rAppend, rPopAt, gTup, gCons, gNil, tCall, tSl, tPart, tNoPart, rSlL, rCat, rEqD, rNeD, rIn, scal, List.map_cons, List.map_nil, List.length_cons, List.length_nil, List.length_map, List.cons_append, List.nil_append, List.append_nil, List.replicate, List.getElem?_cons_zero, List.getElem?_cons_succ, List.set_cons_zero, List.set_cons_succ, Option.some.injEq, exists_eq_left', exists_eq_left, exists_eq_right, exists_and_left, exists_and_right, V.int.injEq, V.ref.injEq, V.str.injEq, V.bl.injEq, reduceCtorEq, false_and, and_false, exists_false, or_false, false_or, true_and, and_true, List.cons.injEq, decide_eq_true_eq, cxOf, if_true, if_false, Bool.false_eq_true, Nat.reduceAdd, Nat.reduceSub, Nat.zero_add, Nat.add_sub_cancel_left, Nat.add_sub_cancel, Nat.sub_self, sFld, tFld, tFor_eq, tLc_eq, iRng1, iRng2, iList, iTup, iEnum, iEnumQ, rIsi, rIsiT, iSeq, wipe, tDNewK, tDGet2, sDPut, rSum, tRevL, rNeNil]
          refine ⟨⟨_, sqL_of eso⟩, ?_⟩
          have glen : ∀ k ∈ g.2, k.length ≤ 9 := fun k hk => h9 g gm k hk
          obtain ⟨k1, k2⟩ := takers_len (ns := ns) glen (by decide)
          have stp : stepL (totalW shs) ns (mOf L) g = addAll (mOf L) (takersM g.2 ns) (g.1, totalW shs * (takersM g.2 ns).length) := rfl
          rw [← htk] at k1 k2 stp
          have tb : totalW shs * (tk.length : Int) ≤ 5999999994 * 9 := Int.mul_le_mul tT (by omega) (by omega) (by omega)
          have tq : 0 < totalW shs * (tk.length : Int) := Int.mul_pos tp (by omega)
          have two : (5999999994 : Int) * 9 < 2 ^ 42 := by decide
          have fq : FrOk 42 (g.1, totalW shs * (tk.length : Int)) := ⟨by have := gok.1.w1; show 0 ≤ g.1; omega, tq, by have := hw.w g gm; show g.1 < 2 ^ 42; omega, by show totalW shs * (tk.length : Int) < 2 ^ 42; omega⟩
          have cm : CMulW (totalW shs) tk.length := wide_mul (a := 42) (b := 42) (nat_of (by omega) (by omega)) (nat_of (by omega) (by omega)) (by decide) (by decide) (by decide)
          have s47 := s46.trans s7
          have f7 := f4.same s47
          have sd : so ≠ d := fun z => by rw [z, f4.at_] at nso; cases nso
          have eso6 : hide d H7 so = some (.lst (tk.map V.str)) := by rw [hide_ne sd]; exact eso
          have keep : ∀ {H7 : Hp} {o : HO}, Same H H7 → Same H (upd H7 d o) := fun s b o e => by rw [upd_ne (ne_of_none e nd0)]; exact s b o e
          refine fg_list (xs := tk.map V.str) (fun j σ H8 => ∃ (o7 o8 o9 : Option V) (L8 : L3), σ = [some (.ref a), some al, some (.int (totalW shs)), some (.ref d), some (.int g.1), some (.ref c), some (.ref so), o7, o8, o9] ∧ Same H H8 ∧ Same (hide d H7) (hide d H8) ∧ FqD K (43 * (9 * i + j) + 1) H8 d L8 ∧ mOf L8 = addAll (mOf L) (tk.take j) (g.1, totalW shs * (tk.length : Int)) ∧ L8.length ≤ 9 * i + j)
            ⟨o7, o8, o9, L, rfl, s4.trans s47, Same.refl _, f7, rfl, l4⟩ (fun j σ H8 _ ⟨_, _, _, _, _, _, s8, _⟩ => hide_le.seq (s8.seq (sqL_of eso6))) ?_ ?_
          · rintro j n σ H8 hn ⟨o7, o8, o9, L8, rfl, s8, h8, f8, m8, l8⟩
            rw [List.getElem?_map] at hn
            obtain ⟨nm, en, rfl⟩ := Option.map_eq_some_iff.mp hn
            have jl := (List.getElem?_eq_some_iff.mp en).1
            simp only [and_assoc, tSeq, tAsg, tOp, tUn, rI, rI0, rU, tVar, tC, gName, L2.start, tIfS, tTest, tB, tCB, tCons, tNil, tIf, tRet, tRetN, tLst, tTup, tNext, tDrop, tNot, tNotV, tAnd, tOr, tAndV, tOrV, tPar, tAug, ipI, rEq, rNe, gSub, rSetL, rIxL, rIxT, tBM, tBM0, rAppend, rPopAt, gTup, gCons, gNil, tCall, tSl, tPart, tNoPart, rSlL, rCat, rEqD, rNeD, rIn, scal, List.map_cons, List.map_nil, List.length_cons, List.length_nil, List.length_map, List.cons_append, List.nil_append, List.append_nil, List.replicate, List.getElem?_cons_zero, List.getElem?_cons_succ, List.set_cons_zero, List.set_cons_succ, Option.some.injEq, exists_eq_left', exists_eq_left, exists_eq_right, exists_and_left, exists_and_right, V.int.injEq, V.ref.injEq, V.str.injEq, V.bl.injEq, reduceCtorEq, false_and, and_false, exists_false, or_false, false_or, true_and, and_true, List.cons.injEq, decide_eq_true_eq, cxOf, if_true, if_false, Bool.false_eq_true, Nat.reduceAdd, Nat.reduceSub, Nat.zero_add, Nat.add_sub_cancel_left, Nat.add_sub_cancel, Nat.sub_self, sFld, tFld, tFor_eq, tLc_eq, iRng1, iRng2, iList, iTup, iEnum, iEnumQ, rIsi, rIsiT, iSeq, wipe, tDNewK, tDGet2, sDPut, rSum, tRevL, rNeNil, spPlus]
            have big : 2 ≤ sizeLine := by decide
            refine ⟨.inl ⟨_, .inl f8.at_⟩, big, fun zp nz => ?_⟩
            have sz := same_upd (o := .tup [V.int 0, V.int 1]) nz
            have ez : upd H8 zp (.tup [V.int 0, V.int 1]) zp = some (.tup [V.int 0, V.int 1]) := upd_same
            have zd : zp ≠ d := fun z => by rw [z, f8.at_] at nz; cases nz
            generalize upd H8 zp (.tup [V.int 0, V.int 1]) = H9 at sz ez ⊢
            have f9 := f8.same sz
            have zz : Dp K (hide d H9) (.ref zp) (dFr zeroF) := dFr_new (by rw [hide_ne zd]; exact ez)
            obtain ⟨g1, g2⟩ := f9.get nm zz (by omega)
            refine ⟨_, DGet.k (k := Sum.inr nm) f9.at_, _, sz.seq (hide_le.seq (h8.seq (sqL_of eso6))), by rw [List.length_map]; exact cm, big, fun pp np => ?_⟩
            rw [List.length_map]
            have spp := same_upd (o := .tup [V.int g.1, V.int (totalW shs * (tk.length : Int))]) np
            have epp : upd H9 pp (.tup [V.int g.1, V.int (totalW shs * (tk.length : Int))]) pp = some (.tup [V.int g.1, V.int (totalW shs * (tk.length : Int))]) := upd_same
            generalize upd H9 pp (.tup [V.int g.1, V.int (totalW shs * (tk.length : Int))]) = Ha at spp epp ⊢
            refine ⟨(getL (mOf L8) nm).getD zeroF, ?_, (g.1, totalW shs * (tk.length : Int)), dFr_new epp, _, g2, 42, fq, by omega, fun t2 Hb sb nt2 et2 => ?_⟩
            · rw [valV_ent3]
              exact dp_mono (hide_le.trans spp) _ _ g1
            have sAll := (sz.trans spp).trans sb
            have fb := f8.same sAll
            have td : t2 ≠ d := fun z => by rw [z, spp _ _ f9.at_] at nt2; cases nt2
            refine ⟨_, DPut.k (k := Sum.inr nm) fb.at_ (small1000 (by rw [List.length_map]; omega)), keep (s8.trans sAll), h8.trans ((hide_same sAll).trans hide_upd), putL L8 nm (t2, plusM ((getL (mOf L8) nm).getD zeroF) (g.1, totalW shs * (tk.length : Int))), ?_, ?_, ?_⟩
            · refine (fb.mono (by omega)).put nm (dFr_new (by rw [hide_ne td]; exact et2)) ((plusM_ok g2 fq).mono (by omega))
            · rw [mOf_put, List.take_add_one, en, m8]
              show _ = addAll _ (tk.take j ++ [nm]) _
              unfold addAll
              rw [List.foldl_append]
              rfl
            · have : (putL L8 nm (t2, plusM ((getL (mOf L8) nm).getD zeroF) (g.1, totalW shs * (tk.length : Int)))).length ≤ L8.length + 1 := by
                unfold putL
                split
                · rw [List.length_map]; omega
                · rw [List.length_append]; exact Nat.le_refl _
              omega
          · rintro σ H8 ⟨o7, o8, o9, L8, rfl, s8, h8, f8, m8, l8⟩
            rw [List.length_map] at f8 m8 l8
            refine ⟨⟨_, _, _, _, _, _, rfl⟩, s8, L8, f8.mono (by omega), ?_, by omega⟩
            rw [List.take_of_length_le (Nat.le_refl _)] at m8
            rw [List.take_add_one, eg, m8, ← stp, m4]
            show _ = List.foldl _ _ (shs.take i ++ [g])
            rw [List.foldl_append]
            rfl
      · rintro σ H4 ⟨o4, o5, o6, o7, o8, o9, L, rfl, s4, f4, m4, l4⟩
        simp only [and_assoc, tSeq, tAsg, tOp, tUn, rI, rI0, rU, tVar, tC, gName, L2.start, tIfS, tTest, tB, tCB, tCons, tNil, tIf, tRet, tRetN, tLst, tTup, tNext, tDrop, tNot, tNotV, tAnd, tOr, tAndV, tOrV, tPar, tAug, ipI, rEq, rNe, gSub, rSetL, rIxL, rIxT, tBM, tBM0, rAppend, rPopAt, gTup, gCons, gNil, tCall, tSl, tPart, tNoPart, rSlL, rCat, rEqD, rNeD, rIn, scal, List.map_cons, List.map_nil, List.length_cons, List.length_nil, List.length_map, List.cons_append, List.nil_append, List.append_nil, List.replicate, List.getElem?_cons_zero, List.getElem?_cons_succ, List.set_cons_zero, List.set_cons_succ, Option.some.injEq, exists_eq_left', exists_eq_left, exists_eq_right, exists_and_left, exists_and_right, V.int.injEq, V.ref.injEq, V.str.injEq, V.bl.injEq, reduceCtorEq, false_and, and_false, exists_false, or_false, false_or, true_and, and_true, List.cons.injEq, decide_eq_true_eq, cxOf, if_true, if_false, Bool.false_eq_true, Nat.reduceAdd, Nat.reduceSub, Nat.zero_add, Nat.add_sub_cancel_left, Nat.add_sub_cancel, Nat.sub_self, sFld, tFld, tFor_eq, tLc_eq, iRng1, iRng2, iList, iTup, iEnum, iEnumQ, rIsi, rIsiT, iSeq, wipe, tDNewK, tDGet2, sDPut, rSum, tRevL, rNeNil]
        rw [List.take_of_length_le (by omega)] at m4
        exact q d H4 L s4 nd0 (by rw [← hxl]; exact f4) (by omega) m4

end
end He

namespace He
open PySem PySem.Spec PyProof.Rows L2
section
variable {P : Program} {w : World} {K : PySem.W.Frag} {mg : Str → Option Value} {base : Heap}

/-! ### mathematics of the law -/
theorem heirs_congr {shs : List Sh} {ns ns' : List Str} (h : ∀ s ∈ shs, ∀ g ∈ s.2, ∀ n ∈ g, (n ∈ ns ↔ n ∈ ns')) : heirsM shs ns = heirsM shs ns' := by
  unfold heirsM
  generalize totalW shs = T
  have go : ∀ (l : List Sh) (m : Mf), (∀ s ∈ l, ∀ g ∈ s.2, ∀ n ∈ g, (n ∈ ns ↔ n ∈ ns')) → l.foldl (stepP T ns) m = l.foldl (stepP T ns') m := by
    intro l
    induction l with
    | nil => exact fun _ _ => rfl
    | cons s l ih =>
      intro m hs
      have e : stepP T ns m s = stepP T ns' m s := by
        have hit : ∀ g ∈ s.2.map sortG, hitB ns g = hitB ns' g := fun g hg => by
          obtain ⟨g0, h0, rfl⟩ := List.mem_map.mp hg
          unfold hitB
          rw [Bool.eq_iff_iff, List.any_eq_true, List.any_eq_true]
          have eq : ∀ n ∈ sortG g0, (n ∈ ns ↔ n ∈ ns') := fun n hn => hs s List.mem_cons_self g0 h0 n ((sortG_perm g0).mem_iff.mp hn)
          exact ⟨fun ⟨x, hx, k⟩ => ⟨x, hx, decide_eq_true ((eq x hx).mp (of_decide_eq_true k))⟩, fun ⟨x, hx, k⟩ => ⟨x, hx, decide_eq_true ((eq x hx).mpr (of_decide_eq_true k))⟩⟩
        have tk : takersM (s.2.map sortG) ns = takersM (s.2.map sortG) ns' := by
          unfold takersM
          have f : ∀ l : List (List Str), (∀ g ∈ l, hitB ns g = hitB ns' g) → l.find? (hitB ns) = l.find? (hitB ns') := by
            intro l
            induction l with
            | nil => exact fun _ => rfl
            | cons g l ih =>
              intro hl
              rw [List.find?_cons, List.find?_cons, hl g List.mem_cons_self, ih fun g hg => hl g (List.mem_cons_of_mem _ hg)]
          rw [f _ hit]
          cases e : (s.2.map sortG).find? (hitB ns') with
          | none => rfl
          | some g =>
            obtain ⟨g0, h0, rfl⟩ := List.mem_map.mp (List.mem_of_find?_eq_some e)
            refine List.filter_congr fun n hn => ?_
            have eq := hs s List.mem_cons_self g0 h0 n ((sortG_perm g0).mem_iff.mp hn)
            by_cases k : n ∈ ns
            · rw [decide_eq_true k, decide_eq_true (eq.mp k)]
            · rw [decide_eq_false k, decide_eq_false (fun z => k (eq.mpr z))]
        unfold stepP
        rw [tk]
      rw [List.foldl_cons, List.foldl_cons, e]
      exact ih _ fun t ht => hs t (List.mem_cons_of_mem _ ht)
  exact go shs [] h
/-- what each name of a share's takers is -/
def NmOk (n : Str) : Prop := nameB n = true ∨ n = "crown"
structure MOk (m : Mf) : Prop where
  ge : ∀ t ∈ m, 1 ≤ t.2.1
  nm : ∀ t ∈ m, NmOk t.1
  nd : (keysL m).Nodup
theorem plus_ge {n m : Nat} {p q : Fq} (h : FrOk n p) (k : FrOk m q) (h1 : 1 ≤ q.1) : 1 ≤ (plusM p q).1 := by
  have g := gcdI_pos (a := p.1 * q.2 + q.1 * p.2) (Int.mul_pos h.b0 k.b0)
  have d := gcdI_l (p.1 * q.2 + q.1 * p.2) (p.2 * q.2)
  have pos : 0 < p.1 * q.2 + q.1 * p.2 := by
    have a := Int.mul_nonneg h.a0 (Int.le_of_lt k.b0)
    have b := Int.mul_pos (show 0 < q.1 by omega) h.b0
    omega
  have := Int.ediv_pos_of_pos_of_dvd pos (Int.le_of_lt g) d
  exact this
theorem MOk.add {m : Mf} {b : Nat} (h : MOk m) (hb : ∀ t ∈ m, 0 ≤ t.2.1 ∧ 0 < t.2.2) {q : Fq} (h1 : 1 ≤ q.1) (h2 : 0 < q.2) : ∀ {tk : List Str}, (∀ n ∈ tk, NmOk n) → MOk (addAll m tk q) ∧ ∀ t ∈ addAll m tk q, 0 ≤ t.2.1 ∧ 0 < t.2.2 := by
  intro tk
  induction tk generalizing m with
  | nil => exact fun _ => ⟨h, hb⟩
  | cons n tk ih =>
    intro ht
    have big : ∀ x : Int, 0 ≤ x → x < 2 ^ x.toNat := fun x hx => by
      have := Nat.lt_two_pow_self (n := x.toNat)
      have e : ((2 ^ x.toNat : Nat) : Int) = 2 ^ x.toNat := by norm_cast
      omega
    have fr : ∀ p : Fq, 0 ≤ p.1 → 0 < p.2 → ∃ k, FrOk k p := fun p a c => by
      refine ⟨max p.1.toNat p.2.toNat, a, c, ?_, ?_⟩
      · exact Int.lt_of_lt_of_le (big p.1 a) (pow_i (Nat.le_max_left _ _))
      · exact Int.lt_of_lt_of_le (big p.2 (Int.le_of_lt c)) (pow_i (Nat.le_max_right _ _))
    have old : 0 ≤ ((getL m n).getD zeroF).1 ∧ 0 < ((getL m n).getD zeroF).2 := by
      cases e : getL m n with
      | none => exact ⟨by decide, by decide⟩
      | some v => exact hb _ (getL_some e)
    obtain ⟨k1, f1⟩ := fr _ old.1 old.2
    obtain ⟨k2, f2⟩ := fr q (by omega) h2
    have nw := plus_ge f1 f2 h1
    have nd2 := (plusM_ok f1 f2).b0
    refine ih (m := addOne m n q) ⟨fun t ht2 => ?_, fun t ht2 => ?_, keys_put_nodup h.nd⟩ (fun t ht2 => ?_) fun x hx => ht x (List.mem_cons_of_mem _ hx)
    · rcases mem_putL ht2 with rfl | ht2
      · exact nw
      · exact h.ge t ht2
    · rcases mem_putL ht2 with rfl | ht2
      · exact ht n List.mem_cons_self
      · exact h.nm t ht2
    · rcases mem_putL ht2 with rfl | ht2
      · exact ⟨Int.le_trans (by decide) nw, nd2⟩
      · exact hb t ht2
theorem mok_heirs {shs : List Sh} (h : ∀ s ∈ shs, ShOk s) (h0 : shs ≠ []) (ns : List Str) : MOk (heirsL shs ns) := by
  have tp := total_pos (fun s hs => (h s hs).w1) h0
  unfold heirsL
  generalize totalW shs = T at tp
  have go : ∀ (l : List Sh) (m : Mf), (∀ s ∈ l, ShOk s) → MOk m → (∀ t ∈ m, 0 ≤ t.2.1 ∧ 0 < t.2.2) → MOk (l.foldl (stepL T ns) m) := by
    intro l
    induction l with
    | nil => exact fun _ _ a _ => a
    | cons s l ih =>
      intro m hs a b
      have ok := hs s List.mem_cons_self
      have l1 : 1 ≤ (takersM s.2 ns).length := by
        unfold takersM
        cases e : s.2.find? (hitB ns) with
        | none => exact Nat.le_refl _
        | some g =>
          have e0 := List.find?_some e
          obtain ⟨x, hx, hn⟩ := List.any_eq_true.mp e0
          exact List.length_pos_of_mem (List.mem_filter.mpr ⟨hx, hn⟩)
      have nm : ∀ n ∈ takersM s.2 ns, NmOk n := fun n hn => by
        unfold takersM at hn
        cases e : s.2.find? (hitB ns) with
        | none =>
          rw [e] at hn
          exact .inr (List.mem_singleton.mp hn)
        | some g =>
          rw [e] at hn
          exact .inl ((ok.gs g (List.mem_of_find?_eq_some e)).nm n (List.mem_filter.mp hn).1)
      obtain ⟨a2, b2⟩ := MOk.add (b := 0) (q := (s.1, T * ((takersM s.2 ns).length : Int))) a b ok.w1 (Int.mul_pos tp (by omega)) nm
      exact ih _ (fun t ht => hs t (List.mem_cons_of_mem _ ht)) a2 b2
  exact go shs [] h ⟨fun _ h => (nomatch h), fun _ h => (nomatch h), List.nodup_nil⟩ fun _ h => nomatch h
theorem pow10 : (2 : Nat) ^ 1163 < 10 ^ 400 := by decide
theorem pow19 : (2 : Nat) ^ 1163 ≤ 2 ^ 1900 := Nat.pow_le_pow_right (by decide) (by decide)
theorem shd_fq {q : Fq} {b : Nat} (h : FrOk b q) (hb : b ≤ 1163) : ShD 809 1 (dFr q) := by
  have h := h.mono hb
  refine shd_tup (n := 401) (m := 2) (ds := [.int q.1, .int q.2]) (fun d hd => ?_) (Nat.le_refl _)
  simp only [List.mem_cons, List.not_mem_nil, or_false] at hd
  rcases hd with rfl | rfl
  · have := nat_of h.a0 h.a1
    exact shd_int (k := 400) (by decide) (Nat.lt_trans this pow10) (Nat.lt_of_lt_of_le this pow19)
  · have := nat_of (Int.le_of_lt h.b0) h.b1
    exact shd_int (k := 400) (by decide) (Nat.lt_trans this pow10) (Nat.lt_of_lt_of_le this pow19)
theorem shd_nm {n : Str} (h : NmOk n) : ShD 52 0 (.str n) := by
  rcases h with h | rfl
  · exact shd_name h
  · exact shd_str (k := 5) (by decide +kernel) (by decide +kernel)
theorem shd_items {m : Mf} {b : Nat} (h : ∀ t ∈ m, FrOk b t.2) (hb : b ≤ 1163) (hn : ∀ t ∈ m, NmOk t.1) (hl : m.length ≤ 54) : ShD 100000 3 (itemsD m) := by
  refine (shd_tup (n := 1625) (k := 2) (m := 54) (fun d hd => ?_) ?_).mono (by decide) (Nat.le_refl _)
  · obtain ⟨n, hn2, rfl⟩ := List.mem_map.mp hd
    have hk : n ∈ keysL m := (sortG_perm _).mem_iff.mp hn2
    obtain ⟨v, hv⟩ := getL_in hk
    rw [hv]
    have hm := getL_some hv
    refine shd_tup (n := 809) (m := 2) (ds := [.str n, dFr v]) (fun d hd => ?_) (Nat.le_refl _)
    simp only [List.mem_cons, List.not_mem_nil, or_false] at hd
    rcases hd with rfl | rfl
    · exact (shd_nm (hn _ hm)).mono (by decide) (by decide)
    · exact shd_fq (h _ hm) hb
  · rw [List.length_map, (sortG_perm _).length_eq]
    unfold keysL
    rw [List.length_map]
    exact hl
theorem same_hide {H H' : Hp} {d : Addr} (n : H d = none) (s : Same H H') : Same H (hide d H') := fun b o e => by
  rw [hide_ne (ne_of_none e n)]
  exact s b o e
theorem lock_same {H H' : Hp} {d : Addr} {u : HO} {od : Obj} (e : H d = some u) (s : Same (upd H d (.frz od u)) H') : Same H (upd H' d u) := fun b o h => by
  by_cases q : b = d
  · rw [q] at h ⊢
    rw [upd_same, ← e, h]
  · rw [upd_ne q]
    exact s b o (by rw [upd_ne q]; exact h)
def spLaw (K : PySem.W.Frag) : Sp := fun vs H Q _ => ∃ (a : Addr) (ns : List Int), vs = [.ref a] ∧ SqL K H a (ns.map V.int) ∧ ns.length ≤ 63 ∧ ∀ H', Q (.bl true) H'

end
end He

namespace He
open PySem PySem.Spec PyProof.Rows L2
section
variable {P : Program} {w : World} {K : PySem.W.Frag} {mg : Str → Option Value} {base : Heap}

theorem go_init {C : Addr} {H : Hp} {Q : VK} {x dx : Addr} {v : V} {shs : List Sh} (h : H x = some (.ins C dx [])) (hv : Av K H v (adWill shs)) (hw : WOk shs)
    (q : ∀ t H', (∀ b o, b ≠ x → H b = some o → H' b = some o) → H' x = some (.ins C dx [("shares", .ref t)]) → Dp K (news H H') (.ref t) (nWill shs) → Q .non H') : spWInit K C [.ref x, v] H Q E0 := by
  unfold spWInit
  exact ⟨x, dx, v, shs, rfl, h, hv, hw, q⟩
theorem go_make {C l : Addr} {H : Hp} {Q : Addr → Hp → Prop} {shs : List Sh} (hv : Av K H (.ref l) (adWill shs)) (hw : WOk shs) (q : ∀ x H', Same H H' → WillAt K C H' x shs → Q x H') :
    ∀ x dx, H x = none → H dx = none → dx ≠ x → spWInit K C [.ref x, .ref l] (upd (upd H dx (.own x)) x (.ins C dx [])) (fun v H2 => v = .non ∧ Q x H2) E0 := by
  intro x dx nx ndx hne
  have sH : Same H (upd (upd H dx (.own x)) x (.ins C dx [])) := (same_upd ndx).trans (same_upd (by rw [upd_ne (Ne.symm hne)]; exact nx))
  have ex0 : upd (upd H dx (.own x)) x (.ins C dx []) x = some (.ins C dx []) := upd_same
  generalize upd (upd H dx (.own x)) x (.ins C dx []) = Hi at sH ex0 ⊢
  refine go_init (shs := shs) ex0 (av_mono sH _ _ hv) hw fun t H6 k6 e6 d6 => ⟨rfl, ?_⟩
  have s6 : Same H H6 := fun b o e => k6 b o (ne_of_none e nx) (sH _ _ e)
  have n6 : Same (news Hi H6) H6 := fun b o e => (news_get e).2
  exact q x H6 s6 ⟨dx, t, e6, dp_mono n6 _ _ d6⟩
def wholeD : PyData := .tuple [.tuple [.str "crown", .tuple [.int 1, .int 1]]]
def shsC : List Sh := [(5, [["a"]])]
def shsD : List Sh := [(1, [])]
theorem okC : WOk shsC := by
  refine ⟨by simp [shsC], by decide, ?_, ?_⟩ <;> (intro s hs; obtain rfl := List.mem_singleton.mp hs)
  · refine ⟨⟨by decide, ?_⟩, by decide, by decide⟩
    intro g hg
    obtain rfl := List.mem_singleton.mp hg
    exact ⟨by simp, by decide +kernel, by decide +kernel⟩
  · decide
theorem okD : WOk shsD := by
  refine ⟨by simp [shsD], by decide, ?_, ?_⟩ <;> (intro s hs; obtain rfl := List.mem_singleton.mp hs)
  · exact ⟨⟨by decide, fun g hg => nomatch hg⟩, by decide, fun g hg => nomatch hg⟩
  · decide
theorem lenC : ∀ s ∈ shsC, ∀ g ∈ s.2, g.length ≤ 9 := by decide
theorem lenD : ∀ s ∈ shsD, ∀ g ∈ s.2, g.length ≤ 9 := by decide
theorem one_item (n : Str) (q : Fq) : itemsD [(n, q)] = .tuple [dItem n q] := by
  have e : sortG [n] = [n] := List.perm_singleton.mp (sortG_perm [n])
  unfold itemsD
  show PyData.tuple ((sortG [n]).map _) = _
  rw [e]
  show PyData.tuple [dItem n ((getL [(n, q)] n).getD zeroF)] = _
  unfold getL
  rw [List.find?_cons_of_pos (by exact decide_eq_true rfl)]
  rfl
theorem tellC : heirsD shsC [] = wholeD := by
  have h := (heirs_alike (fun s hs => (okC.ok s hs).1) okC.ne []).items
  have e : heirsL shsC [] = [(("crown" : Str), ((1, 1) : Fq))] := by decide +kernel
  rw [e, one_item] at h
  exact h
theorem tellD : heirsD shsD ["a"] = wholeD := by
  have h := (heirs_alike (fun s hs => (okD.ok s hs).1) okD.ne ["a"]).items
  have e : heirsL shsD ["a"] = [(("crown" : Str), ((1, 1) : Fq))] := by decide +kernel
  rw [e, one_item] at h
  exact h
theorem go_heirs {C : Addr} {H : Hp} {Q : VK} {x : Addr} {al : V} {shs : List Sh} {ns : List Str} (h : WillAt K C H x shs) (hw : WOk shs) (ha : SqN K H al ns) (h6 : shs.length ≤ 6) (h9 : ∀ s ∈ shs, ∀ g ∈ s.2, g.length ≤ 9)
    (q : ∀ r H', Same H H' → H r = none → Dp K H' (.ref r) (heirsD shs ns) → Q (.ref r) H') : spHeirs K C [.ref x, al] H Q E0 := by
  unfold spHeirs
  exact ⟨x, al, shs, ns, rfl, h, hw, ha, h6, h9, q⟩
theorem ok_law (W : TxtH K mg) : FnOkG P w K mg base CX0 12 W.w.t.dLaw.f W.w.t.dLaw.fd ["_law_script"] (spLaw K) := by
  refine okG W.w.t.dLaw.F scDLaw (fun vs H Q E h => ?_) (fun cdv A outer s H vs Q E hg hr h => ?_)
  · obtain ⟨a, ns, rfl, _⟩ := h
    rfl
  · obtain ⟨a, ns, rfl, hs, hn, q⟩ := h
    refine ⟨_, (pss_cons (ps_for PassesOwn.never rfl (pi_range1 (by rfl) W.w.t.z_range (pa_cons (pe_callB (call_max2 rfl) (by rfl) W.w.t.z_max (show bootBuiltins "max" = some (.builtin "max") by decide +kernel) (pa_cons pe_int (pa_cons (pe_callB (call_min2 rfl) (by rfl) W.w.t.z_min (show bootBuiltins "min" = some (.builtin "min") by decide +kernel) (pa_cons pe_int (pa_cons (pe_callB call_lenL (by rfl) W.w.t.z_len (show bootBuiltins "len" = some (.builtin "len") by decide +kernel) (pa_cons (pv 0) pa_nil)) pa_nil))) pa_nil))) pa_nil)) (pg_name (i := 1) scDLaw.nd rfl (.inl rfl))
      (pss_cons (ps_set (i := 2) scDLaw.nd rfl (.inr rfl) (pe_call (ok_seed W.w.t) (hr.mono (by decide)) (by rfl) W.w.t.dLawSeed.g W.w.t.dLawSeed.F.kp W.w.t.dLawSeed.b .nil pass0 (pa_cons (pv 0) (pa_cons (pv 1) pa_nil))))
      (pss_one (ps_for PassesOwn.never rfl (pi_range1 (by rfl) W.w.t.z_range (pa_cons pe_int pa_nil)) (pg_name (i := 3) scDLaw.nd rfl (.inl rfl))
      (pss_cons (ps_set (i := 4) scDLaw.nd rfl (.inl rfl) (pe_call (ok_names W.w.t) (hr.mono (by decide)) (by rfl) W.w.t.dLawNames.g W.w.t.dLawNames.F.kp W.w.t.dLawNames.b .nil pass0 (pa_cons (pv 2) (pa_cons pe_int pa_nil))))
      (pss_cons (ps_set (i := 5) scDLaw.nd rfl (.inl rfl) (pe_call (ok_will W.w.t) (hr.mono (by decide)) (by rfl) W.w.t.dLawWill.g W.w.t.dLawWill.F.kp W.w.t.dLawWill.b .nil pass0 (pa_cons (pv 2) (pa_cons (pv 4) pa_nil))))
      (pss_cons (ps_set (i := 6) scDLaw.nd rfl (.inl rfl) (pe_make W.w.iM (ok_winit W.w) (hr.mono (by decide)) (by rfl) W.w.t.gcWill W.w.iB .nil pass0 (pa_cons (pv 5) pa_nil)))
      (pss_one (ps_for PassesOwn.never rfl (pi_range1 (by rfl) W.w.t.z_range (pa_cons pe_int pa_nil)) (pg_name (i := 7) scDLaw.nd rfl (.inl rfl))
      (pss_cons (ps_setLc (i := 8) (own := [("_law_name", 9)]) (g := (gName 9)) rfl scDLaw.nd rfl rfl (sw_true rfl rfl rfl (by decide +kernel)) (pi_list (pe_call (ok_mixed W.w.t) (hr.mono (by decide)) (by rfl) W.w.t.dLawMixed.g W.w.t.dLawMixed.F.kp W.w.t.dLawMixed.b .nil pass0 (pa_cons (pv 2) (pa_cons (pv 4) pa_nil)))) (blkOk_by (N := ["_law_script", "_law_k", "_law_box", "_law_turn", "_law_names_here", "_law_will_here", "_law_made", "_law_more", "_law_alive", "_law_name", "_law_shares", "_law_due", "_law_one", "_law_given", "_law_kept", "_law_whole"]) (sc := defScope sDLaw) (by decide +kernel)) (fun _ _ _ _ _ => (pg_name (i := 9) scDLaw.nd rfl (.inl rfl))) (fun _ _ _ _ _ => (pts_one (pt_cmpR op_eq (pe_call (ok_choose W.w.t) (hr.mono (by decide)) (by rfl) W.w.t.dLawChoose.g W.w.t.dLawChoose.F.kp W.w.t.dLawChoose.b .nil pass0 (pa_cons (pv 2) (pa_cons pe_int pa_nil))) pe_int (nomark _)))) (fun _ _ _ _ _ => (pv 9)))
      (pss_cons (ps_set (i := 10) scDLaw.nd rfl (.inr rfl) (pe_call (ok_lheirs W.w.t) (hr.mono (by decide)) (by rfl) W.w.t.dLawHeirs.g W.w.t.dLawHeirs.F.kp W.w.t.dLawHeirs.b .nil pass0 (pa_cons (pv 5) (pa_cons (pv 8) pa_nil))))
      (pss_cons (ps_set (i := 11) scDLaw.nd rfl (.inl rfl) (pe_callTy call_tuple_of (by rfl) W.w.t.z_tuple (show bootBuiltins "tuple" = some (.type "tuple") by decide +kernel) (pa_cons (pe_lc (own := [("_law_name", 9)]) (g := (gName 9)) (tt := tYes) rfl scDLaw.nd (pi_list (pe_callB cr_sortedS (by rfl) W.w.t.z_sorted (show bootBuiltins "sorted" = some (.builtin "sorted") by decide +kernel) (pa_cons (pe_lock (pe_lc (own := [("_law_one", 12)]) (g := (gName 12)) (tt := tYes) rfl scDLaw.nd (pi_keys (pv 10)) (blkOk_by (N := ["_law_script", "_law_k", "_law_box", "_law_turn", "_law_names_here", "_law_will_here", "_law_made", "_law_more", "_law_alive", "_law_name", "_law_shares", "_law_due", "_law_one", "_law_given", "_law_kept", "_law_whole"]) (sc := defScope sDLaw) (by decide +kernel)) (fun _ _ _ _ _ => (pg_name (i := 12) scDLaw.nd rfl (.inl rfl))) (fun _ _ _ _ _ => pts_nil) (fun _ _ _ _ _ => (pe_callTy (show CallR _ (.type "str") (fun xs H Q => ∃ a, xs = [.str a] ∧ Q (.str a) H) from SkE.call_str_str) (by rfl) W.w.t.z_str (show bootBuiltins "str" = some (.type "str") by decide +kernel) (pa_cons (pv 12) pa_nil))))) pa_nil))) (blkOk_by (N := ["_law_script", "_law_k", "_law_box", "_law_turn", "_law_names_here", "_law_will_here", "_law_made", "_law_more", "_law_alive", "_law_name", "_law_shares", "_law_due", "_law_one", "_law_given", "_law_kept", "_law_whole"]) (sc := defScope sDLaw) (by decide +kernel)) (fun _ _ _ _ _ => (pg_name (i := 9) scDLaw.nd rfl (.inl rfl))) (fun _ _ _ _ _ => pts_nil) (fun _ _ _ _ _ => (pe_tup (pa_cons (pv 9) (pa_cons (pe_dget (hu_of hr) (pv 10) (pv 9) (fun _ _ => rfl)) pa_nil))))) pa_nil)))
      (pss_cons (ps_set (i := 13) scDLaw.nd rfl (.inl rfl) (pe_op op_cat (pe_op op_cat (pv 8) (pe_slice sl_list (pv 8) po_none (po_some pe_int))) (pe_lst (pa_cons pe_str pa_nil))))
      (pss_cons (ps_set (i := 14) scDLaw.nd rfl (.inl rfl) (pe_callTy call_list_of (by rfl) W.w.t.z_list (show bootBuiltins "list" = some (.type "list") by decide +kernel) (pa_cons (pv 13) pa_nil)))
      (pss_cons (ps_if (PW.pt (pw_or (pt_cmpR op_ne (pe_callB (call_reprD hr.units (deeper_guards hg)) (by rfl) W.w.t.z_repr (show bootBuiltins "repr" = some (.builtin "repr") by decide +kernel) (pa_cons (pe_meth (pv 6) W.w.cl W.hM (ok_heirs W) (hr.mono (by decide)) W.hB .nil pass0 (pa_cons (pv 13) pa_nil)) pa_nil)) (pe_callB (call_reprD hr.units (deeper_guards hg)) (by rfl) W.w.t.z_repr (show bootBuiltins "repr" = some (.builtin "repr") by decide +kernel) (pa_cons (pv 11) pa_nil)) (nomark _)) (pw_or1 (pt_cmpR (op_neD hr.units) (pv 13) (pv 14) (nomark _)))))
      (pss_one (ps_ret pe_bl))
      pss_nil)
      (pss_cons (ps_if (pt_cmpR op_ne (pe_callB (call_reprD hr.units (deeper_guards hg)) (by rfl) W.w.t.z_repr (show bootBuiltins "repr" = some (.builtin "repr") by decide +kernel) (pa_cons (pe_meth (pv 6) W.w.cl W.hM (ok_heirs W) (hr.mono (by decide)) W.hB .nil pass0 (pa_cons (pe_callTy call_tuple_of (by rfl) W.w.t.z_tuple (show bootBuiltins "tuple" = some (.type "tuple") by decide +kernel) (pa_cons (pv 8) pa_nil)) pa_nil)) pa_nil)) (pe_callB (call_reprD hr.units (deeper_guards hg)) (by rfl) W.w.t.z_repr (show bootBuiltins "repr" = some (.builtin "repr") by decide +kernel) (pa_cons (pv 11) pa_nil)) (nomark _))
      (pss_one (ps_ret pe_bl))
      pss_nil)
      (pss_one (ps_if (PW.pt (pw_or (pt_cmpR (op_neD hr.units) (pe_meth (pv 6) W.w.cl W.hM (ok_heirs W) (hr.mono (by decide)) W.hB .nil pass0 (pa_cons (pe_revL (pv 8)) pa_nil)) (pv 11) (nomark _)) (pw_or1 (pt_cmpR (op_neNil hr.units) (pe_lc (own := [("_law_one", 12)]) (g := (gName 12)) rfl scDLaw.nd (pi_seq (pv 11)) (blkOk_by (N := ["_law_script", "_law_k", "_law_box", "_law_turn", "_law_names_here", "_law_will_here", "_law_made", "_law_more", "_law_alive", "_law_name", "_law_shares", "_law_due", "_law_one", "_law_given", "_law_kept", "_law_whole"]) (sc := defScope sDLaw) (by decide +kernel)) (fun _ _ _ _ _ => (pg_name (i := 12) scDLaw.nd rfl (.inl rfl))) (fun _ _ _ _ _ => (pts_one (pt_cmpR op_lt (pe_ix (show IxR _ (rIxT K) from ix_tup) (pe_ix (show IxR _ (rIxT K) from ix_tup) (pv 12) pe_int (fun _ _ => rfl)) pe_int (fun _ _ => rfl)) pe_int (nomark _)))) (fun _ _ _ _ _ => (pv 12))) (pe_lst pa_nil) (nomark _)))))
      (pss_one (ps_ret pe_bl))
      pss_nil))))))))))))))))))
      (pss_cons (ps_set (i := 15) scDLaw.nd rfl (.inl rfl) (pe_tup (pa_cons (pe_tup (pa_cons pe_str (pa_cons (pe_tup (pa_cons pe_int (pa_cons pe_int pa_nil))) pa_nil))) pa_nil)))
      (pss_one (ps_ret (pe_and (pe_cmpR (op_eqD hr.units) (pe_meth (pe_make W.w.iM (ok_winit W.w) (hr.mono (by decide)) (by rfl) W.w.t.gcWill W.w.iB .nil pass0 (pa_cons (pe_lst (pa_cons (pe_tup (pa_cons pe_int (pa_cons (pe_lst (pa_cons (pe_lst (pa_cons pe_str pa_nil)) pa_nil)) pa_nil))) pa_nil)) pa_nil)) W.w.cl W.hM (ok_heirs W) (hr.mono (by decide)) W.hB .nil pass0 (pa_cons (pe_lst pa_nil) pa_nil)) (pv 15) (nomark _)) (pe_one (pe_cmpR (op_eqD hr.units) (pe_meth (pe_make W.w.iM (ok_winit W.w) (hr.mono (by decide)) (by rfl) W.w.t.gcWill W.w.iB .nil pass0 (pa_cons (pe_lst (pa_cons (pe_tup (pa_cons pe_int (pa_cons (pe_lst pa_nil) pa_nil))) pa_nil)) pa_nil)) W.w.cl W.hM (ok_heirs W) (hr.mono (by decide)) W.hB .nil pass0 (pa_cons (pe_lst (pa_cons pe_str pa_nil)) pa_nil)) (pv 15) (nomark _)))))))), ?_⟩
    simp only [and_assoc, tSeq, tAsg, tOp, tUn, rI, rI0, rU, tVar, tC, gName, L2.start, tIfS, tTest, tB, tCB, tCons, tNil, tIf, tRet, tRetN, tLst, tTup, tNext, tDrop, tNot, tNotV, tAnd, tOr, tAndV, tOrV, tPar, tAug, ipI, rEq, rNe, gSub, rSetL, rIxL, rIxT, tBM, tBM0, rAppend, rPopAt, gTup, gCons, gNil, tCall, tSl, tPart, tNoPart, rSlL, rCat, rEqD, rNeD, rIn, scal, List.map_cons, List.map_nil, List.length_cons, List.length_nil, List.length_map, List.cons_append, List.nil_append, List.append_nil, List.replicate, List.getElem?_cons_zero, List.getElem?_cons_succ, List.set_cons_zero, List.set_cons_succ, Option.some.injEq, exists_eq_left', exists_eq_left, exists_eq_right, exists_and_left, exists_and_right, V.int.injEq, V.ref.injEq, V.str.injEq, V.bl.injEq, reduceCtorEq, false_and, and_false, exists_false, or_false, false_or, true_and, and_true, List.cons.injEq, decide_eq_true_eq, cxOf, if_true, if_false, Bool.false_eq_true, Nat.reduceAdd, Nat.reduceSub, Nat.zero_add, Nat.add_sub_cancel_left, Nat.add_sub_cancel, Nat.sub_self, sFld, tFld, tFor_eq, tLc_eq, iRng1, iRng2, iList, iTup, iEnum, iEnumQ, rIsi, rIsiT, iSeq, wipe, tDNewK, tDGet2, sDPut, rSum, tRevL, rNeNil, tMake, tMeth, rReprD, rNeD, rEqD, tLockE, iKeys, tDGet, spMixed]
    obtain ⟨n, hn4, hnn⟩ : ∃ n : Nat, n ≤ 4 ∧ (if (if ((List.map V.int ns).length : Int) < 4 then ((List.map V.int ns).length : Int) else 4) > 2 then if ((List.map V.int ns).length : Int) < 4 then ((List.map V.int ns).length : Int) else 4 else 2) = (n : Int) := by
      refine ⟨(if (if ((List.map V.int ns).length : Int) < 4 then ((List.map V.int ns).length : Int) else 4) > 2 then if ((List.map V.int ns).length : Int) < 4 then ((List.map V.int ns).length : Int) else 4 else 2).toNat, ?_, ?_⟩ <;> (repeat' split) <;> omega
    refine ⟨_, hs, by rw [hnn]; omega, by rw [hnn]; omega, ?_⟩
    rw [hnn, Int.toNat_natCast]
    refine fg_range (fun i σ H2 => ∃ (r : List (Option V)), σ = some (.ref a) :: r ∧ r.length = 15 ∧ Same H H2) ⟨_, rfl, rfl, Same.refl H⟩ ?_ ?_
    · rintro i σ H2 hi ⟨r, rfl, hr15, s2⟩
      obtain ⟨o1, o2, o3, o4, o5, o6, o7, o8, o9, o10, o11, o12, o13, o14, o15, rfl⟩ : ∃ o1 o2 o3 o4 o5 o6 o7 o8 o9 o10 o11 o12 o13 o14 o15, r = [o1, o2, o3, o4, o5, o6, o7, o8, o9, o10, o11, o12, o13, o14, o15] := by
        match r, hr15 with
        | [o1, o2, o3, o4, o5, o6, o7, o8, o9, o10, o11, o12, o13, o14, o15], _ => exact ⟨_, _, _, _, _, _, _, _, _, _, _, _, _, _, _, rfl⟩
      simp only [and_assoc, tSeq, tAsg, tOp, tUn, rI, rI0, rU, tVar, tC, gName, L2.start, tIfS, tTest, tB, tCB, tCons, tNil, tIf, tRet, tRetN, tLst, tTup, tNext, tDrop, tNot, tNotV, tAnd, tOr, tAndV, tOrV, tPar, tAug, ipI, rEq, rNe, gSub, rSetL, rIxL, rIxT, tBM, tBM0, rAppend, rPopAt, gTup, gCons, gNil, tCall, tSl, tPart, tNoPart, rSlL, rCat, rEqD, rNeD, rIn, scal, List.map_cons, List.map_nil, List.length_cons, List.length_nil, List.length_map, List.cons_append, List.nil_append, List.append_nil, List.replicate, List.getElem?_cons_zero, List.getElem?_cons_succ, List.set_cons_zero, List.set_cons_succ, Option.some.injEq, exists_eq_left', exists_eq_left, exists_eq_right, exists_and_left, exists_and_right, V.int.injEq, V.ref.injEq, V.str.injEq, V.bl.injEq, reduceCtorEq, false_and, and_false, exists_false, or_false, false_or, true_and, and_true, List.cons.injEq, decide_eq_true_eq, cxOf, if_true, if_false, Bool.false_eq_true, Nat.reduceAdd, Nat.reduceSub, Nat.zero_add, Nat.add_sub_cancel_left, Nat.add_sub_cancel, Nat.sub_self, sFld, tFld, tFor_eq, tLc_eq, iRng1, iRng2, iList, iTup, iEnum, iEnumQ, rIsi, rIsiT, iSeq, wipe, tDNewK, tDGet2, sDPut, rSum, tRevL, rNeNil, tMake, tMeth, rReprD, rNeD, rEqD, tLockE, iKeys, tDGet, spMixed, spSeed]
      refine ⟨ns, i, by omega, by omega, s2.seq hs, hn, fun b0 b1 p np h0 h1 h2 => ⟨by decide, by decide, ?_⟩⟩
      have hb1 : Box (upd H2 p (.lst [.int b0, .int b1])) p := ⟨b0, b1, upd_same, h0, h1, h2⟩
      have s21 := same_upd (o := .lst [.int b0, .int b1]) np
      generalize upd H2 p (.lst [.int b0, .int b1]) = H1 at hb1 s21 ⊢
      refine fg_range (fun j σ H3 => ∃ (r : List (Option V)), σ = some (.ref a) :: some (.int (0 + ↑i)) :: some (.ref p) :: r ∧ r.length = 13 ∧ Bx p H1 H3) ⟨_, rfl, rfl, .refl hb1⟩ ?_ ?_
      · rintro j σ H3 hj ⟨r, rfl, hr13, B3⟩
        obtain ⟨o3, o4, o5, o6, o7, o8, o9, o10, o11, o12, o13, o14, o15, rfl⟩ : ∃ o3 o4 o5 o6 o7 o8 o9 o10 o11 o12 o13 o14 o15, r = [o3, o4, o5, o6, o7, o8, o9, o10, o11, o12, o13, o14, o15] := by
          match r, hr13 with
          | [o3, o4, o5, o6, o7, o8, o9, o10, o11, o12, o13, o14, o15], _ => exact ⟨_, _, _, _, _, _, _, _, _, _, _, _, _, rfl⟩
        simp only [and_assoc, tSeq, tAsg, tOp, tUn, rI, rI0, rU, tVar, tC, gName, L2.start, tIfS, tTest, tB, tCB, tCons, tNil, tIf, tRet, tRetN, tLst, tTup, tNext, tDrop, tNot, tNotV, tAnd, tOr, tAndV, tOrV, tPar, tAug, ipI, rEq, rNe, gSub, rSetL, rIxL, rIxT, tBM, tBM0, rAppend, rPopAt, gTup, gCons, gNil, tCall, tSl, tPart, tNoPart, rSlL, rCat, rEqD, rNeD, rIn, scal, List.map_cons, List.map_nil, List.length_cons, List.length_nil, List.length_map, List.cons_append, List.nil_append, List.append_nil, List.replicate, List.getElem?_cons_zero, List.getElem?_cons_succ, List.set_cons_zero, List.set_cons_succ, Option.some.injEq, exists_eq_left', exists_eq_left, exists_eq_right, exists_and_left, exists_and_right, V.int.injEq, V.ref.injEq, V.str.injEq, V.bl.injEq, reduceCtorEq, false_and, and_false, exists_false, or_false, false_or, true_and, and_true, List.cons.injEq, decide_eq_true_eq, cxOf, if_true, if_false, Bool.false_eq_true, Nat.reduceAdd, Nat.reduceSub, Nat.zero_add, Nat.add_sub_cancel_left, Nat.add_sub_cancel, Nat.sub_self, sFld, tFld, tFor_eq, tLc_eq, iRng1, iRng2, iList, iTup, iEnum, iEnumQ, rIsi, rIsiT, iSeq, wipe, tDNewK, tDGet2, sDPut, rSum, tRevL, rNeNil, tMake, tMeth, rReprD, rNeD, rEqD, tLockE, iKeys, tDGet, spMixed, spNames]
        refine ⟨6, rfl, B3.1, by decide, fun nms u H4 B4 nm nl nu eu => ?_⟩
        simp only [and_assoc, tSeq, tAsg, tOp, tUn, rI, rI0, rU, tVar, tC, gName, L2.start, tIfS, tTest, tB, tCB, tCons, tNil, tIf, tRet, tRetN, tLst, tTup, tNext, tDrop, tNot, tNotV, tAnd, tOr, tAndV, tOrV, tPar, tAug, ipI, rEq, rNe, gSub, rSetL, rIxL, rIxT, tBM, tBM0, rAppend, rPopAt, gTup, gCons, gNil, tCall, tSl, tPart, tNoPart, rSlL, rCat, rEqD, rNeD, rIn, scal, List.map_cons, List.map_nil, List.length_cons, List.length_nil, List.length_map, List.cons_append, List.nil_append, List.append_nil, List.replicate, List.getElem?_cons_zero, List.getElem?_cons_succ, List.set_cons_zero, List.set_cons_succ, Option.some.injEq, exists_eq_left', exists_eq_left, exists_eq_right, exists_and_left, exists_and_right, V.int.injEq, V.ref.injEq, V.str.injEq, V.bl.injEq, reduceCtorEq, false_and, and_false, exists_false, or_false, false_or, true_and, and_true, List.cons.injEq, decide_eq_true_eq, cxOf, if_true, if_false, Bool.false_eq_true, Nat.reduceAdd, Nat.reduceSub, Nat.zero_add, Nat.add_sub_cancel_left, Nat.add_sub_cancel, Nat.sub_self, sFld, tFld, tFor_eq, tLc_eq, iRng1, iRng2, iList, iTup, iEnum, iEnumQ, rIsi, rIsiT, iSeq, wipe, tDNewK, tDGet2, sDPut, rSum, tRevL, rNeNil, tMake, tMeth, rReprD, rNeD, rEqD, tLockE, iKeys, tDGet, spMixed, spWill]
        have up : u ≠ p := fun z => by obtain ⟨_, _, e, _⟩ := B3.1; rw [z, e] at nu; cases nu
        refine ⟨B4.1, nms, sqL_of (by rw [hide_ne up]; exact eu), by omega, nm, fun shs vs r H5 B5 hwo nr er hd => ?_⟩
        have hw := hwo.wok
        have rp : r ≠ p := fun z => by obtain ⟨_, _, e, _⟩ := B4.1; rw [z, e] at nr; cases nr
        intro x dx nx ndx hne
        have sH : Same H5 (upd (upd H5 dx (.own x)) x (.ins W.w.t.cWill dx [])) := (same_upd ndx).trans (same_upd (by rw [upd_ne (Ne.symm hne)]; exact nx))
        have ex0 : upd (upd H5 dx (.own x)) x (.ins W.w.t.cWill dx []) x = some (.ins W.w.t.cWill dx []) := upd_same
        generalize upd (upd H5 dx (.own x)) x (.ins W.w.t.cWill dx []) = Hi at sH ex0 ⊢
        have hle : Same (hide p H5) H5 := hide_le
        refine go_init (shs := shs) ex0 ?_ hw fun t H6 k6 e6 d6 => ⟨rfl, by decide, by decide, ?_⟩
        · have e := adA_shs shs
          have h1 := avA_of _ _ (dpA_mono (hle.trans sH) _ _ hd)
          rw [e] at h1
          exact .lst (sqL_of (sH _ _ er)) h1
        have s56 : Same H5 H6 := fun b o e => k6 b o (ne_of_none e nx) (sH _ _ e)
        have xp : x ≠ p := fun z => by obtain ⟨_, _, e, _⟩ := B5.1; rw [z, e] at nx; cases nx
        have B56 : Bx p H5 H6 := .of B5.1 s56
        have B16 : Bx p H1 H6 := ((B3.trans B4).trans B5).trans B56
        have hr6 : SqL K (hide p H6) r vs := sqL_of (by rw [hide_ne rp]; exact s56 _ _ er)
        have hd6 : DpAll K (hide p H6) vs (shs.map dSh) := dpA_mono B56.2 _ _ hd
        have pHi : Hi p ≠ none := by obtain ⟨_, _, e, _⟩ := B5.1; rw [sH _ _ e]; exact fun z => nomatch z
        have n6 : Same (news Hi H6) (hide p H6) := fun b o e => by
          obtain ⟨e1, e2⟩ := news_get e
          rw [hide_ne (fun z => pHi (by rw [← z]; exact e1))]
          exact e2
        have hx6 : WillAt K W.w.t.cWill (hide p H6) x shs := ⟨dx, t, by rw [hide_ne xp]; exact e6, dp_mono n6 _ _ d6⟩
        have hu6 : SqL K (hide p H6) u (nms.map V.str) := sqL_of (by rw [hide_ne up]; exact s56 _ _ (B5.get up eu))
        have sh3 := hwo.l3
        have gl3 : ∀ s ∈ shs, ∀ g ∈ s.2, g.length ≤ 9 := fun s hs g hg => by have := (hwo.ok s hs).2.1.g g hg; omega
        have qq : ∀ s ∈ shs, ∀ g ∈ s.2, ∀ n ∈ g, n ≠ ("qq" : Str) := fun s hs g hg n hn e => by
          obtain ⟨pl, hpl, hin⟩ := nm.pl
          have h1 := hin n ((hwo.ok s hs).2.2 g hg n hn)
          have h2 : ∀ pl ∈ pools, ("qq" : Str) ∉ pl := by decide +kernel
          exact h2 pl hpl (e ▸ h1)
        refine fg_range (fun m σ H7 => ∃ (r' : List (Option V)), σ = some (.ref a) :: some (.int (0 + ↑i)) :: some (.ref p) :: some (.int (0 + ↑j)) :: some (.ref u) :: some (.ref r) :: some (.ref x) :: r' ∧ r'.length = 9 ∧ Bx p H6 H7) ⟨_, rfl, rfl, .refl B56.1⟩ ?_ ?_
        · rintro m σ H7 hm ⟨r', rfl, hr9, B7⟩
          obtain ⟨o7, o8, o9, o10, o11, o12, o13, o14, o15, rfl⟩ : ∃ o7 o8 o9 o10 o11 o12 o13 o14 o15, r' = [o7, o8, o9, o10, o11, o12, o13, o14, o15] := by
            match r', hr9 with
            | [o7, o8, o9, o10, o11, o12, o13, o14, o15], _ => exact ⟨_, _, _, _, _, _, _, _, _, rfl⟩
          simp only [and_assoc, tSeq, tAsg, tOp, tUn, rI, rI0, rU, tVar, tC, gName, L2.start, tIfS, tTest, tB, tCB, tCons, tNil, tIf, tRet, tRetN, tLst, tTup, tNext, tDrop, tNot, tNotV, tAnd, tOr, tAndV, tOrV, tPar, tAug, ipI, rEq, rNe, gSub, rSetL, rIxL, rIxT, tBM, tBM0, rAppend, rPopAt, gTup, gCons, gNil, tCall, tSl, tPart, tNoPart, rSlL, rCat, rEqD, rNeD, rIn, scal, List.map_cons, List.map_nil, List.length_cons, List.length_nil, List.length_map, List.cons_append, List.nil_append, List.append_nil, List.replicate, List.getElem?_cons_zero, List.getElem?_cons_succ, List.set_cons_zero, List.set_cons_succ, Option.some.injEq, exists_eq_left', exists_eq_left, exists_eq_right, exists_and_left, exists_and_right, V.int.injEq, V.ref.injEq, V.str.injEq, V.bl.injEq, reduceCtorEq, false_and, and_false, exists_false, or_false, false_or, true_and, and_true, List.cons.injEq, decide_eq_true_eq, cxOf, if_true, if_false, Bool.false_eq_true, Nat.reduceAdd, Nat.reduceSub, Nat.zero_add, Nat.add_sub_cancel_left, Nat.add_sub_cancel, Nat.sub_self, sFld, tFld, tFor_eq, tLc_eq, iRng1, iRng2, iList, iTup, iEnum, iEnumQ, rIsi, rIsiT, iSeq, wipe, tDNewK, tDGet2, sDPut, rSum, tRevL, rNeNil, tMake, tMeth, rReprD, rNeD, rEqD, tLockE, iKeys, tDGet, spMixed]
          refine ⟨B7.1, nms.map V.str, B7.2.seq hu6, by rw [List.length_map, nl]; decide, fun ys l8 H8 B8 pm nl8 el8 => ⟨⟨_, sqL_of el8⟩, fun D nD => ?_⟩⟩
          obtain ⟨mx, rfl, pm2⟩ := perm_str pm
          have lp : l8 ≠ p := B7.ne B56.1 nl8
          have Dp' : D ≠ p := B8.ne B7.1 nD
          refine lg_list (xs := mx.map V.str) (fun k H => ∃ as : List Str, Bx p H8 H ∧ H D = some (.lst (as.map V.str)) ∧ as.length ≤ k ∧ ∀ n ∈ as, nameB n = true) ⟨[], .of B8.1 (same_upd nD), upd_same, Nat.le_refl _, fun _ h => nomatch h⟩ (fun k H _ ⟨as, B, _⟩ => sqL_of (B.get lp el8)) (fun k xn H hx ⟨as, B, eD, la, na⟩ => ?_) (fun H9 ⟨as, B9, eD9, la9, na9⟩ => ?_)
          · rw [List.getElem?_map] at hx
            obtain ⟨nn, en, rfl⟩ := Option.map_eq_some_iff.mp hx
            have kl := (List.getElem?_eq_some_iff.mp en).1
            have mxl : mx.length = 6 := by rw [pm2.length_eq, nl]
            simp only [and_assoc, tSeq, tAsg, tOp, tUn, rI, rI0, rU, tVar, tC, gName, L2.start, tIfS, tTest, tB, tCB, tCons, tNil, tIf, tRet, tRetN, tLst, tTup, tNext, tDrop, tNot, tNotV, tAnd, tOr, tAndV, tOrV, tPar, tAug, ipI, rEq, rNe, gSub, rSetL, rIxL, rIxT, tBM, tBM0, rAppend, rPopAt, gTup, gCons, gNil, tCall, tSl, tPart, tNoPart, rSlL, rCat, rEqD, rNeD, rIn, scal, List.map_cons, List.map_nil, List.length_cons, List.length_nil, List.length_map, List.cons_append, List.nil_append, List.append_nil, List.replicate, List.getElem?_cons_zero, List.getElem?_cons_succ, List.set_cons_zero, List.set_cons_succ, Option.some.injEq, exists_eq_left', exists_eq_left, exists_eq_right, exists_and_left, exists_and_right, V.int.injEq, V.ref.injEq, V.str.injEq, V.bl.injEq, reduceCtorEq, false_and, and_false, exists_false, or_false, false_or, true_and, and_true, List.cons.injEq, decide_eq_true_eq, cxOf, if_true, if_false, Bool.false_eq_true, Nat.reduceAdd, Nat.reduceSub, Nat.zero_add, Nat.add_sub_cancel_left, Nat.add_sub_cancel, Nat.sub_self, sFld, tFld, tFor_eq, tLc_eq, iRng1, iRng2, iList, iTup, iEnum, iEnumQ, rIsi, rIsiT, iSeq, wipe, tDNewK, tDGet2, sDPut, rSum, tRevL, rNeNil, tMake, tMeth, rReprD, rNeD, rEqD, tLockE, iKeys, tDGet, spMixed, spChoose]
            refine ⟨B.1, by decide, by decide, fun c Hc Bc c0 c1 => ?_⟩
            by_cases hc0 : c = 0
            · rw [if_pos hc0]
              refine ⟨_, Bc.get Dp' eD, small1000 (by rw [List.length_map]; omega), (B.trans Bc).mut nD Dp', as ++ [nn], by rw [upd_same, List.map_append]; rfl, by rw [List.length_append]; exact Nat.succ_le_succ la, fun n hn => ?_⟩
              rcases List.mem_append.mp hn with hn | hn
              · exact na n hn
              · rw [List.mem_singleton.mp hn]
                exact nm.nm nn (pm2.mem_iff.mp (List.mem_of_getElem? en))
            · rw [if_neg hc0]
              exact ⟨B.trans Bc, as, Bc.get Dp' eD, Nat.le_succ_of_le la, na⟩
          · rw [List.length_map, pm2.length_eq, nl] at la9
            have B79 : Bx p H7 H9 := B8.trans B9
            have B69 := B7.trans B79
            have hr9' : SqL K H9 r vs := hide_le.seq (B69.2.seq hr6)
            have hd9 : DpAll K H9 vs (shs.map dSh) := dpA_mono (B69.2.trans hide_le) _ _ hd6
            unfold spLHeirs
            refine ⟨r, .ref D, vs, shs, as, rfl, hr9', hd9, hw, ⟨D, rfl, .inl (sqL_of eD9)⟩, by omega, gl3, fun d H10 L s10 nd10 fL lL mL => ⟨d, _, fL.at_, trivial, fun od => ⟨d, rfl, od, .inl ⟨_, upd_same, fun D2 nD2 => ?_⟩⟩⟩⟩
            have hk : (L.map ent3).length = (L.map (·.1)).length := by rw [List.length_map, List.length_map]
            have D2d : D2 ≠ d := fun z => by rw [z, upd_same] at nD2; cases nD2
            refine lg_filter walk_keys (fun _ => true) (fun i => V.str ((L.map (·.1)).getD i Str.empty)) (small1000 (by rw [List.length_map]; omega)) nD2 (fun H s => s _ _ upd_same) (fun k xk H H' Aq Bq hk2 s hD hY hA hB => ?_) (fun H11 s11 e11 => ?_)
            · obtain ⟨rfl, kk, vv, ek, rfl⟩ := hY
              rw [List.getElem?_map] at ek
              obtain ⟨tt, et, ee⟩ := Option.map_eq_some_iff.mp ek
              cases ee
              have e2 : (L.map (·.1)).getD k Str.empty = tt.1 := by rw [List.getD_eq_getElem?_getD, List.getElem?_map, et]; rfl
              rw [e2] at hA
              simp only [and_assoc, tSeq, tAsg, tOp, tUn, rI, rI0, rU, tVar, tC, gName, L2.start, tIfS, tTest, tB, tCB, tCons, tNil, tIf, tRet, tRetN, tLst, tTup, tNext, tDrop, tNot, tNotV, tAnd, tOr, tAndV, tOrV, tPar, tAug, ipI, rEq, rNe, gSub, rSetL, rIxL, rIxT, tBM, tBM0, rAppend, rPopAt, gTup, gCons, gNil, tCall, tSl, tPart, tNoPart, rSlL, rCat, rEqD, rNeD, rIn, scal, List.map_cons, List.map_nil, List.length_cons, List.length_nil, List.length_map, List.cons_append, List.nil_append, List.append_nil, List.replicate, List.getElem?_cons_zero, List.getElem?_cons_succ, List.set_cons_zero, List.set_cons_succ, Option.some.injEq, exists_eq_left', exists_eq_left, exists_eq_right, exists_and_left, exists_and_right, V.int.injEq, V.ref.injEq, V.str.injEq, V.bl.injEq, reduceCtorEq, false_and, and_false, exists_false, or_false, false_or, true_and, and_true, List.cons.injEq, decide_eq_true_eq, cxOf, if_true, if_false, Bool.false_eq_true, Nat.reduceAdd, Nat.reduceSub, Nat.zero_add, Nat.add_sub_cancel_left, Nat.add_sub_cancel, Nat.sub_self, sFld, tFld, tFor_eq, tLc_eq, iRng1, iRng2, iList, iTup, iEnum, iEnumQ, rIsi, rIsiT, iSeq, wipe, tDNewK, tDGet2, sDPut, rSum, tRevL, rNeNil, tMake, tMeth, rReprD, rNeD, rEqD, tLockE, iKeys, tDGet, spMixed, kV]
              exact hA _ rfl (Same.refl _)
            · rw [hk, range_filter (L.map (·.1)) Str.empty (fun _ => true) V.str, List.filter_eq_self.mpr (fun _ _ => rfl)] at e11
              have s12 : Same H10 (upd H11 d (.dK (L.map ent3))) := lock_same fL.at_ s11
              have e12 : upd H11 d (.dK (L.map ent3)) D2 = some (.lst ((L.map (·.1)).map V.str)) := by rw [upd_ne D2d]; exact e11
              refine ⟨s11 _ _ upd_same, ?_⟩
              generalize upd H11 d (.dK (L.map ent3)) = H12 at s12 e12 ⊢
              refine ⟨D2, L.map (·.1), rfl, sqL_of e12, by rw [List.length_map]; omega, fun yk l13 pk sk nl13 => ⟨l13, rfl, ⟨_, sqL_of upd_same⟩, fun D3 nD3 => ?_⟩⟩
              have ek := sortG_of pk sk
              subst ek
              have s13 := same_upd (o := .lst ((sortG (L.map (·.1))).map V.str)) nl13
              have e13 : upd H12 l13 (.lst ((sortG (L.map (·.1))).map V.str)) l13 = some (.lst ((sortG (L.map (·.1))).map V.str)) := upd_same
              generalize upd H12 l13 (.lst ((sortG (L.map (·.1))).map V.str)) = H13 at s13 e13 nD3 ⊢
              have s1013 := s12.trans s13
              have f13 := fL.same s1013
              have kl13 : (sortG (L.map (·.1))).length ≤ 54 := by rw [(sortG_perm _).length_eq, List.length_map]; exact lL
              refine lg_pure (fun k y H => ∃ n, (sortG (L.map (·.1)))[k]? = some n ∧ Dp K H y (dItem n ((getL (mOf L) n).getD zeroF))) (.inl ⟨rfl, sqL_of e13⟩) (small1000 (by rw [List.length_map]; omega)) nD3 (fun k y H H' s ⟨n, e, h⟩ => ⟨n, e, dp_mono s _ _ h⟩) (fun k xk H Φ hx s hD hΦ => ?_) (fun ys H14 s14 e14 hl14 hY => ?_)
              · rw [List.getElem?_map] at hx
                obtain ⟨nn, en, rfl⟩ := Option.map_eq_some_iff.mp hx
                have mem : nn ∈ keysL L := (sortG_perm _).mem_iff.mp (List.mem_of_getElem? en)
                obtain ⟨tt, ett⟩ := getL_in mem
                have f := f13.same s
                simp only [and_assoc, tSeq, tAsg, tOp, tUn, rI, rI0, rU, tVar, tC, gName, L2.start, tIfS, tTest, tB, tCB, tCons, tNil, tIf, tRet, tRetN, tLst, tTup, tNext, tDrop, tNot, tNotV, tAnd, tOr, tAndV, tOrV, tPar, tAug, ipI, rEq, rNe, gSub, rSetL, rIxL, rIxT, tBM, tBM0, rAppend, rPopAt, gTup, gCons, gNil, tCall, tSl, tPart, tNoPart, rSlL, rCat, rEqD, rNeD, rIn, scal, List.map_cons, List.map_nil, List.length_cons, List.length_nil, List.length_map, List.cons_append, List.nil_append, List.append_nil, List.replicate, List.getElem?_cons_zero, List.getElem?_cons_succ, List.set_cons_zero, List.set_cons_succ, Option.some.injEq, exists_eq_left', exists_eq_left, exists_eq_right, exists_and_left, exists_and_right, V.int.injEq, V.ref.injEq, V.str.injEq, V.bl.injEq, reduceCtorEq, false_and, and_false, exists_false, or_false, false_or, true_and, and_true, List.cons.injEq, decide_eq_true_eq, cxOf, if_true, if_false, Bool.false_eq_true, Nat.reduceAdd, Nat.reduceSub, Nat.zero_add, Nat.add_sub_cancel_left, Nat.add_sub_cancel, Nat.sub_self, sFld, tFld, tFor_eq, tLc_eq, iRng1, iRng2, iList, iTup, iEnum, iEnumQ, rIsi, rIsiT, iSeq, wipe, tDNewK, tDGet2, sDPut, rSum, tRevL, rNeNil, tMake, tMeth, rReprD, rNeD, rEqD, tLockE, iKeys, tDGet, spMixed]
                refine ⟨V.ref tt.1, ?_, by decide, fun tp ntp => ?_⟩
                · have e := DGet.k (k := Sum.inr nn) f.at_
                  rw [valV_ent3, ett] at e
                  exact e
                · have tD : tp ≠ D3 := fun z => hD (by rw [← z]; exact ntp)
                  refine hΦ _ _ (same_upd ntp) ⟨nn, en, .tup (sqT_of (by rw [hide_ne tD, upd_same])) (.cons (.str _) (.cons ?_ .nil))⟩
                  rw [mOf_get, ett]
                  have h1 := f13.val _ (getL_some ett)
                  exact dp_mono ((hide_le.trans (same_hide nD3 (s.trans (same_upd ntp))))) _ _ h1
              · have sA : Same H9 H14 := s10.trans (s1013.trans s14)
                have eD14 := sA _ _ eD9
                have hys : DpAll K H14 ys ((sortG (keysL (mOf L))).map fun n => dItem n ((getL (mOf L) n).getD zeroF)) := by
                  rw [mOf_keys]
                  refine dp_list (by rw [hl14, List.length_map, List.length_map]) fun k y e => ?_
                  obtain ⟨n, en, h⟩ := hY k y e
                  exact ⟨_, by rw [List.getElem?_map, en]; rfl, dp_mono hide_le _ _ h⟩
                refine ⟨ys, .inl ⟨sqL_of e14, fun du ndu => ⟨as.map V.str, sqL_of (same_upd ndu _ _ eD14), fun g1 ng1 => ?_⟩⟩⟩
                have s15 := same_upd (o := .tup ys) ndu
                have hdu : Dp K (upd H14 du (.tup ys)) (.ref du) (itemsD (mOf L)) := .tup (sqT_of upd_same) (dpA_mono s15 _ _ hys)
                generalize upd H14 du (.tup ys) = H15 at s15 hdu ng1 ⊢
                have eD15 := s15 _ _ eD14
                have cut1 : cutV (as.map V.str) none (some 1) = (as.take 1).map V.str := by
                  have := cut_to (as.map V.str) 1
                  rw [List.map_take]
                  exact this
                rw [cut1]
                refine ⟨_, same_upd ng1 _ _ eD15, _, upd_same, by have : as.length + (as.take 1).length ≤ 1000 := (by rw [List.length_take]; omega); rw [List.length_map, List.length_map]; exact Nat.le_trans this (by decide), fun g2 ng2 => ⟨by decide, fun g3 ng3 => ⟨_, same_upd ng3 _ _ upd_same, _, upd_same, by have : as.length + (as.take 1).length + 1 ≤ 1000 := (by rw [List.length_take]; omega); rw [List.length_append, List.length_map, List.length_map]; exact Nat.le_trans this (by decide), fun gg ngg => ?_⟩⟩⟩
                have s16 := ((same_upd (o := .lst ((as.take 1).map V.str)) ng1).trans (same_upd (o := .lst (as.map V.str ++ (as.take 1).map V.str)) ng2)).trans (same_upd (o := .lst [V.str "qq"]) ng3)
                generalize upd (upd (upd H15 g1 (.lst ((as.take 1).map V.str))) g2 (.lst (as.map V.str ++ (as.take 1).map V.str))) g3 (.lst [V.str "qq"]) = H16 at s16 ngg ⊢
                have eg : as.map V.str ++ (as.take 1).map V.str ++ [V.str "qq"] = (as ++ as.take 1 ++ [("qq" : Str)]).map V.str := by rw [List.map_append, List.map_append]; rfl
                rw [eg]
                have s17 := same_upd (o := .lst ((as ++ as.take 1 ++ [("qq" : Str)]).map V.str)) ngg
                have e17 : upd H16 gg (.lst ((as ++ as.take 1 ++ [("qq" : Str)]).map V.str)) gg = some (.lst ((as ++ as.take 1 ++ [("qq" : Str)]).map V.str)) := upd_same
                generalize upd H16 gg (.lst ((as ++ as.take 1 ++ [("qq" : Str)]).map V.str)) = H17 at s17 e17 ⊢
                refine ⟨_, .inl (sqL_of e17), fun kg nkg => ?_⟩
                have s18 := same_upd (o := .lst ((as ++ as.take 1 ++ [("qq" : Str)]).map V.str)) nkg
                have e18 : upd H17 kg (.lst ((as ++ as.take 1 ++ [("qq" : Str)]).map V.str)) kg = some (.lst ((as ++ as.take 1 ++ [("qq" : Str)]).map V.str)) := upd_same
                generalize upd H17 kg (.lst ((as ++ as.take 1 ++ [("qq" : Str)]).map V.str)) = H18 at s18 e18 ⊢
                obtain ⟨gl, hgl⟩ : ∃ gl : List Str, gl = as ++ as.take 1 ++ [("qq" : Str)] := ⟨_, rfl⟩
                rw [← hgl] at e17 e18
                have gln : gl.length ≤ 13 := by rw [hgl, List.length_append, List.length_append, List.length_take]; show _ + 1 ≤ 13; omega
                have glb : ∀ n ∈ gl, nameB n = true := fun n hn => by
                  rw [hgl] at hn
                  rcases List.mem_append.mp hn with hn | hn
                  · rcases List.mem_append.mp hn with hn | hn
                    · exact na9 n hn
                    · exact na9 n (List.mem_of_mem_take hn)
                  · rw [List.mem_singleton.mp hn]
                    decide +kernel
                have ghd : heirsD shs gl = heirsD shs as := by
                  unfold heirsD
                  rw [heirs_congr (ns := gl) (ns' := as) fun s hs g hg n hn => ?_]
                  rw [hgl]
                  constructor
                  · intro h
                    rcases List.mem_append.mp h with h | h
                    · rcases List.mem_append.mp h with h | h
                      · exact h
                      · exact List.mem_of_mem_take h
                    · exact absurd (List.mem_singleton.mp h) (qq s hs g hg n hn)
                  · exact fun h => List.mem_append_left _ (List.mem_append_left _ h)
                have dd : itemsD (mOf L) = heirsD shs as := by
                  rw [mL]
                  exact ((heirs_alike (fun s hs => (hw.ok s hs).1) hw.ne as).items).symm
                have mk := mok_heirs (fun s hs => (hw.ok s hs).1) hw.ne as
                rw [← mL] at mk
                have sd : ShD 100000 3 (heirsD shs as) := by
                  rw [← dd]
                  refine shd_items (b := 43 * (9 * shs.length) + 1) (fun t ht => ?_) (by omega) mk.nm (by unfold mOf; rw [List.length_map]; exact lL)
                  obtain ⟨t0, h0, rfl⟩ := List.mem_map.mp ht
                  exact fL.bd t0 h0
                rw [dd] at hdu
                have sl : ShD 2000 1 (.list (gl.map PyData.str)) := (shd_lst (n := 52) (k := 0) (m := 13) (fun d hd => by obtain ⟨n, hn, rfl⟩ := List.mem_map.mp hd; exact shd_name (glb n hn)) (by rw [List.length_map]; exact gln)).mono (by decide) (Nat.le_refl _)
                have s58 := s15.trans (s16.trans (s17.trans s18))
                have sW : Same (hide p H6) H18 := ((B69.2.trans hide_le).trans sA).trans s58
                have w18 := hx6.mono sW
                have eD18 : H18 D = some (.lst (as.map V.str)) := s58 _ _ eD14
                have du18 : Dp K H18 (.ref du) (heirsD shs as) := dp_mono (s16.trans (s17.trans s18)) _ _ hdu
                have g18 : Dp K H18 (.ref gg) (.list (gl.map PyData.str)) := .lst (sqL_of (s18 _ _ e17)) (dpA_strs _)
                have k18 : Dp K H18 (.ref kg) (.list (gl.map PyData.str)) := .lst (sqL_of e18) (dpA_strs _)
                obtain ⟨wdx, wt, ew, dw⟩ := id w18
                refine ⟨_, _, ew, rfl, go_heirs w18 hw ⟨gg, rfl, .inl (sqL_of (s18 _ _ e17))⟩ (by omega) gl3 fun r1 H19 s19 nr1 d19 => ?_⟩
                rw [ghd] at d19
                have b30 := Nat.le_trans sd.dp (show 3 ≤ 30 by decide)
                have bln := Nat.le_trans sd.ln (show 100000 ≤ sizeLine by decide)
                refine ⟨r1, rfl, heirsD shs as, d19, sd.sh, sd.nd, b30, bln, heirsD shs as, dp_mono s19 _ _ du18, sd.sh, sd.nd, b30, bln, ?_⟩
                rw [decide_eq_true rfl, if_neg (by simp)]
                refine ⟨_, dp_mono s19 _ _ g18, _, dp_mono s19 _ _ k18, sl.shaped (by decide), sl.shaped (by decide), ?_⟩
                rw [sl.eqv, if_neg (by simp)]
                refine ⟨_, _, s19 _ _ ew, rfl, _, .inl ⟨sqL_of (s19 _ _ eD18), fun tl ntl => ?_⟩⟩
                have s20 := s19.trans (same_upd (o := .tup (as.map V.str)) ntl)
                have e20 : upd H19 tl (.tup (as.map V.str)) tl = some (.tup (as.map V.str)) := upd_same
                generalize upd H19 tl (.tup (as.map V.str)) = H20 at s20 e20 ⊢
                refine go_heirs (w18.mono s20) hw ⟨tl, rfl, .inr (sqT_of e20)⟩ (by omega) gl3 fun r2 H21 s21' nr2 d21 => ?_
                have s181 := s20.trans s21'
                refine ⟨r2, rfl, heirsD shs as, d21, sd.sh, sd.nd, b30, bln, heirsD shs as, dp_mono s181 _ _ du18, sd.sh, sd.nd, b30, bln, ?_⟩
                rw [decide_eq_true rfl, if_neg (by simp)]
                refine ⟨_, _, s181 _ _ ew, rfl, _, sqL_of (s181 _ _ eD18), fun rl nrl => ?_⟩
                have s22 := s181.trans (same_upd (o := .lst (as.map V.str).reverse) nrl)
                have e22 : upd H21 rl (.lst (as.map V.str).reverse) rl = some (.lst (as.map V.str).reverse) := upd_same
                generalize upd H21 rl (.lst (as.map V.str).reverse) = H22 at s22 e22 ⊢
                rw [← List.map_reverse] at e22
                refine go_heirs (w18.mono s22) hw ⟨rl, rfl, .inl (sqL_of e22)⟩ (by omega) gl3 fun r3 H23 s23 nr3 d23 => ?_
                have rev : heirsD shs as.reverse = heirsD shs as := by
                  unfold heirsD
                  rw [heirs_congr (ns := as.reverse) (ns' := as) fun s hs g hg n hn => List.mem_reverse]
                rw [rev] at d23
                have s182 := s22.trans s23
                have du23 := dp_mono s182 _ _ du18
                refine ⟨_, d23, _, du23, sd.shaped (by decide), sd.shaped (by decide), ?_⟩
                rw [sd.eqv, if_neg (by simp)]
                rw [← dd] at du23
                obtain ⟨du', xs, edu, hxs, hda⟩ := dp_tupI du23
                cases edu
                have hxl : xs.length ≤ 54 := by
                  rw [dpA_len hda, List.length_map, (sortG_perm _).length_eq]
                  unfold keysL mOf
                  rw [List.length_map, List.length_map]
                  exact lL
                refine ⟨xs, _, .inr ⟨rfl, hxs⟩, fun D5 nD5 => ?_⟩
                refine lg_filter walk_tup (fun _ => false) (fun _ => V.non) (small1000 (by omega)) nD5 (fun H s => Same.seqT s hxs) (fun k xk H H' Aq Bq hk s hD hY hA hB => ?_) (fun H24 s24 e24 => ?_)
                · obtain ⟨rfl, hx⟩ := hY
                  obtain ⟨dk, edk, hdk⟩ := dpA_get (dpA_mono s _ _ hda) hx
                  rw [List.getElem?_map] at edk
                  obtain ⟨nn, en, rfl⟩ := Option.map_eq_some_iff.mp edk
                  have mem : nn ∈ keysL (mOf L) := (sortG_perm _).mem_iff.mp (List.mem_of_getElem? en)
                  obtain ⟨tt, ett⟩ := getL_in mem
                  rw [ett] at hdk
                  have hdk : Dp K _ xk (dItem nn tt) := hdk
                  have ge := mk.ge _ (getL_some ett)
                  have ge : 1 ≤ tt.1 := ge
                  obtain ⟨b1', v1, v2, rfl, hb1', a1, a2⟩ := dp_tup2 hdk
                  obtain ⟨c1', rfl, hc1'⟩ := dFr_inv a2
                  simp only [and_assoc, tSeq, tAsg, tOp, tUn, rI, rI0, rU, tVar, tC, gName, L2.start, tIfS, tTest, tB, tCB, tCons, tNil, tIf, tRet, tRetN, tLst, tTup, tNext, tDrop, tNot, tNotV, tAnd, tOr, tAndV, tOrV, tPar, tAug, ipI, rEq, rNe, gSub, rSetL, rIxL, rIxT, tBM, tBM0, rAppend, rPopAt, gTup, gCons, gNil, tCall, tSl, tPart, tNoPart, rSlL, rCat, rEqD, rNeD, rIn, scal, List.map_cons, List.map_nil, List.length_cons, List.length_nil, List.length_map, List.cons_append, List.nil_append, List.append_nil, List.replicate, List.getElem?_cons_zero, List.getElem?_cons_succ, List.set_cons_zero, List.set_cons_succ, Option.some.injEq, exists_eq_left', exists_eq_left, exists_eq_right, exists_and_left, exists_and_right, V.int.injEq, V.ref.injEq, V.str.injEq, V.bl.injEq, reduceCtorEq, false_and, and_false, exists_false, or_false, false_or, true_and, and_true, List.cons.injEq, decide_eq_true_eq, cxOf, if_true, if_false, Bool.false_eq_true, Nat.reduceAdd, Nat.reduceSub, Nat.zero_add, Nat.add_sub_cancel_left, Nat.add_sub_cancel, Nat.sub_self, sFld, tFld, tFor_eq, tLc_eq, iRng1, iRng2, iList, iTup, iEnum, iEnumQ, rIsi, rIsiT, iSeq, wipe, tDNewK, tDGet2, sDPut, rSum, tRevL, rNeNil, tMake, tMeth, rReprD, rNeD, rEqD, tLockE, iKeys, tDGet, spMixed]
                  refine ⟨_, hb1', _, rfl, c1', rfl, _, hc1', _, rfl, _, rfl, ?_⟩
                  rw [if_neg (by omega)]
                  exact hB _ rfl (Same.refl _)
                · rw [show (List.filter (fun _ => false) (List.range xs.length)) = [] from List.filter_eq_nil_iff.mpr fun _ _ => Bool.false_ne_true] at e24
                  refine ⟨by decide, fun ee nee => ⟨[], sqL_of (same_upd nee _ _ e24), sqL_of upd_same, ?_⟩⟩
                  rw [if_neg (by simp)]
                  exact B69.trans (.of B69.1 (((sA.trans s58).trans (s182.trans s24)).trans (same_upd nee)))
        · rintro σ H7 ⟨r', rfl, hr9, B7⟩
          exact ⟨_, rfl, by simp [hr9], B16.trans B7⟩
      · rintro σ H3 ⟨r, rfl, hr13, B3⟩
        refine ⟨_, rfl, by simp [hr13], fun b o e => ?_⟩
        have nb : b ≠ p := fun z => by rw [z, s2.free np] at e; cases e
        exact B3.get nb (s21 _ _ (s2 _ _ e))
    · rintro σ H2 ⟨r, rfl, hr15, s2⟩
      obtain ⟨o1, o2, o3, o4, o5, o6, o7, o8, o9, o10, o11, o12, o13, o14, o15, rfl⟩ : ∃ o1 o2 o3 o4 o5 o6 o7 o8 o9 o10 o11 o12 o13 o14 o15, r = [o1, o2, o3, o4, o5, o6, o7, o8, o9, o10, o11, o12, o13, o14, o15] := by
        match r, hr15 with
        | [o1, o2, o3, o4, o5, o6, o7, o8, o9, o10, o11, o12, o13, o14, o15], _ => exact ⟨_, _, _, _, _, _, _, _, _, _, _, _, _, _, _, rfl⟩
      simp only [and_assoc, tSeq, tAsg, tOp, tUn, rI, rI0, rU, tVar, tC, gName, L2.start, tIfS, tTest, tB, tCB, tCons, tNil, tIf, tRet, tRetN, tLst, tTup, tNext, tDrop, tNot, tNotV, tAnd, tOr, tAndV, tOrV, tPar, tAug, ipI, rEq, rNe, gSub, rSetL, rIxL, rIxT, tBM, tBM0, rAppend, rPopAt, gTup, gCons, gNil, tCall, tSl, tPart, tNoPart, rSlL, rCat, rEqD, rNeD, rIn, scal, List.map_cons, List.map_nil, List.length_cons, List.length_nil, List.length_map, List.cons_append, List.nil_append, List.append_nil, List.replicate, List.getElem?_cons_zero, List.getElem?_cons_succ, List.set_cons_zero, List.set_cons_succ, Option.some.injEq, exists_eq_left', exists_eq_left, exists_eq_right, exists_and_left, exists_and_right, V.int.injEq, V.ref.injEq, V.str.injEq, V.bl.injEq, reduceCtorEq, false_and, and_false, exists_false, or_false, false_or, true_and, and_true, List.cons.injEq, decide_eq_true_eq, cxOf, if_true, if_false, Bool.false_eq_true, Nat.reduceAdd, Nat.reduceSub, Nat.zero_add, Nat.add_sub_cancel_left, Nat.add_sub_cancel, Nat.sub_self, sFld, tFld, tFor_eq, tLc_eq, iRng1, iRng2, iList, iTup, iEnum, iEnumQ, rIsi, rIsiT, iSeq, wipe, tDNewK, tDGet2, sDPut, rSum, tRevL, rNeNil, tMake, tMeth, rReprD, rNeD, rEqD, tLockE, iKeys, tDGet, spMixed]
      refine ⟨by decide, fun t1 n1 => ⟨by decide, fun t2 n2 => ⟨by decide, fun t3 n3 => ⟨by decide, fun l1 m1 => ⟨by decide, fun l2 m2 => ⟨by decide, fun l3 m3 => ⟨by decide, fun l4 m4 => ?_⟩⟩⟩⟩⟩⟩⟩
      have big0 : 0 ≤ sizeLine := Nat.zero_le _
      have sa := same_upd (o := .tup [V.int 1, V.int 1]) n1
      have ea : upd H2 t1 (.tup [V.int 1, V.int 1]) t1 = some (.tup [V.int 1, V.int 1]) := upd_same
      generalize upd H2 t1 (.tup [V.int 1, V.int 1]) = Ha at sa ea n2 n3 m1 m2 m3 m4 ⊢
      have sb := same_upd (o := .tup [V.str "crown", V.ref t1]) n2
      have eb : upd Ha t2 (.tup [V.str "crown", V.ref t1]) t2 = some (.tup [V.str "crown", V.ref t1]) := upd_same
      generalize upd Ha t2 (.tup [V.str "crown", V.ref t1]) = Hb at sb eb n3 m1 m2 m3 m4 ⊢
      have sc := same_upd (o := .tup [V.ref t2]) n3
      have ec : upd Hb t3 (.tup [V.ref t2]) t3 = some (.tup [V.ref t2]) := upd_same
      generalize upd Hb t3 (.tup [V.ref t2]) = Hc at sc ec m1 m2 m3 m4 ⊢
      have wh : Dp K Hc (.ref t3) wholeD := .tup (sqT_of ec) (.cons (.tup (sqT_of (sc _ _ eb)) (.cons (.str _) (.cons (.tup (sqT_of (sc _ _ (sb _ _ ea))) (.cons (.int 1) (.cons (.int 1) .nil))) .nil))) .nil)
      have sd := same_upd (o := .lst [V.str "a"]) m1
      have ed : upd Hc l1 (.lst [V.str "a"]) l1 = some (.lst [V.str "a"]) := upd_same
      generalize upd Hc l1 (.lst [V.str "a"]) = Hd at sd ed m2 m3 m4 ⊢
      have se := same_upd (o := .lst [V.ref l1]) m2
      have ee : upd Hd l2 (.lst [V.ref l1]) l2 = some (.lst [V.ref l1]) := upd_same
      generalize upd Hd l2 (.lst [V.ref l1]) = He at se ee m3 m4 ⊢
      have sf := same_upd (o := .tup [V.int 5, V.ref l2]) m3
      have ef : upd He l3 (.tup [V.int 5, V.ref l2]) l3 = some (.tup [V.int 5, V.ref l2]) := upd_same
      generalize upd He l3 (.tup [V.int 5, V.ref l2]) = Hf at sf ef m4 ⊢
      have sg := same_upd (o := .lst [V.ref l3]) m4
      have eg : upd Hf l4 (.lst [V.ref l3]) l4 = some (.lst [V.ref l3]) := upd_same
      generalize upd Hf l4 (.lst [V.ref l3]) = Hg at sg eg ⊢
      have sfg := sf.trans sg
      have hv : Av K Hg (.ref l4) (adWill shsC) := .lst (sqL_of eg) (.cons (.tup (sqT_of (sg _ _ ef)) (.cons (.int 5) (.cons (.lst (sqL_of (sfg _ _ ee)) (.cons (.lst (sqL_of (sfg _ _ (se _ _ ed))) (.cons (.str _) .nil)) .nil)) .nil))) .nil)
      have wh1 := dp_mono (((sd.trans se).trans sf).trans sg) _ _ wh
      refine go_make hv okC fun x H6 s6 w6 => ?_
      obtain ⟨dx6, t6, e6, d6⟩ := id w6
      refine ⟨_, _, e6, rfl, big0, fun l5 n5 => go_heirs (ns := []) (w6.mono (same_upd n5)) okC ⟨l5, rfl, .inl (sqL_of upd_same)⟩ (by decide) lenC fun r7 H7 s7 nr7 d7 => ?_⟩
      have s67 := (same_upd (o := .lst []) n5).trans s7
      have wh7 := dp_mono (s6.trans s67) _ _ wh1
      rw [tellC] at d7
      refine ⟨wholeD, d7, wholeD, wh7, by decide +kernel, by decide +kernel, ?_⟩
      rw [if_pos (by decide +kernel)]
      refine ⟨big0, fun l6 n6 => ⟨by decide, fun l7 n7 => ⟨by decide, fun l8 n8 => ?_⟩⟩⟩
      have sh := same_upd (o := .lst []) n6
      have eh : upd H7 l6 (.lst []) l6 = some (.lst []) := upd_same
      generalize upd H7 l6 (.lst []) = H8 at sh eh n7 n8 ⊢
      have si := same_upd (o := .tup [V.int 1, V.ref l6]) n7
      have ei : upd H8 l7 (.tup [V.int 1, V.ref l6]) l7 = some (.tup [V.int 1, V.ref l6]) := upd_same
      generalize upd H8 l7 (.tup [V.int 1, V.ref l6]) = H9 at si ei n8 ⊢
      have sj := same_upd (o := .lst [V.ref l7]) n8
      have ej : upd H9 l8 (.lst [V.ref l7]) l8 = some (.lst [V.ref l7]) := upd_same
      generalize upd H9 l8 (.lst [V.ref l7]) = H10 at sj ej ⊢
      have hv2 : Av K H10 (.ref l8) (adWill shsD) := .lst (sqL_of ej) (.cons (.tup (sqT_of (sj _ _ ei)) (.cons (.int 1) (.cons (.lst (sqL_of (sj _ _ (si _ _ eh))) .nil) .nil))) .nil)
      have wh8 := dp_mono ((sh.trans si).trans sj) _ _ wh7
      refine go_make hv2 okD fun y H11 s11 w11 => ?_
      obtain ⟨dy, ty, ey, dy2⟩ := id w11
      refine ⟨_, _, ey, rfl, by decide, fun l9 n9 => go_heirs (ns := ["a"]) (w11.mono (same_upd n9)) okD ⟨l9, rfl, .inl (sqL_of upd_same)⟩ (by decide) lenD fun r8 H12 s12 nr8 d12 => ?_⟩
      have wh9 := dp_mono (s11.trans ((same_upd (o := .lst [V.str "a"]) n9).trans s12)) _ _ wh8
      rw [tellD] at d12
      refine ⟨wholeD, d12, wholeD, wh9, by decide +kernel, by decide +kernel, ?_⟩
      rw [show PyData.eqv wholeD wholeD = true by decide +kernel]
      exact q _

end
end He

namespace He
open PySem PySem.Spec PyProof.Rows L2
section
variable {P : Program} {w : World} {K : PySem.W.Frag} {mg : Str → Option Value} {base : Heap}
end
set_option maxHeartbeats 0 in
theorem all_mk {l : PySem.W.OpenLaw} {w : World} {K : PySem.W.Frag} {h : Heap} {mg : Str → Option Value} {fa cHeirError cInvalidWill cInvalidText cWill f0 f1 f2 f3 f4 f5 f6 f15 f16 f17 f18 f19 f20 f21 f22 f23 f24 f25 f26 f27 f28 f29 f30 f31 f32 f33 f9 f13 f14 f10 rP f11 : Addr} {rRest : List Value} (X : K.In h) (G : h.Ns mainGlobals mg) (hfa : mg "law" = some (.ref fa))
    {od0 an0 od1 an1 od2 an2 od3 an3 od4 an4 od5 an5 od6 an6 od15 an15 od16 an16 od17 an17 od18 an18 od19 an19 od20 an20 od21 an21 od22 an22 od23 an23 od24 an24 od25 an25 od26 an26 od27 an27 od28 an28 od29 an29 od30 an30 od31 an31 od32 an32 od33 an33 od9 an9 od13 an13 od14 an14 od10 an10 od11 an11 : Option Addr} {sl0 sl1 sl2 sl3 sl4 sl5 sl6 sl15 sl16 sl17 sl18 sl19 sl20 sl21 sl22 sl23 sl24 sl25 sl26 sl27 sl28 sl29 sl30 sl31 sl32 sl33 sl9 sl13 sl14 sl10 sl11 : Array (Option Value)} {oc0 kV0 dc0 pm0 cd0 ct0 oc1 kV1 dc1 pm1 cd1 ct1 oc2 kV2 dc2 pm2 cd2 ct2 oc3 kV3 dc3 pm3 cd3 ct3 oc4 kV4 dc4 pm4 cd4 ct4 oc5 kV5 dc5 pm5 cd5 ct5 oc6 kV6 dc6 pm6 cd6 ct6 oc15 kV15 dc15 pm15 cd15 ct15 oc16 kV16 dc16 pm16 cd16 ct16 oc17 kV17 dc17 pm17 cd17 ct17 oc18 kV18 dc18 pm18 cd18 ct18 oc19 kV19 dc19 pm19 cd19 ct19 oc20 kV20 dc20 pm20 cd20 ct20 oc21 kV21 dc21 pm21 cd21 ct21 oc22 kV22 dc22 pm22 cd22 ct22 oc23 kV23 dc23 pm23 cd23 ct23 oc24 kV24 dc24 pm24 cd24 ct24 oc25 kV25 dc25 pm25 cd25 ct25 oc26 kV26 dc26 pm26 cd26 ct26 oc27 kV27 dc27 pm27 cd27 ct27 oc28 kV28 dc28 pm28 cd28 ct28 oc29 kV29 dc29 pm29 cd29 ct29 oc30 kV30 dc30 pm30 cd30 ct30 oc31 kV31 dc31 pm31 cd31 ct31 oc32 kV32 dc32 pm32 cd32 ct32 oc33 kV33 dc33 pm33 cd33 ct33 oc9 kV9 dc9 pm9 cd9 ct9 oc13 kV13 dc13 pm13 cd13 ct13 oc14 kV14 dc14 pm14 cd14 ct14 oc10 kV10 dc10 pm10 cd10 ct10 oc11 kV11 dc11 pm11 cd11 ct11 : Value} {t_CROWN t_LONGEST_NAME t_WEIGHT_DIGITS : Tok}
    (gHeirError : PySem.W.nsIn K mainGlobals "HeirError" = some (some (.ref cHeirError)))
    (gInvalidWill : PySem.W.nsIn K mainGlobals "InvalidWill" = some (some (.ref cInvalidWill)))
    (gInvalidText : PySem.W.nsIn K mainGlobals "InvalidText" = some (some (.ref cInvalidText)))
    (gWill : PySem.W.nsIn K mainGlobals "Will" = some (some (.ref cWill)))
    (a0 : PySem.W.nsIn K mainGlobals "is_integer" = some (some (.ref f0)))
    (l0 : K.lookup f0 = some ⟨oc0, od0, .func (PySem.W.fnOf "is_integer" "is_integer" (defArgs sDIsInteger) (defBody sDIsInteger) (defScope sDIsInteger) .none kV0 dc0 pm0 an0 cd0 ct0), sl0⟩)
    (c0 : PySem.W.codeIn K cd0 "is_integer" = true)
    (k0 : PySem.W.keepIn K (.ref f0) = true)
    (a1 : PySem.W.nsIn K mainGlobals "is_name" = some (some (.ref f1)))
    (l1 : K.lookup f1 = some ⟨oc1, od1, .func (PySem.W.fnOf "is_name" "is_name" (defArgs sDIsName) (defBody sDIsName) (defScope sDIsName) .none kV1 dc1 pm1 an1 cd1 ct1), sl1⟩)
    (c1 : PySem.W.codeIn K cd1 "is_name" = true)
    (k1 : PySem.W.keepIn K (.ref f1) = true)
    (a2 : PySem.W.nsIn K mainGlobals "is_sequence" = some (some (.ref f2)))
    (l2 : K.lookup f2 = some ⟨oc2, od2, .func (PySem.W.fnOf "is_sequence" "is_sequence" (defArgs sDIsSequence) (defBody sDIsSequence) (defScope sDIsSequence) .none kV2 dc2 pm2 an2 cd2 ct2), sl2⟩)
    (c2 : PySem.W.codeIn K cd2 "is_sequence" = true)
    (k2 : PySem.W.keepIn K (.ref f2) = true)
    (a3 : PySem.W.nsIn K mainGlobals "is_pair" = some (some (.ref f3)))
    (l3 : K.lookup f3 = some ⟨oc3, od3, .func (PySem.W.fnOf "is_pair" "is_pair" (defArgs sDIsPair) (defBody sDIsPair) (defScope sDIsPair) .none kV3 dc3 pm3 an3 cd3 ct3), sl3⟩)
    (c3 : PySem.W.codeIn K cd3 "is_pair" = true)
    (k3 : PySem.W.keepIn K (.ref f3) = true)
    (a4 : PySem.W.nsIn K mainGlobals "read_number" = some (some (.ref f4)))
    (l4 : K.lookup f4 = some ⟨oc4, od4, .func (PySem.W.fnOf "read_number" "read_number" (defArgs sDReadNumber) (defBody sDReadNumber) (defScope sDReadNumber) .none kV4 dc4 pm4 an4 cd4 ct4), sl4⟩)
    (c4 : PySem.W.codeIn K cd4 "read_number" = true)
    (k4 : PySem.W.keepIn K (.ref f4) = true)
    (a5 : PySem.W.nsIn K mainGlobals "lowest" = some (some (.ref f5)))
    (l5 : K.lookup f5 = some ⟨oc5, od5, .func (PySem.W.fnOf "lowest" "lowest" (defArgs sDLowest) (defBody sDLowest) (defScope sDLowest) .none kV5 dc5 pm5 an5 cd5 ct5), sl5⟩)
    (c5 : PySem.W.codeIn K cd5 "lowest" = true)
    (k5 : PySem.W.keepIn K (.ref f5) = true)
    (a6 : PySem.W.nsIn K mainGlobals "plus" = some (some (.ref f6)))
    (l6 : K.lookup f6 = some ⟨oc6, od6, .func (PySem.W.fnOf "plus" "plus" (defArgs sDPlus) (defBody sDPlus) (defScope sDPlus) .none kV6 dc6 pm6 an6 cd6 ct6), sl6⟩)
    (c6 : PySem.W.codeIn K cd6 "plus" = true)
    (k6 : PySem.W.keepIn K (.ref f6) = true)
    (a15 : PySem.W.nsIn K mainGlobals "_are_shares" = some (some (.ref f15)))
    (l15 : K.lookup f15 = some ⟨oc15, od15, .func (PySem.W.fnOf "_are_shares" "_are_shares" (defArgs sDAreShares) (defBody sDAreShares) (defScope sDAreShares) .none kV15 dc15 pm15 an15 cd15 ct15), sl15⟩)
    (c15 : PySem.W.codeIn K cd15 "_are_shares" = true)
    (k15 : PySem.W.keepIn K (.ref f15) = true)
    (a16 : PySem.W.nsIn K mainGlobals "_is_share" = some (some (.ref f16)))
    (l16 : K.lookup f16 = some ⟨oc16, od16, .func (PySem.W.fnOf "_is_share" "_is_share" (defArgs sDIsShare) (defBody sDIsShare) (defScope sDIsShare) .none kV16 dc16 pm16 an16 cd16 ct16), sl16⟩)
    (c16 : PySem.W.codeIn K cd16 "_is_share" = true)
    (k16 : PySem.W.keepIn K (.ref f16) = true)
    (a17 : PySem.W.nsIn K mainGlobals "_is_group" = some (some (.ref f17)))
    (l17 : K.lookup f17 = some ⟨oc17, od17, .func (PySem.W.fnOf "_is_group" "_is_group" (defArgs sDIsGroup) (defBody sDIsGroup) (defScope sDIsGroup) .none kV17 dc17 pm17 an17 cd17 ct17), sl17⟩)
    (c17 : PySem.W.codeIn K cd17 "_is_group" = true)
    (k17 : PySem.W.keepIn K (.ref f17) = true)
    (a18 : PySem.W.nsIn K mainGlobals "_lots" = some (some (.ref f18)))
    (l18 : K.lookup f18 = some ⟨oc18, od18, .func (PySem.W.fnOf "_lots" "_lots" (defArgs sDLots) (defBody sDLots) (defScope sDLots) .none kV18 dc18 pm18 an18 cd18 ct18), sl18⟩)
    (c18 : PySem.W.codeIn K cd18 "_lots" = true)
    (k18 : PySem.W.keepIn K (.ref f18) = true)
    (a19 : PySem.W.nsIn K mainGlobals "_takers" = some (some (.ref f19)))
    (l19 : K.lookup f19 = some ⟨oc19, od19, .func (PySem.W.fnOf "_takers" "_takers" (defArgs sDTakers) (defBody sDTakers) (defScope sDTakers) .none kV19 dc19 pm19 an19 cd19 ct19), sl19⟩)
    (c19 : PySem.W.codeIn K cd19 "_takers" = true)
    (k19 : PySem.W.keepIn K (.ref f19) = true)
    (a20 : PySem.W.nsIn K mainGlobals "_share_text" = some (some (.ref f20)))
    (l20 : K.lookup f20 = some ⟨oc20, od20, .func (PySem.W.fnOf "_share_text" "_share_text" (defArgs sDShareText) (defBody sDShareText) (defScope sDShareText) .none kV20 dc20 pm20 an20 cd20 ct20), sl20⟩)
    (c20 : PySem.W.codeIn K cd20 "_share_text" = true)
    (k20 : PySem.W.keepIn K (.ref f20) = true)
    (a21 : PySem.W.nsIn K mainGlobals "_read_share" = some (some (.ref f21)))
    (l21 : K.lookup f21 = some ⟨oc21, od21, .func (PySem.W.fnOf "_read_share" "_read_share" (defArgs sDReadShare) (defBody sDReadShare) (defScope sDReadShare) .none kV21 dc21 pm21 an21 cd21 ct21), sl21⟩)
    (c21 : PySem.W.codeIn K cd21 "_read_share" = true)
    (k21 : PySem.W.keepIn K (.ref f21) = true)
    (a22 : PySem.W.nsIn K mainGlobals "_law_seed" = some (some (.ref f22)))
    (l22 : K.lookup f22 = some ⟨oc22, od22, .func (PySem.W.fnOf "_law_seed" "_law_seed" (defArgs sDLawSeed) (defBody sDLawSeed) (defScope sDLawSeed) .none kV22 dc22 pm22 an22 cd22 ct22), sl22⟩)
    (c22 : PySem.W.codeIn K cd22 "_law_seed" = true)
    (k22 : PySem.W.keepIn K (.ref f22) = true)
    (a23 : PySem.W.nsIn K mainGlobals "_law_choose" = some (some (.ref f23)))
    (l23 : K.lookup f23 = some ⟨oc23, od23, .func (PySem.W.fnOf "_law_choose" "_law_choose" (defArgs sDLawChoose) (defBody sDLawChoose) (defScope sDLawChoose) .none kV23 dc23 pm23 an23 cd23 ct23), sl23⟩)
    (c23 : PySem.W.codeIn K cd23 "_law_choose" = true)
    (k23 : PySem.W.keepIn K (.ref f23) = true)
    (a24 : PySem.W.nsIn K mainGlobals "_law_one_of" = some (some (.ref f24)))
    (l24 : K.lookup f24 = some ⟨oc24, od24, .func (PySem.W.fnOf "_law_one_of" "_law_one_of" (defArgs sDLawOneOf) (defBody sDLawOneOf) (defScope sDLawOneOf) .none kV24 dc24 pm24 an24 cd24 ct24), sl24⟩)
    (c24 : PySem.W.codeIn K cd24 "_law_one_of" = true)
    (k24 : PySem.W.keepIn K (.ref f24) = true)
    (a25 : PySem.W.nsIn K mainGlobals "_law_mixed" = some (some (.ref f25)))
    (l25 : K.lookup f25 = some ⟨oc25, od25, .func (PySem.W.fnOf "_law_mixed" "_law_mixed" (defArgs sDLawMixed) (defBody sDLawMixed) (defScope sDLawMixed) .none kV25 dc25 pm25 an25 cd25 ct25), sl25⟩)
    (c25 : PySem.W.codeIn K cd25 "_law_mixed" = true)
    (k25 : PySem.W.keepIn K (.ref f25) = true)
    (a26 : PySem.W.nsIn K mainGlobals "_law_names" = some (some (.ref f26)))
    (l26 : K.lookup f26 = some ⟨oc26, od26, .func (PySem.W.fnOf "_law_names" "_law_names" (defArgs sDLawNames) (defBody sDLawNames) (defScope sDLawNames) .none kV26 dc26 pm26 an26 cd26 ct26), sl26⟩)
    (c26 : PySem.W.codeIn K cd26 "_law_names" = true)
    (k26 : PySem.W.keepIn K (.ref f26) = true)
    (a27 : PySem.W.nsIn K mainGlobals "_law_group" = some (some (.ref f27)))
    (l27 : K.lookup f27 = some ⟨oc27, od27, .func (PySem.W.fnOf "_law_group" "_law_group" (defArgs sDLawGroup) (defBody sDLawGroup) (defScope sDLawGroup) .none kV27 dc27 pm27 an27 cd27 ct27), sl27⟩)
    (c27 : PySem.W.codeIn K cd27 "_law_group" = true)
    (k27 : PySem.W.keepIn K (.ref f27) = true)
    (a28 : PySem.W.nsIn K mainGlobals "_law_will" = some (some (.ref f28)))
    (l28 : K.lookup f28 = some ⟨oc28, od28, .func (PySem.W.fnOf "_law_will" "_law_will" (defArgs sDLawWill) (defBody sDLawWill) (defScope sDLawWill) .none kV28 dc28 pm28 an28 cd28 ct28), sl28⟩)
    (c28 : PySem.W.codeIn K cd28 "_law_will" = true)
    (k28 : PySem.W.keepIn K (.ref f28) = true)
    (a29 : PySem.W.nsIn K mainGlobals "_law_divisor" = some (some (.ref f29)))
    (l29 : K.lookup f29 = some ⟨oc29, od29, .func (PySem.W.fnOf "_law_divisor" "_law_divisor" (defArgs sDLawDivisor) (defBody sDLawDivisor) (defScope sDLawDivisor) .none kV29 dc29 pm29 an29 cd29 ct29), sl29⟩)
    (c29 : PySem.W.codeIn K cd29 "_law_divisor" = true)
    (k29 : PySem.W.keepIn K (.ref f29) = true)
    (a30 : PySem.W.nsIn K mainGlobals "_law_ratio" = some (some (.ref f30)))
    (l30 : K.lookup f30 = some ⟨oc30, od30, .func (PySem.W.fnOf "_law_ratio" "_law_ratio" (defArgs sDLawRatio) (defBody sDLawRatio) (defScope sDLawRatio) .none kV30 dc30 pm30 an30 cd30 ct30), sl30⟩)
    (c30 : PySem.W.codeIn K cd30 "_law_ratio" = true)
    (k30 : PySem.W.keepIn K (.ref f30) = true)
    (a31 : PySem.W.nsIn K mainGlobals "_law_plus" = some (some (.ref f31)))
    (l31 : K.lookup f31 = some ⟨oc31, od31, .func (PySem.W.fnOf "_law_plus" "_law_plus" (defArgs sDLawPlus) (defBody sDLawPlus) (defScope sDLawPlus) .none kV31 dc31 pm31 an31 cd31 ct31), sl31⟩)
    (c31 : PySem.W.codeIn K cd31 "_law_plus" = true)
    (k31 : PySem.W.keepIn K (.ref f31) = true)
    (a32 : PySem.W.nsIn K mainGlobals "_law_heirs" = some (some (.ref f32)))
    (l32 : K.lookup f32 = some ⟨oc32, od32, .func (PySem.W.fnOf "_law_heirs" "_law_heirs" (defArgs sDLawHeirs) (defBody sDLawHeirs) (defScope sDLawHeirs) .none kV32 dc32 pm32 an32 cd32 ct32), sl32⟩)
    (c32 : PySem.W.codeIn K cd32 "_law_heirs" = true)
    (k32 : PySem.W.keepIn K (.ref f32) = true)
    (a33 : PySem.W.nsIn K mainGlobals "law" = some (some (.ref f33)))
    (l33 : K.lookup f33 = some ⟨oc33, od33, .func (PySem.W.fnOf "law" "law" (defArgs sDLaw) (defBody sDLaw) (defScope sDLaw) .none kV33 dc33 pm33 an33 cd33 ct33), sl33⟩)
    (c33 : PySem.W.codeIn K cd33 "law" = true)
    (k33 : PySem.W.keepIn K (.ref f33) = true)
    (z_abs : PySem.W.nsIn K mainGlobals "abs" = some none)
    (z_all : PySem.W.nsIn K mainGlobals "all" = some none)
    (z_bool : PySem.W.nsIn K mainGlobals "bool" = some none)
    (z_classmethod : PySem.W.nsIn K mainGlobals "classmethod" = some none)
    (z_enumerate : PySem.W.nsIn K mainGlobals "enumerate" = some none)
    (z_int : PySem.W.nsIn K mainGlobals "int" = some none)
    (z_isinstance : PySem.W.nsIn K mainGlobals "isinstance" = some none)
    (z_len : PySem.W.nsIn K mainGlobals "len" = some none)
    (z_list : PySem.W.nsIn K mainGlobals "list" = some none)
    (z_max : PySem.W.nsIn K mainGlobals "max" = some none)
    (z_min : PySem.W.nsIn K mainGlobals "min" = some none)
    (z_range : PySem.W.nsIn K mainGlobals "range" = some none)
    (z_repr : PySem.W.nsIn K mainGlobals "repr" = some none)
    (z_set : PySem.W.nsIn K mainGlobals "set" = some none)
    (z_sorted : PySem.W.nsIn K mainGlobals "sorted" = some none)
    (z_str : PySem.W.nsIn K mainGlobals "str" = some none)
    (z_sum : PySem.W.nsIn K mainGlobals "sum" = some none)
    (z_tuple : PySem.W.nsIn K mainGlobals "tuple" = some none)
    (q_CROWN : PySem.W.nsIn K mainGlobals "CROWN" = some (some (.str "crown" t_CROWN)))
    (q_LONGEST_NAME : PySem.W.nsIn K mainGlobals "LONGEST_NAME" = some (some (.int 5 t_LONGEST_NAME)))
    (q_WEIGHT_DIGITS : PySem.W.nsIn K mainGlobals "WEIGHT_DIGITS" = some (some (.int 6 t_WEIGHT_DIGITS)))
    (q_gcd : PySem.W.nsIn K mainGlobals "gcd" = some (some (.builtin "math.gcd")))
    (a9 : PySem.W.findIn K (.ref cWill) "__init__" = some (some (.ref f9)))
    (i9 : PySem.W.isFn K (.ref f9) = true)
    (l9 : K.lookup f9 = some ⟨oc9, od9, .func (PySem.W.fnOf "__init__" "Will.__init__" (defArgs sDWillInit) (defBody sDWillInit) (defScope sDWillInit) .none kV9 dc9 pm9 an9 cd9 ct9), sl9⟩)
    (c9 : PySem.W.codeIn K cd9 "Will.__init__" = true)
    (k9 : PySem.W.keepIn K (.ref f9) = true)
    (a13 : PySem.W.findIn K (.ref cWill) "__eq__" = some (some (.ref f13)))
    (i13 : PySem.W.isFn K (.ref f13) = true)
    (l13 : K.lookup f13 = some ⟨oc13, od13, .func (PySem.W.fnOf "__eq__" "Will.__eq__" (defArgs sDWillEq) (defBody sDWillEq) (defScope sDWillEq) .none kV13 dc13 pm13 an13 cd13 ct13), sl13⟩)
    (c13 : PySem.W.codeIn K cd13 "Will.__eq__" = true)
    (k13 : PySem.W.keepIn K (.ref f13) = true)
    (a14 : PySem.W.findIn K (.ref cWill) "__str__" = some (some (.ref f14)))
    (i14 : PySem.W.isFn K (.ref f14) = true)
    (l14 : K.lookup f14 = some ⟨oc14, od14, .func (PySem.W.fnOf "__str__" "Will.__str__" (defArgs sDWillStr) (defBody sDWillStr) (defScope sDWillStr) .none kV14 dc14 pm14 an14 cd14 ct14), sl14⟩)
    (c14 : PySem.W.codeIn K cd14 "Will.__str__" = true)
    (k14 : PySem.W.keepIn K (.ref f14) = true)
    (rAt : PySem.W.findCls K (.ref cWill) (.type "type") "read" = some (.get (.builtin "classmethod.__get__") (.ref rP) .none (.ref cWill)))
    (rRc : PySem.W.recIn K rP "classmethod" = some (.ref f10 :: rRest))
    (rFi : PySem.W.fnIn K f10 = true)
    (l10 : K.lookup f10 = some ⟨oc10, od10, .func (PySem.W.fnOf "read" "Will.read" (defArgs sDWillRead) (defBody sDWillRead) (defScope sDWillRead) .none kV10 dc10 pm10 an10 cd10 ct10), sl10⟩)
    (c10 : PySem.W.codeIn K cd10 "Will.read" = true)
    (k10 : PySem.W.keepIn K (.ref f10) = true)
    (rRd : PySem.W.readsIn K cWill (.type "type") = true)
    (rGa : PySem.W.specialIn K (.ref cWill) "__getattribute__" = some (some (.builtin "type.__getattribute__")))
    (pg : PySem.W.plainGet K cWill Str.empty = true)
    (hd : PySem.W.hasDictIn K cWill = true)
    (po : PySem.W.plainOver K cWill = true)
    (sa : PySem.W.findIn K (.ref cWill) "__setattr__" = some (some (.builtin "object.__setattr__")))
    (nS : PySem.W.findIn K (.ref cWill) "shares" = some none)
    (mk : PySem.W.makesIn K cWill = true)
    (kc : PySem.W.keepIn K (.ref cWill) = true)
    (oNe : PySem.W.findIn K (.ref cWill) "__ne__" = some (some (.builtin "object.__ne__")))
    (oOb : PySem.W.mroIn K cWill (.type "object") = some true)
    (kCl : PySem.W.findIn K (.ref cWill) "__class__" = some (some (.builtin "object.__class__")))
    (kGt : PySem.W.specialIn K (.builtin "object.__class__") "__get__" = some (some (.builtin "getset_descriptor.__get__")))
    (kTk : PySem.W.takesIn K (.builtin "object.__class__") = some true)
    (a11 : PySem.W.findIn K (.ref cWill) "heirs" = some (some (.ref f11)))
    (i11 : PySem.W.isFn K (.ref f11) = true)
    (l11 : K.lookup f11 = some ⟨oc11, od11, .func (PySem.W.fnOf "heirs" "Will.heirs" (defArgs sDWillHeirs) (defBody sDWillHeirs) (defScope sDWillHeirs) .none kV11 dc11 pm11 an11 cd11 ct11), sl11⟩)
    (c11 : PySem.W.codeIn K cd11 "Will.heirs" = true)
    (k11 : PySem.W.keepIn K (.ref f11) = true)
    : ∃ fd : FuncData, (∀ (s : Shared) (v : Value), BindsTo s fd ⟨[v], []⟩ [("_law_script", v)]) ∧ ∀ base : Heap, K.In base → base.Ns mainGlobals mg → FnOkG l.prog w K mg base CX0 12 fa fd ["_law_script"] (spLaw K) := by
  have e := hfa.symm.trans (PySem.W.mg_of X G a33)
  cases e
  have F0 := fun_mk (st := sDIsInteger) l0 c0 k0
  have b0 := F0.binds (ps := ["value"]) fun _ _ _ _ _ _ us hl => match us, hl with | [_], _ => rfl
  have F1 := fun_mk (st := sDIsName) l1 c1 k1
  have b1 := F1.binds (ps := ["value"]) fun _ _ _ _ _ _ us hl => match us, hl with | [_], _ => rfl
  have F2 := fun_mk (st := sDIsSequence) l2 c2 k2
  have b2 := F2.binds (ps := ["value"]) fun _ _ _ _ _ _ us hl => match us, hl with | [_], _ => rfl
  have F3 := fun_mk (st := sDIsPair) l3 c3 k3
  have b3 := F3.binds (ps := ["value"]) fun _ _ _ _ _ _ us hl => match us, hl with | [_], _ => rfl
  have F4 := fun_mk (st := sDReadNumber) l4 c4 k4
  have b4 := F4.binds (ps := ["word", "digits"]) fun _ _ _ _ _ _ us hl => match us, hl with | [_, _], _ => rfl
  have F5 := fun_mk (st := sDLowest) l5 c5 k5
  have b5 := F5.binds (ps := ["above", "below"]) fun _ _ _ _ _ _ us hl => match us, hl with | [_, _], _ => rfl
  have F6 := fun_mk (st := sDPlus) l6 c6 k6
  have b6 := F6.binds (ps := ["left", "right"]) fun _ _ _ _ _ _ us hl => match us, hl with | [_, _], _ => rfl
  have F15 := fun_mk (st := sDAreShares) l15 c15 k15
  have b15 := F15.binds (ps := ["value"]) fun _ _ _ _ _ _ us hl => match us, hl with | [_], _ => rfl
  have F16 := fun_mk (st := sDIsShare) l16 c16 k16
  have b16 := F16.binds (ps := ["value"]) fun _ _ _ _ _ _ us hl => match us, hl with | [_], _ => rfl
  have F17 := fun_mk (st := sDIsGroup) l17 c17 k17
  have b17 := F17.binds (ps := ["value"]) fun _ _ _ _ _ _ us hl => match us, hl with | [_], _ => rfl
  have F18 := fun_mk (st := sDLots) l18 c18 k18
  have b18 := F18.binds (ps := ["groups"]) fun _ _ _ _ _ _ us hl => match us, hl with | [_], _ => rfl
  have F19 := fun_mk (st := sDTakers) l19 c19 k19
  have b19 := F19.binds (ps := ["groups", "alive"]) fun _ _ _ _ _ _ us hl => match us, hl with | [_, _], _ => rfl
  have F20 := fun_mk (st := sDShareText) l20 c20 k20
  have b20 := F20.binds (ps := ["weight", "groups"]) fun _ _ _ _ _ _ us hl => match us, hl with | [_, _], _ => rfl
  have F21 := fun_mk (st := sDReadShare) l21 c21 k21
  have b21 := F21.binds (ps := ["part"]) fun _ _ _ _ _ _ us hl => match us, hl with | [_], _ => rfl
  have F22 := fun_mk (st := sDLawSeed) l22 c22 k22
  have b22 := F22.binds (ps := ["_law_script", "_law_k"]) fun _ _ _ _ _ _ us hl => match us, hl with | [_, _], _ => rfl
  have F23 := fun_mk (st := sDLawChoose) l23 c23 k23
  have b23 := F23.binds (ps := ["_law_box", "_law_many"]) fun _ _ _ _ _ _ us hl => match us, hl with | [_, _], _ => rfl
  have F24 := fun_mk (st := sDLawOneOf) l24 c24 k24
  have b24 := F24.binds (ps := ["_law_box", "_law_some"]) fun _ _ _ _ _ _ us hl => match us, hl with | [_, _], _ => rfl
  have F25 := fun_mk (st := sDLawMixed) l25 c25 k25
  have b25 := F25.binds (ps := ["_law_box", "_law_some"]) fun _ _ _ _ _ _ us hl => match us, hl with | [_, _], _ => rfl
  have F26 := fun_mk (st := sDLawNames) l26 c26 k26
  have b26 := F26.binds (ps := ["_law_box", "_law_many"]) fun _ _ _ _ _ _ us hl => match us, hl with | [_, _], _ => rfl
  have F27 := fun_mk (st := sDLawGroup) l27 c27 k27
  have b27 := F27.binds (ps := ["_law_box", "_law_some"]) fun _ _ _ _ _ _ us hl => match us, hl with | [_, _], _ => rfl
  have F28 := fun_mk (st := sDLawWill) l28 c28 k28
  have b28 := F28.binds (ps := ["_law_box", "_law_others"]) fun _ _ _ _ _ _ us hl => match us, hl with | [_, _], _ => rfl
  have F29 := fun_mk (st := sDLawDivisor) l29 c29 k29
  have b29 := F29.binds (ps := ["_law_one", "_law_other"]) fun _ _ _ _ _ _ us hl => match us, hl with | [_, _], _ => rfl
  have F30 := fun_mk (st := sDLawRatio) l30 c30 k30
  have b30 := F30.binds (ps := ["_law_upper", "_law_lower"]) fun _ _ _ _ _ _ us hl => match us, hl with | [_, _], _ => rfl
  have F31 := fun_mk (st := sDLawPlus) l31 c31 k31
  have b31 := F31.binds (ps := ["_law_one", "_law_other"]) fun _ _ _ _ _ _ us hl => match us, hl with | [_, _], _ => rfl
  have F32 := fun_mk (st := sDLawHeirs) l32 c32 k32
  have b32 := F32.binds (ps := ["_law_will_here", "_law_alive"]) fun _ _ _ _ _ _ us hl => match us, hl with | [_, _], _ => rfl
  have F33 := fun_mk (st := sDLaw) l33 c33 k33
  have b33 := F33.binds (ps := ["_law_script"]) fun _ _ _ _ _ _ us hl => match us, hl with | [_], _ => rfl
  have F9 := fun_mk (st := sDWillInit) l9 c9 k9
  have b9 := F9.binds (ps := ["self", "shares"]) fun _ _ _ _ _ _ us hl => match us, hl with | [_, _], _ => rfl
  have F13 := fun_mk (st := sDWillEq) l13 c13 k13
  have b13 := F13.binds (ps := ["self", "other"]) fun _ _ _ _ _ _ us hl => match us, hl with | [_, _], _ => rfl
  have F14 := fun_mk (st := sDWillStr) l14 c14 k14
  have b14 := F14.binds (ps := ["self"]) fun _ _ _ _ _ _ us hl => match us, hl with | [_], _ => rfl
  have F10 := fun_mk (st := sDWillRead) l10 c10 k10
  have b10 := F10.binds (ps := ["cls", "text"]) fun _ _ _ _ _ _ us hl => match us, hl with | [_, _], _ => rfl
  have F11 := fun_mk (st := sDWillHeirs) l11 c11 k11
  have b11 := F11.binds (ps := ["self", "alive"]) fun _ _ _ _ _ _ us hl => match us, hl with | [_, _], _ => rfl
  exact ⟨PySem.W.fnOf "law" "law" (defArgs sDLaw) (defBody sDLaw) (defScope sDLaw) .none kV33 dc33 pm33 an33 cd33 ct33, fun s v => .of_eq rfl, fun base _ _ => ok_law (K := K) (mg := mg) ⟨⟨⟨cHeirError, (PySem.W.mg_of X G gHeirError), cInvalidWill, (PySem.W.mg_of X G gInvalidWill), cInvalidText, (PySem.W.mg_of X G gInvalidText), cWill, (PySem.W.mg_of X G gWill), ⟨f0, _, F0, b0, PySem.W.mg_of X G a0⟩, ⟨f1, _, F1, b1, PySem.W.mg_of X G a1⟩, ⟨f2, _, F2, b2, PySem.W.mg_of X G a2⟩, ⟨f3, _, F3, b3, PySem.W.mg_of X G a3⟩, ⟨f4, _, F4, b4, PySem.W.mg_of X G a4⟩, ⟨f5, _, F5, b5, PySem.W.mg_of X G a5⟩, ⟨f6, _, F6, b6, PySem.W.mg_of X G a6⟩, ⟨f15, _, F15, b15, PySem.W.mg_of X G a15⟩, ⟨f16, _, F16, b16, PySem.W.mg_of X G a16⟩, ⟨f17, _, F17, b17, PySem.W.mg_of X G a17⟩, ⟨f18, _, F18, b18, PySem.W.mg_of X G a18⟩, ⟨f19, _, F19, b19, PySem.W.mg_of X G a19⟩, ⟨f20, _, F20, b20, PySem.W.mg_of X G a20⟩, ⟨f21, _, F21, b21, PySem.W.mg_of X G a21⟩, ⟨f22, _, F22, b22, PySem.W.mg_of X G a22⟩, ⟨f23, _, F23, b23, PySem.W.mg_of X G a23⟩, ⟨f24, _, F24, b24, PySem.W.mg_of X G a24⟩, ⟨f25, _, F25, b25, PySem.W.mg_of X G a25⟩, ⟨f26, _, F26, b26, PySem.W.mg_of X G a26⟩, ⟨f27, _, F27, b27, PySem.W.mg_of X G a27⟩, ⟨f28, _, F28, b28, PySem.W.mg_of X G a28⟩, ⟨f29, _, F29, b29, PySem.W.mg_of X G a29⟩, ⟨f30, _, F30, b30, PySem.W.mg_of X G a30⟩, ⟨f31, _, F31, b31, PySem.W.mg_of X G a31⟩, ⟨f32, _, F32, b32, PySem.W.mg_of X G a32⟩, ⟨fa, _, F33, b33, PySem.W.mg_of X G a33⟩, (PySem.W.mg_none_of X G z_abs), (PySem.W.mg_none_of X G z_all), (PySem.W.mg_none_of X G z_bool), (PySem.W.mg_none_of X G z_classmethod), (PySem.W.mg_none_of X G z_enumerate), (PySem.W.mg_none_of X G z_int), (PySem.W.mg_none_of X G z_isinstance), (PySem.W.mg_none_of X G z_len), (PySem.W.mg_none_of X G z_list), (PySem.W.mg_none_of X G z_max), (PySem.W.mg_none_of X G z_min), (PySem.W.mg_none_of X G z_range), (PySem.W.mg_none_of X G z_repr), (PySem.W.mg_none_of X G z_set), (PySem.W.mg_none_of X G z_sorted), (PySem.W.mg_none_of X G z_str), (PySem.W.mg_none_of X G z_sum), (PySem.W.mg_none_of X G z_tuple), ⟨_, PySem.W.mg_of X G q_CROWN⟩, ⟨_, PySem.W.mg_of X G q_LONGEST_NAME⟩, ⟨_, PySem.W.mg_of X G q_WEIGHT_DIGITS⟩, (PySem.W.mg_of X G q_gcd)⟩, ⟨pg, hd, po, sa⟩, nS, f9, _, F9, b9, ⟨mk, a9, i9, kc⟩, f13, _, F13, b13, f14, _, F14, b14, ⟨oNe, oOb, a13, i13, a14, i14⟩, rP, (.type "type"), f10, _, F10, b10, ⟨rRd, rGa⟩, ⟨rAt, ⟨_, rRc⟩, rFi⟩, (fun e => .ins e ⟨pg, hd, po, sa⟩ kCl kGt kTk oOb), (if_pos (beq_iff_eq.mpr rfl))⟩, f11, _, F11, b11, ⟨a11, i11, k11⟩⟩⟩
end He
open PySem PySem.W PyProof.Rows
set_option maxHeartbeats 0 in
theorem PySem.Challenge.cw_heirorders_k06_fractions_of_heirs_holds : PySem.Challenge.rw_heirorders_k06_fractions_of_heirs.Holds := by
  w_on; o_law; k_head; (case hw => w_witness2)
  k_fill
  refine He.walk_G (l := PySem.Challenge.rw_heirorders_k06_fractions_of_heirs) (n := 63) (k := 12) (x := "_law_script") (sp := fun w => He.spLaw _) rfl (by decide) rfl ⟨rfl, by decide, by decide⟩ (fun w h Y => PySem.W.kIn_of Y) ?F (fun _ _ a ns hl _ hS => ⟨a, ns, rfl, hS, hl, fun _ => rfl⟩)
  case F =>
    intro w mg fa h KX G hmg
    refine' He.all_mk KX G hmg ?gHeirError ?gInvalidWill ?gInvalidText ?gWill ?a0 ?l0 ?c0 ?k0 ?a1 ?l1 ?c1 ?k1 ?a2 ?l2 ?c2 ?k2 ?a3 ?l3 ?c3 ?k3 ?a4 ?l4 ?c4 ?k4 ?a5 ?l5 ?c5 ?k5 ?a6 ?l6 ?c6 ?k6 ?a15 ?l15 ?c15 ?k15 ?a16 ?l16 ?c16 ?k16 ?a17 ?l17 ?c17 ?k17 ?a18 ?l18 ?c18 ?k18 ?a19 ?l19 ?c19 ?k19 ?a20 ?l20 ?c20 ?k20 ?a21 ?l21 ?c21 ?k21 ?a22 ?l22 ?c22 ?k22 ?a23 ?l23 ?c23 ?k23 ?a24 ?l24 ?c24 ?k24 ?a25 ?l25 ?c25 ?k25 ?a26 ?l26 ?c26 ?k26 ?a27 ?l27 ?c27 ?k27 ?a28 ?l28 ?c28 ?k28 ?a29 ?l29 ?c29 ?k29 ?a30 ?l30 ?c30 ?k30 ?a31 ?l31 ?c31 ?k31 ?a32 ?l32 ?c32 ?k32 ?a33 ?l33 ?c33 ?k33 ?z_abs ?z_all ?z_bool ?z_classmethod ?z_enumerate ?z_int ?z_isinstance ?z_len ?z_list ?z_max ?z_min ?z_range ?z_repr ?z_set ?z_sorted ?z_str ?z_sum ?z_tuple ?q_CROWN ?q_LONGEST_NAME ?q_WEIGHT_DIGITS ?q_gcd ?a9 ?i9 ?l9 ?c9 ?k9 ?a13 ?i13 ?l13 ?c13 ?k13 ?a14 ?i14 ?l14 ?c14 ?k14 ?rAt ?rRc ?rFi ?l10 ?c10 ?k10 ?rRd ?rGa ?pg ?hd ?po ?sa ?nS ?mk ?kc ?oNe ?oOb ?kCl ?kGt ?kTk ?a11 ?i11 ?l11 ?c11 ?k11
    (case gHeirError => k_is)
    (case gInvalidWill => k_is)
    (case gInvalidText => k_is)
    (case gWill => k_is)
    (case a0 => k_is)
    (case l0 => k_is)
    (case c0 => k_is)
    (case k0 => k_is)
    (case a1 => k_is)
    (case l1 => k_is)
    (case c1 => k_is)
    (case k1 => k_is)
    (case a2 => k_is)
    (case l2 => k_is)
    (case c2 => k_is)
    (case k2 => k_is)
    (case a3 => k_is)
    (case l3 => k_is)
    (case c3 => k_is)
    (case k3 => k_is)
    (case a4 => k_is)
    (case l4 => k_is)
    (case c4 => k_is)
    (case k4 => k_is)
    (case a5 => k_is)
    (case l5 => k_is)
    (case c5 => k_is)
    (case k5 => k_is)
    (case a6 => k_is)
    (case l6 => k_is)
    (case c6 => k_is)
    (case k6 => k_is)
    (case a15 => k_is)
    (case l15 => k_is)
    (case c15 => k_is)
    (case k15 => k_is)
    (case a16 => k_is)
    (case l16 => k_is)
    (case c16 => k_is)
    (case k16 => k_is)
    (case a17 => k_is)
    (case l17 => k_is)
    (case c17 => k_is)
    (case k17 => k_is)
    (case a18 => k_is)
    (case l18 => k_is)
    (case c18 => k_is)
    (case k18 => k_is)
    (case a19 => k_is)
    (case l19 => k_is)
    (case c19 => k_is)
    (case k19 => k_is)
    (case a20 => k_is)
    (case l20 => k_is)
    (case c20 => k_is)
    (case k20 => k_is)
    (case a21 => k_is)
    (case l21 => k_is)
    (case c21 => k_is)
    (case k21 => k_is)
    (case a22 => k_is)
    (case l22 => k_is)
    (case c22 => k_is)
    (case k22 => k_is)
    (case a23 => k_is)
    (case l23 => k_is)
    (case c23 => k_is)
    (case k23 => k_is)
    (case a24 => k_is)
    (case l24 => k_is)
    (case c24 => k_is)
    (case k24 => k_is)
    (case a25 => k_is)
    (case l25 => k_is)
    (case c25 => k_is)
    (case k25 => k_is)
    (case a26 => k_is)
    (case l26 => k_is)
    (case c26 => k_is)
    (case k26 => k_is)
    (case a27 => k_is)
    (case l27 => k_is)
    (case c27 => k_is)
    (case k27 => k_is)
    (case a28 => k_is)
    (case l28 => k_is)
    (case c28 => k_is)
    (case k28 => k_is)
    (case a29 => k_is)
    (case l29 => k_is)
    (case c29 => k_is)
    (case k29 => k_is)
    (case a30 => k_is)
    (case l30 => k_is)
    (case c30 => k_is)
    (case k30 => k_is)
    (case a31 => k_is)
    (case l31 => k_is)
    (case c31 => k_is)
    (case k31 => k_is)
    (case a32 => k_is)
    (case l32 => k_is)
    (case c32 => k_is)
    (case k32 => k_is)
    (case a33 => k_is)
    (case l33 => k_is)
    (case c33 => k_is)
    (case k33 => k_is)
    (case z_abs => k_is)
    (case z_all => k_is)
    (case z_bool => k_is)
    (case z_classmethod => k_is)
    (case z_enumerate => k_is)
    (case z_int => k_is)
    (case z_isinstance => k_is)
    (case z_len => k_is)
    (case z_list => k_is)
    (case z_max => k_is)
    (case z_min => k_is)
    (case z_range => k_is)
    (case z_repr => k_is)
    (case z_set => k_is)
    (case z_sorted => k_is)
    (case z_str => k_is)
    (case z_sum => k_is)
    (case z_tuple => k_is)
    (case q_CROWN => k_is)
    (case q_LONGEST_NAME => k_is)
    (case q_WEIGHT_DIGITS => k_is)
    (case q_gcd => k_is)
    (case a9 => k_is)
    (case i9 => k_is)
    (case l9 => k_is)
    (case c9 => k_is)
    (case k9 => k_is)
    (case a13 => k_is)
    (case i13 => k_is)
    (case l13 => k_is)
    (case c13 => k_is)
    (case k13 => k_is)
    (case a14 => k_is)
    (case i14 => k_is)
    (case l14 => k_is)
    (case c14 => k_is)
    (case k14 => k_is)
    (case rAt => k_is)
    (case rRc => k_is)
    (case rFi => k_is)
    (case l10 => k_is)
    (case c10 => k_is)
    (case k10 => k_is)
    (case rRd => k_is)
    (case rGa => k_is)
    (case pg => k_is)
    (case hd => k_is)
    (case po => k_is)
    (case sa => k_is)
    (case nS => k_is)
    (case mk => k_is)
    (case kc => k_is)
    (case oNe => k_is)
    (case oOb => k_is)
    (case kCl => k_is)
    (case kGt => k_is)
    (case kTk => k_is)
    (case a11 => k_is)
    (case i11 => k_is)
    (case l11 => k_is)
    (case c11 => k_is)
    (case k11 => k_is)
#print axioms PySem.Challenge.cw_heirorders_k06_fractions_of_heirs_holds
