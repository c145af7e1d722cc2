import PyProof.Rows.All
import Wide.All
import OpenK.AllK
import Wide.FinOn
import HandS.ForMost
import HandS.StrMore
import HandS.IsInst
import HandS.Codes
import HandS.Strs
import HandS.More
import KE.KCallOwn
import HandS.ClsMeth
import HandS.FStr
import HandS.Walk
import KE.GoesMore
import HandS.Exc
import HandS.ExcInit
import HandS.ExcField
import HandS.ExcOwn
import HandS.ExcIs
import HandS.WordsExc
import HandS.Text
import KE.KExcIs
import PySem.Challenge.RW_heirorders_k03_wills_refused
set_option Elab.async false
set_option linter.all false
set_option maxRecDepth 100000
set_option maxHeartbeats 4000000
namespace He
open PySem PySem.Spec PyProof.Rows L2
def topS (i : Nat) : Stmt := PySem.Challenge.pw_heirorders_k03_wills_refused.main.body.getD i (.Pass ⟨0, 0, 0, 0⟩)
abbrev sDIsInteger : Stmt := topS 4
abbrev sDIsName : Stmt := topS 5
abbrev sDIsSequence : Stmt := topS 6
abbrev sDIsPair : Stmt := topS 7
abbrev sDReadNumber : Stmt := topS 8
abbrev sDInvalidWillInit : Stmt := inClass (topS 11) 0
abbrev sDInvalidFamilyInit : Stmt := inClass (topS 12) 0
abbrev sDInvalidTextInit : Stmt := inClass (topS 13) 0
abbrev sDWillInit : Stmt := inClass (topS 16) 0
abbrev sDWillRead : Stmt := inClass (topS 16) 1
abbrev sDWillLen : Stmt := inClass (topS 16) 4
abbrev sDWillEq : Stmt := inClass (topS 16) 5
abbrev sDWillStr : Stmt := inClass (topS 16) 6
abbrev sDAreShares : Stmt := topS 17
abbrev sDIsShare : Stmt := topS 18
abbrev sDIsGroup : Stmt := topS 19
abbrev sDLots : Stmt := topS 20
abbrev sDShareText : Stmt := topS 21
abbrev sDReadShare : Stmt := topS 22
abbrev sDLawSeed : Stmt := topS 24
abbrev sDLawChoose : Stmt := topS 25
abbrev sDLawOneOf : Stmt := topS 26
abbrev sDLawMixed : Stmt := topS 27
abbrev sDLawNames : Stmt := topS 28
abbrev sDLawGroup : Stmt := topS 29
abbrev sDLawWill : Stmt := topS 30
abbrev sDLawLeaf : Stmt := topS 31
abbrev sDLawAny : Stmt := topS 32
abbrev sDLawIsTitle : Stmt := topS 33
abbrev sDLawIsGroup : Stmt := topS 34
abbrev sDLawIsShare : Stmt := topS 35
abbrev sDLawIsRight : Stmt := topS 36
abbrev sDLawHeard : Stmt := topS 37
abbrev sDLawBent : Stmt := topS 38
abbrev sDLaw : Stmt := topS 39
theorem scDIsInteger : FnScope ["value"] ["value"] (defScope sDIsInteger) := ⟨rfl, rfl, rfl, by decide +kernel, rfl, by decide +kernel, by decide +kernel⟩
theorem scDIsName : FnScope ["value"] ["value"] (defScope sDIsName) := ⟨rfl, rfl, rfl, by decide +kernel, rfl, by decide +kernel, by decide +kernel⟩
theorem scDIsSequence : FnScope ["value"] ["value"] (defScope sDIsSequence) := ⟨rfl, rfl, rfl, by decide +kernel, rfl, by decide +kernel, by decide +kernel⟩
theorem scDIsPair : FnScope ["value"] ["value"] (defScope sDIsPair) := ⟨rfl, rfl, rfl, by decide +kernel, rfl, by decide +kernel, by decide +kernel⟩
theorem scDReadNumber : FnScope ["word", "digits"] ["word", "digits"] (defScope sDReadNumber) := ⟨rfl, rfl, rfl, by decide +kernel, rfl, by decide +kernel, by decide +kernel⟩
theorem scDInvalidWillInit : FnScope ["self", "word"] ["self", "word"] (defScope sDInvalidWillInit) := ⟨rfl, rfl, rfl, by decide +kernel, rfl, by decide +kernel, by decide +kernel⟩
theorem scDInvalidFamilyInit : FnScope ["self", "word"] ["self", "word"] (defScope sDInvalidFamilyInit) := ⟨rfl, rfl, rfl, by decide +kernel, rfl, by decide +kernel, by decide +kernel⟩
theorem scDInvalidTextInit : FnScope ["self", "at"] ["self", "at"] (defScope sDInvalidTextInit) := ⟨rfl, rfl, rfl, by decide +kernel, rfl, by decide +kernel, by decide +kernel⟩
theorem scDWillInit : FnScope ["self", "shares", "weight", "groups"] ["self", "shares"] (defScope sDWillInit) := ⟨rfl, rfl, rfl, by decide +kernel, rfl, by decide +kernel, by decide +kernel⟩
theorem scDWillRead : FnScope ["cls", "text", "shares", "at", "part", "share"] ["cls", "text"] (defScope sDWillRead) := ⟨rfl, rfl, rfl, by decide +kernel, rfl, by decide +kernel, by decide +kernel⟩
theorem scDWillLen : FnScope ["self"] ["self"] (defScope sDWillLen) := ⟨rfl, rfl, rfl, by decide +kernel, rfl, by decide +kernel, by decide +kernel⟩
theorem scDWillEq : FnScope ["self", "other"] ["self", "other"] (defScope sDWillEq) := ⟨rfl, rfl, rfl, by decide +kernel, rfl, by decide +kernel, by decide +kernel⟩
theorem scDWillStr : FnScope ["self", "weight", "groups"] ["self"] (defScope sDWillStr) := ⟨rfl, rfl, rfl, by decide +kernel, rfl, by decide +kernel, by decide +kernel⟩
theorem scDAreShares : FnScope ["value", "share"] ["value"] (defScope sDAreShares) := ⟨rfl, rfl, rfl, by decide +kernel, rfl, by decide +kernel, by decide +kernel⟩
theorem scDIsShare : FnScope ["value", "weight", "groups", "group"] ["value"] (defScope sDIsShare) := ⟨rfl, rfl, rfl, by decide +kernel, rfl, by decide +kernel, by decide +kernel⟩
theorem scDIsGroup : FnScope ["value", "name"] ["value"] (defScope sDIsGroup) := ⟨rfl, rfl, rfl, by decide +kernel, rfl, by decide +kernel, by decide +kernel⟩
theorem scDLots : FnScope ["groups", "group"] ["groups"] (defScope sDLots) := ⟨rfl, rfl, rfl, by decide +kernel, rfl, by decide +kernel, by decide +kernel⟩
theorem scDShareText : FnScope ["weight", "groups", "told", "group"] ["weight", "groups"] (defScope sDShareText) := ⟨rfl, rfl, rfl, by decide +kernel, rfl, by decide +kernel, by decide +kernel⟩
theorem scDReadShare : FnScope ["part", "word", "space", "told", "weight", "group"] ["part"] (defScope sDReadShare) := ⟨rfl, rfl, rfl, by decide +kernel, rfl, by decide +kernel, by decide +kernel⟩
theorem scDLawSeed : FnScope ["_law_script", "_law_k", "_law_cell"] ["_law_script", "_law_k"] (defScope sDLawSeed) := ⟨rfl, rfl, rfl, by decide +kernel, rfl, by decide +kernel, by decide +kernel⟩
theorem scDLawChoose : FnScope ["_law_box", "_law_many", "_law_digit", "_law_raw"] ["_law_box", "_law_many"] (defScope sDLawChoose) := ⟨rfl, rfl, rfl, by decide +kernel, rfl, by decide +kernel, by decide +kernel⟩
theorem scDLawOneOf : FnScope ["_law_box", "_law_some"] ["_law_box", "_law_some"] (defScope sDLawOneOf) := ⟨rfl, rfl, rfl, by decide +kernel, rfl, by decide +kernel, by decide +kernel⟩
theorem scDLawMixed : FnScope ["_law_box", "_law_some", "_law_left", "_law_found"] ["_law_box", "_law_some"] (defScope sDLawMixed) := ⟨rfl, rfl, rfl, by decide +kernel, rfl, by decide +kernel, by decide +kernel⟩
theorem scDLawNames : FnScope ["_law_box", "_law_many", "_law_pools"] ["_law_box", "_law_many"] (defScope sDLawNames) := ⟨rfl, rfl, rfl, by decide +kernel, rfl, by decide +kernel, by decide +kernel⟩
theorem scDLawGroup : FnScope ["_law_box", "_law_some"] ["_law_box", "_law_some"] (defScope sDLawGroup) := ⟨rfl, rfl, rfl, by decide +kernel, rfl, by decide +kernel, by decide +kernel⟩
theorem scDLawWill : FnScope ["_law_box", "_law_others", "_law_found", "_law_share", "_law_groups", "_law_turn"] ["_law_box", "_law_others"] (defScope sDLawWill) := ⟨rfl, rfl, rfl, by decide +kernel, rfl, by decide +kernel, by decide +kernel⟩
theorem scDLawLeaf : FnScope ["_law_box", "_law_some"] ["_law_box"] (defScope sDLawLeaf) := ⟨rfl, rfl, rfl, by decide +kernel, rfl, by decide +kernel, by decide +kernel⟩
theorem scDLawAny : FnScope ["_law_box", "_law_deep", "_law_form", "_law_found", "_law_turn"] ["_law_box", "_law_deep"] (defScope sDLawAny) := ⟨rfl, rfl, rfl, by decide +kernel, rfl, by decide +kernel, by decide +kernel⟩
theorem scDLawIsTitle : FnScope ["_law_value", "_law_letter"] ["_law_value"] (defScope sDLawIsTitle) := ⟨rfl, rfl, rfl, by decide +kernel, rfl, by decide +kernel, by decide +kernel⟩
theorem scDLawIsGroup : FnScope ["_law_value", "_law_spot", "_law_name"] ["_law_value"] (defScope sDLawIsGroup) := ⟨rfl, rfl, rfl, by decide +kernel, rfl, by decide +kernel, by decide +kernel⟩
theorem scDLawIsShare : FnScope ["_law_value", "_law_group_here"] ["_law_value"] (defScope sDLawIsShare) := ⟨rfl, rfl, rfl, by decide +kernel, rfl, by decide +kernel, by decide +kernel⟩
theorem scDLawIsRight : FnScope ["_law_value", "_law_share"] ["_law_value"] (defScope sDLawIsRight) := ⟨rfl, rfl, rfl, by decide +kernel, rfl, by decide +kernel, by decide +kernel⟩
theorem scDLawHeard : FnScope ["_law_value", "_law_found", "e"] ["_law_value"] (defScope sDLawHeard) := ⟨rfl, rfl, rfl, by decide +kernel, rfl, by decide +kernel, by decide +kernel⟩
theorem scDLawBent : FnScope ["_law_box", "_law_will_here", "_law_spot", "_law_form", "_law_weight", "_law_groups", "_law_group_here", "_law_some", "_law_fresh"] ["_law_box", "_law_will_here"] (defScope sDLawBent) := ⟨rfl, rfl, rfl, by decide +kernel, rfl, by decide +kernel, by decide +kernel⟩
theorem scDLaw : FnScope ["_law_script", "_law_k", "_law_box", "_law_turn", "_law_will_here", "_law_value"] ["_law_script"] (defScope sDLaw) := ⟨rfl, rfl, rfl, by decide +kernel, rfl, by decide +kernel, by decide +kernel⟩
/-- a def as the top leaves it: at f, with its data fd -/
structure Dn (K : PySem.W.Frag) (mg : Str → Option Value) (x qual : Str) (st : Stmt) (ps : List Str) where
  f : Addr
  fd : FuncData
  F : Fun K x qual st f fd
  b : Binds K fd ps []
  g : mg x = some (.ref f)
/-- a method of the class at C -/
structure Dm (K : PySem.W.Frag) (C : Addr) (x qual : Str) (st : Stmt) (ps : List Str) where
  f : Addr
  fd : FuncData
  F : Fun K x qual st f fd
  b : Binds K fd ps []
  m : Meth K C x f
/-- what the top has written -/
structure TxtG (K : PySem.W.Frag) (mg : Str → Option Value) where
  cHeirError : Addr
  gcHeirError : mg "HeirError" = some (.ref cHeirError)
  cInvalidWill : Addr
  gcInvalidWill : mg "InvalidWill" = some (.ref cInvalidWill)
  cInvalidFamily : Addr
  gcInvalidFamily : mg "InvalidFamily" = some (.ref cInvalidFamily)
  cInvalidText : Addr
  gcInvalidText : mg "InvalidText" = some (.ref cInvalidText)
  cWill : Addr
  gcWill : mg "Will" = some (.ref cWill)
  dIsInteger : Dn K mg "is_integer" "is_integer" sDIsInteger ["value"]
  dIsName : Dn K mg "is_name" "is_name" sDIsName ["value"]
  dIsSequence : Dn K mg "is_sequence" "is_sequence" sDIsSequence ["value"]
  dIsPair : Dn K mg "is_pair" "is_pair" sDIsPair ["value"]
  dReadNumber : Dn K mg "read_number" "read_number" sDReadNumber ["word", "digits"]
  dAreShares : Dn K mg "_are_shares" "_are_shares" sDAreShares ["value"]
  dIsShare : Dn K mg "_is_share" "_is_share" sDIsShare ["value"]
  dIsGroup : Dn K mg "_is_group" "_is_group" sDIsGroup ["value"]
  dLots : Dn K mg "_lots" "_lots" sDLots ["groups"]
  dShareText : Dn K mg "_share_text" "_share_text" sDShareText ["weight", "groups"]
  dReadShare : Dn K mg "_read_share" "_read_share" sDReadShare ["part"]
  dLawSeed : Dn K mg "_law_seed" "_law_seed" sDLawSeed ["_law_script", "_law_k"]
  dLawChoose : Dn K mg "_law_choose" "_law_choose" sDLawChoose ["_law_box", "_law_many"]
  dLawOneOf : Dn K mg "_law_one_of" "_law_one_of" sDLawOneOf ["_law_box", "_law_some"]
  dLawMixed : Dn K mg "_law_mixed" "_law_mixed" sDLawMixed ["_law_box", "_law_some"]
  dLawNames : Dn K mg "_law_names" "_law_names" sDLawNames ["_law_box", "_law_many"]
  dLawGroup : Dn K mg "_law_group" "_law_group" sDLawGroup ["_law_box", "_law_some"]
  dLawWill : Dn K mg "_law_will" "_law_will" sDLawWill ["_law_box", "_law_others"]
  dLawLeaf : Dn K mg "_law_leaf" "_law_leaf" sDLawLeaf ["_law_box"]
  dLawAny : Dn K mg "_law_any" "_law_any" sDLawAny ["_law_box", "_law_deep"]
  dLawIsTitle : Dn K mg "_law_is_title" "_law_is_title" sDLawIsTitle ["_law_value"]
  dLawIsGroup : Dn K mg "_law_is_group" "_law_is_group" sDLawIsGroup ["_law_value"]
  dLawIsShare : Dn K mg "_law_is_share" "_law_is_share" sDLawIsShare ["_law_value"]
  dLawIsRight : Dn K mg "_law_is_right" "_law_is_right" sDLawIsRight ["_law_value"]
  dLawHeard : Dn K mg "_law_heard" "_law_heard" sDLawHeard ["_law_value"]
  dLawBent : Dn K mg "_law_bent" "_law_bent" sDLawBent ["_law_box", "_law_will_here"]
  dLaw : Dn K mg "law" "law" sDLaw ["_law_script"]
  z_abs : mg "abs" = none
  z_all : mg "all" = none
  z_bool : mg "bool" = none
  z_classmethod : mg "classmethod" = none
  z_enumerate : mg "enumerate" = none
  z_int : mg "int" = none
  z_isinstance : mg "isinstance" = none
  z_len : mg "len" = none
  z_list : mg "list" = none
  z_max : mg "max" = none
  z_min : mg "min" = none
  z_range : mg "range" = none
  z_set : mg "set" = none
  z_sorted : mg "sorted" = none
  z_str : mg "str" = none
  z_tuple : mg "tuple" = none
  k_CROWN : ∃ t, mg "CROWN" = some (.str "crown" t)
  k_LONGEST_NAME : ∃ t, mg "LONGEST_NAME" = some (.int 5 t)
  k_WEIGHT_DIGITS : ∃ t, mg "WEIGHT_DIGITS" = some (.int 6 t)
end He

namespace He
open PySem PySem.Spec PyProof.Rows L2
/-! ### heaps where one address is left out -/
def hide (p : Addr) (H : Hp) : Hp := fun b => if b = p then none else H b
theorem hide_ne {p b : Addr} {H : Hp} (h : b ≠ p) : hide p H b = H b := if_neg h
theorem hide_self {p : Addr} {H : Hp} : hide p H p = none := if_pos rfl
theorem hide_le {p : Addr} {H : Hp} : Same (hide p H) H := fun b o e => by
  unfold hide at e
  split at e
  · cases e
  · exact e
theorem hide_same {p : Addr} {H H' : Hp} (h : Same H H') : Same (hide p H) (hide p H') := fun b o e => by
  unfold hide at e ⊢
  split at e
  · cases e
  · rename_i q
    rw [if_neg q]
    exact h b o e
theorem hide_upd {p : Addr} {H : Hp} {o : HO} : Same (hide p H) (hide p (upd H p o)) := fun b u e => by
  have hb : b ≠ p := fun z => by rw [z, hide_self] at e; cases e
  rw [hide_ne hb] at e ⊢
  rw [upd_ne hb]
  exact e
/-- the draws' state: a large number or nought, and a small one -/
def Box (H : Hp) (p : Addr) : Prop := ∃ b0 b1 : Int, H p = some (.lst [.int b0, .int b1]) ∧ 0 ≤ b0 ∧ 0 < b1 ∧ b1 ≤ 2147483629
/-- what a helper that draws leaves: the box, and all else -/
def Bx (p : Addr) (H H' : Hp) : Prop := Box H' p ∧ Same (hide p H) (hide p H')
theorem Box.same {H H' : Hp} {p : Addr} (h : Box H p) (s : Same H H') : Box H' p := by
  obtain ⟨b0, b1, e, r⟩ := h
  exact ⟨b0, b1, s _ _ e, r⟩
theorem Bx.of {H H' : Hp} {p : Addr} (h : Box H p) (s : Same H H') : Bx p H H' := ⟨h.same s, hide_same s⟩
theorem Bx.refl {H : Hp} {p : Addr} (h : Box H p) : Bx p H H := .of h (Same.refl H)
theorem Bx.trans {H H1 H2 : Hp} {p : Addr} (a : Bx p H H1) (b : Bx p H1 H2) : Bx p H H2 := ⟨b.1, a.2.trans b.2⟩
theorem Bx.ne0 {H : Hp} {p : Addr} (h : Box H p) : H p ≠ none := by
  obtain ⟨_, _, e, _⟩ := h
  rw [e]
  exact fun z => nomatch z
theorem same_upd {H : Hp} {p : Addr} {o : HO} (h : H p = none) : Same H (upd H p o) := fun b x e => by
  rw [upd_ne (ne_of_none e h)]
  exact e
theorem sqL_of {K : PySem.W.Frag} {H : Hp} {a : Addr} {xs : List V} (h : H a = some (.lst xs)) : SqL K H a xs := .inl (.inl h)
theorem sqT_of {K : PySem.W.Frag} {H : Hp} {a : Addr} {xs : List V} (h : H a = some (.tup xs)) : SqT K H a xs := .inl (.inl h)
theorem Same.seqT {K : PySem.W.Frag} {H H' : Hp} {a : Addr} {xs : List V} (e : Same H H') (h : SqT K H a xs) : SqT K H' a xs := by
  rcases h with (h | ⟨o, h⟩) | h
  · exact .inl (.inl (e _ _ h))
  · exact .inl (.inr ⟨o, e _ _ h⟩)
  · exact .inr h
end He

namespace He
open PySem PySem.Spec PyProof.Rows L2
section
variable {P : Program} {w : World} {K : PySem.W.Frag} {mg : Str → Option Value} {base : Heap}

theorem callR_imp {X : Cx} {f : Value} {r r' : List V → Hp → VK → Prop} (h : CallR X f r) (i : ∀ xs H Q, r' xs H Q → r xs H Q) : CallR X f r' := fun pins s σ H xs us Q I rv q => h pins s σ H xs us Q I rv (i _ _ _ q)
/-- int(n) of an int -/
theorem call_intI {X : Cx} : CallR X (.type "int") (fun xs H Q => ∃ i, xs = [.int i] ∧ Q (.int i) H) := callR_imp call_int1 fun _ _ _ h => .inl h
/-- len of a list that is read, of a tuple -/
theorem call_lenL {X : Cx} : CallR X (.builtin "len") (fun xs H Q => ∃ p ys, xs = [.ref p] ∧ SqL X.K H p ys ∧ Q (.int ys.length) H) := callR_imp call_len_seq fun _ _ _ ⟨p, ys, e, h, q⟩ => ⟨p, ys, e, .inl h, q⟩
theorem absI (i : Int) : 0 ≤ (if i < 0 then -i else i) := by split <;> omega
theorem cpow18 : CPow 10 18 := ⟨by decide, by decide, by decide⟩
theorem atI_map {ns : List Int} {k : Nat} (h : k < ns.length) : atI (ns.map V.int) (k : Int) = some (V.int ns[k]) := atI_nat (by rw [List.getElem?_map, List.getElem?_eq_getElem h] <;> rfl)
def spSeed (K : PySem.W.Frag) : Sp := fun vs H Q _ => ∃ (a : Addr) (ns : List Int) (k : Nat), vs = [.ref a, .int k] ∧ k ≤ 3 ∧ SqL K H a (ns.map V.int) ∧ ns.length ≤ 63 ∧
  ∀ b0 b1 p, H p = none → 0 ≤ b0 → 0 < b1 → b1 ≤ 2147483629 → Q (.ref p) (upd H p (.lst [.int b0, .int b1]))
theorem ok_seed (T : TxtG K mg) : FnOk P w K mg base CX0 1 T.dLawSeed.f T.dLawSeed.fd ["_law_script", "_law_k"] (spSeed K) := by
  refine T.dLawSeed.F.ok scDLawSeed (fun vs H Q E h => ?_) (fun cdv A outer s H vs Q E hr h => ?_)
  · obtain ⟨a, ns, k, rfl, _⟩ := h
    rfl
  · obtain ⟨a, ns, k, rfl, hk, hS, hn, q⟩ := h
    refine ⟨_, (pss_cons (ps_set (i := 2) scDLawSeed.nd rfl (.inl rfl) (pe_op op_add (pe_op op_mul pe_int (pv 1)) pe_int))
      (pss_cons (ps_if (pt_cmpR op_lt (pv 1) (pe_callB call_len_seq (by rfl) T.z_len (by decide +kernel) (pa_cons (pv 0) pa_nil)) (nomark _))
      (pss_one (ps_set (i := 2) scDLawSeed.nd rfl (.inl rfl) (pe_callB call_abs (by rfl) T.z_abs (by decide +kernel) (pa_cons (pe_ix ix_list (pv 0) (pv 1) (fun _ _ => rfl)) pa_nil))))
      (pss_one (ps_if (pt_cmpR op_gt (pe_callB call_len_seq (by rfl) T.z_len (by decide +kernel) (pa_cons (pv 0) pa_nil)) pe_int (nomark _))
      (pss_one (ps_set (i := 2) scDLawSeed.nd rfl (.inl rfl) (pe_op op_add (pv 2) (pe_op op_mul (pe_op op_mod (pe_callTy call_int1 (by rfl) T.z_int (by decide +kernel) (pa_cons (pe_callB call_abs (by rfl) T.z_abs (by decide +kernel) (pa_cons (pe_ix ix_list (pv 0) (pe_op op_mod (pe_callTy call_int1 (by rfl) T.z_int (by decide +kernel) (pa_cons (pv 1) pa_nil)) (pe_callB call_len_seq (by rfl) T.z_len (by decide +kernel) (pa_cons (pv 0) pa_nil))) (fun _ _ => rfl)) pa_nil)) pa_nil)) pe_int) pe_int))))
      pss_nil)))
      (pss_one (ps_ret (pe_lst (pa_cons (pe_ifExp (pt_cmpR op_ge (pv 2) (pe_op op_pow pe_int pe_int) (nomark _)) (pv 2) pe_int) (pa_cons (pe_op op_add (pe_op op_mod (pe_callTy call_int1 (by rfl) T.z_int (by decide +kernel) (pa_cons (pe_op op_add (pe_op op_mul (pe_op op_mod (pe_callTy call_int1 (by rfl) T.z_int (by decide +kernel) (pa_cons (pv 2) pa_nil)) pe_int) pe_int) (pe_op op_mul pe_int (pv 1))) pa_nil)) pe_int) pe_int) pa_nil))))))), ?_⟩
    simp only [tSeq, tAsg, tOp, tUn, rI, rI0, rU, tVar, tC, gName, L2.start, tIfS, tTest, tB, tCB, tCons, tNil, tIf, tRet, tRetN, tLst, tTup, tNext, tDrop, tNot, tNotV, tAnd, tOr, tAndV, tOrV, tPar, tAug, ipI, rEq, rNe, gSub, rSetL, rIxL, rIxT, tBM, tBM0, rAppend, rPopAt, gTup, gCons, gNil, tCall, tSl, tPart, tNoPart, rSlL, rCat, rEqD, rNeD, rIn, scal, List.map_cons, List.map_nil, List.length_cons, List.length_nil, List.length_map, List.cons_append, List.nil_append, List.append_nil, List.replicate, List.getElem?_cons_zero, List.getElem?_cons_succ, List.set_cons_zero, List.set_cons_succ, Option.some.injEq, exists_eq_left', exists_eq_left, exists_eq_right, exists_and_left, exists_and_right, V.int.injEq, V.ref.injEq, V.str.injEq, V.bl.injEq, reduceCtorEq, false_and, and_false, exists_false, or_false, false_or, true_and, and_true, List.cons.injEq, decide_eq_true_eq, cxOf, if_true, if_false, Bool.false_eq_true, Nat.reduceAdd, Nat.reduceSub, Nat.zero_add, Nat.add_sub_cancel_left, Nat.add_sub_cancel, Nat.sub_self]
    have fin : ∀ c : Int, 0 ≤ c → ∀ p, H p = none → Q (.ref p) (upd H p (.lst [.int c, .int ((c % 2147483629 * 48271 + 35023 * (k : Int)) % 2147483629 + 1)])) := fun c hc p hp => q _ _ p hp hc (by omega) (by omega)
    have fin0 : ∀ c : Int, 0 ≤ c → ∀ p, H p = none → Q (.ref p) (upd H p (.lst [.int 0, .int ((c % 2147483629 * 48271 + 35023 * (k : Int)) % 2147483629 + 1)])) := fun c hc p hp => q _ _ p hp (by decide) (by omega) (by omega)
    refine ⟨.inl ⟨by decide, by decide⟩, _, .inl hS, ?_⟩
    rw [List.length_map]
    by_cases h1 : k < ns.length
    · rw [if_pos (by omega)]
      refine ⟨_, hS, _, atI_map h1, _, rfl, cpow18, ?_⟩
      have ha := absI ns[k]
      generalize (if ns[k] < 0 then -ns[k] else ns[k]) = c at ha ⊢
      split
      · exact ⟨by decide, .inl (by omega), .inl (by omega), by decide, by decide, fin c ha⟩
      · exact ⟨by decide, .inl (by omega), .inl (by omega), by decide, by decide, fin0 c ha⟩
    · rw [if_neg (by omega)]
      refine ⟨_, .inl hS, ?_⟩
      rw [List.length_map]
      by_cases h2 : 0 < ns.length
      · rw [if_pos (by omega)]
        have hm : ((k : Int) % (ns.length : Int)) = ((k % ns.length : Nat) : Int) := by omega
        have hlt : k % ns.length < ns.length := Nat.mod_lt _ h2
        refine ⟨_, .inl hS, by rw [List.length_map]; omega, _, hS, _, by rw [List.length_map, hm]; exact atI_map hlt, _, rfl, by decide, .inl (by omega), cpow18, ?_⟩
        have ha := absI ns[k % ns.length]
        generalize (if ns[k % ns.length] < 0 then -ns[k % ns.length] else ns[k % ns.length]) = c at ha ⊢
        have hc : 0 ≤ 8231 * (k : Int) + 97 + c % 2147483629 * 40093 := by omega
        generalize 8231 * (k : Int) + 97 + c % 2147483629 * 40093 = d at hc ⊢
        split
        · exact ⟨by decide, .inl (by omega), .inl (by omega), by decide, by decide, fin d hc⟩
        · exact ⟨by decide, .inl (by omega), .inl (by omega), by decide, by decide, fin0 d hc⟩
      · rw [if_neg (by omega)]
        have hc : 0 ≤ 8231 * (k : Int) + 97 := by omega
        refine ⟨cpow18, ?_⟩
        split
        · exact ⟨by decide, .inl (by omega), .inl (by omega), by decide, by decide, fin _ hc⟩
        · exact ⟨by decide, .inl (by omega), .inl (by omega), by decide, by decide, fin0 _ hc⟩
/-- choose: a number below many, the box turned -/
def spChoose (K : PySem.W.Frag) : Sp := fun vs H Q _ => ∃ (p : Addr) (m : Int), vs = [.ref p, .int m] ∧ Box H p ∧ 0 < m ∧ m ≤ 1000000 ∧
  ∀ r H', Bx p H H' → 0 ≤ r → r < m → Q (.int r) H'
theorem ok_choose (T : TxtG K mg) : FnOk P w K mg base CX0 1 T.dLawChoose.f T.dLawChoose.fd ["_law_box", "_law_many"] (spChoose K) := by
  refine T.dLawChoose.F.ok scDLawChoose (fun vs H Q E h => ?_) (fun cdv A outer s H vs Q E hr h => ?_)
  · obtain ⟨p, m, rfl, _⟩ := h
    rfl
  · obtain ⟨p, m, rfl, ⟨b0, b1, hp, h0, h1, h2⟩, m0, m1, q⟩ := h
    refine ⟨_, (pss_cons (ps_if (pt_cmpR op_gt (pe_ix ix_list (pv 0) pe_int (fun _ _ => rfl)) pe_int (nomark _))
      (pss_cons (ps_set (i := 2) scDLawChoose.nd rfl (.inl rfl) (pe_op op_mod (pe_callTy call_intI (by rfl) T.z_int (by decide +kernel) (pa_cons (pe_ix ix_list (pv 0) pe_int (fun _ _ => rfl)) pa_nil)) (pv 1)))
      (pss_cons (ps_asg (pe_op op_fdiv (pe_ix ix_list (pv 0) pe_int (fun _ _ => rfl)) (pv 1)) (pg_sub (pv 0) pe_int set_list))
      (pss_one (ps_ret (pv 2)))))
      pss_nil)
      (pss_cons (ps_set (i := 3) scDLawChoose.nd rfl (.inl rfl) (pe_op op_mod (pe_callTy call_intI (by rfl) T.z_int (by decide +kernel) (pa_cons (pe_op op_add (pe_op op_mul (pe_ix ix_list (pv 0) pe_int (fun _ _ => rfl)) pe_int) pe_int) pa_nil)) pe_int))
      (pss_cons (ps_asg (pe_op op_add (pe_op op_mod (pe_callTy call_intI (by rfl) T.z_int (by decide +kernel) (pa_cons (pe_op op_add (pe_op op_mul (pv 3) pe_int) pe_int) pa_nil)) pe_int) pe_int) (pg_sub (pv 0) pe_int set_list))
      (pss_one (ps_ret (pe_op op_mod (pe_callTy call_intI (by rfl) T.z_int (by decide +kernel) (pa_cons (pe_op op_fdiv (pe_op op_add (pe_op op_mul (pv 3) pe_int) (pe_ix ix_list (pv 0) pe_int (fun _ _ => rfl))) pe_int) pa_nil)) (pv 1))))))), ?_⟩
    simp only [and_assoc, tSeq, tAsg, tOp, tUn, rI, rI0, rU, tVar, tC, gName, L2.start, tIfS, tTest, tB, tCB, tCons, tNil, tIf, tRet, tRetN, tLst, tTup, tNext, tDrop, tNot, tNotV, tAnd, tOr, tAndV, tOrV, tPar, tAug, ipI, rEq, rNe, gSub, rSetL, rIxL, rIxT, tBM, tBM0, rAppend, rPopAt, gTup, gCons, gNil, tCall, tSl, tPart, tNoPart, rSlL, rCat, rEqD, rNeD, rIn, scal, List.map_cons, List.map_nil, List.length_cons, List.length_nil, List.length_map, List.cons_append, List.nil_append, List.append_nil, List.replicate, List.getElem?_cons_zero, List.getElem?_cons_succ, List.set_cons_zero, List.set_cons_succ, Option.some.injEq, exists_eq_left', exists_eq_left, exists_eq_right, exists_and_left, exists_and_right, V.int.injEq, V.ref.injEq, V.str.injEq, V.bl.injEq, reduceCtorEq, false_and, and_false, exists_false, or_false, false_or, true_and, and_true, List.cons.injEq, decide_eq_true_eq, cxOf, if_true, if_false, Bool.false_eq_true, Nat.reduceAdd, Nat.reduceSub, Nat.zero_add, Nat.add_sub_cancel_left, Nat.add_sub_cancel, Nat.sub_self]
    have hq : SqL K H p [.int b0, .int b1] := sqL_of hp
    have a0 : atI [V.int b0, V.int b1] 0 = some (.int b0) := rfl
    have a1 : atI [V.int b0, V.int b1] 1 = some (.int b1) := rfl
    refine ⟨_, hq, _, a0, _, rfl, ?_⟩
    by_cases z : 0 < b0
    · rw [if_pos z]
      refine ⟨_, hq, _, a0, _, rfl, m0, _, hq, _, a0, _, rfl, ⟨m0, by omega⟩, _, hp, 0, rfl, ?_⟩
      exact q _ _ ⟨⟨b0 / m, b1, upd_same, Int.ediv_nonneg h0 (by omega), h1, h2⟩, hide_upd⟩ (Int.emod_nonneg _ (by omega)) (Int.emod_lt_of_pos _ m0)
    · rw [if_neg z]
      refine ⟨_, hq, _, a1, _, rfl, .inr (by decide), by decide, .inr (by decide), by decide, _, hp, 1, rfl, .inr (by decide), _, sqL_of upd_same, _, rfl, _, rfl, ⟨by decide, by decide⟩, m0, ?_⟩
      exact q _ _ ⟨⟨b0, _, upd_same, h0, by omega, by omega⟩, hide_upd⟩ (Int.emod_nonneg _ (by omega)) (Int.emod_lt_of_pos _ m0)
/-- one of several things -/
def spOneOf (K : PySem.W.Frag) : Sp := fun vs H Q _ => ∃ (p a : Addr) (xs : List V), vs = [.ref p, .ref a] ∧ Box H p ∧ SqL K (hide p H) a xs ∧ 0 < xs.length ∧ xs.length ≤ 1000 ∧
  ∀ (i : Nat) v H', Bx p H H' → xs[i]? = some v → Q v H'
theorem ok_oneof (T : TxtG K mg) : FnOk P w K mg base CX0 2 T.dLawOneOf.f T.dLawOneOf.fd ["_law_box", "_law_some"] (spOneOf K) := by
  refine T.dLawOneOf.F.ok scDLawOneOf (fun vs H Q E h => ?_) (fun cdv A outer s H vs Q E hr h => ?_)
  · obtain ⟨p, a, xs, rfl, _⟩ := h
    rfl
  · obtain ⟨p, a, xs, rfl, hb, hS, h0, h1, q⟩ := h
    refine ⟨_, (pss_one (ps_ret (pe_ix ix_list (pv 1) (pe_call (ok_choose T) (hr.mono (by decide)) (by rfl) T.dLawChoose.g T.dLawChoose.F.kp T.dLawChoose.b .nil pass0 (pa_cons (pv 0) (pa_cons (pe_callB call_lenL (by rfl) T.z_len (by decide +kernel) (pa_cons (pv 1) pa_nil)) pa_nil))) (fun _ _ => rfl)))), ?_⟩
    simp only [and_assoc, tSeq, tAsg, tOp, tUn, rI, rI0, rU, tVar, tC, gName, L2.start, tIfS, tTest, tB, tCB, tCons, tNil, tIf, tRet, tRetN, tLst, tTup, tNext, tDrop, tNot, tNotV, tAnd, tOr, tAndV, tOrV, tPar, tAug, ipI, rEq, rNe, gSub, rSetL, rIxL, rIxT, tBM, tBM0, rAppend, rPopAt, gTup, gCons, gNil, tCall, tSl, tPart, tNoPart, rSlL, rCat, rEqD, rNeD, rIn, scal, List.map_cons, List.map_nil, List.length_cons, List.length_nil, List.length_map, List.cons_append, List.nil_append, List.append_nil, List.replicate, List.getElem?_cons_zero, List.getElem?_cons_succ, List.set_cons_zero, List.set_cons_succ, Option.some.injEq, exists_eq_left', exists_eq_left, exists_eq_right, exists_and_left, exists_and_right, V.int.injEq, V.ref.injEq, V.str.injEq, V.bl.injEq, reduceCtorEq, false_and, and_false, exists_false, or_false, false_or, true_and, and_true, List.cons.injEq, decide_eq_true_eq, cxOf, if_true, if_false, Bool.false_eq_true, Nat.reduceAdd, Nat.reduceSub, Nat.zero_add, Nat.add_sub_cancel_left, Nat.add_sub_cancel, Nat.sub_self, spChoose]
    have s0 : SqL K H a xs := hide_le.seq hS
    refine ⟨_, s0, hb, by omega, by omega, fun r H' B r0 r1 => ?_⟩
    have s1 : SqL K H' a xs := hide_le.seq (B.2.seq hS)
    obtain ⟨j, rfl⟩ : ∃ j : Nat, r = (j : Int) := ⟨r.toNat, by omega⟩
    have hj : j < xs.length := by omega
    exact ⟨_, s1, _, atI_nat (List.getElem?_eq_getElem hj), q j _ _ B (List.getElem?_eq_getElem hj)⟩

end
end He

namespace He
open PySem PySem.Spec PyProof.Rows L2
section
variable {P : Program} {w : World} {K : PySem.W.Frag} {mg : Str → Option Value} {base : Heap}

theorem Bx.get {p b : Addr} {H H' : Hp} {o : HO} (B : Bx p H H') (hb : b ≠ p) (e : H b = some o) : H' b = some o := by
  have h := B.2 b o (by rw [hide_ne hb]; exact e)
  rwa [hide_ne hb] at h
/-- an object that H does not know may change -/
theorem Bx.mut {p l : Addr} {H H' : Hp} {o : HO} (B : Bx p H H') (nl : H l = none) (lp : l ≠ p) : Bx p H (upd H' l o) := by
  obtain ⟨⟨b0, b1, e, r⟩, s⟩ := B
  refine ⟨⟨b0, b1, by rw [upd_ne lp.symm]; exact e, r⟩, fun b u hb => ?_⟩
  have hbp : b ≠ p := fun z => by rw [z, hide_self] at hb; cases hb
  have h1 := s b u hb
  rw [hide_ne hbp] at hb h1 ⊢
  rw [upd_ne (ne_of_none hb nl)]
  exact h1

/-- a list beside an empty one -/
def rNeNil (K : PySem.W.Frag) : R2 := fun x y H Q => ∃ l e xs, x = .ref l ∧ y = .ref e ∧ SqL K H l xs ∧ SqL K H e [] ∧ Q (.bl (!xs.isEmpty)) H
theorem op_neNil {X : Cx} (hu : X.A.units + 64 < cLine) : OpR X (compareOp .NotEq) (rNeNil X.K) := by
  intro pins s σ H x y v u Q I rx ry h
  obtain ⟨l, e, xs, rfl, rfl, hl, he, q⟩ := h
  cases rx
  cases ry
  obtain ⟨its, r1, p1, _⟩ := I.list hl
  obtain ⟨its2, r2, p2, _⟩ := I.list he
  cases r2
  have hu' : X.A.units < cLine := by omega
  cases r1 with
  | nil => exact SeqAt.RcNeAt.lists (e := fun _ => true) p1.isList p2.isList rfl hu' (fun j h1 => absurd h1 (by simp)) X.prog X.w X.xe _ ⟨.bl false, H, I, rfl, q⟩
  | cons a b => exact SeqAt.RcNeAt.lists_lengths p1.isList p2.isList (by simp) hu' X.prog X.w X.xe _ ⟨.bl true, H, I, rfl, q⟩
def lenAt (H : Hp) (l : Addr) : Nat := match H l with
  | some (.lst xs) => xs.length
  | _ => 0
theorem lenAt_of {H : Hp} {l : Addr} {xs : List V} (h : H l = some (.lst xs)) : lenAt H l = xs.length := by
  unfold lenAt
  rw [h]
theorem erase_perm : ∀ (xs : List V) (k : Nat) (y : V), xs[k]? = some y → (y :: xs.eraseIdx k).Perm xs
  | [], k, y, h => by simp at h
  | x :: xs, 0, y, h => by
    have e : x = y := Option.some.inj h
    rw [e]
    exact List.Perm.refl _
  | x :: xs, k + 1, y, h => (List.Perm.swap x y _).trans ((erase_perm xs k y h).cons x)
theorem perm_pop {xs fs zs : List V} {k : Nat} {y : V} (hy : xs[k]? = some y) (h : (fs ++ xs).Perm zs) : ((fs ++ [y]) ++ xs.eraseIdx k).Perm zs := by
  refine List.Perm.trans ?_ h
  rw [List.append_assoc]
  exact List.Perm.append_left fs (erase_perm xs k y hy)
/-- in some order -/
def spMixed (K : PySem.W.Frag) : Sp := fun vs H Q _ => ∃ (p a : Addr) (zs : List V), vs = [.ref p, .ref a] ∧ Box H p ∧ SqL K (hide p H) a zs ∧ zs.length ≤ 1000 ∧
  ∀ (ys : List V) (r : Addr) (H' : Hp), Bx p H H' → ys.Perm zs → H r = none → H' r = some (.lst ys) → Q (.ref r) H'
theorem ok_mixed (T : TxtG K mg) : FnOk P w K mg base CX0 2 T.dLawMixed.f T.dLawMixed.fd ["_law_box", "_law_some"] (spMixed K) := by
  refine T.dLawMixed.F.ok scDLawMixed (fun vs H Q E h => ?_) (fun cdv A outer s H vs Q E hr h => ?_)
  · obtain ⟨p, a, zs, rfl, _⟩ := h
    rfl
  · obtain ⟨p, a, zs, rfl, hb, hS, h1, q⟩ := h
    refine ⟨_, (pss_cons (ps_par (i := 2) (j := 3) (by rfl) scDLawMixed.nd rfl rfl (by decide) rfl rfl (pa_cons (pe_callTy call_list_of (by rfl) T.z_list (by decide +kernel) (pa_cons (pv 1) pa_nil)) (pa_cons (pe_lst pa_nil) pa_nil)) (by rfl))
      (pss_cons (ps_while PassesOwn.never (pt_cmpR (op_neNil hr.units) (pv 2) (pe_lst pa_nil) (nomark _))
      (pss_one (ps_expr (pe_bm PySem.F.plainAttrs_list PySem.F.slot_list_append PySem.F.type_list_append mt_append (pv 3) (pa_cons (pe_bm PySem.F.plainAttrs_list PySem.F.slot_list_pop PySem.F.type_list_pop mt_popAt (pv 2) (pa_cons (pe_call (ok_choose T) (hr.mono (by decide)) (by rfl) T.dLawChoose.g T.dLawChoose.F.kp T.dLawChoose.b .nil pass0 (pa_cons (pv 0) (pa_cons (pe_callB call_lenL (by rfl) T.z_len (by decide +kernel) (pa_cons (pv 2) pa_nil)) pa_nil))) pa_nil)) pa_nil)))))
      (pss_one (ps_ret (pv 3))))), ?_⟩
    simp only [and_assoc, tSeq, tAsg, tOp, tUn, rI, rI0, rU, tVar, tC, gName, L2.start, tIfS, tTest, tB, tCB, tCons, tNil, tIf, tRet, tRetN, tLst, tTup, tNext, tDrop, tNot, tNotV, tAnd, tOr, tAndV, tOrV, tPar, tAug, ipI, rEq, rNe, gSub, rSetL, rIxL, rIxT, tBM, tBM0, rAppend, rPopAt, gTup, gCons, gNil, tCall, tSl, tPart, tNoPart, rSlL, rCat, rEqD, rNeD, rIn, scal, List.map_cons, List.map_nil, List.length_cons, List.length_nil, List.length_map, List.cons_append, List.nil_append, List.append_nil, List.replicate, List.getElem?_cons_zero, List.getElem?_cons_succ, List.set_cons_zero, List.set_cons_succ, Option.some.injEq, exists_eq_left', exists_eq_left, exists_eq_right, exists_and_left, exists_and_right, V.int.injEq, V.ref.injEq, V.str.injEq, V.bl.injEq, reduceCtorEq, false_and, and_false, exists_false, or_false, false_or, true_and, and_true, List.cons.injEq, decide_eq_true_eq, cxOf, if_true, if_false, Bool.false_eq_true, Nat.reduceAdd, Nat.reduceSub, Nat.zero_add, Nat.add_sub_cancel_left, Nat.add_sub_cancel, Nat.sub_self, spChoose]
    refine ⟨zs, .inl (hide_le.seq hS), fun l nl => ⟨by decide, fun f nf => ?_⟩⟩
    obtain ⟨b0, b1, eb, _⟩ := id hb
    have lp : l ≠ p := fun z => by rw [z, eb] at nl; cases nl
    have fl : f ≠ l := fun z => by rw [z, upd_same] at nf; cases nf
    have nf0 : H f = none := by rw [upd_ne fl] at nf; exact nf
    have fp : f ≠ p := fun z => by rw [z, eb] at nf0; cases nf0
    have s1 : Same H (upd (upd H l (.lst zs)) f (.lst [])) := (same_upd nl).trans (same_upd nf)
    refine while_by (fun σ H1 => ∃ ls fs : List V, σ = [some (.ref p), some (.ref a), some (.ref l), some (.ref f)] ∧ Bx p H H1 ∧ H1 l = some (.lst ls) ∧ H1 f = some (.lst fs) ∧ (fs ++ ls).Perm zs)
      (fun _ H1 => lenAt H1 l) ⟨zs, [], rfl, Bx.of hb s1, by rw [upd_ne fl.symm, upd_same], upd_same, List.Perm.refl _⟩ ?_ ?_
    · rintro σ H1 ⟨ls, fs, rfl, B, el, ef, pm⟩
      simp only [and_assoc, tSeq, tAsg, tOp, tUn, rI, rI0, rU, tVar, tC, gName, L2.start, tIfS, tTest, tB, tCB, tCons, tNil, tIf, tRet, tRetN, tLst, tTup, tNext, tDrop, tNot, tNotV, tAnd, tOr, tAndV, tOrV, tPar, tAug, ipI, rEq, rNe, gSub, rSetL, rIxL, rIxT, tBM, tBM0, rAppend, rPopAt, gTup, gCons, gNil, tCall, tSl, tPart, tNoPart, rSlL, rCat, rEqD, rNeD, rIn, scal, List.map_cons, List.map_nil, List.length_cons, List.length_nil, List.length_map, List.cons_append, List.nil_append, List.append_nil, List.replicate, List.getElem?_cons_zero, List.getElem?_cons_succ, List.set_cons_zero, List.set_cons_succ, Option.some.injEq, exists_eq_left', exists_eq_left, exists_eq_right, exists_and_left, exists_and_right, V.int.injEq, V.ref.injEq, V.str.injEq, V.bl.injEq, reduceCtorEq, false_and, and_false, exists_false, or_false, false_or, true_and, and_true, List.cons.injEq, decide_eq_true_eq, cxOf, if_true, if_false, Bool.false_eq_true, Nat.reduceAdd, Nat.reduceSub, Nat.zero_add, Nat.add_sub_cancel_left, Nat.add_sub_cancel, Nat.sub_self, spChoose, rNeNil]
      refine ⟨by decide, fun e ne => ⟨ls, sqL_of (same_upd ne _ _ el), sqL_of upd_same, ?_⟩⟩
      have B2 : Bx p H (upd H1 e (.lst [])) := B.trans (.of B.1 (same_upd ne))
      have el2 := same_upd (o := .lst []) ne _ _ el
      have ef2 := same_upd (o := .lst []) ne _ _ ef
      have hlen : ls.length ≤ 1000 := by have := pm.length_eq; rw [List.length_append] at this; omega
      have hlen2 : fs.length ≤ 1000 := by have := pm.length_eq; rw [List.length_append] at this; omega
      cases ls with
      | nil =>
        simp only [and_assoc, tSeq, tAsg, tOp, tUn, rI, rI0, rU, tVar, tC, gName, L2.start, tIfS, tTest, tB, tCB, tCons, tNil, tIf, tRet, tRetN, tLst, tTup, tNext, tDrop, tNot, tNotV, tAnd, tOr, tAndV, tOrV, tPar, tAug, ipI, rEq, rNe, gSub, rSetL, rIxL, rIxT, tBM, tBM0, rAppend, rPopAt, gTup, gCons, gNil, tCall, tSl, tPart, tNoPart, rSlL, rCat, rEqD, rNeD, rIn, scal, List.map_cons, List.map_nil, List.length_cons, List.length_nil, List.length_map, List.cons_append, List.nil_append, List.append_nil, List.replicate, List.getElem?_cons_zero, List.getElem?_cons_succ, List.set_cons_zero, List.set_cons_succ, Option.some.injEq, exists_eq_left', exists_eq_left, exists_eq_right, exists_and_left, exists_and_right, V.int.injEq, V.ref.injEq, V.str.injEq, V.bl.injEq, reduceCtorEq, false_and, and_false, exists_false, or_false, false_or, true_and, and_true, List.cons.injEq, decide_eq_true_eq, cxOf, if_true, if_false, Bool.false_eq_true, Nat.reduceAdd, Nat.reduceSub, Nat.zero_add, Nat.add_sub_cancel_left, Nat.add_sub_cancel, Nat.sub_self, List.isEmpty_nil, Bool.not_true]
        have e2 := B2
        refine q fs f _ B2 (by simpa using pm) nf0 ef2
      | cons y ys =>
        simp only [and_assoc, tSeq, tAsg, tOp, tUn, rI, rI0, rU, tVar, tC, gName, L2.start, tIfS, tTest, tB, tCB, tCons, tNil, tIf, tRet, tRetN, tLst, tTup, tNext, tDrop, tNot, tNotV, tAnd, tOr, tAndV, tOrV, tPar, tAug, ipI, rEq, rNe, gSub, rSetL, rIxL, rIxT, tBM, tBM0, rAppend, rPopAt, gTup, gCons, gNil, tCall, tSl, tPart, tNoPart, rSlL, rCat, rEqD, rNeD, rIn, scal, List.map_cons, List.map_nil, List.length_cons, List.length_nil, List.length_map, List.cons_append, List.nil_append, List.append_nil, List.replicate, List.getElem?_cons_zero, List.getElem?_cons_succ, List.set_cons_zero, List.set_cons_succ, Option.some.injEq, exists_eq_left', exists_eq_left, exists_eq_right, exists_and_left, exists_and_right, V.int.injEq, V.ref.injEq, V.str.injEq, V.bl.injEq, reduceCtorEq, false_and, and_false, exists_false, or_false, false_or, true_and, and_true, List.cons.injEq, decide_eq_true_eq, cxOf, if_true, if_false, Bool.false_eq_true, Nat.reduceAdd, Nat.reduceSub, Nat.zero_add, Nat.add_sub_cancel_left, Nat.add_sub_cancel, Nat.sub_self, List.isEmpty_cons, Bool.not_false]
        refine ⟨.inl ⟨rfl, _, sqL_of ef2⟩, .inl ⟨rfl, _, sqL_of el2⟩, _, sqL_of el2, B2.1, by rw [List.length_cons]; omega, by omega, fun r H3 B3 r0 r1 => ?_⟩
        have el3 := B3.get lp el2
        have ef3 := B3.get fp ef2
        obtain ⟨j, rfl⟩ : ∃ j : Nat, r = (j : Int) := ⟨r.toNat, by omega⟩
        have hj : j < (y :: ys).length := by omega
        refine ⟨_, el3, by omega, by omega, j, ?_, _, List.getElem?_eq_getElem hj, fs, by rw [upd_ne fl]; exact ef3, small1000 hlen2, ((B2.trans B3).mut nl lp).mut nf0 fp, ?_, ?_⟩
        · have := seqIndex_of (k := (j : Int)) (n := (y :: ys).length) (by omega) (by omega)
          rw [this, Int.toNat_natCast]
        · exact ⟨_, by rw [upd_ne fl.symm, upd_same], _, upd_same, perm_pop (List.getElem?_eq_getElem hj) pm⟩
        · rw [lenAt_of el, lenAt_of (xs := (y :: ys).eraseIdx j) (by rw [upd_ne fl.symm, upd_same]), List.length_eraseIdx, if_pos hj]
          exact Nat.sub_lt (by rw [List.length_cons]; omega) (by decide)
    · intro σ H1 Q1 Q2 hQ h
      simp only [and_assoc, tSeq, tAsg, tOp, tUn, rI, rI0, rU, tVar, tC, gName, L2.start, tIfS, tTest, tB, tCB, tCons, tNil, tIf, tRet, tRetN, tLst, tTup, tNext, tDrop, tNot, tNotV, tAnd, tOr, tAndV, tOrV, tPar, tAug, ipI, rEq, rNe, gSub, rSetL, rIxL, rIxT, tBM, tBM0, rAppend, rPopAt, gTup, gCons, gNil, tCall, tSl, tPart, tNoPart, rSlL, rCat, rEqD, rNeD, rIn, scal, List.map_cons, List.map_nil, List.length_cons, List.length_nil, List.length_map, List.cons_append, List.nil_append, List.append_nil, List.replicate, List.getElem?_cons_zero, List.getElem?_cons_succ, List.set_cons_zero, List.set_cons_succ, Option.some.injEq, exists_eq_left', exists_eq_left, exists_eq_right, exists_and_left, exists_and_right, V.int.injEq, V.ref.injEq, V.str.injEq, V.bl.injEq, reduceCtorEq, false_and, and_false, exists_false, or_false, false_or, true_and, and_true, List.cons.injEq, decide_eq_true_eq, cxOf, if_true, if_false, Bool.false_eq_true, Nat.reduceAdd, Nat.reduceSub, Nat.zero_add, Nat.add_sub_cancel_left, Nat.add_sub_cancel, Nat.sub_self, rNeNil] at h ⊢
      obtain ⟨v, hv, hz, k⟩ := h
      exact ⟨v, hv, hz, fun e he => let ⟨l, e1, x, a, b, c⟩ := k e he; ⟨l, e1, x, a, b, hQ _ _ c⟩⟩

end
end He

namespace He
open PySem PySem.Spec PyProof.Rows L2
section
variable {P : Program} {w : World} {K : PySem.W.Frag} {mg : Str → Option Value} {base : Heap}

theorem Bx.new {p b : Addr} {H H' : Hp} (B : Bx p H H') (h : H' b = none) : H b = none := by
  cases e : H b with
  | none => rfl
  | some o =>
    have hb : b ≠ p := fun z => by
      obtain ⟨_, _, e2, _⟩ := B.1
      rw [z, e2] at h
      cases h
    rw [B.get hb e] at h
    cases h
theorem Bx.ne {p b : Addr} {H H' : Hp} (B : Bx p H H') (hb : Box H p) (h : H' b = none) : b ≠ p := fun z => by
  obtain ⟨_, _, e2, _⟩ := B.1
  rw [z, e2] at h
  cases h

mutual
theorem dp_mono {K : PySem.W.Frag} {H H' : Hp} (s : Same H H') : ∀ (d : PyData) (v : V), Dp K H v d → Dp K H' v d
  | .none, _, h => by cases h; exact .non
  | .bool b, _, h => by cases h; exact .bl b
  | .int i, _, h => by cases h; exact .int i
  | .str x, _, h => by cases h; exact .str x
  | .list ds, _, h => by
    cases h with
    | lst hs ha => exact .lst (s.seq hs) (dpA_mono s ds _ ha)
  | .tuple ds, _, h => by
    cases h with
    | tup hs ha => exact .tup (Same.seqT s hs) (dpA_mono s ds _ ha)
  | .dict _, _, h => by cases h
theorem dpA_mono {K : PySem.W.Frag} {H H' : Hp} (s : Same H H') : ∀ (ds : List PyData) (vs : List V), DpAll K H vs ds → DpAll K H' vs ds
  | [], _, h => by cases h; exact .nil
  | d :: ds, _, h => by
    cases h with
    | cons a b => exact .cons (dp_mono s d _ a) (dpA_mono s ds _ b)
end
theorem dpA_append {K : PySem.W.Frag} {H : Hp} : ∀ {vs ws : List V} {ds es : List PyData}, DpAll K H vs ds → DpAll K H ws es → DpAll K H (vs ++ ws) (ds ++ es)
  | [], _, _, _, .nil, h => h
  | _ :: _, _, _, _, .cons a b, h => .cons a (dpA_append b h)
theorem dpA_len {K : PySem.W.Frag} {H : Hp} : ∀ {vs : List V} {ds : List PyData}, DpAll K H vs ds → vs.length = ds.length
  | [], _, .nil => rfl
  | _ :: _, _, .cons _ b => congrArg (· + 1) (dpA_len b)
theorem dpA_strs {K : PySem.W.Frag} {H : Hp} : ∀ zs : List Str, DpAll K H (zs.map V.str) (zs.map PyData.str)
  | [] => .nil
  | z :: zs => .cons (.str z) (dpA_strs zs)
theorem dpA_strs_inv {K : PySem.W.Frag} {H : Hp} : ∀ {zs : List Str} {vs : List V}, DpAll K H vs (zs.map PyData.str) → vs = zs.map V.str
  | [], _, h => by cases h; rfl
  | z :: zs, _, h => by
    cases h with
    | cons a b =>
      cases a
      rw [dpA_strs_inv b]
      rfl
theorem dpA_get {K : PySem.W.Frag} {H : Hp} : ∀ {vs : List V} {ds : List PyData} {i : Nat} {v : V}, DpAll K H vs ds → vs[i]? = some v → ∃ d, ds[i]? = some d ∧ Dp K H v d
  | _, _, i, _, .nil, e => by simp at e
  | _, _, 0, _, .cons a _, e => by
    cases (Option.some.inj e)
    exact ⟨_, rfl, a⟩
  | _, _, i + 1, _, .cons _ b, e => dpA_get (i := i) b e
/-! ### names, groups, shares -/
def nameB (x : Str) : Bool := decide (1 ≤ x.cps.size) && decide (x.cps.size ≤ 5) && x.cps.all (fun c => decide (97 ≤ c) && decide (c ≤ 122)) && decide (x ≠ "crown")
abbrev Sh := Int × List (List Str)
structure GrpOk (g : List Str) : Prop where
  ne : g ≠ []
  nd : g.Nodup
  nm : ∀ n ∈ g, nameB n = true
structure ShOk (s : Sh) : Prop where
  w1 : 1 ≤ s.1
  gs : ∀ g ∈ s.2, GrpOk g
structure ShSmall (s : Sh) : Prop where
  w : s.1 ≤ 999999
  l : s.2.length ≤ 3
  g : ∀ g ∈ s.2, g.length ≤ 3
def dGrp (g : List Str) : PyData := .list (g.map PyData.str)
def dSh (s : Sh) : PyData := .tuple [.int s.1, .list (s.2.map dGrp)]
def dWill (shs : List Sh) : PyData := .list (shs.map dSh)
/-! ### pools of names -/
def pools : List (List Str) := [["ann", "bob", "cid", "dan", "eve", "fay", "gus", "hal", "ida"], ["a", "aa", "ab", "b", "ba", "c", "d", "e", "f"], ["first", "will", "crow", "zoe", "x", "y", "z", "yy", "own"]]
structure Names (ns : List Str) : Prop where
  nd : ns.Nodup
  nm : ∀ n ∈ ns, nameB n = true
theorem pools_ok : ∀ ns ∈ pools, ns.Nodup ∧ (ns.all nameB) = true ∧ ns.length = 9 := by
  decide +kernel
theorem perm_str {ys : List V} {zs : List Str} (h : ys.Perm (zs.map V.str)) : ∃ xs : List Str, ys = xs.map V.str ∧ xs.Perm zs := by
  let un : V → Str := fun v => match v with | .str x => x | _ => Str.empty
  have hu : ∀ l : List Str, (l.map V.str).map un = l := fun l => by
    rw [List.map_map]
    exact (List.map_congr_left fun x _ => rfl).trans (List.map_id l)
  refine ⟨ys.map un, ?_, ?_⟩
  · rw [List.map_map]
    refine ((List.map_congr_left fun x hx => ?_).trans (List.map_id ys)).symm
    obtain ⟨z, _, rfl⟩ := List.mem_map.mp (h.mem_iff.mp hx)
    rfl
  · have := h.map un
    rwa [hu] at this
theorem cut_to (xs : List V) (m : Nat) : cutV xs none (some (m : Int)) = xs.take m := by
  unfold cutV
  rw [HT.sIx_none, HT.sIx_nat, List.drop_zero, Nat.sub_zero]
  by_cases h : m ≤ xs.length
  · rw [Nat.min_eq_left h]
  · rw [Nat.min_eq_right (by omega), List.take_of_length_le (Nat.le_refl _), List.take_of_length_le (by omega)]
/-- so many names of a pool, in some order -/
def spNames (K : PySem.W.Frag) : Sp := fun vs H Q _ => ∃ (p : Addr) (m : Nat), vs = [.ref p, .int (m : Int)] ∧ Box H p ∧ m ≤ 9 ∧
  ∀ (ns : List Str) (r : Addr) (H' : Hp), Bx p H H' → Names ns → ns.length = m → H r = none → H' r = some (.lst (ns.map V.str)) → Q (.ref r) H'
theorem ok_names (T : TxtG K mg) : FnOk P w K mg base CX0 3 T.dLawNames.f T.dLawNames.fd ["_law_box", "_law_many"] (spNames K) := by
  refine T.dLawNames.F.ok scDLawNames (fun vs H Q E h => ?_) (fun cdv A outer s H vs Q E hr h => ?_)
  · obtain ⟨p, m, rfl, _⟩ := h
    rfl
  · obtain ⟨p, m, rfl, hb, hm, q⟩ := h
    refine ⟨_, (pss_cons (ps_set (i := 2) scDLawNames.nd rfl (.inl rfl) (pe_lst (pa_cons (pe_lst (pa_cons pe_str (pa_cons pe_str (pa_cons pe_str (pa_cons pe_str (pa_cons pe_str (pa_cons pe_str (pa_cons pe_str (pa_cons pe_str (pa_cons pe_str pa_nil)))))))))) pa_nil)))
      (pss_cons (ps_expr (pe_bm PySem.F.plainAttrs_list PySem.F.slot_list_append PySem.F.type_list_append mt_append (pv 2) (pa_cons (pe_lst (pa_cons pe_str (pa_cons pe_str (pa_cons pe_str (pa_cons pe_str (pa_cons pe_str (pa_cons pe_str (pa_cons pe_str (pa_cons pe_str (pa_cons pe_str pa_nil)))))))))) pa_nil)))
      (pss_cons (ps_expr (pe_bm PySem.F.plainAttrs_list PySem.F.slot_list_append PySem.F.type_list_append mt_append (pv 2) (pa_cons (pe_lst (pa_cons pe_str (pa_cons pe_str (pa_cons pe_str (pa_cons pe_str (pa_cons pe_str (pa_cons pe_str (pa_cons pe_str (pa_cons pe_str (pa_cons pe_str pa_nil)))))))))) pa_nil)))
      (pss_one (ps_ret (pe_slice sl_list (pe_call (ok_mixed T) (hr.mono (by decide)) (by rfl) T.dLawMixed.g T.dLawMixed.F.kp T.dLawMixed.b .nil pass0 (pa_cons (pv 0) (pa_cons (pe_call (ok_oneof T) (hr.mono (by decide)) (by rfl) T.dLawOneOf.g T.dLawOneOf.F.kp T.dLawOneOf.b .nil pass0 (pa_cons (pv 0) (pa_cons (pv 2) pa_nil))) pa_nil))) po_none (po_some (pv 1)))))))), ?_⟩
    simp only [and_assoc, tSeq, tAsg, tOp, tUn, rI, rI0, rU, tVar, tC, gName, L2.start, tIfS, tTest, tB, tCB, tCons, tNil, tIf, tRet, tRetN, tLst, tTup, tNext, tDrop, tNot, tNotV, tAnd, tOr, tAndV, tOrV, tPar, tAug, ipI, rEq, rNe, gSub, rSetL, rIxL, rIxT, tBM, tBM0, rAppend, rPopAt, gTup, gCons, gNil, tCall, tSl, tPart, tNoPart, rSlL, rCat, rEqD, rNeD, rIn, scal, List.map_cons, List.map_nil, List.length_cons, List.length_nil, List.length_map, List.cons_append, List.nil_append, List.append_nil, List.replicate, List.getElem?_cons_zero, List.getElem?_cons_succ, List.set_cons_zero, List.set_cons_succ, Option.some.injEq, exists_eq_left', exists_eq_left, exists_eq_right, exists_and_left, exists_and_right, V.int.injEq, V.ref.injEq, V.str.injEq, V.bl.injEq, reduceCtorEq, false_and, and_false, exists_false, or_false, false_or, true_and, and_true, List.cons.injEq, decide_eq_true_eq, cxOf, if_true, if_false, Bool.false_eq_true, Nat.reduceAdd, Nat.reduceSub, Nat.zero_add, Nat.add_sub_cancel_left, Nat.add_sub_cancel, Nat.sub_self, spMixed, spOneOf]
    obtain ⟨b0, b1, eb, _⟩ := id hb
    refine ⟨by decide, fun a na => ⟨by decide, fun b nb => ?_⟩⟩
    generalize h1 : upd H a _ = H1 at nb ⊢
    have s1 : Same H H1 := h1 ▸ same_upd na
    have f1 : H1 a = some (.lst ((pools.getD 0 []).map V.str)) := h1 ▸ upd_same
    generalize h2 : upd H1 b _ = H2 at ⊢
    have s2 : Same H1 H2 := h2 ▸ same_upd nb
    have f2 : H2 b = some (.lst [.ref a]) := h2 ▸ upd_same
    refine ⟨.inl ⟨rfl, _, sqL_of f2⟩, by decide, fun c nc => ?_⟩
    generalize h3 : upd H2 c _ = H3 at ⊢
    have s3 : Same H2 H3 := h3 ▸ same_upd nc
    have f3 : H3 c = some (.lst ((pools.getD 1 []).map V.str)) := h3 ▸ upd_same
    have g3 := s3 _ _ f2
    refine ⟨_, g3, (by decide : 1 < sizeLine), .inl ⟨rfl, _, sqL_of upd_same⟩, by decide, fun d nd => ?_⟩
    have nb0 : H b = none := s1.free nb
    have nc0 : H c = none := (s1.trans s2).free nc
    have bp : b ≠ p := fun z => by rw [z, eb] at nb0; cases nb0
    have ba : a ≠ b := fun z => by rw [z, nb] at f1; cases f1
    have bc : c ≠ b := fun z => by rw [z, f2] at nc; cases nc
    have ap : a ≠ p := fun z => by rw [z, eb] at na; cases na
    have cp : c ≠ p := fun z => by rw [z, eb] at nc0; cases nc0
    have B3 : Bx p H H3 := .of hb ((s1.trans s2).trans s3)
    generalize h4 : upd H3 b _ = H4 at nd ⊢
    have B4 : Bx p H H4 := h4 ▸ B3.mut nb0 bp
    have fa4 : H4 a = some (.lst ((pools.getD 0 []).map V.str)) := h4 ▸ (upd_ne ba).trans (s3 _ _ (s2 _ _ f1))
    have fc4 : H4 c = some (.lst ((pools.getD 1 []).map V.str)) := h4 ▸ (upd_ne bc).trans f3
    have fb4 : H4 b = some (.lst ([.ref a] ++ [.ref c])) := h4 ▸ upd_same
    generalize h5 : upd H4 d _ = H5 at ⊢
    have s5 : Same H4 H5 := h5 ▸ same_upd nd
    have fd5 : H5 d = some (.lst ((pools.getD 2 []).map V.str)) := h5 ▸ upd_same
    have db : d ≠ b := fun z => by rw [z, fb4] at nd; cases nd
    have dp : d ≠ p := fun z => by
      obtain ⟨_, _, e4, _⟩ := B4.1
      rw [z, e4] at nd; cases nd
    refine ⟨_, s5 _ _ fb4, (by decide : 2 < sizeLine), ?_⟩
    have B5 : Bx p H H5 := B4.trans (.of B4.1 s5)
    generalize h6 : upd H5 b _ = H6 at ⊢
    have B6 : Bx p H H6 := h6 ▸ B5.mut nb0 bp
    have fa6 : hide p H6 a = some (.lst ((pools.getD 0 []).map V.str)) := by rw [hide_ne ap]; exact h6 ▸ (upd_ne ba).trans (s5 _ _ fa4)
    have fc6 : hide p H6 c = some (.lst ((pools.getD 1 []).map V.str)) := by rw [hide_ne cp]; exact h6 ▸ (upd_ne bc).trans (s5 _ _ fc4)
    have fd6 : hide p H6 d = some (.lst ((pools.getD 2 []).map V.str)) := by rw [hide_ne dp]; exact h6 ▸ (upd_ne db).trans fd5
    have fb6 : hide p H6 b = some (.lst ([.ref a] ++ [.ref c] ++ [.ref d])) := by rw [hide_ne bp]; exact h6 ▸ upd_same
    refine ⟨B6.1, _, sqL_of fb6, (by decide : 0 < 3), (by decide : 3 ≤ 1000), fun i v H7 B7 hi => ?_⟩
    obtain ⟨a', pl, rfl, hp, f7⟩ : ∃ a' pl, v = .ref a' ∧ pl ∈ pools ∧ hide p H7 a' = some (.lst (pl.map V.str)) := by
      match i, hi with
      | 0, hi => exact ⟨a, _, (Option.some.inj hi).symm, by decide, B7.2 _ _ fa6⟩
      | 1, hi => exact ⟨c, _, (Option.some.inj hi).symm, by decide, B7.2 _ _ fc6⟩
      | 2, hi => exact ⟨d, _, (Option.some.inj hi).symm, by decide, B7.2 _ _ fd6⟩
      | i + 3, hi => exact absurd hi (by simp)
    obtain ⟨n1, n2, n3⟩ := pools_ok pl hp
    refine ⟨a', rfl, B7.1, pl.map V.str, sqL_of f7, by rw [List.length_map, n3]; decide, fun ys r H8 B8 pm nr er => ⟨_, sqL_of er, fun t nt => ?_⟩⟩
    obtain ⟨xs, rfl, pm2⟩ := perm_str pm
    have B80 := (B6.trans B7).trans B8
    have nt0 : H t = none := B80.new nt
    refine q (xs.take m) t _ (B80.mut nt0 (B80.ne hb nt)) ⟨(pm2.nodup_iff.mpr n1).sublist (List.take_sublist _ _), fun n hn => ?_⟩ ?_ nt0 ?_
    · exact List.all_eq_true.mp n2 n (pm2.mem_iff.mp (List.mem_of_mem_take hn))
    · rw [List.length_take, pm2.length_eq, n3]
      omega
    · rw [upd_same, cut_to, List.map_take]
/-- one to three of them, in some order -/
def spGroup (K : PySem.W.Frag) : Sp := fun vs H Q _ => ∃ (p a : Addr) (ns : List Str), vs = [.ref p, .ref a] ∧ Box H p ∧ SqL K (hide p H) a (ns.map V.str) ∧ ns.length ≤ 1000 ∧ ns ≠ [] ∧
  ∀ (xs : List Str) (n : Nat) (r : Addr) (H' : Hp), Bx p H H' → xs.Perm ns → 1 ≤ n → n ≤ 3 → H r = none → H' r = some (.lst ((xs.take n).map V.str)) → Q (.ref r) H'
theorem ok_group (T : TxtG K mg) : FnOk P w K mg base CX0 3 T.dLawGroup.f T.dLawGroup.fd ["_law_box", "_law_some"] (spGroup K) := by
  refine T.dLawGroup.F.ok scDLawGroup (fun vs H Q E h => ?_) (fun cdv A outer s H vs Q E hr h => ?_)
  · obtain ⟨p, a, ns, rfl, _⟩ := h
    rfl
  · obtain ⟨p, a, ns, rfl, hb, hS, hl, h0, q⟩ := h
    refine ⟨_, (pss_one (ps_ret (pe_slice sl_list (pe_call (ok_mixed T) (hr.mono (by decide)) (by rfl) T.dLawMixed.g T.dLawMixed.F.kp T.dLawMixed.b .nil pass0 (pa_cons (pv 0) (pa_cons (pv 1) pa_nil))) po_none (po_some (pe_op op_add pe_int (pe_call (ok_choose T) (hr.mono (by decide)) (by rfl) T.dLawChoose.g T.dLawChoose.F.kp T.dLawChoose.b .nil pass0 (pa_cons (pv 0) (pa_cons pe_int pa_nil)))))))), ?_⟩
    simp only [and_assoc, tSeq, tAsg, tOp, tUn, rI, rI0, rU, tVar, tC, gName, L2.start, tIfS, tTest, tB, tCB, tCons, tNil, tIf, tRet, tRetN, tLst, tTup, tNext, tDrop, tNot, tNotV, tAnd, tOr, tAndV, tOrV, tPar, tAug, ipI, rEq, rNe, gSub, rSetL, rIxL, rIxT, tBM, tBM0, rAppend, rPopAt, gTup, gCons, gNil, tCall, tSl, tPart, tNoPart, rSlL, rCat, rEqD, rNeD, rIn, scal, List.map_cons, List.map_nil, List.length_cons, List.length_nil, List.length_map, List.cons_append, List.nil_append, List.append_nil, List.replicate, List.getElem?_cons_zero, List.getElem?_cons_succ, List.set_cons_zero, List.set_cons_succ, Option.some.injEq, exists_eq_left', exists_eq_left, exists_eq_right, exists_and_left, exists_and_right, V.int.injEq, V.ref.injEq, V.str.injEq, V.bl.injEq, reduceCtorEq, false_and, and_false, exists_false, or_false, false_or, true_and, and_true, List.cons.injEq, decide_eq_true_eq, cxOf, if_true, if_false, Bool.false_eq_true, Nat.reduceAdd, Nat.reduceSub, Nat.zero_add, Nat.add_sub_cancel_left, Nat.add_sub_cancel, Nat.sub_self, spMixed, spChoose]
    refine ⟨hb, _, hS, by rw [List.length_map]; exact hl, fun ys r H1 B pm nr er => ⟨B.1, by decide, by decide, fun k H2 B2 k0 k1 => ?_⟩⟩
    obtain ⟨xs, rfl, pm2⟩ := perm_str pm
    have rp : r ≠ p := fun z => by
      obtain ⟨_, _, e2, _⟩ := hb
      rw [z, e2] at nr
      cases nr
    refine ⟨_, sqL_of (B2.get rp er), fun t nt => ?_⟩
    obtain ⟨n, hn⟩ : ∃ n : Nat, 1 + k = (n : Int) := ⟨(1 + k).toNat, by omega⟩
    have B3 := B.trans B2
    have nt0 := B3.new nt
    refine q xs n t _ (B3.mut nt0 (B3.ne hb nt)) pm2 (by omega) (by omega) nt0 ?_
    rw [upd_same, hn, cut_to, List.map_take]

end
end He

namespace He
open PySem PySem.Spec PyProof.Rows L2
section
variable {P : Program} {w : World} {K : PySem.W.Frag} {mg : Str → Option Value} {base : Heap}

/-! ### loops and comprehensions, the walked thing apart -/
def ForGoes (J : It) (g : TG) (tb : TS) (D : Ends) (σ : L2.St) (H1 : Hp) : Prop := ∃ W : Nat → Nat → L2.St → Hp → Prop, (∃ m, W 0 m σ H1) ∧ ∀ i m σ H, W i m σ H →
  (J.stop i H ∧ D.nx σ H) ∨ (J.go i H ∧ ∃ N : L2.St → Hp → Prop, (∀ σ' H', N σ' H' → ∃ m', m' < m ∧ W (i + 1) m' σ' H') ∧ ∀ x H', J.yld i H x H' → g x σ H' fun σ2 H2 => tb { D with nx := N, ct := N, bk := D.nx } σ2 H2)
theorem tFor_eq (wi : TI) (g : TG) (tb : TS) (D : Ends) (σ : L2.St) (H : Hp) : tFor wi g tb D σ H = wi σ H (fun J H1 => ForGoes J g tb D σ H1) := rfl
theorem fg_range {lo : Int} {n : Nat} {g : TG} {tb : TS} {D : Ends} {σ : L2.St} {H : Hp} (Pv : Nat → L2.St → Hp → Prop) (h0 : Pv 0 σ H)
    (hs : ∀ i σ H, i < n → Pv i σ H → g (.int (lo + i)) σ H fun σ2 H2 => tb { D with nx := Pv (i + 1), ct := Pv (i + 1), bk := D.nx } σ2 H2) (hd : ∀ σ H, Pv n σ H → D.nx σ H) : ForGoes (Itr lo n) g tb D σ H := for_range Pv h0 hs hd
theorem fg_list {a : Addr} {xs : List V} {g : TG} {tb : TS} {D : Ends} {σ : L2.St} {H : Hp} (Pv : Nat → L2.St → Hp → Prop) (h0 : Pv 0 σ H) (hl : ∀ i σ H, i ≤ xs.length → Pv i σ H → SqL K H a xs)
    (hs : ∀ i x σ H, xs[i]? = some x → Pv i σ H → g x σ H fun σ2 H2 => tb { D with nx := Pv (i + 1), ct := Pv (i + 1), bk := D.nx } σ2 H2) (hd : ∀ σ H, Pv xs.length σ H → D.nx σ H) : ForGoes (Itl K a) g tb D σ H := for_list Pv h0 hl hs hd
theorem fg_tup {a : Addr} {xs : List V} {g : TG} {tb : TS} {D : Ends} {σ : L2.St} {H : Hp} (Pv : Nat → L2.St → Hp → Prop) (h0 : Pv 0 σ H) (hl : ∀ i σ H, i ≤ xs.length → Pv i σ H → SqT K H a xs)
    (hs : ∀ i x σ H, xs[i]? = some x → Pv i σ H → g x σ H fun σ2 H2 => tb { D with nx := Pv (i + 1), ct := Pv (i + 1), bk := D.nx } σ2 H2) (hd : ∀ σ H, Pv xs.length σ H → D.nx σ H) : ForGoes (Itt K a) g tb D σ H := for_tup Pv h0 hl hs hd
def LcGoes (J : It) (g : TG) (tt : TT) (te : TE) (vs : List Nat) (σ : L2.St) (H1 : Hp) (D : Addr) (Q : Hp → Prop) : Prop := ∃ W : Nat → Nat → Hp → Prop, (∃ m, W 0 m (upd H1 D (.lst []))) ∧ ∀ i m H, W i m H →
  (J.stop i H ∧ Q H) ∨ (J.go i H ∧ ∃ Nx : Hp → Prop, (∀ H', Nx H' → ∃ m', m' < m ∧ W (i + 1) m' H') ∧ ∀ x H', J.yld i H x H' → g x (wipe σ vs) H' fun σ2 H2 => wipe σ2 vs = wipe σ vs ∧ tt σ2 H2 fun b H3 =>
    if b = true then te σ2 H3 fun y H4 => ∃ acc, H4 D = some (.lst acc) ∧ acc.length < sizeLine ∧ Nx (upd H4 D (.lst (acc ++ [y]))) else Nx H3)
theorem tLc_eq (wi : TI) (g : TG) (tt : TT) (te : TE) (vs : List Nat) (σ : L2.St) (H : Hp) (Q : VK) : tLc wi g tt te vs σ H Q = wi σ H (fun J H1 => ∀ D, H1 D = none → LcGoes J g tt te vs σ H1 D (fun H => Q (.ref D) H)) := rfl
theorem lg_range {lo : Int} {n : Nat} {g : TG} {tt : TT} {te : TE} {vs : List Nat} {σ : L2.St} {H1 : Hp} {D : Addr} {Qd : Hp → Prop} (Pv : Nat → Hp → Prop) (h0 : Pv 0 (upd H1 D (.lst [])))
    (hs : ∀ i H, i < n → Pv i H → g (.int (lo + i)) (wipe σ vs) H fun σ2 H2 => wipe σ2 vs = wipe σ vs ∧ tt σ2 H2 fun b H3 =>
      if b = true then te σ2 H3 fun y H4 => ∃ acc, H4 D = some (.lst acc) ∧ acc.length < sizeLine ∧ Pv (i + 1) (upd H4 D (.lst (acc ++ [y]))) else Pv (i + 1) H3) (hd : ∀ H, Pv n H → Qd H) : LcGoes (Itr lo n) g tt te vs σ H1 D Qd := lc_range Pv h0 hs hd
theorem lg_list {a : Addr} {xs : List V} {g : TG} {tt : TT} {te : TE} {vs : List Nat} {σ : L2.St} {H1 : Hp} {D : Addr} {Qd : Hp → Prop} (Pv : Nat → Hp → Prop) (h0 : Pv 0 (upd H1 D (.lst []))) (hl : ∀ i H, i ≤ xs.length → Pv i H → SqL K H a xs)
    (hs : ∀ i x H, xs[i]? = some x → Pv i H → g x (wipe σ vs) H fun σ2 H2 => wipe σ2 vs = wipe σ vs ∧ tt σ2 H2 fun b H3 =>
      if b = true then te σ2 H3 fun y H4 => ∃ acc, H4 D = some (.lst acc) ∧ acc.length < sizeLine ∧ Pv (i + 1) (upd H4 D (.lst (acc ++ [y]))) else Pv (i + 1) H3) (hd : ∀ H, Pv xs.length H → Qd H) : LcGoes (Itl K a) g tt te vs σ H1 D Qd := lc_list Pv h0 hl hs hd
theorem lg_tup {a : Addr} {xs : List V} {g : TG} {tt : TT} {te : TE} {vs : List Nat} {σ : L2.St} {H1 : Hp} {D : Addr} {Qd : Hp → Prop} (Pv : Nat → Hp → Prop) (h0 : Pv 0 (upd H1 D (.lst []))) (hl : ∀ i H, i ≤ xs.length → Pv i H → SqT K H a xs)
    (hs : ∀ i x H, xs[i]? = some x → Pv i H → g x (wipe σ vs) H fun σ2 H2 => wipe σ2 vs = wipe σ vs ∧ tt σ2 H2 fun b H3 =>
      if b = true then te σ2 H3 fun y H4 => ∃ acc, H4 D = some (.lst acc) ∧ acc.length < sizeLine ∧ Pv (i + 1) (upd H4 D (.lst (acc ++ [y]))) else Pv (i + 1) H3) (hd : ∀ H, Pv xs.length H → Qd H) : LcGoes (Itt K a) g tt te vs σ H1 D Qd := lc_tup Pv h0 hl hs hd
/-! ### a will, drawn -/
structure WillOk (ns : List Str) (shs : List Sh) : Prop where
  ne : shs ≠ []
  l3 : shs.length ≤ 3
  ok : ∀ s ∈ shs, ShOk s ∧ ShSmall s ∧ ∀ g ∈ s.2, ∀ n ∈ g, n ∈ ns
theorem hide_mut {p f : Addr} {H : Hp} {o : HO} : Same (hide f (hide p H)) (hide f (hide p (upd H f o))) := fun b u e => by
  have hb : b ≠ f := fun z => by rw [z, hide_self] at e; cases e
  rw [hide_ne hb] at e ⊢
  by_cases hp : b = p
  · rw [hp, hide_self] at e
    cases e
  · rw [hide_ne hp] at e ⊢
    rw [upd_ne hb]
    exact e
theorem hide_mut3 {p f d : Addr} {H : Hp} {o : HO} : Same (hide d (hide f (hide p H))) (hide d (hide f (hide p (upd H d o)))) := fun b u e => by
  have hb : b ≠ d := fun z => by rw [z, hide_self] at e; cases e
  rw [hide_ne hb] at e ⊢
  unfold hide at e ⊢
  rw [upd_ne hb]
  exact e
def spWill (K : PySem.W.Frag) : Sp := fun vs H Q _ => ∃ (p a : Addr) (ns : List Str), vs = [.ref p, .ref a] ∧ Box H p ∧ SqL K (hide p H) a (ns.map V.str) ∧ ns.length ≤ 9 ∧ Names ns ∧
  ∀ (shs : List Sh) (vs : List V) (r : Addr) (H' : Hp), Bx p H H' → WillOk ns shs → H r = none → H' r = some (.lst vs) → DpAll K (hide p H') vs (shs.map dSh) → Q (.ref r) H'
theorem ok_will (T : TxtG K mg) : FnOk P w K mg base CX0 4 T.dLawWill.f T.dLawWill.fd ["_law_box", "_law_others"] (spWill K) := by
  refine T.dLawWill.F.ok scDLawWill (fun vs H Q E h => ?_) (fun cdv A outer s H vs Q E hr h => ?_)
  · obtain ⟨p, a, ns, rfl, _⟩ := h
    rfl
  · obtain ⟨p, a, ns, rfl, hb, hS, hl, hN, q⟩ := h
    refine ⟨_, (pss_cons (ps_set (i := 2) scDLawWill.nd rfl (.inl rfl) (pe_lst pa_nil))
      (pss_cons (ps_for PassesOwn.never rfl (pi_range1 (by rfl) T.z_range (pa_cons (pe_op op_add pe_int (pe_call (ok_choose T) (hr.mono (by decide)) (by rfl) T.dLawChoose.g T.dLawChoose.F.kp T.dLawChoose.b .nil pass0 (pa_cons (pv 0) (pa_cons pe_int pa_nil)))) pa_nil)) (pg_name (i := 3) scDLawWill.nd rfl (.inl rfl))
      (pss_cons (ps_set (i := 4) scDLawWill.nd rfl (.inl rfl) (pe_ifExp (pt_cmpR (op_neNil hr.units) (pv 1) (pe_lst pa_nil) (nomark _)) (pe_lc (own := [("_law_turn", 5)]) (g := (gName 5)) (tt := tYes) rfl scDLawWill.nd (pi_range1 (by rfl) T.z_range (pa_cons (pe_call (ok_choose T) (hr.mono (by decide)) (by rfl) T.dLawChoose.g T.dLawChoose.F.kp T.dLawChoose.b .nil pass0 (pa_cons (pv 0) (pa_cons pe_int pa_nil))) pa_nil)) (blkOk_by (N := ["_law_box", "_law_others", "_law_found", "_law_share", "_law_groups", "_law_turn"]) (sc := defScope sDLawWill) (by decide +kernel)) (fun _ _ _ _ _ => (pg_name (i := 5) scDLawWill.nd rfl (.inl rfl))) (fun _ _ _ _ _ => pts_nil) (fun _ _ _ _ _ => (pe_call (ok_group T) (hr.mono (by decide)) (by rfl) T.dLawGroup.g T.dLawGroup.F.kp T.dLawGroup.b .nil pass0 (pa_cons (pv 0) (pa_cons (pv 1) pa_nil))))) (pe_lst pa_nil)))
      (pss_one (ps_expr (pe_bm PySem.F.plainAttrs_list PySem.F.slot_list_append PySem.F.type_list_append mt_append (pv 2) (pa_cons (pe_tup (pa_cons (pe_op op_add pe_int (pe_call (ok_choose T) (hr.mono (by decide)) (by rfl) T.dLawChoose.g T.dLawChoose.F.kp T.dLawChoose.b .nil pass0 (pa_cons (pv 0) (pa_cons pe_int pa_nil)))) (pa_cons (pv 4) pa_nil))) pa_nil))))))
      (pss_one (ps_ret (pv 2))))), ?_⟩
    simp only [and_assoc, tSeq, tAsg, tOp, tUn, rI, rI0, rU, tVar, tC, gName, L2.start, tIfS, tTest, tB, tCB, tCons, tNil, tIf, tRet, tRetN, tLst, tTup, tNext, tDrop, tNot, tNotV, tAnd, tOr, tAndV, tOrV, tPar, tAug, ipI, rEq, rNe, gSub, rSetL, rIxL, rIxT, tBM, tBM0, rAppend, rPopAt, gTup, gCons, gNil, tCall, tSl, tPart, tNoPart, rSlL, rCat, rEqD, rNeD, rIn, scal, List.map_cons, List.map_nil, List.length_cons, List.length_nil, List.length_map, List.cons_append, List.nil_append, List.append_nil, List.replicate, List.getElem?_cons_zero, List.getElem?_cons_succ, List.set_cons_zero, List.set_cons_succ, Option.some.injEq, exists_eq_left', exists_eq_left, exists_eq_right, exists_and_left, exists_and_right, V.int.injEq, V.ref.injEq, V.str.injEq, V.bl.injEq, reduceCtorEq, false_and, and_false, exists_false, or_false, false_or, true_and, and_true, List.cons.injEq, decide_eq_true_eq, cxOf, if_true, if_false, Bool.false_eq_true, Nat.reduceAdd, Nat.reduceSub, Nat.zero_add, Nat.add_sub_cancel_left, Nat.add_sub_cancel, Nat.sub_self, tFor_eq, tLc_eq, iRng1, iRng2, iList, iTup, iEnum, List.map_cons, List.map_nil, spChoose, spGroup, rNeNil]
    obtain ⟨b0, b1, eb, _⟩ := id hb
    refine ⟨by decide, fun f nf => ⟨hb.same (same_upd nf), by decide, by decide, fun k H1 B1 k0 k1 => ⟨by omega, by omega, ?_⟩⟩⟩
    obtain ⟨n, hn⟩ : ∃ n : Nat, 1 + k = (n : Int) := ⟨(1 + k).toNat, by omega⟩
    have fp : f ≠ p := fun z => by rw [z, eb] at nf; cases nf
    have B01 : Bx p H H1 := (Bx.of hb (same_upd nf)).trans B1
    have f1 : H1 f = some (.lst []) := B1.get fp upd_same
    rw [hn, Int.toNat_natCast]
    refine fg_range (fun i σ H2 => ∃ (g t z : Option V) (shs : List Sh) (vs : List V), σ = [some (.ref p), some (.ref a), some (.ref f), g, t, z] ∧ Bx p H H2 ∧ H2 f = some (.lst vs) ∧ shs.length = i ∧ (∀ s ∈ shs, ShOk s ∧ ShSmall s ∧ ∀ g ∈ s.2, ∀ n ∈ g, n ∈ ns) ∧
      DpAll K (hide f (hide p H2)) vs (shs.map dSh)) ⟨none, none, none, [], [], rfl, B01, f1, rfl, fun _ h => (nomatch h), .nil⟩ ?_ ?_
    · rintro i σ H2 hi ⟨g, t, z, shs, vs, rfl, B, ef, hl2, hok, hd⟩
      simp only [and_assoc, tSeq, tAsg, tOp, tUn, rI, rI0, rU, tVar, tC, gName, L2.start, tIfS, tTest, tB, tCB, tCons, tNil, tIf, tRet, tRetN, tLst, tTup, tNext, tDrop, tNot, tNotV, tAnd, tOr, tAndV, tOrV, tPar, tAug, ipI, rEq, rNe, gSub, rSetL, rIxL, rIxT, tBM, tBM0, rAppend, rPopAt, gTup, gCons, gNil, tCall, tSl, tPart, tNoPart, rSlL, rCat, rEqD, rNeD, rIn, scal, List.map_cons, List.map_nil, List.length_cons, List.length_nil, List.length_map, List.cons_append, List.nil_append, List.append_nil, List.replicate, List.getElem?_cons_zero, List.getElem?_cons_succ, List.set_cons_zero, List.set_cons_succ, Option.some.injEq, exists_eq_left', exists_eq_left, exists_eq_right, exists_and_left, exists_and_right, V.int.injEq, V.ref.injEq, V.str.injEq, V.bl.injEq, reduceCtorEq, false_and, and_false, exists_false, or_false, false_or, true_and, and_true, List.cons.injEq, decide_eq_true_eq, cxOf, if_true, if_false, Bool.false_eq_true, Nat.reduceAdd, Nat.reduceSub, Nat.zero_add, Nat.add_sub_cancel_left, Nat.add_sub_cancel, Nat.sub_self, tFor_eq, tLc_eq, iRng1, iRng2, iList, iTup, iEnum, List.map_cons, List.map_nil, spChoose, spGroup, rNeNil]
      have hS2 : SqL K (hide p H2) a (ns.map V.str) := B.2.seq hS
      refine ⟨by decide, fun e ne => ⟨ns.map V.str, (same_upd ne).seq (hide_le.seq hS2), sqL_of upd_same, ?_⟩⟩
      generalize h3 : upd H2 e _ = H3 at ⊢
      have s3 : Same H2 H3 := h3 ▸ same_upd ne
      have B3 : Bx p H H3 := B.trans (.of B.1 s3)
      have ef3 : H3 f = some (.lst vs) := s3 _ _ ef
      have hd3 : DpAll K (hide f (hide p H3)) vs (shs.map dSh) := dpA_mono (hide_same (hide_same s3)) _ _ hd
      have nf3 : ∀ {g : Addr}, H3 g = none → g ≠ f := fun h z => by rw [z, ef3] at h; cases h
      have fin : ∀ (gs : List (List Str)) (D : Addr) (gv : List V) (H4 : Hp), Bx p H3 H4 → gs.length ≤ 3 → (∀ g ∈ gs, GrpOk g ∧ g.length ≤ 3 ∧ ∀ n ∈ g, n ∈ ns) → H3 D = none → H4 D = some (.lst gv) → DpAll K (hide f (hide p H4)) gv (gs.map dGrp) →
          tyV K "list" (.ref f) H4 ∧ Box H4 p ∧ (0 : Int) < 4 ∧ (4 : Int) ≤ 1000000 ∧ ∀ (r : Int) (H' : Hp), Bx p H4 H' → 0 ≤ r → r < 4 → 2 ≤ sizeLine ∧ ∀ (u : Addr), H' u = none →
            ∃ x, upd H' u (.tup [.int (1 + r), .ref D]) f = some (.lst x) ∧ x.length < sizeLine ∧ Bx p H (upd (upd H' u (.tup [.int (1 + r), .ref D])) f (.lst (x ++ [.ref u]))) ∧
              ∃ (x_1 : List Sh) (x_2 : List V), upd (upd H' u (.tup [.int (1 + r), .ref D])) f (.lst (x ++ [.ref u])) f = some (.lst x_2) ∧ x_1.length = i + 1 ∧
                (∀ s : Sh, s ∈ x_1 → ShOk s ∧ ShSmall s ∧ ∀ g : List Str, g ∈ s.snd → ∀ n : Str, n ∈ g → n ∈ ns) ∧
                DpAll K (hide f (hide p (upd (upd H' u (.tup [.int (1 + r), .ref D])) f (.lst (x ++ [.ref u]))))) x_2 (x_1.map dSh) := by
        intro gs D gv H4 B4 hg3 hgo nD eD hgv
        refine ⟨.inl ⟨rfl, _, sqL_of (B4.get fp ef3)⟩, B4.1, by decide, by decide, fun r H5 B5 r0 r1 => ⟨by decide, fun u nu => ?_⟩⟩
        have Dp' : D ≠ p := B3.ne hb nD
        have Df : D ≠ f := nf3 nD
        have ef5 := B5.get fp (B4.get fp ef3)
        have su := same_upd (o := .tup [.int (1 + r), .ref D]) nu
        have uf : u ≠ f := fun z => by rw [z, ef5] at nu; cases nu
        have up : u ≠ p := fun z => by obtain ⟨_, _, e, _⟩ := B5.1; rw [z, e] at nu; cases nu
        have eu : upd H5 u (.tup [.int (1 + r), .ref D]) u = some (.tup [.int (1 + r), .ref D]) := upd_same
        generalize h6 : upd H5 u (.tup [.int (1 + r), .ref D]) = H6 at su eu ⊢
        have B36 : Bx p H3 H6 := (B4.trans B5).trans (.of B5.1 su)
        have B6 : Bx p H H6 := B3.trans B36
        have hvs : vs.length = i := by rw [dpA_len hd, List.length_map]; exact hl2
        refine ⟨vs, su _ _ ef5, small1000 (by omega), B6.mut nf fp, shs ++ [(1 + r, gs)], vs ++ [.ref u], upd_same, by rw [List.length_append, hl2]; rfl, fun s hs => ?_, ?_⟩
        · rcases List.mem_append.mp hs with h | h
          · exact hok s h
          · obtain rfl := List.mem_singleton.mp h
            exact ⟨⟨by show 1 ≤ 1 + r; omega, fun g hg => (hgo g hg).1⟩, ⟨by show 1 + r ≤ 999999; omega, by show gs.length ≤ 3; omega, fun g hg => (hgo g hg).2.1⟩, fun g hg => (hgo g hg).2.2⟩
        · rw [List.map_append]
          have m6 : Same (hide f (hide p H3)) (hide f (hide p H6)) := hide_same B36.2
          have m46 : Same (hide f (hide p H4)) (hide f (hide p H6)) := hide_same (B5.trans (.of B5.1 su)).2
          have eD6 : hide f (hide p H6) D = some (.lst gv) := by
            refine m46 _ _ ?_
            rw [hide_ne Df, hide_ne Dp']
            exact eD
          have eu6 : hide f (hide p H6) u = some (.tup [.int (1 + r), .ref D]) := by rw [hide_ne uf, hide_ne up]; exact eu
          refine dpA_append (dpA_mono hide_mut _ _ (dpA_mono m6 _ _ hd3)) (.cons (dp_mono hide_mut _ _ ?_) .nil)
          exact .tup (sqT_of eu6) (.cons (.int _) (.cons (.lst (sqL_of eD6) (dpA_mono m46 _ _ hgv)) .nil))
      by_cases hne : ns = []
      · rw [show (List.map V.str ns).isEmpty = true by rw [hne]; rfl]
        simp only [and_assoc, tSeq, tAsg, tOp, tUn, rI, rI0, rU, tVar, tC, gName, L2.start, tIfS, tTest, tB, tCB, tCons, tNil, tIf, tRet, tRetN, tLst, tTup, tNext, tDrop, tNot, tNotV, tAnd, tOr, tAndV, tOrV, tPar, tAug, ipI, rEq, rNe, gSub, rSetL, rIxL, rIxT, tBM, tBM0, rAppend, rPopAt, gTup, gCons, gNil, tCall, tSl, tPart, tNoPart, rSlL, rCat, rEqD, rNeD, rIn, scal, List.map_cons, List.map_nil, List.length_cons, List.length_nil, List.length_map, List.cons_append, List.nil_append, List.append_nil, List.replicate, List.getElem?_cons_zero, List.getElem?_cons_succ, List.set_cons_zero, List.set_cons_succ, Option.some.injEq, exists_eq_left', exists_eq_left, exists_eq_right, exists_and_left, exists_and_right, V.int.injEq, V.ref.injEq, V.str.injEq, V.bl.injEq, reduceCtorEq, false_and, and_false, exists_false, or_false, false_or, true_and, and_true, List.cons.injEq, decide_eq_true_eq, cxOf, if_true, if_false, Bool.false_eq_true, Nat.reduceAdd, Nat.reduceSub, Nat.zero_add, Nat.add_sub_cancel_left, Nat.add_sub_cancel, Nat.sub_self, tFor_eq, tLc_eq, iRng1, iRng2, iList, iTup, iEnum, List.map_cons, List.map_nil, Bool.not_true]
        refine ⟨by decide, fun D nD => ?_⟩
        exact fin [] D [] _ (.of B3.1 (same_upd nD)) (by decide) (fun _ h => nomatch h) nD upd_same .nil
      · have hie : ns.isEmpty = false := by cases ns with | nil => exact absurd rfl hne | cons _ _ => rfl
        rw [List.isEmpty_map, hie]
        simp only [and_assoc, tSeq, tAsg, tOp, tUn, rI, rI0, rU, tVar, tC, gName, L2.start, tIfS, tTest, tB, tCB, tCons, tNil, tIf, tRet, tRetN, tLst, tTup, tNext, tDrop, tNot, tNotV, tAnd, tOr, tAndV, tOrV, tPar, tAug, ipI, rEq, rNe, gSub, rSetL, rIxL, rIxT, tBM, tBM0, rAppend, rPopAt, gTup, gCons, gNil, tCall, tSl, tPart, tNoPart, rSlL, rCat, rEqD, rNeD, rIn, scal, List.map_cons, List.map_nil, List.length_cons, List.length_nil, List.length_map, List.cons_append, List.nil_append, List.append_nil, List.replicate, List.getElem?_cons_zero, List.getElem?_cons_succ, List.set_cons_zero, List.set_cons_succ, Option.some.injEq, exists_eq_left', exists_eq_left, exists_eq_right, exists_and_left, exists_and_right, V.int.injEq, V.ref.injEq, V.str.injEq, V.bl.injEq, reduceCtorEq, false_and, and_false, exists_false, or_false, false_or, true_and, and_true, List.cons.injEq, decide_eq_true_eq, cxOf, if_true, if_false, Bool.false_eq_true, Nat.reduceAdd, Nat.reduceSub, Nat.zero_add, Nat.add_sub_cancel_left, Nat.add_sub_cancel, Nat.sub_self, tFor_eq, tLc_eq, iRng1, iRng2, iList, iTup, iEnum, List.map_cons, List.map_nil, Bool.not_false]
        refine ⟨B3.1, by decide, by decide, fun r H4 B4 r0 r1 => ⟨by omega, by omega, fun D nD => ?_⟩⟩
        have nD3 : H3 D = none := B4.new nD
        have Dp' : D ≠ p := B3.ne hb nD3
        have Df : D ≠ f := nf3 nD3
        refine lg_range (fun j H5 => ∃ (gs : List (List Str)) (gv : List V), Bx p H3 H5 ∧ gs.length = j ∧ (∀ g ∈ gs, GrpOk g ∧ g.length ≤ 3 ∧ ∀ n ∈ g, n ∈ ns) ∧ H5 D = some (.lst gv) ∧ DpAll K (hide D (hide f (hide p H5))) gv (gs.map dGrp))
          ⟨[], [], B4.trans (.of B4.1 (same_upd nD)), rfl, fun _ h => (nomatch h), upd_same, .nil⟩ ?_ ?_
        · rintro j H5 hj ⟨gs, gv, B5, hgl, hgo, eD, hgv⟩
          simp only [and_assoc, tSeq, tAsg, tOp, tUn, rI, rI0, rU, tVar, tC, gName, L2.start, tIfS, tTest, tB, tCB, tCons, tNil, tIf, tRet, tRetN, tLst, tTup, tNext, tDrop, tNot, tNotV, tAnd, tOr, tAndV, tOrV, tPar, tAug, ipI, rEq, rNe, gSub, rSetL, rIxL, rIxT, tBM, tBM0, rAppend, rPopAt, gTup, gCons, gNil, tCall, tSl, tPart, tNoPart, rSlL, rCat, rEqD, rNeD, rIn, scal, List.map_cons, List.map_nil, List.length_cons, List.length_nil, List.length_map, List.cons_append, List.nil_append, List.append_nil, List.replicate, List.getElem?_cons_zero, List.getElem?_cons_succ, List.set_cons_zero, List.set_cons_succ, Option.some.injEq, exists_eq_left', exists_eq_left, exists_eq_right, exists_and_left, exists_and_right, V.int.injEq, V.ref.injEq, V.str.injEq, V.bl.injEq, reduceCtorEq, false_and, and_false, exists_false, or_false, false_or, true_and, and_true, List.cons.injEq, decide_eq_true_eq, cxOf, if_true, if_false, Bool.false_eq_true, Nat.reduceAdd, Nat.reduceSub, Nat.zero_add, Nat.add_sub_cancel_left, Nat.add_sub_cancel, Nat.sub_self, tFor_eq, tLc_eq, iRng1, iRng2, iList, iTup, iEnum, List.map_cons, List.map_nil, wipe, tYes, spGroup]
          have B05 : Bx p H H5 := B3.trans B5
          refine ⟨B5.1, ns, B05.2.seq hS, by omega, hne, fun xs m u H6 B6 pm m1 m3 nu eu => ?_⟩
          have eD6 := B6.get Dp' eD
          have B36 := B5.trans B6
          have uD : u ≠ D := fun z => by rw [z, eD] at nu; cases nu
          have uf : u ≠ f := fun z => by rw [z, B5.get fp ef3] at nu; cases nu
          have up : u ≠ p := fun z => by obtain ⟨_, _, e, _⟩ := B5.1; rw [z, e] at nu; cases nu
          have hgv6 : DpAll K (hide D (hide f (hide p H6))) gv (gs.map dGrp) := dpA_mono (hide_same (hide_same B6.2)) _ _ hgv
          have hgl2 : gv.length = j := by rw [dpA_len hgv, List.length_map]; exact hgl
          have eu6 : hide D (hide f (hide p H6)) u = some (.lst ((xs.take m).map V.str)) := by rw [hide_ne uD, hide_ne uf, hide_ne up]; exact eu
          refine ⟨gv, eD6, small1000 (by omega), B36.mut nD3 Dp', gs ++ [xs.take m], by rw [List.length_append, hgl]; rfl, fun g hg => ?_, gv ++ [.ref u], upd_same, ?_⟩
          · rcases List.mem_append.mp hg with h | h
            · exact hgo g h
            · obtain rfl := List.mem_singleton.mp h
              have hx0 : xs ≠ [] := fun z => hne (by rw [z] at pm; exact pm.nil_eq.symm)
              have sub : ∀ n ∈ xs.take m, n ∈ ns := fun n hn => pm.mem_iff.mp (List.mem_of_mem_take hn)
              refine ⟨⟨fun z => ?_, (pm.nodup_iff.mpr hN.nd).sublist (List.take_sublist _ _), fun n hn => hN.nm n (sub n hn)⟩, ?_, sub⟩
              · rcases List.take_eq_nil_iff.mp z with h1 | h1
                · omega
                · exact hx0 h1
              · rw [List.length_take]; omega
          · rw [List.map_append]
            have md : Same (hide D (hide f (hide p H6))) (hide D (hide f (hide p (upd H6 D (.lst (gv ++ [.ref u])))))) := hide_mut3
            exact dpA_append (dpA_mono md _ _ hgv6) (.cons (dp_mono md _ _ (.lst (sqL_of eu6) (dpA_strs _))) .nil)
        · rintro H5 ⟨gs, gv, B5, hgl, hgo, eD, hgv⟩
          exact fin gs D gv H5 B5 (by omega) hgo nD3 eD (dpA_mono hide_le _ _ hgv)
    · rintro σ H2 ⟨g, t, z, shs, vs, rfl, B, ef, hl2, hok, hd⟩
      simp only [and_assoc, tSeq, tAsg, tOp, tUn, rI, rI0, rU, tVar, tC, gName, L2.start, tIfS, tTest, tB, tCB, tCons, tNil, tIf, tRet, tRetN, tLst, tTup, tNext, tDrop, tNot, tNotV, tAnd, tOr, tAndV, tOrV, tPar, tAug, ipI, rEq, rNe, gSub, rSetL, rIxL, rIxT, tBM, tBM0, rAppend, rPopAt, gTup, gCons, gNil, tCall, tSl, tPart, tNoPart, rSlL, rCat, rEqD, rNeD, rIn, scal, List.map_cons, List.map_nil, List.length_cons, List.length_nil, List.length_map, List.cons_append, List.nil_append, List.append_nil, List.replicate, List.getElem?_cons_zero, List.getElem?_cons_succ, List.set_cons_zero, List.set_cons_succ, Option.some.injEq, exists_eq_left', exists_eq_left, exists_eq_right, exists_and_left, exists_and_right, V.int.injEq, V.ref.injEq, V.str.injEq, V.bl.injEq, reduceCtorEq, false_and, and_false, exists_false, or_false, false_or, true_and, and_true, List.cons.injEq, decide_eq_true_eq, cxOf, if_true, if_false, Bool.false_eq_true, Nat.reduceAdd, Nat.reduceSub, Nat.zero_add, Nat.add_sub_cancel_left, Nat.add_sub_cancel, Nat.sub_self, tFor_eq, tLc_eq, iRng1, iRng2, iList, iTup, iEnum, List.map_cons, List.map_nil]
      have hle : Same (hide f (hide p H2)) (hide p H2) := hide_le
      exact q shs vs f H2 B ⟨fun z => by rw [z] at hl2; simp at hl2; omega, by omega, hok⟩ nf ef (dpA_mono hle _ _ hd)

end
end He

namespace He
open PySem PySem.Spec PyProof.Rows L2
theorem tab_alpha : ((List.range 128).all fun c => Unicode.isAlpha c == ((decide (65 ≤ c) && decide (c ≤ 90)) || (decide (97 ≤ c) && decide (c ≤ 122)))) = true := by decide +kernel
theorem tab_lower : ((List.range 128).all fun c => Unicode.isLower c == (decide (97 ≤ c) && decide (c ≤ 122))) = true := by decide +kernel
theorem tab_upper : ((List.range 128).all fun c => (Unicode.isUpper c || Unicode.isTitle c) == (decide (65 ≤ c) && decide (c ≤ 90))) = true := by decide +kernel
theorem at_tab {f g : Nat → Bool} (h : ((List.range 128).all fun c => f c == g c) = true) {c : Nat} (hc : c < 128) : f c = g c := eq_of_beq (List.all_eq_true.mp h c (List.mem_range.mpr hc))
theorem lower_eq (l : List Nat) : (l.all (fun c => decide (c < 128)) && ((decide (l.length > 0) && l.all Unicode.isAlpha) && (l.any Unicode.isLower && !l.any fun c => Unicode.isUpper c || Unicode.isTitle c))) = (decide (1 ≤ l.length) && l.all fun c => decide (97 ≤ c) && decide (c ≤ 122)) := by
  rw [Bool.eq_iff_iff]
  simp only [Bool.and_eq_true, List.all_eq_true, decide_eq_true_eq, List.any_eq_true, Bool.not_eq_true', List.any_eq_false]
  constructor
  · rintro ⟨h1, ⟨h2, h3⟩, h4, h5⟩
    refine ⟨h2, fun c hc => ?_⟩
    have a := at_tab tab_alpha (h1 c hc)
    have u := at_tab tab_upper (h1 c hc)
    have nu := h5 c hc
    rw [h3 c hc] at a
    rw [Bool.not_eq_true] at nu
    rw [nu] at u
    simp at a u
    omega
  · rintro ⟨h1, h2⟩
    have lt : ∀ c ∈ l, c < 128 := fun c hc => by have := h2 c hc; omega
    refine ⟨lt, ⟨h1, fun c hc => ?_⟩, ?_, fun c hc => ?_⟩
    · rw [at_tab tab_alpha (lt c hc)]
      have := h2 c hc
      simp
      omega
    · obtain ⟨c, hc⟩ := List.exists_mem_of_length_pos h1
      refine ⟨c, hc, ?_⟩
      rw [at_tab tab_lower (lt c hc)]
      have := h2 c hc
      simp
      omega
    · have u := at_tab tab_upper (lt c hc)
      have := h2 c hc
      rw [u]
      simp
      omega
/-- what the program asks of a name is what a name is -/
theorem name_eq (x : Str) : (decide (x.length ≤ 5) && decide (x ≠ "crown") && (Txt.isascii x && (Txt.isalpha x && Txt.islower x))) = nameB x := by
  have h := lower_eq x.cps.toList
  have e1 : Txt.isascii x = x.cps.toList.all (fun c => decide (c < 128)) := by unfold Txt.isascii; rw [Array.all_toList]
  have e2 : Txt.isalpha x = (decide (x.cps.toList.length > 0) && x.cps.toList.all Unicode.isAlpha) := by unfold Txt.isalpha; rw [Array.all_toList, Array.length_toList]; rfl
  have e3 : Txt.islower x = (x.cps.toList.any Unicode.isLower && !x.cps.toList.any fun c => Unicode.isUpper c || Unicode.isTitle c) := by unfold Txt.islower; rw [Array.any_toList, Array.any_toList]
  rw [e1, e2, e3, h]
  unfold nameB
  rw [Array.all_toList, Array.length_toList]
  show (decide (x.cps.size ≤ 5) && _ && _) = _
  cases decide (x.cps.size ≤ 5) <;> cases decide (x ≠ "crown") <;> cases decide (1 ≤ x.cps.size) <;> simp
end He

namespace He
open PySem PySem.Spec PyProof.Rows L2
section
variable {P : Program} {w : World} {K : PySem.W.Frag} {mg : Str → Option Value} {base : Heap}

/-! ### any value at all: data, and instances of the program's own classes -/
inductive AD where
  | non | bl (b : Bool) | int (i : Int) | str (x : Str) | lst (ds : List AD) | tup (ds : List AD) | ins (C : Addr)
mutual
inductive Av (K : PySem.W.Frag) (H : Hp) : V → AD → Prop
  | non : Av K H .non .non
  | bl (b : Bool) : Av K H (.bl b) (.bl b)
  | int (i : Int) : Av K H (.int i) (.int i)
  | str (x : Str) : Av K H (.str x) (.str x)
  | lst {a : Addr} {xs : List V} {ds : List AD} : SqL K H a xs → AvAll K H xs ds → Av K H (.ref a) (.lst ds)
  | tup {a : Addr} {xs : List V} {ds : List AD} : SqT K H a xs → AvAll K H xs ds → Av K H (.ref a) (.tup ds)
  | ins {a C dx : Addr} {fs : List (Str × V)} : H a = some (.ins C dx fs) → TyOf K H (.ref a) (.ref C) → Av K H (.ref a) (.ins C)
inductive AvAll (K : PySem.W.Frag) (H : Hp) : List V → List AD → Prop
  | nil : AvAll K H [] []
  | cons {v : V} {vs : List V} {d : AD} {ds : List AD} : Av K H v d → AvAll K H vs ds → AvAll K H (v :: vs) (d :: ds)
end
theorem tyOf_mono {H H' : Hp} (s : Same H H') {v : V} {t : Value} (h : TyOf K H v t) : TyOf K H' v t := by
  cases h with
  | non => exact .non
  | bl b => exact .bl b
  | int i => exact .int i
  | str x => exact .str x
  | flt x => exact .flt x
  | lst e => exact .lst (s _ _ e)
  | frz e => exact .frz (s _ _ e)
  | tup e => exact .tup (s _ _ e)
  | dK e => exact .dK (s _ _ e)
  | dT e => exact .dT (s _ _ e)
  | ins e cl ha hn htk hm => exact .ins (s _ _ e) cl ha hn htk hm
mutual
theorem av_mono {K : PySem.W.Frag} {H H' : Hp} (s : Same H H') : ∀ (d : AD) (v : V), Av K H v d → Av K H' v d
  | .non, _, h => by cases h; exact .non
  | .bl b, _, h => by cases h; exact .bl b
  | .int i, _, h => by cases h; exact .int i
  | .str x, _, h => by cases h; exact .str x
  | .lst ds, _, h => by
    cases h with
    | lst hs ha => exact .lst (s.seq hs) (avA_mono s ds _ ha)
  | .tup ds, _, h => by
    cases h with
    | tup hs ha => exact .tup (Same.seqT s hs) (avA_mono s ds _ ha)
  | .ins C, _, h => by
    cases h with
    | ins e t => exact .ins (s _ _ e) (tyOf_mono s t)
theorem avA_mono {K : PySem.W.Frag} {H H' : Hp} (s : Same H H') : ∀ (ds : List AD) (vs : List V), AvAll K H vs ds → AvAll K H' vs ds
  | [], _, h => by cases h; exact .nil
  | d :: ds, _, h => by
    cases h with
    | cons a b => exact .cons (av_mono s d _ a) (avA_mono s ds _ b)
end
theorem avA_len {H : Hp} : ∀ {vs : List V} {ds : List AD}, AvAll K H vs ds → vs.length = ds.length
  | [], _, .nil => rfl
  | _ :: _, _, .cons _ b => congrArg (· + 1) (avA_len b)
theorem avA_get {H : Hp} : ∀ {vs : List V} {ds : List AD} {i : Nat} {v : V}, AvAll K H vs ds → vs[i]? = some v → ∃ d, ds[i]? = some d ∧ Av K H v d
  | _, _, i, _, .nil, e => by simp at e
  | _, _, 0, _, .cons a _, e => by
    cases (Option.some.inj e)
    exact ⟨_, rfl, a⟩
  | _, _, i + 1, _, .cons _ b, e => avA_get (i := i) b e
mutual
/-- plain data as any value -/
def ad : PyData → AD
  | .none => .non
  | .bool b => .bl b
  | .int i => .int i
  | .str x => .str x
  | .list ds => .lst (adA ds)
  | .tuple ds => .tup (adA ds)
  | .dict _ => .non
def adA : List PyData → List AD
  | [] => []
  | d :: ds => ad d :: adA ds
end
theorem adA_map (ds : List PyData) : adA ds = ds.map ad := by
  induction ds with
  | nil => rfl
  | cons d ds ih => show ad d :: adA ds = _; rw [ih]; rfl
mutual
theorem av_of {K : PySem.W.Frag} {H : Hp} : ∀ (d : PyData) (v : V), Dp K H v d → Av K H v (ad d)
  | .none, _, h => by cases h; exact .non
  | .bool b, _, h => by cases h; exact .bl b
  | .int i, _, h => by cases h; exact .int i
  | .str x, _, h => by cases h; exact .str x
  | .list ds, _, h => by
    cases h with
    | lst hs ha => exact .lst hs (avA_of ds _ ha)
  | .tuple ds, _, h => by
    cases h with
    | tup hs ha => exact .tup hs (avA_of ds _ ha)
  | .dict _, _, h => by cases h
theorem avA_of {K : PySem.W.Frag} {H : Hp} : ∀ (ds : List PyData) (vs : List V), DpAll K H vs ds → AvAll K H vs (adA ds)
  | [], _, h => by cases h; exact .nil
  | d :: ds, _, h => by
    cases h with
    | cons a b => exact .cons (av_of d _ a) (avA_of ds _ b)
end
/-! ### isinstance of any value -/
def tyA : AD → Value
  | .non => .type "NoneType"
  | .bl _ => .type "bool"
  | .int _ => .type "int"
  | .str _ => .type "str"
  | .lst _ => .type "list"
  | .tup _ => .type "tuple"
  | .ins C => .ref C
theorem av_ty {H : Hp} {v : V} {d : AD} (h : Av K H v d) : TyX K H v (tyA d) := by
  cases h with
  | non => exact .base .non
  | bl b => exact .base (.bl b)
  | int i => exact .base (.int i)
  | str x => exact .base (.str x)
  | lst hs ha =>
    rcases hs with (h | ⟨o, h⟩) | ⟨o, its, n, h, c, _⟩
    · exact .base (.lst h)
    · exact .base (.frz h)
    · exact .kList h c
  | tup hs ha =>
    rcases hs with (h | ⟨o, h⟩) | ⟨o, its, n, h, c, _⟩
    · exact .base (.tup h)
    · exact .fTuple h
    · exact .kTuple h c
  | ins e t => exact .base t
/-- of an own class of the program nothing built in -/
structure NoBuilt (K : PySem.W.Frag) (C : Addr) : Prop where
  i : PySem.W.kitOne K (.ref C) (.type "int") = some false
  s : PySem.W.kitOne K (.ref C) (.type "str") = some false
  l : PySem.W.kitOne K (.ref C) (.type "list") = some false
  t : PySem.W.kitOne K (.ref C) (.type "tuple") = some false
  b : PySem.W.kitOne K (.ref C) (.type "bool") = some false
mutual
/-- each instance is of such a class -/
def AdOk (K : PySem.W.Frag) : AD → Prop
  | .ins C => NoBuilt K C
  | .lst ds => ds.length < 4000 ∧ AdOkA K ds
  | .tup ds => ds.length < 4000 ∧ AdOkA K ds
  | .str x => x.length ≤ sizeLine
  | _ => True
def AdOkA (K : PySem.W.Frag) : List AD → Prop
  | [] => True
  | d :: ds => AdOk K d ∧ AdOkA K ds
end
def isStrA : AD → Bool | .str _ => true | _ => false
def isIntT : AD → Bool | .int _ => true | .bl _ => true | _ => false
def isBoolA : AD → Bool | .bl _ => true | _ => false
def isIntA : AD → Bool | .int _ => true | _ => false
def isLstA : AD → Bool | .lst _ => true | _ => false
def isTupA : AD → Bool | .tup _ => true | _ => false
def isSeqA : AD → Bool | .lst _ => true | .tup _ => true | _ => false
def isPairA : AD → Bool | .tup [_, _] => true | _ => false
theorem kit_int : ∀ {d : AD}, AdOk K d → PySem.W.kitOne K (tyA d) (.type "int") = some (isIntT d)
  | .non, _ => (kit_ty (by decide +kernel) : PySem.W.kitOne K (.type "NoneType") (.type "int") = some false)
  | .bl _, _ => (kit_ty (by decide +kernel) : PySem.W.kitOne K (.type "bool") (.type "int") = some true)
  | .int _, _ => (kit_ty (by decide +kernel) : PySem.W.kitOne K (.type "int") (.type "int") = some true)
  | .str _, _ => (kit_ty (by decide +kernel) : PySem.W.kitOne K (.type "str") (.type "int") = some false)
  | .lst _, _ => (kit_ty (by decide +kernel) : PySem.W.kitOne K (.type "list") (.type "int") = some false)
  | .tup _, _ => (kit_ty (by decide +kernel) : PySem.W.kitOne K (.type "tuple") (.type "int") = some false)
  | .ins _, h => NoBuilt.i h
theorem kit_str : ∀ {d : AD}, AdOk K d → PySem.W.kitOne K (tyA d) (.type "str") = some (isStrA d)
  | .non, _ => (kit_ty (by decide +kernel) : PySem.W.kitOne K (.type "NoneType") (.type "str") = some false)
  | .bl _, _ => (kit_ty (by decide +kernel) : PySem.W.kitOne K (.type "bool") (.type "str") = some false)
  | .int _, _ => (kit_ty (by decide +kernel) : PySem.W.kitOne K (.type "int") (.type "str") = some false)
  | .str _, _ => (kit_ty (by decide +kernel) : PySem.W.kitOne K (.type "str") (.type "str") = some true)
  | .lst _, _ => (kit_ty (by decide +kernel) : PySem.W.kitOne K (.type "list") (.type "str") = some false)
  | .tup _, _ => (kit_ty (by decide +kernel) : PySem.W.kitOne K (.type "tuple") (.type "str") = some false)
  | .ins _, h => NoBuilt.s h
theorem kit_lst : ∀ {d : AD}, AdOk K d → PySem.W.kitOne K (tyA d) (.type "list") = some (isLstA d)
  | .non, _ => (kit_ty (by decide +kernel) : PySem.W.kitOne K (.type "NoneType") (.type "list") = some false)
  | .bl _, _ => (kit_ty (by decide +kernel) : PySem.W.kitOne K (.type "bool") (.type "list") = some false)
  | .int _, _ => (kit_ty (by decide +kernel) : PySem.W.kitOne K (.type "int") (.type "list") = some false)
  | .str _, _ => (kit_ty (by decide +kernel) : PySem.W.kitOne K (.type "str") (.type "list") = some false)
  | .lst _, _ => (kit_ty (by decide +kernel) : PySem.W.kitOne K (.type "list") (.type "list") = some true)
  | .tup _, _ => (kit_ty (by decide +kernel) : PySem.W.kitOne K (.type "tuple") (.type "list") = some false)
  | .ins _, h => NoBuilt.l h
theorem kit_tup : ∀ {d : AD}, AdOk K d → PySem.W.kitOne K (tyA d) (.type "tuple") = some (isTupA d)
  | .non, _ => (kit_ty (by decide +kernel) : PySem.W.kitOne K (.type "NoneType") (.type "tuple") = some false)
  | .bl _, _ => (kit_ty (by decide +kernel) : PySem.W.kitOne K (.type "bool") (.type "tuple") = some false)
  | .int _, _ => (kit_ty (by decide +kernel) : PySem.W.kitOne K (.type "int") (.type "tuple") = some false)
  | .str _, _ => (kit_ty (by decide +kernel) : PySem.W.kitOne K (.type "str") (.type "tuple") = some false)
  | .lst _, _ => (kit_ty (by decide +kernel) : PySem.W.kitOne K (.type "list") (.type "tuple") = some false)
  | .tup _, _ => (kit_ty (by decide +kernel) : PySem.W.kitOne K (.type "tuple") (.type "tuple") = some true)
  | .ins _, h => NoBuilt.t h
theorem kit_seq {d : AD} (h : AdOk K d) : PySem.W.kitAny K (tyA d) [.type "list", .type "tuple"] = some (isSeqA d) := by
  refine kitAny_cons (kit_lst h) (fun e => kitAny_cons (kit_tup h) (fun e2 => ?_) (fun e2 => ?_)) (fun e => ?_)
  · rw [kitAny_nil]
    cases d <;> first | rfl | (exact nomatch (show true = false from e)) | (exact nomatch (show true = false from e2))
  · cases d <;> first | rfl | (exact nomatch (show false = true from e2))
  · cases d <;> first | rfl | (exact nomatch (show false = true from e))
/-- a test of any value -/
def spIs (K : PySem.W.Frag) (f : AD → Bool) : Sp := fun vs H Q _ => ∃ (v : V) (d : AD), vs = [v] ∧ Av K H v d ∧ AdOk K d ∧ ∀ H', Same H H' → Q (.bl (f d)) H'
theorem ok_isint (T : TxtG K mg) : FnOk P w K mg base CX0 1 T.dIsInteger.f T.dIsInteger.fd ["value"] (spIs K isIntA) := by
  refine T.dIsInteger.F.ok scDIsInteger (fun vs H Q E h => ?_) (fun cdv A outer s H vs Q E hr h => ?_)
  · obtain ⟨v, d, rfl, _⟩ := h
    rfl
  · obtain ⟨v, d, rfl, hv, hd, q⟩ := h
    refine ⟨_, (pss_one (ps_ret (pe_and (pe_callB call_isi (by rfl) T.z_isinstance (by decide +kernel) (pa_cons (pv 0) (pa_cons (pe_bltn (v := .ty "int") (u := .type "int") (by rfl) T.z_int (by decide +kernel) rfl) pa_nil))) (pe_one (pe_not (pe_callB call_isi (by rfl) T.z_isinstance (by decide +kernel) (pa_cons (pv 0) (pa_cons (pe_bltn (v := .ty "bool") (u := .type "bool") (by rfl) T.z_bool (by decide +kernel) rfl) pa_nil)))))))), ?_⟩
    simp only [and_assoc, tSeq, tAsg, tOp, tUn, rI, rI0, rU, tVar, tC, gName, L2.start, tIfS, tTest, tB, tCB, tCons, tNil, tIf, tRet, tRetN, tLst, tTup, tNext, tDrop, tNot, tNotV, tAnd, tOr, tAndV, tOrV, tPar, tAug, ipI, rEq, rNe, gSub, rSetL, rIxL, rIxT, tBM, tBM0, rAppend, rPopAt, gTup, gCons, gNil, tCall, tSl, tPart, tNoPart, rSlL, rCat, rEqD, rNeD, rIn, scal, List.map_cons, List.map_nil, List.length_cons, List.length_nil, List.length_map, List.cons_append, List.nil_append, List.append_nil, List.replicate, List.getElem?_cons_zero, List.getElem?_cons_succ, List.set_cons_zero, List.set_cons_succ, Option.some.injEq, exists_eq_left', exists_eq_left, exists_eq_right, exists_and_left, exists_and_right, V.int.injEq, V.ref.injEq, V.str.injEq, V.bl.injEq, reduceCtorEq, false_and, and_false, exists_false, or_false, false_or, true_and, and_true, List.cons.injEq, decide_eq_true_eq, cxOf, if_true, if_false, Bool.false_eq_true, Nat.reduceAdd, Nat.reduceSub, Nat.zero_add, Nat.add_sub_cancel_left, Nat.add_sub_cancel, Nat.sub_self, tFor_eq, tLc_eq, iRng1, iRng2, iList, iTup, iEnum, rIsi, rIsiT]
    refine ⟨_, _, .ty "int", av_ty hv, _, kit_int hd, ?_⟩
    have kb : PySem.W.kitOne K (tyA d) (.type "bool") = some (isBoolA d) ∨ isIntT d = false := by
      cases d with
      | bl b => exact .inl (kit_ty (by decide +kernel) : PySem.W.kitOne K (.type "bool") (.type "bool") = some true)
      | int i => exact .inl (kit_ty (by decide +kernel) : PySem.W.kitOne K (.type "int") (.type "bool") = some false)
      | non => exact .inr rfl
      | str x => exact .inr rfl
      | lst x => exact .inr rfl
      | tup x => exact .inr rfl
      | ins x => exact .inr rfl
    have q0 := q H (Same.refl H)
    cases e : isIntT d with
    | false =>
      simp only [and_assoc, tSeq, tAsg, tOp, tUn, rI, rI0, rU, tVar, tC, gName, L2.start, tIfS, tTest, tB, tCB, tCons, tNil, tIf, tRet, tRetN, tLst, tTup, tNext, tDrop, tNot, tNotV, tAnd, tOr, tAndV, tOrV, tPar, tAug, ipI, rEq, rNe, gSub, rSetL, rIxL, rIxT, tBM, tBM0, rAppend, rPopAt, gTup, gCons, gNil, tCall, tSl, tPart, tNoPart, rSlL, rCat, rEqD, rNeD, rIn, scal, List.map_cons, List.map_nil, List.length_cons, List.length_nil, List.length_map, List.cons_append, List.nil_append, List.append_nil, List.replicate, List.getElem?_cons_zero, List.getElem?_cons_succ, List.set_cons_zero, List.set_cons_succ, Option.some.injEq, exists_eq_left', exists_eq_left, exists_eq_right, exists_and_left, exists_and_right, V.int.injEq, V.ref.injEq, V.str.injEq, V.bl.injEq, reduceCtorEq, false_and, and_false, exists_false, or_false, false_or, true_and, and_true, List.cons.injEq, decide_eq_true_eq, cxOf, if_true, if_false, Bool.false_eq_true, Nat.reduceAdd, Nat.reduceSub, Nat.zero_add, Nat.add_sub_cancel_left, Nat.add_sub_cancel, Nat.sub_self, tFor_eq, tLc_eq, iRng1, iRng2, iList, iTup, iEnum, rIsi, rIsiT]
      have e2 : isIntA d = false := by cases d <;> first | rfl | (exact nomatch (show true = false from e))
      rw [e2] at q0
      exact q0
    | true =>
      simp only [and_assoc, tSeq, tAsg, tOp, tUn, rI, rI0, rU, tVar, tC, gName, L2.start, tIfS, tTest, tB, tCB, tCons, tNil, tIf, tRet, tRetN, tLst, tTup, tNext, tDrop, tNot, tNotV, tAnd, tOr, tAndV, tOrV, tPar, tAug, ipI, rEq, rNe, gSub, rSetL, rIxL, rIxT, tBM, tBM0, rAppend, rPopAt, gTup, gCons, gNil, tCall, tSl, tPart, tNoPart, rSlL, rCat, rEqD, rNeD, rIn, scal, List.map_cons, List.map_nil, List.length_cons, List.length_nil, List.length_map, List.cons_append, List.nil_append, List.append_nil, List.replicate, List.getElem?_cons_zero, List.getElem?_cons_succ, List.set_cons_zero, List.set_cons_succ, Option.some.injEq, exists_eq_left', exists_eq_left, exists_eq_right, exists_and_left, exists_and_right, V.int.injEq, V.ref.injEq, V.str.injEq, V.bl.injEq, reduceCtorEq, false_and, and_false, exists_false, or_false, false_or, true_and, and_true, List.cons.injEq, decide_eq_true_eq, cxOf, if_true, if_false, Bool.false_eq_true, Nat.reduceAdd, Nat.reduceSub, Nat.zero_add, Nat.add_sub_cancel_left, Nat.add_sub_cancel, Nat.sub_self, tFor_eq, tLc_eq, iRng1, iRng2, iList, iTup, iEnum, rIsi, rIsiT]
      rcases kb with kb | kb
      · refine ⟨_, _, .ty "bool", av_ty hv, _, kb, ?_⟩
        have e2 : isIntA d = !isBoolA d := by cases d <;> first | rfl | (exact nomatch (show false = true from e))
        rw [e2] at q0
        exact q0
      · rw [e] at kb
        cases kb
theorem ok_isseq (T : TxtG K mg) : FnOk P w K mg base CX0 1 T.dIsSequence.f T.dIsSequence.fd ["value"] (spIs K isSeqA) := by
  refine T.dIsSequence.F.ok scDIsSequence (fun vs H Q E h => ?_) (fun cdv A outer s H vs Q E hr h => ?_)
  · obtain ⟨v, d, rfl, _⟩ := h
    rfl
  · obtain ⟨v, d, rfl, hv, hd, q⟩ := h
    refine ⟨_, (pss_one (ps_ret (pe_callB call_isiT (by rfl) T.z_isinstance (by decide +kernel) (pa_cons (pv 0) (pa_cons (pe_tup (pa_cons (pe_bltn (v := .ty "list") (u := .type "list") (by rfl) T.z_list (by decide +kernel) rfl) (pa_cons (pe_bltn (v := .ty "tuple") (u := .type "tuple") (by rfl) T.z_tuple (by decide +kernel) rfl) pa_nil))) pa_nil))))), ?_⟩
    simp only [and_assoc, tSeq, tAsg, tOp, tUn, rI, rI0, rU, tVar, tC, gName, L2.start, tIfS, tTest, tB, tCB, tCons, tNil, tIf, tRet, tRetN, tLst, tTup, tNext, tDrop, tNot, tNotV, tAnd, tOr, tAndV, tOrV, tPar, tAug, ipI, rEq, rNe, gSub, rSetL, rIxL, rIxT, tBM, tBM0, rAppend, rPopAt, gTup, gCons, gNil, tCall, tSl, tPart, tNoPart, rSlL, rCat, rEqD, rNeD, rIn, scal, List.map_cons, List.map_nil, List.length_cons, List.length_nil, List.length_map, List.cons_append, List.nil_append, List.append_nil, List.replicate, List.getElem?_cons_zero, List.getElem?_cons_succ, List.set_cons_zero, List.set_cons_succ, Option.some.injEq, exists_eq_left', exists_eq_left, exists_eq_right, exists_and_left, exists_and_right, V.int.injEq, V.ref.injEq, V.str.injEq, V.bl.injEq, reduceCtorEq, false_and, and_false, exists_false, or_false, false_or, true_and, and_true, List.cons.injEq, decide_eq_true_eq, cxOf, if_true, if_false, Bool.false_eq_true, Nat.reduceAdd, Nat.reduceSub, Nat.zero_add, Nat.add_sub_cancel_left, Nat.add_sub_cancel, Nat.sub_self, tFor_eq, tLc_eq, iRng1, iRng2, iList, iTup, iEnum, rIsi, rIsiT]
    refine ⟨by decide, fun t nt => ⟨_, upd_same, _, _, .cons (.ty "list") (.cons (.ty "tuple") .nil), av_ty (av_mono (same_upd nt) _ _ hv), _, kit_seq hd, ?_⟩⟩
    exact q _ (same_upd nt)
theorem ok_ispair (T : TxtG K mg) : FnOk P w K mg base CX0 1 T.dIsPair.f T.dIsPair.fd ["value"] (spIs K isPairA) := by
  refine T.dIsPair.F.ok scDIsPair (fun vs H Q E h => ?_) (fun cdv A outer s H vs Q E hr h => ?_)
  · obtain ⟨v, d, rfl, _⟩ := h
    rfl
  · obtain ⟨v, d, rfl, hv, hd, q⟩ := h
    refine ⟨_, (pss_one (ps_ret (pe_and (pe_callB call_isi (by rfl) T.z_isinstance (by decide +kernel) (pa_cons (pv 0) (pa_cons (pe_bltn (v := .ty "tuple") (u := .type "tuple") (by rfl) T.z_tuple (by decide +kernel) rfl) pa_nil))) (pe_one (pe_cmpR op_eq (pe_callB call_len_seq (by rfl) T.z_len (by decide +kernel) (pa_cons (pv 0) pa_nil)) pe_int (nomark _)))))), ?_⟩
    simp only [and_assoc, tSeq, tAsg, tOp, tUn, rI, rI0, rU, tVar, tC, gName, L2.start, tIfS, tTest, tB, tCB, tCons, tNil, tIf, tRet, tRetN, tLst, tTup, tNext, tDrop, tNot, tNotV, tAnd, tOr, tAndV, tOrV, tPar, tAug, ipI, rEq, rNe, gSub, rSetL, rIxL, rIxT, tBM, tBM0, rAppend, rPopAt, gTup, gCons, gNil, tCall, tSl, tPart, tNoPart, rSlL, rCat, rEqD, rNeD, rIn, scal, List.map_cons, List.map_nil, List.length_cons, List.length_nil, List.length_map, List.cons_append, List.nil_append, List.append_nil, List.replicate, List.getElem?_cons_zero, List.getElem?_cons_succ, List.set_cons_zero, List.set_cons_succ, Option.some.injEq, exists_eq_left', exists_eq_left, exists_eq_right, exists_and_left, exists_and_right, V.int.injEq, V.ref.injEq, V.str.injEq, V.bl.injEq, reduceCtorEq, false_and, and_false, exists_false, or_false, false_or, true_and, and_true, List.cons.injEq, decide_eq_true_eq, cxOf, if_true, if_false, Bool.false_eq_true, Nat.reduceAdd, Nat.reduceSub, Nat.zero_add, Nat.add_sub_cancel_left, Nat.add_sub_cancel, Nat.sub_self, tFor_eq, tLc_eq, iRng1, iRng2, iList, iTup, iEnum, rIsi, rIsiT]
    refine ⟨_, _, .ty "tuple", av_ty hv, _, kit_tup hd, ?_⟩
    have q0 := q H (Same.refl H)
    cases hv with
    | @tup a xs ds hs ha =>
      simp only [and_assoc, tSeq, tAsg, tOp, tUn, rI, rI0, rU, tVar, tC, gName, L2.start, tIfS, tTest, tB, tCB, tCons, tNil, tIf, tRet, tRetN, tLst, tTup, tNext, tDrop, tNot, tNotV, tAnd, tOr, tAndV, tOrV, tPar, tAug, ipI, rEq, rNe, gSub, rSetL, rIxL, rIxT, tBM, tBM0, rAppend, rPopAt, gTup, gCons, gNil, tCall, tSl, tPart, tNoPart, rSlL, rCat, rEqD, rNeD, rIn, scal, List.map_cons, List.map_nil, List.length_cons, List.length_nil, List.length_map, List.cons_append, List.nil_append, List.append_nil, List.replicate, List.getElem?_cons_zero, List.getElem?_cons_succ, List.set_cons_zero, List.set_cons_succ, Option.some.injEq, exists_eq_left', exists_eq_left, exists_eq_right, exists_and_left, exists_and_right, V.int.injEq, V.ref.injEq, V.str.injEq, V.bl.injEq, reduceCtorEq, false_and, and_false, exists_false, or_false, false_or, true_and, and_true, List.cons.injEq, decide_eq_true_eq, cxOf, if_true, if_false, Bool.false_eq_true, Nat.reduceAdd, Nat.reduceSub, Nat.zero_add, Nat.add_sub_cancel_left, Nat.add_sub_cancel, Nat.sub_self, tFor_eq, tLc_eq, iRng1, iRng2, iList, iTup, iEnum, rIsi, rIsiT, isTupA]
      refine ⟨xs, .inr hs, ?_⟩
      rw [avA_len ha]
      have e : isPairA (.tup ds) = decide ((ds.length : Int) = 2) := by
        match ds with
        | [] => rfl
        | [_] => rfl
        | [_, _] => rfl
        | _ :: _ :: _ :: r => exact (decide_eq_false (by simp only [List.length_cons]; omega)).symm
      rw [e] at q0
      exact q0
    | non => exact q0
    | bl b => exact q0
    | int i => exact q0
    | str x => exact q0
    | lst hs ha => exact q0
    | ins e t => exact q0
def isNameA : AD → Bool | .str x => nameB x | _ => false
theorem ok_isname (T : TxtG K mg) : FnOk P w K mg base CX0 1 T.dIsName.f T.dIsName.fd ["value"] (spIs K isNameA) := by
  refine T.dIsName.F.ok scDIsName (fun vs H Q E h => ?_) (fun cdv A outer s H vs Q E hr h => ?_)
  · obtain ⟨v, d, rfl, _⟩ := h
    rfl
  · obtain ⟨v, d, rfl, hv, hd, q⟩ := h
    refine ⟨_, (pss_cons (ps_if (PW.pt (pw_or (pt_not (pt_val (pe_callB call_isi (by rfl) T.z_isinstance (by decide +kernel) (pa_cons (pv 0) (pa_cons (pe_bltn (v := .ty "str") (u := .type "str") (by rfl) T.z_str (by decide +kernel) rfl) pa_nil))))) (pw_or (pt_cmpR op_gt (pe_callB call_len_str (by rfl) T.z_len (by decide +kernel) (pa_cons (pv 0) pa_nil)) (pe_glob (v := .int 5) (by rfl) T.k_LONGEST_NAME.choose_spec ⟨_, rfl⟩) (nomark _)) (pw_or1 (pt_cmpR op_eq (pv 0) (pe_glob (v := .str "crown") (by rfl) T.k_CROWN.choose_spec ⟨_, rfl⟩) (nomark _))))))
      (pss_one (ps_ret pe_bl))
      pss_nil)
      (pss_one (ps_ret (pe_and (pe_m0 PySem.F.slot_str_isascii PySem.F.type_str_isascii mt_isascii (pv 0)) (pe_and (pe_m0 PySem.F.slot_str_isalpha PySem.F.type_str_isalpha mt_isalpha (pv 0)) (pe_one (pe_m0 PySem.F.slot_str_islower PySem.F.type_str_islower mt_islower (pv 0)))))))), ?_⟩
    have q0 := q H (Same.refl H)
    simp only [and_assoc, tSeq, tAsg, tOp, tUn, rI, rI0, rU, tVar, tC, gName, L2.start, tIfS, tTest, tB, tCB, tCons, tNil, tIf, tRet, tRetN, tLst, tTup, tNext, tDrop, tNot, tNotV, tAnd, tOr, tAndV, tOrV, tPar, tAug, ipI, rEq, rNe, gSub, rSetL, rIxL, rIxT, tBM, tBM0, rAppend, rPopAt, gTup, gCons, gNil, tCall, tSl, tPart, tNoPart, rSlL, rCat, rEqD, rNeD, rIn, scal, List.map_cons, List.map_nil, List.length_cons, List.length_nil, List.length_map, List.cons_append, List.nil_append, List.append_nil, List.replicate, List.getElem?_cons_zero, List.getElem?_cons_succ, List.set_cons_zero, List.set_cons_succ, Option.some.injEq, exists_eq_left', exists_eq_left, exists_eq_right, exists_and_left, exists_and_right, V.int.injEq, V.ref.injEq, V.str.injEq, V.bl.injEq, reduceCtorEq, false_and, and_false, exists_false, or_false, false_or, true_and, and_true, List.cons.injEq, decide_eq_true_eq, cxOf, if_true, if_false, Bool.false_eq_true, Nat.reduceAdd, Nat.reduceSub, Nat.zero_add, Nat.add_sub_cancel_left, Nat.add_sub_cancel, Nat.sub_self, tFor_eq, tLc_eq, iRng1, iRng2, iList, iTup, iEnum, rIsi, rIsiT, tM0]
    refine ⟨_, _, .ty "str", av_ty hv, _, kit_str hd, ?_⟩
    cases hv with
    | str x =>
      simp only [and_assoc, tSeq, tAsg, tOp, tUn, rI, rI0, rU, tVar, tC, gName, L2.start, tIfS, tTest, tB, tCB, tCons, tNil, tIf, tRet, tRetN, tLst, tTup, tNext, tDrop, tNot, tNotV, tAnd, tOr, tAndV, tOrV, tPar, tAug, ipI, rEq, rNe, gSub, rSetL, rIxL, rIxT, tBM, tBM0, rAppend, rPopAt, gTup, gCons, gNil, tCall, tSl, tPart, tNoPart, rSlL, rCat, rEqD, rNeD, rIn, scal, List.map_cons, List.map_nil, List.length_cons, List.length_nil, List.length_map, List.cons_append, List.nil_append, List.append_nil, List.replicate, List.getElem?_cons_zero, List.getElem?_cons_succ, List.set_cons_zero, List.set_cons_succ, Option.some.injEq, exists_eq_left', exists_eq_left, exists_eq_right, exists_and_left, exists_and_right, V.int.injEq, V.ref.injEq, V.str.injEq, V.bl.injEq, reduceCtorEq, false_and, and_false, exists_false, or_false, false_or, true_and, and_true, List.cons.injEq, decide_eq_true_eq, cxOf, if_true, if_false, Bool.false_eq_true, Nat.reduceAdd, Nat.reduceSub, Nat.zero_add, Nat.add_sub_cancel_left, Nat.add_sub_cancel, Nat.sub_self, tFor_eq, tLc_eq, iRng1, iRng2, iList, iTup, iEnum, rIsi, rIsiT, isStrA, Bool.not_true]
      refine ⟨hd, ?_⟩
      have e := name_eq x
      have q0 : Q (.bl (nameB x)) H := q0
      rw [← e] at q0
      by_cases h5 : (5 : Int) < (x.length : Int)
      · rw [if_pos h5]
        rw [decide_eq_false (show ¬ x.length ≤ 5 by omega)] at q0
        exact q0
      · rw [if_neg h5]
        rw [decide_eq_true (show x.length ≤ 5 by omega)] at q0
        by_cases hc : x = Str.ofString "crown"
        · rw [if_pos hc]
          rw [decide_eq_false (show ¬ x ≠ Str.ofString "crown" from fun z => z hc)] at q0
          exact q0
        · rw [if_neg hc]
          rw [decide_eq_true (show x ≠ Str.ofString "crown" from hc)] at q0
          refine ⟨⟨x, rfl⟩, ?_⟩
          cases ea : Txt.isascii x with
          | false =>
            rw [ea] at q0
            exact q0
          | true =>
            rw [ea] at q0
            simp only [and_assoc, tSeq, tAsg, tOp, tUn, rI, rI0, rU, tVar, tC, gName, L2.start, tIfS, tTest, tB, tCB, tCons, tNil, tIf, tRet, tRetN, tLst, tTup, tNext, tDrop, tNot, tNotV, tAnd, tOr, tAndV, tOrV, tPar, tAug, ipI, rEq, rNe, gSub, rSetL, rIxL, rIxT, tBM, tBM0, rAppend, rPopAt, gTup, gCons, gNil, tCall, tSl, tPart, tNoPart, rSlL, rCat, rEqD, rNeD, rIn, scal, List.map_cons, List.map_nil, List.length_cons, List.length_nil, List.length_map, List.cons_append, List.nil_append, List.append_nil, List.replicate, List.getElem?_cons_zero, List.getElem?_cons_succ, List.set_cons_zero, List.set_cons_succ, Option.some.injEq, exists_eq_left', exists_eq_left, exists_eq_right, exists_and_left, exists_and_right, V.int.injEq, V.ref.injEq, V.str.injEq, V.bl.injEq, reduceCtorEq, false_and, and_false, exists_false, or_false, false_or, true_and, and_true, List.cons.injEq, decide_eq_true_eq, cxOf, if_true, if_false, Bool.false_eq_true, Nat.reduceAdd, Nat.reduceSub, Nat.zero_add, Nat.add_sub_cancel_left, Nat.add_sub_cancel, Nat.sub_self, tFor_eq, tLc_eq, iRng1, iRng2, iList, iTup, iEnum, rIsi, rIsiT]
            refine ⟨⟨x, rfl⟩, ?_⟩
            cases eb : Txt.isalpha x with
            | false =>
              rw [eb] at q0
              exact q0
            | true =>
              rw [eb] at q0
              simp only [and_assoc, tSeq, tAsg, tOp, tUn, rI, rI0, rU, tVar, tC, gName, L2.start, tIfS, tTest, tB, tCB, tCons, tNil, tIf, tRet, tRetN, tLst, tTup, tNext, tDrop, tNot, tNotV, tAnd, tOr, tAndV, tOrV, tPar, tAug, ipI, rEq, rNe, gSub, rSetL, rIxL, rIxT, tBM, tBM0, rAppend, rPopAt, gTup, gCons, gNil, tCall, tSl, tPart, tNoPart, rSlL, rCat, rEqD, rNeD, rIn, scal, List.map_cons, List.map_nil, List.length_cons, List.length_nil, List.length_map, List.cons_append, List.nil_append, List.append_nil, List.replicate, List.getElem?_cons_zero, List.getElem?_cons_succ, List.set_cons_zero, List.set_cons_succ, Option.some.injEq, exists_eq_left', exists_eq_left, exists_eq_right, exists_and_left, exists_and_right, V.int.injEq, V.ref.injEq, V.str.injEq, V.bl.injEq, reduceCtorEq, false_and, and_false, exists_false, or_false, false_or, true_and, and_true, List.cons.injEq, decide_eq_true_eq, cxOf, if_true, if_false, Bool.false_eq_true, Nat.reduceAdd, Nat.reduceSub, Nat.zero_add, Nat.add_sub_cancel_left, Nat.add_sub_cancel, Nat.sub_self, tFor_eq, tLc_eq, iRng1, iRng2, iList, iTup, iEnum, rIsi, rIsiT]
              exact ⟨⟨x, rfl⟩, q0⟩
    | non => exact q0
    | bl b => exact q0
    | int i => exact q0
    | lst hs ha => exact q0
    | tup hs ha => exact q0
    | ins e t => exact q0

end
end He

/-! set(xs) of any number of texts, with repetitions -/
namespace He
namespace SetT
open PySem PySem.Spec PyProof.Rows
def put1 (acc : List Str) (x : Str) : List Str := if acc.any (· == x) then acc else acc ++ [x]
/-- each once -/
def once (xs : List Str) : List Str := xs.foldl put1 []
theorem put1_any (acc : List Str) (x k : Str) : (put1 acc x).any (· == k) = (acc.any (· == k) || decide (k = x)) := by
  unfold put1
  by_cases h : acc.any (· == x) = true
  · rw [if_pos h]
    by_cases e : k = x
    · rw [e, h, decide_eq_true rfl]
      rfl
    · rw [decide_eq_false e, Bool.or_false]
  · rw [if_neg h, List.any_append]
    congr 1
    by_cases e : k = x
    · rw [e, decide_eq_true rfl]
      simp
    · rw [decide_eq_false e]
      simp only [List.any_cons, List.any_nil, Bool.or_false]
      exact beq_eq_false_iff_ne.mpr fun z => e z.symm
theorem put1_len (acc : List Str) (x : Str) : (put1 acc x).length = if acc.any (· == x) then acc.length else acc.length + 1 := by
  unfold put1
  split <;> simp
theorem once_snoc (xs : List Str) (x : Str) : once (xs ++ [x]) = put1 (once xs) x := by
  unfold once
  rw [List.foldl_append]
  rfl
theorem fold_len : ∀ (xs acc : List Str), (xs.foldl put1 acc).length ≤ acc.length + xs.length
  | [], acc => Nat.le_refl _
  | x :: xs, acc => by
    have h := fold_len xs (put1 acc x)
    have h2 := put1_len acc x
    show (xs.foldl put1 (put1 acc x)).length ≤ acc.length + (xs.length + 1)
    split at h2 <;> omega
theorem fold_eq : ∀ (xs acc : List Str), (xs.foldl put1 acc).length = acc.length + xs.length ↔ (xs.Nodup ∧ ∀ x ∈ xs, acc.any (· == x) = false)
  | [], acc => by simp
  | x :: xs, acc => by
    have h := fold_eq xs (put1 acc x)
    have hl := fold_len xs (put1 acc x)
    have h2 := put1_len acc x
    show (xs.foldl put1 (put1 acc x)).length = acc.length + (xs.length + 1) ↔ _
    cases e : acc.any (· == x) with
    | true =>
      rw [e, if_pos rfl] at h2
      constructor
      · intro z
        omega
      · rintro ⟨_, z⟩
        have := z x List.mem_cons_self
        rw [e] at this
        cases this
    | false =>
      rw [e, if_neg (by simp)] at h2
      have e3 : ((xs.foldl put1 (put1 acc x)).length = acc.length + (xs.length + 1)) ↔ ((xs.foldl put1 (put1 acc x)).length = (put1 acc x).length + xs.length) := by
        rw [h2]
        omega
      rw [e3, h, List.nodup_cons]
      constructor
      · rintro ⟨nd, z⟩
        refine ⟨⟨fun m => ?_, nd⟩, fun y hy => ?_⟩
        · have := z x m
          rw [put1_any] at this
          simp at this
        · rcases List.mem_cons.mp hy with rfl | hy
          · exact e
          · have := z y hy
            rw [put1_any, Bool.or_eq_false_iff] at this
            exact this.1
      · rintro ⟨⟨nm, nd⟩, z⟩
        refine ⟨nd, fun y hy => ?_⟩
        rw [put1_any, z y (List.mem_cons_of_mem _ hy)]
        simp only [Bool.false_or]
        exact decide_eq_false fun q => nm (q ▸ hy)
theorem once_len (xs : List Str) : (once xs).length = xs.length ↔ xs.Nodup := by
  have h := fold_eq xs []
  simp only [List.length_nil, Nat.zero_add, List.any_nil, implies_true, and_true] at h
  exact h
theorem once_le (xs : List Str) : (once xs).length ≤ xs.length := by
  have h := fold_len xs []
  simp only [List.length_nil, Nat.zero_add] at h
  exact h
/-! ### the loop of the set's making -/
section
variable {pr : Program} {wd : World} {A : Around} {R : Result → Shared → Prop} {it : Addr} {fp wr : List Addr} {G : Array GenState → Array GenState → Prop} {n : Nat} {Y : Nat → Value → Prop} {St : Nat → Shared → Prop}
/-- at z the first i texts, each once -/
def Holds (pr : Program) (wd : World) (h : Heap) (z : Addr) (xs : List Str) (i : Nat) : Prop := h.SetOf (PySem.strKind pr wd) z (fun k => (once (xs.take i)).any (· == k)) (once (xs.take i)).length
theorem Holds.at' {h h' : Heap} {z : Addr} {xs : List Str} {i : Nat} (q : Holds pr wd h z xs i) (k : ∀ o, h.get? z = some o → h'.get? z = some o) : Holds pr wd h' z xs i := by
  obtain ⟨ob, es, ep, tb, e, r⟩ := q
  exact ⟨ob, es, ep, tb, k _ e, r⟩
theorem turns (W : WalksS pr wd A.in1 it fp wr G n Y St) (z : Addr) (hz : z ∉ fp) (xs : List Str) (hx : xs.length = n) (hn : n + 1 < scanBound) (val : ∀ (i : Nat) v, Y i v → ∃ t x, xs[i]? = some x ∧ v = .str x t) :
    ∀ (m i : Nat) (s : Shared), n - i = m → i ≤ n → St i s → Holds pr wd s.heap z xs i →
      (∀ s', Moved (z :: wr) G s s' → Holds pr wd s'.heap z xs n → R (.ok (.ret .none)) s') →
      codeAny (model pr wd) A (.builtin "set.update.loop" ⟨[.ref z, .ref it], []⟩) R s := by
  have nw : z ∉ wr := fun q => hz (W.sub _ q)
  have up : ∀ b ∈ wr, b ∈ z :: wr := fun b q => List.mem_cons_of_mem _ q
  intro m
  induction m with
  | zero =>
    intro i s e le st hd fin
    obtain rfl : i = n := by omega
    refine codeAny_builtin PyProof.Rows.F.entry_set_update_loop (by
      rw [Around.under_plainId PyProof.Rows.F.plain_set_update_loop _]
      show wpAny _ A.in1 (pyNext (.ref it) >>= _) _ _ s
      exact wpAny_bind (W.done s _ _ st fun s2 mv => (show wpAny _ A.in1 (ret Value.none) _ _ s2 from wpAny_pure (fin s2 (mv.mono up) (hd.at' fun o q => mv.heap z o nw q)))))
  | succ m ih =>
    intro i s e le st hd fin
    have lt : i < n := by omega
    refine codeAny_builtin PyProof.Rows.F.entry_set_update_loop (by
      rw [Around.under_plainId PyProof.Rows.F.plain_set_update_loop _]
      show wpAny _ A.in1 (pyNext (.ref it) >>= _) _ _ s
      refine wpAny_bind (W.item i s _ _ lt st fun v s2 hY st2 mv => ?_)
      obtain ⟨t, x, ex, rfl⟩ := val i v hY
      have hd2 : Holds pr wd s2.heap z xs i := hd.at' fun o q => mv.heap z o nw q
      show wpAny _ A.in1 (holding [Value.str x t] (setAdd z (.str x t)) >>= _) _ _ s2
      refine wpAny_bind (wpAny_holding ?_)
      unfold setAdd
      refine wpAny_holding (wpAny_bind ((PySem.strKind pr wd).pyHash (k := x) (strKind_is _ _ _ _) ?_))
      have room : (once (xs.take i)).length + 1 < scanBound := by
        have := once_le (xs.take i)
        rw [List.length_take] at this
        omega
      refine wpAny_setAddHashed_of (knd := PySem.strKind pr wd) (k := x) (s := { s2 with toks := s2.toks + 1 }) (strKind_is _ _ _ _) rfl hd2 room fun h3 sb q3 => ?_
      have hd3 : Holds pr wd h3 z xs (i + 1) := by
        have ek : xs.take (i + 1) = xs.take i ++ [x] := by rw [List.take_add_one, ex]; rfl
        unfold Holds
        rw [ek, once_snoc]
        exact SetOf_congr q3 (fun k => (put1_any _ x k).symm) (put1_len _ x).symm
      refine wpAny_pure ⟨plainId_quiet PyProof.Rows.F.plain_set_update_loop _, ih (i + 1) _ (by omega) lt (W.frame _ s2 _ _ st2 (Nat.le_succ _) fun b hb o q => ?_) hd3 fun s4 mv4 hd4 => ?_⟩
      · rw [sb.2 b fun y : b = z => hz (y ▸ hb)]
        exact q
      · refine fin s4 (Moved.trans W.gtrans ((mv.mono up).then_heap (Nat.le_succ _) fun b o hb q => ?_) mv4) hd4
        rw [sb.2 b fun y : b = z => hb (y ▸ List.mem_cons_self)]
        exact q)
end
abbrev empty (led : Bool) : Obj := { cls := .type "set", dict := none, data := .set #[] 0 (.fresh 0 0 led) }
section
variable {pr : Program} {wd : World} {A : Around} {E : Value → Shared → Prop} {s : Shared}
set_option maxHeartbeats 4000000 in
theorem call_set_list {l : Addr} {its : Array Value} {xs : List Str} {Q : Value → Shared → Prop} (hh : A.handled = none) (hl : s.heap.IsList l its) (hx : xs.length = its.size) (hn : xs.length + 1 < scanBound)
    (val : ∀ (i : Nat) (v : Value), its[i]? = some v → ∃ t x, xs[i]? = some x ∧ v = .str x t)
    (q : ∀ (h' : Heap) (tk : Nat), Holds pr wd h' s.heap.objs.size xs xs.length → (∀ b o, b < s.heap.objs.size → s.heap.get? b = some o → h'.get? b = some o) → Q (.ref s.heap.objs.size) { s with heap := h', toks := tk }) :
    wpAny (model pr wd) A (call (.type "set") [.ref l]) Q E s := by
  obtain ⟨mc, ml, mro⟩ := PySem.F.called_set.mro
  have made := PySem.F.called_set.made
  have subt := PySem.F.called_set.sub
  refine wpAny_call (codeAny_of_tree (show wpAny _ _ (callAny (.type "set") _) _ _ _ from wpAny_pure ⟨Code.quiet_builtin _ (by decide +kernel), codeAny_builtin PySem.F.entry_type_call ?_⟩))
  rw [Around.under_plain (weight_type_call_type "set" [.ref l] []) rfl]
  have notT := PySem.F.called_set.notType
  have canC := PySem.F.called_set.canCreate
  have tcall := PySem.F.typeCall_set_1 (.ref l)
  repeat (any_goals (first | assumption | wp_step))
  refine codeAny_mono (code_set_new_1 (.ref l) (E := E) (Q₁ := fun ob s1 => ∃ led : Bool, ob = .ref s.heap.objs.size ∧ s1 = { s with heap := s.heap.push (empty led) }) fun led => ⟨led, rfl, rfl⟩) fun r s1 hr => ?_
  cases r with
  | error e => exact hr
  | ok fl =>
    cases fl with
    | next => exact hr.elim
    | brk => exact hr.elim
    | cont => exact hr.elim
    | ret ob =>
      obtain ⟨led, rfl, rfl⟩ := hr
      have atz : (s.heap.push (empty led)).get? s.heap.objs.size = some (empty led) := Heap.get?_push_size _ rfl
      have isz : Shared.TypeIs { s with heap := s.heap.push (empty led) } (.ref s.heap.objs.size) "set" := ⟨_, atz, rfl⟩
      have ilook := PySem.F.called_set.init.lookup
      have ibind := PySem.F.called_set.init.bind (.ref s.heap.objs.size)
      repeat (any_goals (first | assumption | wp_step))
      refine codeAny_mono (codeAny_call_builtin (R := wants (fun r s2 => r = .none ∧ ∃ h' tk, s2 = { s with heap := h', toks := tk } ∧ Holds pr wd h' s.heap.objs.size xs xs.length ∧ (∀ b o, b < s.heap.objs.size → s.heap.get? b = some o → h'.get? b = some o)) E)
        PySem.F.called_set.init.plain PySem.F.entry_set_init (check_set_init_1 isz ?_)) fun r2 s2 hr2 => ?_
      · obtain ⟨⟨oc, od, dt, osl⟩, gl, gc, nl, gd⟩ := hl
        simp only at gc gd
        subst gc gd
        have gl2 : (s.heap.push (empty led)).get? l = some { cls := .type "list", dict := od, data := .seq its nl, slots := osl } := Heap.get?_push_of_some _ gl
        have su1 := PySem.F.sub_list_set
        have su2 := PySem.F.sub_list_frozenset
        have nodict : (Value.type "list" == Value.type "dict") = false := by decide
        have isl : (s.heap.push (empty led)).IsList l its := ⟨_, gl2, rfl, nl, rfl⟩
        unfold Builtin.«set.__init__» noKeywords Builtin.Frozenset.updateFrom
        generalize hPI : pyIter = PI
        wp_walk
        subst hPI
        have llt : l < s.heap.objs.size := Heap.lt_size gl
        have nohd : A.in1.in1.in1.handled = none := by simp [hh]
        have psz : (s.heap.push (empty led)).objs.size = s.heap.objs.size + 1 := Heap.size_push _ _
        have nel : l ≠ (s.heap.push (empty led)).objs.size := by
          rw [psz]
          exact Nat.ne_of_lt (Nat.lt_succ_of_lt llt)
        have nez : s.heap.objs.size ∉ [(s.heap.push (empty led)).objs.size, l] := by
          rw [psz]
          simp only [List.mem_cons, List.not_mem_nil, or_false, not_or]
          exact ⟨Nat.ne_of_lt (Nat.lt_succ_self _), Nat.ne_of_gt llt⟩
        refine wpAny_pyIter_list isl (wpAny_bind (wpAny_runValue (turns ((Walks.list nohd _ l nel its).toS) s.heap.objs.size nez xs hx (by omega) val (its.size - 0) 0 _ (by omega) (Nat.zero_le _) ⟨⟨_, Heap.get?_push_size _ rfl, rfl, rfl⟩, isl.push _⟩ ?_ ?_)))
        · exact (setObjOf_fresh (knd := PySem.strKind pr wd) led).setOf (Heap.get?_push_of_some _ atz) (by unfold scanBound; omega)
        · rintro ⟨h', g', d', tk', os'⟩ mv hd
          obtain rfl : g' = s.gens := mv.gens
          obtain rfl : d' = s.drawn := mv.drawn
          obtain rfl : os' = s.os := mv.os
          refine (show wpAny _ _ _ _ _ _ from wpAny_pure (show wpAny _ _ (ret Value.none) _ _ _ from wpAny_pure ⟨rfl, h', tk', rfl, hx ▸ hd, fun b o hb e => ?_⟩))
          refine mv.heap b o ?_ (Heap.get?_push_of_some _ (Heap.get?_push_of_some _ e))
          rw [psz]
          simp only [List.mem_cons, List.not_mem_nil, or_false, not_or]
          exact ⟨Nat.ne_of_lt hb, Nat.ne_of_lt (Nat.lt_succ_of_lt hb)⟩
      · cases r2 with
        | error e => exact hr2
        | ok f2 =>
          cases f2 with
          | next => exact hr2.elim
          | brk => exact hr2.elim
          | cont => exact hr2.elim
          | ret v2 =>
            obtain ⟨rfl, h', tk, rfl, hd, kp⟩ := hr2
            repeat (any_goals (first | assumption | wp_step))
            exact q _ _ hd kp
end
section
variable {pr : Program} {wd : World} {A : Around} {E : Value → Shared → Prop} {s : Shared}
set_option maxHeartbeats 4000000 in
theorem call_set_tuple {l : Addr} {its : Array Value} {xs : List Str} {Q : Value → Shared → Prop} (hh : A.handled = none) (hl : s.heap.IsTuple l its) (hx : xs.length = its.size) (hn : xs.length + 1 < scanBound)
    (val : ∀ (i : Nat) (v : Value), its[i]? = some v → ∃ t x, xs[i]? = some x ∧ v = .str x t)
    (q : ∀ (h' : Heap) (tk : Nat), Holds pr wd h' s.heap.objs.size xs xs.length → (∀ b o, b < s.heap.objs.size → s.heap.get? b = some o → h'.get? b = some o) → Q (.ref s.heap.objs.size) { s with heap := h', toks := tk }) :
    wpAny (model pr wd) A (call (.type "set") [.ref l]) Q E s := by
  obtain ⟨mc, ml, mro⟩ := PySem.F.called_set.mro
  have made := PySem.F.called_set.made
  have subt := PySem.F.called_set.sub
  refine wpAny_call (codeAny_of_tree (show wpAny _ _ (callAny (.type "set") _) _ _ _ from wpAny_pure ⟨Code.quiet_builtin _ (by decide +kernel), codeAny_builtin PySem.F.entry_type_call ?_⟩))
  rw [Around.under_plain (weight_type_call_type "set" [.ref l] []) rfl]
  have notT := PySem.F.called_set.notType
  have canC := PySem.F.called_set.canCreate
  have tcall := PySem.F.typeCall_set_1 (.ref l)
  repeat (any_goals (first | assumption | wp_step))
  refine codeAny_mono (code_set_new_1 (.ref l) (E := E) (Q₁ := fun ob s1 => ∃ led : Bool, ob = .ref s.heap.objs.size ∧ s1 = { s with heap := s.heap.push (empty led) }) fun led => ⟨led, rfl, rfl⟩) fun r s1 hr => ?_
  cases r with
  | error e => exact hr
  | ok fl =>
    cases fl with
    | next => exact hr.elim
    | brk => exact hr.elim
    | cont => exact hr.elim
    | ret ob =>
      obtain ⟨led, rfl, rfl⟩ := hr
      have atz : (s.heap.push (empty led)).get? s.heap.objs.size = some (empty led) := Heap.get?_push_size _ rfl
      have isz : Shared.TypeIs { s with heap := s.heap.push (empty led) } (.ref s.heap.objs.size) "set" := ⟨_, atz, rfl⟩
      have ilook := PySem.F.called_set.init.lookup
      have ibind := PySem.F.called_set.init.bind (.ref s.heap.objs.size)
      repeat (any_goals (first | assumption | wp_step))
      refine codeAny_mono (codeAny_call_builtin (R := wants (fun r s2 => r = .none ∧ ∃ h' tk, s2 = { s with heap := h', toks := tk } ∧ Holds pr wd h' s.heap.objs.size xs xs.length ∧ (∀ b o, b < s.heap.objs.size → s.heap.get? b = some o → h'.get? b = some o)) E)
        PySem.F.called_set.init.plain PySem.F.entry_set_init (check_set_init_1 isz ?_)) fun r2 s2 hr2 => ?_
      · obtain ⟨⟨oc, od, dt, osl⟩, gl, gc, nl, gd⟩ := hl
        simp only at gc gd
        subst gc gd
        have gl2 : (s.heap.push (empty led)).get? l = some { cls := .type "tuple", dict := od, data := .seq its nl, slots := osl } := Heap.get?_push_of_some _ gl
        have su1 := PySem.F.sub_tuple_set
        have su2 := PySem.F.sub_tuple_frozenset
        have nodict : (Value.type "tuple" == Value.type "dict") = false := by decide
        have isl : (s.heap.push (empty led)).IsTuple l its := ⟨_, gl2, rfl, nl, rfl⟩
        unfold Builtin.«set.__init__» noKeywords Builtin.Frozenset.updateFrom
        generalize hPI : pyIter = PI
        wp_walk
        subst hPI
        have llt : l < s.heap.objs.size := Heap.lt_size gl
        have nohd : A.in1.in1.in1.handled = none := by simp [hh]
        have psz : (s.heap.push (empty led)).objs.size = s.heap.objs.size + 1 := Heap.size_push _ _
        have nel : l ≠ (s.heap.push (empty led)).objs.size := by
          rw [psz]
          exact Nat.ne_of_lt (Nat.lt_succ_of_lt llt)
        have nez : s.heap.objs.size ∉ [(s.heap.push (empty led)).objs.size, l] := by
          rw [psz]
          simp only [List.mem_cons, List.not_mem_nil, or_false, not_or]
          exact ⟨Nat.ne_of_lt (Nat.lt_succ_self _), Nat.ne_of_gt llt⟩
        refine wpAny_pyIter_tuple isl (wpAny_bind (wpAny_runValue (turns ((Walks.tuple nohd _ l nel its).toS) s.heap.objs.size nez xs hx (by omega) val (its.size - 0) 0 _ (by omega) (Nat.zero_le _) ⟨⟨_, Heap.get?_push_size _ rfl, rfl, rfl⟩, isl.push _⟩ ?_ ?_)))
        · exact (setObjOf_fresh (knd := PySem.strKind pr wd) led).setOf (Heap.get?_push_of_some _ atz) (by unfold scanBound; omega)
        · rintro ⟨h', g', d', tk', os'⟩ mv hd
          obtain rfl : g' = s.gens := mv.gens
          obtain rfl : d' = s.drawn := mv.drawn
          obtain rfl : os' = s.os := mv.os
          refine (show wpAny _ _ _ _ _ _ from wpAny_pure (show wpAny _ _ (ret Value.none) _ _ _ from wpAny_pure ⟨rfl, h', tk', rfl, hx ▸ hd, fun b o hb e => ?_⟩))
          refine mv.heap b o ?_ (Heap.get?_push_of_some _ (Heap.get?_push_of_some _ e))
          rw [psz]
          simp only [List.mem_cons, List.not_mem_nil, or_false, not_or]
          exact ⟨Nat.ne_of_lt hb, Nat.ne_of_lt (Nat.lt_succ_of_lt hb)⟩
      · cases r2 with
        | error e => exact hr2
        | ok f2 =>
          cases f2 with
          | next => exact hr2.elim
          | brk => exact hr2.elim
          | cont => exact hr2.elim
          | ret v2 =>
            obtain ⟨rfl, h', tk, rfl, hd, kp⟩ := hr2
            repeat (any_goals (first | assumption | wp_step))
            exact q _ _ hd kp
end
end SetT
end He

namespace He
open PySem PySem.Spec PyProof.Rows L2
section
variable {P : Program} {w : World} {K : PySem.W.Frag} {mg : Str → Option Value} {base : Heap}

/-! ### a list or a tuple, walked -/
def SeqIt (K : PySem.W.Frag) (H : Hp) (a : Addr) (xs : List V) (J : It) : Prop := (J = Itl K a ∧ SqL K H a xs) ∨ (J = Itt K a ∧ SqT K H a xs)
def Sq (K : PySem.W.Frag) (H : Hp) (a : Addr) (xs : List V) : Prop := SqL K H a xs ∨ SqT K H a xs
theorem Sq.it {H : Hp} {a : Addr} {xs : List V} (h : Sq K H a xs) : ∃ J, SeqIt K H a xs J := by
  rcases h with h | h
  · exact ⟨_, .inl ⟨rfl, h⟩⟩
  · exact ⟨_, .inr ⟨rfl, h⟩⟩
theorem Sq.mono {H H' : Hp} {a : Addr} {xs : List V} (s : Same H H') (h : Sq K H a xs) : Sq K H' a xs := by
  rcases h with h | h
  · exact .inl (s.seq h)
  · exact .inr (Same.seqT s h)
def iSeq (K : PySem.W.Frag) (tl : TE) : TI := fun σ H R => tl σ H fun x H1 => ∃ a xs J, x = .ref a ∧ SeqIt K H1 a xs J ∧ R J H1
theorem pi_seq {X : Cx} {tg : Expr} {l : Expr} {tl : TE} (hl : PE X l tl) : PI X tg l (iSeq X.K tl) := by
  refine ⟨fun pins s σ H R I h => thn (hl.run pins s σ H _ I h) fun v s1 ⟨x, H1, I1, r1, q1⟩ => ?_⟩
  obtain ⟨a, xs, J, rfl, hJ, q⟩ := q1
  cases r1
  have fin : ∀ b ∈ [s1.heap.objs.size], FpOk X pins H1 b := fun b hb => by
    obtain rfl := List.mem_singleton.mp hb
    exact I1.fpOk (Nat.le_refl _) (I1.hok.fresh (Nat.le_refl _))
  rcases hJ with ⟨rfl, hq⟩ | ⟨rfl, hq⟩
  · obtain ⟨its, rv, pl, _⟩ := I1.list hq
    exact wpAny_pyIter_list pl.isList ⟨_, [_], _, _, H1, rfl, I1.kept (t' := s1.toks) fun b o e => Heap.get?_push_of_some _ e, turn_list a _, ⟨_, Heap.get?_push_size _ rfl, rfl, rfl⟩, fin, q⟩
  · obtain ⟨its, rv, pl, _⟩ := I1.tuple hq
    exact wpAny_pyIter_tuple (show s1.heap.IsTuple a its.toArray from pl) ⟨_, [_], _, _, H1, rfl, I1.kept (t' := s1.toks) fun b o e => Heap.get?_push_of_some _ e, turn_tuple a _, ⟨_, Heap.get?_push_size _ rfl, rfl, rfl⟩, fin, q⟩
/-- a comprehension whose turns only make new things: the i-th value with Y i of it -/
theorem lg_pure {H1 : Hp} {a D : Addr} {xs : List V} {J : It} {g : TG} {te : TE} {vs : List Nat} {σ : L2.St} {Qd : Hp → Prop} (Y : Nat → V → Hp → Prop) (hJ : SeqIt K H1 a xs J) (hn : xs.length < sizeLine) (nD : H1 D = none)
    (mono : ∀ i y H H', Same H H' → Y i y H → Y i y H')
    (turn : ∀ (i : Nat) (x : V) (H : Hp) (Φ : V → Hp → Prop), xs[i]? = some x → Same H1 H → H D ≠ none → (∀ y H3, Same H H3 → Y i y (hide D H3) → Φ y H3) → g x (wipe σ vs) H fun σ2 H2 => wipe σ2 vs = wipe σ vs ∧ te σ2 H2 Φ)
    (done : ∀ (ys : List V) (H : Hp), Same H1 H → H D = some (.lst ys) → ys.length = xs.length → (∀ (i : Nat) (y : V), ys[i]? = some y → Y i y (hide D H)) → Qd H) : LcGoes J g tYes te vs σ H1 D Qd := by
  have hsame : ∀ {H : Hp} {o : HO}, Same H1 H → Same H1 (upd H D o) := fun s b o e => by
    rw [upd_ne (ne_of_none e nD)]
    exact s b o e
  have hD : ∀ {H : Hp} {o : HO}, Same (hide D H) (hide D (upd H D o)) := hide_upd
  let Pv : Nat → Hp → Prop := fun i H => ∃ ys, Same H1 H ∧ H D = some (.lst ys) ∧ ys.length = i ∧ ∀ (j : Nat) (y : V), ys[j]? = some y → Y j y (hide D H)
  have p0 : Pv 0 (upd H1 D (.lst [])) := ⟨[], hsame (Same.refl H1), upd_same, rfl, fun j y e => nomatch e⟩
  have ps : ∀ i x H, xs[i]? = some x → Pv i H → g x (wipe σ vs) H fun σ2 H2 => wipe σ2 vs = wipe σ vs ∧ tYes σ2 H2 fun b H3 =>
      if b = true then te σ2 H3 fun y H4 => ∃ acc, H4 D = some (.lst acc) ∧ acc.length < sizeLine ∧ Pv (i + 1) (upd H4 D (.lst (acc ++ [y]))) else Pv (i + 1) H3 := by
    rintro i x H hx ⟨ys, s1, eD, hl, hY⟩
    have hi : i < xs.length := (List.getElem?_eq_some_iff.mp hx).1
    have t := turn i x H (fun y H4 => ∃ acc, H4 D = some (.lst acc) ∧ acc.length < sizeLine ∧ Pv (i + 1) (upd H4 D (.lst (acc ++ [y])))) hx s1 (by rw [eD]; exact fun z => nomatch z) fun y H3 s3 hy => by
      refine ⟨ys, s3 _ _ eD, by omega, ys ++ [y], hsame (s1.trans s3), upd_same, by rw [List.length_append, hl]; rfl, fun j z e => ?_⟩
      refine mono j z _ _ hD ?_
      by_cases hj : j < ys.length
      · rw [List.getElem?_append_left hj] at e
        exact mono j z _ _ (hide_same s3) (hY j z e)
      · rw [List.getElem?_append_right (by omega)] at e
        have hj0 : j - ys.length = 0 := by
          rcases Nat.eq_zero_or_pos (j - ys.length) with h | h
          · exact h
          · rw [List.getElem?_eq_none (by simp; omega)] at e
            cases e
        rw [hj0] at e
        obtain rfl : y = z := Option.some.inj e
        have : j = i := by omega
        rw [this]
        exact hy
    exact t
  have pd : ∀ H, Pv xs.length H → Qd H := fun H ⟨ys, s1, eD, hl, hY⟩ => done ys H s1 eD hl hY
  rcases hJ with ⟨rfl, hq⟩ | ⟨rfl, hq⟩
  · exact lg_list Pv p0 (fun i H _ ⟨ys, s1, _⟩ => s1.seq hq) ps pd
  · exact lg_tup Pv p0 (fun i H _ ⟨ys, s1, _⟩ => Same.seqT s1 hq) ps pd
/-! ### len(set(texts)) -/
def tLenSetT (K : PySem.W.Frag) (ta : TE) : TE := fun σ H Q => ta σ H fun x H1 => ∃ l, ∃ xs : List Str, x = .ref l ∧ Sq K H1 l (xs.map V.str) ∧ xs.length < 4000 ∧ Q (.int ((SetT.once xs).length : Nat)) H1
theorem vals_str {xs : List Str} {us : List Value} (r : Vals (xs.map V.str) us) (i : Nat) (v : Value) (h : us[i]? = some v) : ∃ t x, xs[i]? = some x ∧ v = .str x t := by
  have hl := r.length
  rw [List.length_map] at hl
  have hi : i < us.length := (List.getElem?_eq_some_iff.mp h).1
  obtain ⟨u, e, t, ru⟩ := r.get (i := i) (x := .str (xs[i]'(by omega))) (by rw [List.getElem?_map, List.getElem?_eq_getElem (by omega)]; rfl)
  rw [h] at e
  cases e
  exact ⟨t, _, List.getElem?_eq_getElem (by omega), ru⟩
theorem pe_lenSetT {X : Cx} {a : Expr} {ta : TE} {p p2 q pos : Pos} (hc : X.calm = true) (hg : Gl X "len") (hm : X.mg "len" = none) (hg2 : Gl X "set") (hm2 : X.mg "set" = none) (ha : PE X a ta)
    (na : starEach [a] X.env = (false, eval a X.env) :: starEach [] X.env := by rfl) : PE X (.Call (.Name "len" p) [.Call (.Name "set" p2) [a] [] q] [] pos) (tLenSetT X.K ta) := by
  refine ⟨fun pins s σ H Q I h => Call_ (ld_blt I hg hm PySem.boot_len (PyProof.Rows.callWith_builtin1 (PyProof.Rows.args_cons ?_ rfl) rfl rfl))⟩
  refine Call_ (ld_blt I hg2 hm2 (show bootBuiltins "set" = some (.type "set") by decide +kernel) (PyProof.Rows.callWith_type1 (PyProof.Rows.args_cons (thn (ha.run pins s σ H _ I h) fun v s1 ⟨x, H1, I1, r1, q1⟩ => PyProof.Rows.args_nil ?_) na) na rfl))
  obtain ⟨l, xs, rfl, hq, hn, q1⟩ := q1
  cases r1
  have rest : ∀ (h' : Heap) (tk : Nat), SetT.Holds X.prog X.w h' s1.heap.objs.size xs xs.length → (∀ b o, b < s1.heap.objs.size → s1.heap.get? b = some o → h'.get? b = some o) →
      wpAny (model X.prog X.w) X.A (spliced (backTo pos (starEach [] X.env))) (fun vs s2 => wpAny (model X.prog X.w) X.A (call (.builtin "len") (Value.ref s1.heap.objs.size :: vs)) (EP X pins σ Q) X.xe s2) X.xe { s1 with heap := h', toks := tk } := by
    intro h' tk hd kp
    refine PyProof.Rows.args_nil ?_
    obtain ⟨ob, es, ep, tb, eo, ex, ed, _, _, _, hf, hz⟩ := hd
    rw [List.take_length] at hz
    have I2 : Inv X pins σ H1 { s1 with heap := h', toks := tk } := I1.kept fun b o e => kp b o (Heap.lt_size e) e
    have := SetT.once_le xs
    exact call_len_set eo ex ed hf (by omega) ⟨.int ((SetT.once xs).length : Nat), H1, I2.tok _, ⟨_, by rw [hz]⟩, q1⟩
  have hb : xs.length + 1 < scanBound := by unfold scanBound; omega
  rcases hq with hq | hq
  · obtain ⟨its, r, pl, _⟩ := I1.list hq
    exact SetT.call_set_list (I1.ok.hd hc) pl.isList (by rw [List.size_toArray, ← r.length, List.length_map]) hb (fun i v e => vals_str r i v (by simpa using e)) rest
  · obtain ⟨its, r, pl, _⟩ := I1.tuple hq
    exact SetT.call_set_tuple (I1.ok.hd hc) pl (by rw [List.size_toArray, ← r.length, List.length_map]) hb (fun i v e => vals_str r i v (by simpa using e)) rest

end
end He

namespace He
open PySem PySem.Spec PyProof.Rows L2
section
variable {P : Program} {w : World} {K : PySem.W.Frag} {mg : Str → Option Value} {base : Heap}

theorem adOkA_get {K : PySem.W.Frag} : ∀ {ds : List AD} {i : Nat} {d : AD}, AdOkA K ds → ds[i]? = some d → AdOk K d
  | [], i, d, _, e => by simp at e
  | _ :: _, 0, d, h, e => by
    cases Option.some.inj e
    exact h.1
  | _ :: ds, i + 1, d, h, e => adOkA_get (i := i) h.2 e
theorem avA_get2 {H : Hp} : ∀ {vs : List V} {ds : List AD} {i : Nat} {d : AD}, AvAll K H vs ds → ds[i]? = some d → ∃ v, vs[i]? = some v ∧ Av K H v d
  | _, _, i, _, .nil, e => by simp at e
  | _, _, 0, _, .cons a _, e => by
    cases (Option.some.inj e)
    exact ⟨_, rfl, a⟩
  | _, _, i + 1, _, .cons _ b, e => avA_get2 (i := i) b e
/-- a sequence's items -/
def itemsA : AD → Option (List AD) | .lst ds => some ds | .tup ds => some ds | _ => none
theorem av_items {H : Hp} {v : V} {d : AD} {ds : List AD} (h : Av K H v d) (e : itemsA d = some ds) : ∃ a xs, v = .ref a ∧ Sq K H a xs ∧ AvAll K H xs ds := by
  cases h with
  | lst hs ha => cases (Option.some.inj e); exact ⟨_, _, rfl, .inl hs, ha⟩
  | tup hs ha => cases (Option.some.inj e); exact ⟨_, _, rfl, .inr hs, ha⟩
  | non => cases e
  | bl b => cases e
  | int i => cases e
  | str x => cases e
  | ins a b => cases e
theorem ok_items {d : AD} {ds : List AD} (h : AdOk K d) (e : itemsA d = some ds) : ds.length < 4000 ∧ AdOkA K ds := by
  cases d <;> first | (cases (Option.some.inj e); exact h) | cases e
theorem seq_items (d : AD) : isSeqA d = (itemsA d).isSome := by cases d <;> rfl
/-- the texts, if all are -/
def strsA : List AD → Option (List Str)
  | [] => some []
  | .str x :: r => (strsA r).map (x :: ·)
  | _ :: _ => none
def grpA (d : AD) : Option (List Str) := match itemsA d with
  | some ds => if ds.isEmpty then none else if ds.all isNameA then (match strsA ds with | some xs => if xs.Nodup then some xs else none | none => none) else none
  | none => none
def isGrpA (d : AD) : Bool := (grpA d).isSome
theorem names_strs : ∀ {ds : List AD}, ds.all isNameA = true → ∃ xs, strsA ds = some xs ∧ ∀ x ∈ xs, nameB x = true
  | [], _ => ⟨[], rfl, fun _ h => nomatch h⟩
  | d :: r, h => by
    rw [List.all_cons, Bool.and_eq_true] at h
    obtain ⟨xs, e, hn⟩ := names_strs h.2
    cases d with
    | str x =>
      refine ⟨x :: xs, ?_, fun y hy => ?_⟩
      · show (strsA r).map (x :: ·) = _
        rw [e]
        rfl
      · rcases List.mem_cons.mp hy with rfl | hy
        · exact h.1
        · exact hn y hy
    | _ => exact nomatch h.1
theorem av_strs {H : Hp} : ∀ {vs : List V} {ds : List AD} {xs : List Str}, AvAll K H vs ds → strsA ds = some xs → vs = xs.map V.str
  | _, _, _, .nil, e => by cases (Option.some.inj e); rfl
  | v :: vs, d :: ds, xs, .cons a b, e => by
    cases a with
    | str x =>
      cases h : strsA ds with
      | none => rw [show strsA (.str x :: ds) = (strsA ds).map (x :: ·) from rfl, h] at e; cases e
      | some ys =>
        rw [show strsA (.str x :: ds) = (strsA ds).map (x :: ·) from rfl, h] at e
        cases (Option.some.inj e)
        rw [av_strs b h]
        rfl
    | _ => cases e
theorem bl_list {f : AD → Bool} {ds : List AD} {ys : List V} (hl : ys.length = ds.length) (h : ∀ (i : Nat) (y : V), ys[i]? = some y → ∃ d, ds[i]? = some d ∧ y = .bl (f d)) : ys = (ds.map f).map V.bl := by
  refine List.ext_getElem? fun i => ?_
  rw [List.getElem?_map, List.getElem?_map]
  cases e : ys[i]? with
  | none =>
    rw [List.getElem?_eq_none (by have := List.getElem?_eq_none_iff.mp e; omega)]
    rfl
  | some y =>
    obtain ⟨d, e2, rfl⟩ := h i y e
    rw [e2]
    rfl
/-- [f(x) for x in xs], f a test of any value -/
theorem lg_is {H1 : Hp} {a D : Addr} {xs : List V} {ds : List AD} {J : It} {i : Nat} {σ : L2.St} {Qd : Hp → Prop} {f : AD → Bool} (hJ : SeqIt K H1 a xs J) (hv : AvAll K H1 xs ds) (ho : AdOkA K ds) (hn : ds.length < 4000) (hi : i < σ.length) (nD : H1 D = none)
    (done : ∀ H : Hp, Same H1 H → H D = some (.lst ((ds.map f).map V.bl)) → Qd H) : LcGoes J (gName i) tYes (tCall (spIs K f) [] E0 (tCons (tVar i) tNil)) [i] σ H1 D Qd := by
  have hl := avA_len hv
  refine lg_pure (fun j y _ => ∃ d, ds[j]? = some d ∧ y = .bl (f d)) hJ (Nat.lt_of_lt_of_le (by omega : xs.length < 4000) (by decide)) nD (fun _ _ _ _ _ h => h) (fun j x H Φ hx s1 _ hΦ => ?_) (fun ys H s1 eD hl2 hY => ?_)
  · show wipe ((wipe σ [i]).set i (some x)) [i] = wipe σ [i] ∧ _
    refine ⟨by show ((σ.set i none).set i (some x)).set i none = σ.set i none; rw [List.set_set, List.set_set], ?_⟩
    obtain ⟨d, hd, hx2⟩ := avA_get hv hx
    refine ⟨x, ?_, ?_⟩
    · show ((σ.set i none).set i (some x))[i]? = _
      rw [List.set_set, List.getElem?_set_self hi]
    · exact ⟨x, d, rfl, av_mono s1 d x hx2, adOkA_get ho hd, fun H2 s2 => hΦ _ _ s2 ⟨d, hd, rfl⟩⟩
  · refine done H s1 ?_
    rw [eD, bl_list (f := f) (by rw [hl2, hl]) hY]
theorem ok_isgroup (T : TxtG K mg) : FnOk P w K mg base CX0 2 T.dIsGroup.f T.dIsGroup.fd ["value"] (spIs K isGrpA) := by
  refine T.dIsGroup.F.ok scDIsGroup (fun vs H Q E h => ?_) (fun cdv A outer s H vs Q E hr h => ?_)
  · obtain ⟨v, d, rfl, _⟩ := h
    rfl
  · obtain ⟨v, d, rfl, hv, hd, q⟩ := h
    refine ⟨_, (pss_cons (ps_if (PW.pt (pw_or (pt_not (pt_val (pe_call (ok_isseq T) (hr.mono (by decide)) (by rfl) T.dIsSequence.g T.dIsSequence.F.kp T.dIsSequence.b .nil pass0 (pa_cons (pv 0) pa_nil)))) (pw_or1 (pt_cmpR op_eq (pe_callB call_len_seq (by rfl) T.z_len (show bootBuiltins "len" = some (.builtin "len") by decide +kernel) (pa_cons (pv 0) pa_nil)) pe_int (nomark _)))))
      (pss_one (ps_ret pe_bl))
      pss_nil)
      (pss_one (ps_ret (pe_and (pe_callB (cr_all rfl) (by rfl) T.z_all (show bootBuiltins "all" = some (.builtin "all") by decide +kernel) (pa_cons (pe_lc (own := [("name", 1)]) (g := (gName 1)) (tt := tYes) rfl scDIsGroup.nd (pi_seq (pv 0)) (blkOk_by (N := ["value", "name"]) (sc := defScope sDIsGroup) (by decide +kernel)) (fun _ _ _ _ _ => (pg_name (i := 1) scDIsGroup.nd rfl (.inl rfl))) (fun _ _ _ _ _ => pts_nil) (fun _ _ _ _ _ => (pe_call (ok_isname T) (hr.mono (by decide)) (by rfl) T.dIsName.g T.dIsName.F.kp T.dIsName.b .nil pass0 (pa_cons (pv 1) pa_nil)))) pa_nil)) (pe_one (pe_cmpR op_eq (pe_lenSetT rfl (by rfl) T.z_len (by rfl) T.z_set (pv 0)) (pe_callB call_len_seq (by rfl) T.z_len (show bootBuiltins "len" = some (.builtin "len") by decide +kernel) (pa_cons (pv 0) pa_nil)) (nomark _))))))), ?_⟩
    simp only [and_assoc, tSeq, tAsg, tOp, tUn, rI, rI0, rU, tVar, tC, gName, L2.start, tIfS, tTest, tB, tCB, tCons, tNil, tIf, tRet, tRetN, tLst, tTup, tNext, tDrop, tNot, tNotV, tAnd, tOr, tAndV, tOrV, tPar, tAug, ipI, rEq, rNe, gSub, rSetL, rIxL, rIxT, tBM, tBM0, rAppend, rPopAt, gTup, gCons, gNil, tCall, tSl, tPart, tNoPart, rSlL, rCat, rEqD, rNeD, rIn, scal, List.map_cons, List.map_nil, List.length_cons, List.length_nil, List.length_map, List.cons_append, List.nil_append, List.append_nil, List.replicate, List.getElem?_cons_zero, List.getElem?_cons_succ, List.set_cons_zero, List.set_cons_succ, Option.some.injEq, exists_eq_left', exists_eq_left, exists_eq_right, exists_and_left, exists_and_right, V.int.injEq, V.ref.injEq, V.str.injEq, V.bl.injEq, reduceCtorEq, false_and, and_false, exists_false, or_false, false_or, true_and, and_true, List.cons.injEq, decide_eq_true_eq, cxOf, if_true, if_false, Bool.false_eq_true, Nat.reduceAdd, Nat.reduceSub, Nat.zero_add, Nat.add_sub_cancel_left, Nat.add_sub_cancel, Nat.sub_self, tFor_eq, tLc_eq, iRng1, iRng2, iList, iTup, iEnum, rIsi, rIsiT, spIs, tLenSetT, rAll, iSeq]
    refine ⟨d, hv, hd, fun H1 s1 => ?_⟩
    rw [seq_items]
    cases ei : itemsA d with
    | none =>
      simp only [and_assoc, tSeq, tAsg, tOp, tUn, rI, rI0, rU, tVar, tC, gName, L2.start, tIfS, tTest, tB, tCB, tCons, tNil, tIf, tRet, tRetN, tLst, tTup, tNext, tDrop, tNot, tNotV, tAnd, tOr, tAndV, tOrV, tPar, tAug, ipI, rEq, rNe, gSub, rSetL, rIxL, rIxT, tBM, tBM0, rAppend, rPopAt, gTup, gCons, gNil, tCall, tSl, tPart, tNoPart, rSlL, rCat, rEqD, rNeD, rIn, scal, List.map_cons, List.map_nil, List.length_cons, List.length_nil, List.length_map, List.cons_append, List.nil_append, List.append_nil, List.replicate, List.getElem?_cons_zero, List.getElem?_cons_succ, List.set_cons_zero, List.set_cons_succ, Option.some.injEq, exists_eq_left', exists_eq_left, exists_eq_right, exists_and_left, exists_and_right, V.int.injEq, V.ref.injEq, V.str.injEq, V.bl.injEq, reduceCtorEq, false_and, and_false, exists_false, or_false, false_or, true_and, and_true, List.cons.injEq, decide_eq_true_eq, cxOf, if_true, if_false, Bool.false_eq_true, Nat.reduceAdd, Nat.reduceSub, Nat.zero_add, Nat.add_sub_cancel_left, Nat.add_sub_cancel, Nat.sub_self, tFor_eq, tLc_eq, iRng1, iRng2, iList, iTup, iEnum, rIsi, rIsiT, Option.isSome_none, Bool.not_false]
      have e : isGrpA d = false := by unfold isGrpA grpA; rw [ei]; rfl
      rw [← e]
      exact q _ s1
    | some ds =>
      simp only [and_assoc, tSeq, tAsg, tOp, tUn, rI, rI0, rU, tVar, tC, gName, L2.start, tIfS, tTest, tB, tCB, tCons, tNil, tIf, tRet, tRetN, tLst, tTup, tNext, tDrop, tNot, tNotV, tAnd, tOr, tAndV, tOrV, tPar, tAug, ipI, rEq, rNe, gSub, rSetL, rIxL, rIxT, tBM, tBM0, rAppend, rPopAt, gTup, gCons, gNil, tCall, tSl, tPart, tNoPart, rSlL, rCat, rEqD, rNeD, rIn, scal, List.map_cons, List.map_nil, List.length_cons, List.length_nil, List.length_map, List.cons_append, List.nil_append, List.append_nil, List.replicate, List.getElem?_cons_zero, List.getElem?_cons_succ, List.set_cons_zero, List.set_cons_succ, Option.some.injEq, exists_eq_left', exists_eq_left, exists_eq_right, exists_and_left, exists_and_right, V.int.injEq, V.ref.injEq, V.str.injEq, V.bl.injEq, reduceCtorEq, false_and, and_false, exists_false, or_false, false_or, true_and, and_true, List.cons.injEq, decide_eq_true_eq, cxOf, if_true, if_false, Bool.false_eq_true, Nat.reduceAdd, Nat.reduceSub, Nat.zero_add, Nat.add_sub_cancel_left, Nat.add_sub_cancel, Nat.sub_self, tFor_eq, tLc_eq, iRng1, iRng2, iList, iTup, iEnum, rIsi, rIsiT, Option.isSome_some, Bool.not_true]
      obtain ⟨a, xs, rfl, hs, ha⟩ := av_items hv ei
      obtain ⟨hn, ho⟩ := ok_items hd ei
      have hl := avA_len ha
      refine ⟨a, rfl, xs, hs.mono s1, ?_⟩
      by_cases h0 : ds = []
      · rw [if_pos (by rw [hl, h0]; rfl)]
        have e : isGrpA d = false := by unfold isGrpA grpA; rw [ei, h0]; rfl
        rw [← e]
        exact q _ s1
      · have hpos : 0 < ds.length := List.length_pos_iff.mpr h0
        rw [if_neg (by omega)]
        obtain ⟨J, hJ⟩ := (hs.mono s1).it
        refine ⟨a, rfl, xs, J, hJ, fun D nD => lg_is hJ (avA_mono s1 _ _ ha) ho hn (by decide : 1 < 2) nD fun H2 s2 eD => ⟨_, sqL_of eD, ?_⟩⟩
        have ea : (ds.map isNameA).all id = ds.all isNameA := by rw [List.all_map]; rfl
        rw [ea]
        have hie : ds.isEmpty = false := by cases ds with | nil => exact absurd rfl h0 | cons _ _ => rfl
        cases hall : ds.all isNameA with
        | false =>
          simp only [and_assoc, tSeq, tAsg, tOp, tUn, rI, rI0, rU, tVar, tC, gName, L2.start, tIfS, tTest, tB, tCB, tCons, tNil, tIf, tRet, tRetN, tLst, tTup, tNext, tDrop, tNot, tNotV, tAnd, tOr, tAndV, tOrV, tPar, tAug, ipI, rEq, rNe, gSub, rSetL, rIxL, rIxT, tBM, tBM0, rAppend, rPopAt, gTup, gCons, gNil, tCall, tSl, tPart, tNoPart, rSlL, rCat, rEqD, rNeD, rIn, scal, List.map_cons, List.map_nil, List.length_cons, List.length_nil, List.length_map, List.cons_append, List.nil_append, List.append_nil, List.replicate, List.getElem?_cons_zero, List.getElem?_cons_succ, List.set_cons_zero, List.set_cons_succ, Option.some.injEq, exists_eq_left', exists_eq_left, exists_eq_right, exists_and_left, exists_and_right, V.int.injEq, V.ref.injEq, V.str.injEq, V.bl.injEq, reduceCtorEq, false_and, and_false, exists_false, or_false, false_or, true_and, and_true, List.cons.injEq, decide_eq_true_eq, cxOf, if_true, if_false, Bool.false_eq_true, Nat.reduceAdd, Nat.reduceSub, Nat.zero_add, Nat.add_sub_cancel_left, Nat.add_sub_cancel, Nat.sub_self, tFor_eq, tLc_eq, iRng1, iRng2, iList, iTup, iEnum, rIsi, rIsiT]
          have e : isGrpA d = false := by unfold isGrpA grpA; rw [ei]; simp only [hie, hall]; rfl
          rw [← e]
          exact q _ (s1.trans s2)
        | true =>
          simp only [and_assoc, tSeq, tAsg, tOp, tUn, rI, rI0, rU, tVar, tC, gName, L2.start, tIfS, tTest, tB, tCB, tCons, tNil, tIf, tRet, tRetN, tLst, tTup, tNext, tDrop, tNot, tNotV, tAnd, tOr, tAndV, tOrV, tPar, tAug, ipI, rEq, rNe, gSub, rSetL, rIxL, rIxT, tBM, tBM0, rAppend, rPopAt, gTup, gCons, gNil, tCall, tSl, tPart, tNoPart, rSlL, rCat, rEqD, rNeD, rIn, scal, List.map_cons, List.map_nil, List.length_cons, List.length_nil, List.length_map, List.cons_append, List.nil_append, List.append_nil, List.replicate, List.getElem?_cons_zero, List.getElem?_cons_succ, List.set_cons_zero, List.set_cons_succ, Option.some.injEq, exists_eq_left', exists_eq_left, exists_eq_right, exists_and_left, exists_and_right, V.int.injEq, V.ref.injEq, V.str.injEq, V.bl.injEq, reduceCtorEq, false_and, and_false, exists_false, or_false, false_or, true_and, and_true, List.cons.injEq, decide_eq_true_eq, cxOf, if_true, if_false, Bool.false_eq_true, Nat.reduceAdd, Nat.reduceSub, Nat.zero_add, Nat.add_sub_cancel_left, Nat.add_sub_cancel, Nat.sub_self, tFor_eq, tLc_eq, iRng1, iRng2, iList, iTup, iEnum, rIsi, rIsiT]
          obtain ⟨ns, en, _⟩ := names_strs hall
          have ex : xs = ns.map V.str := av_strs ha en
          have hnl : ns.length = ds.length := by rw [← hl, ex, List.length_map]
          have hs2 : Sq K H2 a xs := hs.mono (s1.trans s2)
          refine ⟨ns, by rw [← ex]; exact hs2, by omega, xs, hs2, ?_⟩
          have e : isGrpA d = decide (((SetT.once ns).length : Int) = (xs.length : Int)) := by
            have hiff := SetT.once_len ns
            unfold isGrpA grpA
            rw [ei]
            simp only [hie, hall, en]
            rw [show xs.length = ns.length by omega]
            by_cases hnd : ns.Nodup
            · rw [decide_eq_true (by rw [hiff.mpr hnd])]
              simp [hnd]
            · rw [decide_eq_false (fun z => hnd (hiff.mp (by omega)))]
              simp [hnd]
          rw [← e]
          exact q _ (s1.trans s2)

end
end He

namespace He
open PySem PySem.Spec PyProof.Rows L2
section
variable {P : Program} {w : World} {K : PySem.W.Frag} {mg : Str → Option Value} {base : Heap}

def isGrpsA (g : AD) : Bool := match itemsA g with | some gs => gs.all isGrpA | none => false
def wOkA : AD → Bool
  | .int n => decide (1 ≤ n)
  | _ => false
def isShA : AD → Bool
  | .tup [w, g] => wOkA w && isGrpsA g
  | _ => false
def isWillA (d : AD) : Bool := match itemsA d with | some ds => !ds.isEmpty && ds.all isShA | none => false
theorem pair_tup {d : AD} (h : isPairA d = true) : ∃ w g, d = .tup [w, g] := by
  match d, h with
  | .tup [w, g], _ => exact ⟨w, g, rfl⟩
theorem int_of {d : AD} (h : isIntA d = true) : ∃ n, d = .int n := by
  cases d with
  | int n => exact ⟨n, rfl⟩
  | _ => exact nomatch h
theorem ok_isshare (T : TxtG K mg) : FnOk P w K mg base CX0 3 T.dIsShare.f T.dIsShare.fd ["value"] (spIs K isShA) := by
  refine T.dIsShare.F.ok scDIsShare (fun vs H Q E h => ?_) (fun cdv A outer s H vs Q E hr h => ?_)
  · obtain ⟨v, d, rfl, _⟩ := h
    rfl
  · obtain ⟨v, d, rfl, hv, hd, q⟩ := h
    refine ⟨_, (pss_cons (ps_if (pt_not (pt_val (pe_call (ok_ispair T) (hr.mono (by decide)) (by rfl) T.dIsPair.g T.dIsPair.F.kp T.dIsPair.b .nil pass0 (pa_cons (pv 0) pa_nil))))
      (pss_one (ps_ret pe_bl))
      pss_nil)
      (pss_cons (ps_asg (pv 0) (pg_tup (n := 2) rfl (pgs_cons (pg_name (i := 1) scDIsShare.nd rfl (.inl rfl)) (pgs_cons (pg_name (i := 2) scDIsShare.nd rfl (.inl rfl)) pgs_nil))))
      (pss_cons (ps_if (PW.pt (pw_or (pt_not (pt_val (pe_call (ok_isint T) (hr.mono (by decide)) (by rfl) T.dIsInteger.g T.dIsInteger.F.kp T.dIsInteger.b .nil pass0 (pa_cons (pv 1) pa_nil)))) (pw_or (pt_cmpR op_lt (pv 1) pe_int (nomark _)) (pw_or1 (pt_not (pt_val (pe_call (ok_isseq T) (hr.mono (by decide)) (by rfl) T.dIsSequence.g T.dIsSequence.F.kp T.dIsSequence.b .nil pass0 (pa_cons (pv 2) pa_nil))))))))
      (pss_one (ps_ret pe_bl))
      pss_nil)
      (pss_one (ps_ret (pe_callB (cr_all rfl) (by rfl) T.z_all (show bootBuiltins "all" = some (.builtin "all") by decide +kernel) (pa_cons (pe_lc (own := [("group", 3)]) (g := (gName 3)) (tt := tYes) rfl scDIsShare.nd (pi_seq (pv 2)) (blkOk_by (N := ["value", "weight", "groups", "group"]) (sc := defScope sDIsShare) (by decide +kernel)) (fun _ _ _ _ _ => (pg_name (i := 3) scDIsShare.nd rfl (.inl rfl))) (fun _ _ _ _ _ => pts_nil) (fun _ _ _ _ _ => (pe_call (ok_isgroup T) (hr.mono (by decide)) (by rfl) T.dIsGroup.g T.dIsGroup.F.kp T.dIsGroup.b .nil pass0 (pa_cons (pv 3) pa_nil)))) pa_nil))))))), ?_⟩
    simp only [and_assoc, tSeq, tAsg, tOp, tUn, rI, rI0, rU, tVar, tC, gName, L2.start, tIfS, tTest, tB, tCB, tCons, tNil, tIf, tRet, tRetN, tLst, tTup, tNext, tDrop, tNot, tNotV, tAnd, tOr, tAndV, tOrV, tPar, tAug, ipI, rEq, rNe, gSub, rSetL, rIxL, rIxT, tBM, tBM0, rAppend, rPopAt, gTup, gCons, gNil, tCall, tSl, tPart, tNoPart, rSlL, rCat, rEqD, rNeD, rIn, scal, List.map_cons, List.map_nil, List.length_cons, List.length_nil, List.length_map, List.cons_append, List.nil_append, List.append_nil, List.replicate, List.getElem?_cons_zero, List.getElem?_cons_succ, List.set_cons_zero, List.set_cons_succ, Option.some.injEq, exists_eq_left', exists_eq_left, exists_eq_right, exists_and_left, exists_and_right, V.int.injEq, V.ref.injEq, V.str.injEq, V.bl.injEq, reduceCtorEq, false_and, and_false, exists_false, or_false, false_or, true_and, and_true, List.cons.injEq, decide_eq_true_eq, cxOf, if_true, if_false, Bool.false_eq_true, Nat.reduceAdd, Nat.reduceSub, Nat.zero_add, Nat.add_sub_cancel_left, Nat.add_sub_cancel, Nat.sub_self, tFor_eq, tLc_eq, iRng1, iRng2, iList, iTup, iEnum, rIsi, rIsiT, spIs, tLenSetT, rAll, iSeq]
    refine ⟨d, hv, hd, fun H1 s1 => ?_⟩
    cases hp : isPairA d with
    | false =>
      simp only [and_assoc, tSeq, tAsg, tOp, tUn, rI, rI0, rU, tVar, tC, gName, L2.start, tIfS, tTest, tB, tCB, tCons, tNil, tIf, tRet, tRetN, tLst, tTup, tNext, tDrop, tNot, tNotV, tAnd, tOr, tAndV, tOrV, tPar, tAug, ipI, rEq, rNe, gSub, rSetL, rIxL, rIxT, tBM, tBM0, rAppend, rPopAt, gTup, gCons, gNil, tCall, tSl, tPart, tNoPart, rSlL, rCat, rEqD, rNeD, rIn, scal, List.map_cons, List.map_nil, List.length_cons, List.length_nil, List.length_map, List.cons_append, List.nil_append, List.append_nil, List.replicate, List.getElem?_cons_zero, List.getElem?_cons_succ, List.set_cons_zero, List.set_cons_succ, Option.some.injEq, exists_eq_left', exists_eq_left, exists_eq_right, exists_and_left, exists_and_right, V.int.injEq, V.ref.injEq, V.str.injEq, V.bl.injEq, reduceCtorEq, false_and, and_false, exists_false, or_false, false_or, true_and, and_true, List.cons.injEq, decide_eq_true_eq, cxOf, if_true, if_false, Bool.false_eq_true, Nat.reduceAdd, Nat.reduceSub, Nat.zero_add, Nat.add_sub_cancel_left, Nat.add_sub_cancel, Nat.sub_self, tFor_eq, tLc_eq, iRng1, iRng2, iList, iTup, iEnum, rIsi, rIsiT, Bool.not_false]
      have e : isShA d = false := by
        match d, hp with
        | .tup [], _ => rfl
        | .tup [_], _ => rfl
        | .tup (_ :: _ :: _ :: _), _ => rfl
        | .non, _ => rfl
        | .bl _, _ => rfl
        | .int _, _ => rfl
        | .str _, _ => rfl
        | .lst _, _ => rfl
        | .ins _, _ => rfl
      rw [← e]
      exact q _ s1
    | true =>
      obtain ⟨wd, gd, rfl⟩ := pair_tup hp
      obtain ⟨a, xs, rfl, hs, ha⟩ : ∃ a xs, v = .ref a ∧ SqT K H a xs ∧ AvAll K H xs [wd, gd] := by
        cases hv with
        | tup hs' ha' => exact ⟨_, _, rfl, hs', ha'⟩
      obtain ⟨hn, ho⟩ := ok_items hd rfl
      simp only [and_assoc, tSeq, tAsg, tOp, tUn, rI, rI0, rU, tVar, tC, gName, L2.start, tIfS, tTest, tB, tCB, tCons, tNil, tIf, tRet, tRetN, tLst, tTup, tNext, tDrop, tNot, tNotV, tAnd, tOr, tAndV, tOrV, tPar, tAug, ipI, rEq, rNe, gSub, rSetL, rIxL, rIxT, tBM, tBM0, rAppend, rPopAt, gTup, gCons, gNil, tCall, tSl, tPart, tNoPart, rSlL, rCat, rEqD, rNeD, rIn, scal, List.map_cons, List.map_nil, List.length_cons, List.length_nil, List.length_map, List.cons_append, List.nil_append, List.append_nil, List.replicate, List.getElem?_cons_zero, List.getElem?_cons_succ, List.set_cons_zero, List.set_cons_succ, Option.some.injEq, exists_eq_left', exists_eq_left, exists_eq_right, exists_and_left, exists_and_right, V.int.injEq, V.ref.injEq, V.str.injEq, V.bl.injEq, reduceCtorEq, false_and, and_false, exists_false, or_false, false_or, true_and, and_true, List.cons.injEq, decide_eq_true_eq, cxOf, if_true, if_false, Bool.false_eq_true, Nat.reduceAdd, Nat.reduceSub, Nat.zero_add, Nat.add_sub_cancel_left, Nat.add_sub_cancel, Nat.sub_self, tFor_eq, tLc_eq, iRng1, iRng2, iList, iTup, iEnum, rIsi, rIsiT, Bool.not_true]
      have ha1 := avA_mono s1 _ _ ha
      cases ha1 with
      | @cons v1 _ _ _ w1 r1 =>
        cases r1 with
        | @cons v2 _ _ _ w2 r2 =>
          cases r2
          refine ⟨_, Same.seqT s1 hs, rfl, v1, _, rfl, v2, _, rfl, rfl, wd, w1, ho.1, fun H2 s2 => ?_⟩
          have w2' := av_mono s2 _ _ w2
          cases hi : isIntA wd with
          | false =>
            simp only [and_assoc, tSeq, tAsg, tOp, tUn, rI, rI0, rU, tVar, tC, gName, L2.start, tIfS, tTest, tB, tCB, tCons, tNil, tIf, tRet, tRetN, tLst, tTup, tNext, tDrop, tNot, tNotV, tAnd, tOr, tAndV, tOrV, tPar, tAug, ipI, rEq, rNe, gSub, rSetL, rIxL, rIxT, tBM, tBM0, rAppend, rPopAt, gTup, gCons, gNil, tCall, tSl, tPart, tNoPart, rSlL, rCat, rEqD, rNeD, rIn, scal, List.map_cons, List.map_nil, List.length_cons, List.length_nil, List.length_map, List.cons_append, List.nil_append, List.append_nil, List.replicate, List.getElem?_cons_zero, List.getElem?_cons_succ, List.set_cons_zero, List.set_cons_succ, Option.some.injEq, exists_eq_left', exists_eq_left, exists_eq_right, exists_and_left, exists_and_right, V.int.injEq, V.ref.injEq, V.str.injEq, V.bl.injEq, reduceCtorEq, false_and, and_false, exists_false, or_false, false_or, true_and, and_true, List.cons.injEq, decide_eq_true_eq, cxOf, if_true, if_false, Bool.false_eq_true, Nat.reduceAdd, Nat.reduceSub, Nat.zero_add, Nat.add_sub_cancel_left, Nat.add_sub_cancel, Nat.sub_self, tFor_eq, tLc_eq, iRng1, iRng2, iList, iTup, iEnum, rIsi, rIsiT, Bool.not_false]
            have e : isShA (.tup [wd, gd]) = false := by cases wd <;> first | rfl | (exact nomatch hi)
            rw [← e]
            exact q _ (s1.trans s2)
          | true =>
            obtain ⟨n, rfl⟩ := int_of hi
            cases w1
            simp only [and_assoc, tSeq, tAsg, tOp, tUn, rI, rI0, rU, tVar, tC, gName, L2.start, tIfS, tTest, tB, tCB, tCons, tNil, tIf, tRet, tRetN, tLst, tTup, tNext, tDrop, tNot, tNotV, tAnd, tOr, tAndV, tOrV, tPar, tAug, ipI, rEq, rNe, gSub, rSetL, rIxL, rIxT, tBM, tBM0, rAppend, rPopAt, gTup, gCons, gNil, tCall, tSl, tPart, tNoPart, rSlL, rCat, rEqD, rNeD, rIn, scal, List.map_cons, List.map_nil, List.length_cons, List.length_nil, List.length_map, List.cons_append, List.nil_append, List.append_nil, List.replicate, List.getElem?_cons_zero, List.getElem?_cons_succ, List.set_cons_zero, List.set_cons_succ, Option.some.injEq, exists_eq_left', exists_eq_left, exists_eq_right, exists_and_left, exists_and_right, V.int.injEq, V.ref.injEq, V.str.injEq, V.bl.injEq, reduceCtorEq, false_and, and_false, exists_false, or_false, false_or, true_and, and_true, List.cons.injEq, decide_eq_true_eq, cxOf, if_true, if_false, Bool.false_eq_true, Nat.reduceAdd, Nat.reduceSub, Nat.zero_add, Nat.add_sub_cancel_left, Nat.add_sub_cancel, Nat.sub_self, tFor_eq, tLc_eq, iRng1, iRng2, iList, iTup, iEnum, rIsi, rIsiT, Bool.not_true]
            by_cases h1 : n < 1
            · rw [if_pos h1]
              have e : isShA (.tup [.int n, gd]) = false := by
                show (decide (1 ≤ n) && isGrpsA gd) = false
                rw [decide_eq_false (by omega)]
                rfl
              rw [← e]
              exact q _ (s1.trans s2)
            · rw [if_neg h1]
              have e : isShA (.tup [.int n, gd]) = isGrpsA gd := by
                show (decide (1 ≤ n) && isGrpsA gd) = _
                rw [decide_eq_true (by omega)]
                rfl
              rw [e] at q
              refine ⟨gd, w2', ho.2.1, fun H3 s3 => ?_⟩
              rw [seq_items]
              cases ei : itemsA gd with
              | none =>
                simp only [and_assoc, tSeq, tAsg, tOp, tUn, rI, rI0, rU, tVar, tC, gName, L2.start, tIfS, tTest, tB, tCB, tCons, tNil, tIf, tRet, tRetN, tLst, tTup, tNext, tDrop, tNot, tNotV, tAnd, tOr, tAndV, tOrV, tPar, tAug, ipI, rEq, rNe, gSub, rSetL, rIxL, rIxT, tBM, tBM0, rAppend, rPopAt, gTup, gCons, gNil, tCall, tSl, tPart, tNoPart, rSlL, rCat, rEqD, rNeD, rIn, scal, List.map_cons, List.map_nil, List.length_cons, List.length_nil, List.length_map, List.cons_append, List.nil_append, List.append_nil, List.replicate, List.getElem?_cons_zero, List.getElem?_cons_succ, List.set_cons_zero, List.set_cons_succ, Option.some.injEq, exists_eq_left', exists_eq_left, exists_eq_right, exists_and_left, exists_and_right, V.int.injEq, V.ref.injEq, V.str.injEq, V.bl.injEq, reduceCtorEq, false_and, and_false, exists_false, or_false, false_or, true_and, and_true, List.cons.injEq, decide_eq_true_eq, cxOf, if_true, if_false, Bool.false_eq_true, Nat.reduceAdd, Nat.reduceSub, Nat.zero_add, Nat.add_sub_cancel_left, Nat.add_sub_cancel, Nat.sub_self, tFor_eq, tLc_eq, iRng1, iRng2, iList, iTup, iEnum, rIsi, rIsiT, Option.isSome_none, Bool.not_false]
                have e2 : isGrpsA gd = false := by unfold isGrpsA; rw [ei]
                rw [← e2]
                exact q _ ((s1.trans s2).trans s3)
              | some ds =>
                simp only [and_assoc, tSeq, tAsg, tOp, tUn, rI, rI0, rU, tVar, tC, gName, L2.start, tIfS, tTest, tB, tCB, tCons, tNil, tIf, tRet, tRetN, tLst, tTup, tNext, tDrop, tNot, tNotV, tAnd, tOr, tAndV, tOrV, tPar, tAug, ipI, rEq, rNe, gSub, rSetL, rIxL, rIxT, tBM, tBM0, rAppend, rPopAt, gTup, gCons, gNil, tCall, tSl, tPart, tNoPart, rSlL, rCat, rEqD, rNeD, rIn, scal, List.map_cons, List.map_nil, List.length_cons, List.length_nil, List.length_map, List.cons_append, List.nil_append, List.append_nil, List.replicate, List.getElem?_cons_zero, List.getElem?_cons_succ, List.set_cons_zero, List.set_cons_succ, Option.some.injEq, exists_eq_left', exists_eq_left, exists_eq_right, exists_and_left, exists_and_right, V.int.injEq, V.ref.injEq, V.str.injEq, V.bl.injEq, reduceCtorEq, false_and, and_false, exists_false, or_false, false_or, true_and, and_true, List.cons.injEq, decide_eq_true_eq, cxOf, if_true, if_false, Bool.false_eq_true, Nat.reduceAdd, Nat.reduceSub, Nat.zero_add, Nat.add_sub_cancel_left, Nat.add_sub_cancel, Nat.sub_self, tFor_eq, tLc_eq, iRng1, iRng2, iList, iTup, iEnum, rIsi, rIsiT, Option.isSome_some, Bool.not_true]
                obtain ⟨b, ys, rfl, hys, hay⟩ := av_items w2' ei
                obtain ⟨hn2, ho2⟩ := ok_items ho.2.1 ei
                obtain ⟨J, hJ⟩ := (hys.mono s3).it
                refine ⟨b, rfl, ys, J, hJ, fun D nD => lg_is hJ (avA_mono s3 _ _ hay) ho2 hn2 (by decide : 3 < 4) nD fun H4 s4 eD => ⟨_, sqL_of eD, ?_⟩⟩
                have e2 : (ds.map isGrpA).all id = isGrpsA gd := by unfold isGrpsA; rw [ei, List.all_map]; rfl
                rw [e2]
                exact q _ (((s1.trans s2).trans s3).trans s4)
theorem ok_areshares (T : TxtG K mg) : FnOk P w K mg base CX0 4 T.dAreShares.f T.dAreShares.fd ["value"] (spIs K isWillA) := by
  refine T.dAreShares.F.ok scDAreShares (fun vs H Q E h => ?_) (fun cdv A outer s H vs Q E hr h => ?_)
  · obtain ⟨v, d, rfl, _⟩ := h
    rfl
  · obtain ⟨v, d, rfl, hv, hd, q⟩ := h
    refine ⟨_, (pss_one (ps_ret (pe_and (pe_call (ok_isseq T) (hr.mono (by decide)) (by rfl) T.dIsSequence.g T.dIsSequence.F.kp T.dIsSequence.b .nil pass0 (pa_cons (pv 0) pa_nil)) (pe_and (pe_cmpR op_gt (pe_callB call_len_seq (by rfl) T.z_len (show bootBuiltins "len" = some (.builtin "len") by decide +kernel) (pa_cons (pv 0) pa_nil)) pe_int (nomark _)) (pe_one (pe_callB (cr_all rfl) (by rfl) T.z_all (show bootBuiltins "all" = some (.builtin "all") by decide +kernel) (pa_cons (pe_lc (own := [("share", 1)]) (g := (gName 1)) (tt := tYes) rfl scDAreShares.nd (pi_seq (pv 0)) (blkOk_by (N := ["value", "share"]) (sc := defScope sDAreShares) (by decide +kernel)) (fun _ _ _ _ _ => (pg_name (i := 1) scDAreShares.nd rfl (.inl rfl))) (fun _ _ _ _ _ => pts_nil) (fun _ _ _ _ _ => (pe_call (ok_isshare T) (hr.mono (by decide)) (by rfl) T.dIsShare.g T.dIsShare.F.kp T.dIsShare.b .nil pass0 (pa_cons (pv 1) pa_nil)))) pa_nil))))))), ?_⟩
    simp only [and_assoc, tSeq, tAsg, tOp, tUn, rI, rI0, rU, tVar, tC, gName, L2.start, tIfS, tTest, tB, tCB, tCons, tNil, tIf, tRet, tRetN, tLst, tTup, tNext, tDrop, tNot, tNotV, tAnd, tOr, tAndV, tOrV, tPar, tAug, ipI, rEq, rNe, gSub, rSetL, rIxL, rIxT, tBM, tBM0, rAppend, rPopAt, gTup, gCons, gNil, tCall, tSl, tPart, tNoPart, rSlL, rCat, rEqD, rNeD, rIn, scal, List.map_cons, List.map_nil, List.length_cons, List.length_nil, List.length_map, List.cons_append, List.nil_append, List.append_nil, List.replicate, List.getElem?_cons_zero, List.getElem?_cons_succ, List.set_cons_zero, List.set_cons_succ, Option.some.injEq, exists_eq_left', exists_eq_left, exists_eq_right, exists_and_left, exists_and_right, V.int.injEq, V.ref.injEq, V.str.injEq, V.bl.injEq, reduceCtorEq, false_and, and_false, exists_false, or_false, false_or, true_and, and_true, List.cons.injEq, decide_eq_true_eq, cxOf, if_true, if_false, Bool.false_eq_true, Nat.reduceAdd, Nat.reduceSub, Nat.zero_add, Nat.add_sub_cancel_left, Nat.add_sub_cancel, Nat.sub_self, tFor_eq, tLc_eq, iRng1, iRng2, iList, iTup, iEnum, rIsi, rIsiT, spIs, tLenSetT, rAll, iSeq]
    refine ⟨d, hv, hd, fun H1 s1 => ?_⟩
    rw [seq_items]
    cases ei : itemsA d with
    | none =>
      simp only [and_assoc, tSeq, tAsg, tOp, tUn, rI, rI0, rU, tVar, tC, gName, L2.start, tIfS, tTest, tB, tCB, tCons, tNil, tIf, tRet, tRetN, tLst, tTup, tNext, tDrop, tNot, tNotV, tAnd, tOr, tAndV, tOrV, tPar, tAug, ipI, rEq, rNe, gSub, rSetL, rIxL, rIxT, tBM, tBM0, rAppend, rPopAt, gTup, gCons, gNil, tCall, tSl, tPart, tNoPart, rSlL, rCat, rEqD, rNeD, rIn, scal, List.map_cons, List.map_nil, List.length_cons, List.length_nil, List.length_map, List.cons_append, List.nil_append, List.append_nil, List.replicate, List.getElem?_cons_zero, List.getElem?_cons_succ, List.set_cons_zero, List.set_cons_succ, Option.some.injEq, exists_eq_left', exists_eq_left, exists_eq_right, exists_and_left, exists_and_right, V.int.injEq, V.ref.injEq, V.str.injEq, V.bl.injEq, reduceCtorEq, false_and, and_false, exists_false, or_false, false_or, true_and, and_true, List.cons.injEq, decide_eq_true_eq, cxOf, if_true, if_false, Bool.false_eq_true, Nat.reduceAdd, Nat.reduceSub, Nat.zero_add, Nat.add_sub_cancel_left, Nat.add_sub_cancel, Nat.sub_self, tFor_eq, tLc_eq, iRng1, iRng2, iList, iTup, iEnum, rIsi, rIsiT, Option.isSome_none]
      have e : isWillA d = false := by unfold isWillA; rw [ei]
      rw [← e]
      exact q _ s1
    | some ds =>
      simp only [and_assoc, tSeq, tAsg, tOp, tUn, rI, rI0, rU, tVar, tC, gName, L2.start, tIfS, tTest, tB, tCB, tCons, tNil, tIf, tRet, tRetN, tLst, tTup, tNext, tDrop, tNot, tNotV, tAnd, tOr, tAndV, tOrV, tPar, tAug, ipI, rEq, rNe, gSub, rSetL, rIxL, rIxT, tBM, tBM0, rAppend, rPopAt, gTup, gCons, gNil, tCall, tSl, tPart, tNoPart, rSlL, rCat, rEqD, rNeD, rIn, scal, List.map_cons, List.map_nil, List.length_cons, List.length_nil, List.length_map, List.cons_append, List.nil_append, List.append_nil, List.replicate, List.getElem?_cons_zero, List.getElem?_cons_succ, List.set_cons_zero, List.set_cons_succ, Option.some.injEq, exists_eq_left', exists_eq_left, exists_eq_right, exists_and_left, exists_and_right, V.int.injEq, V.ref.injEq, V.str.injEq, V.bl.injEq, reduceCtorEq, false_and, and_false, exists_false, or_false, false_or, true_and, and_true, List.cons.injEq, decide_eq_true_eq, cxOf, if_true, if_false, Bool.false_eq_true, Nat.reduceAdd, Nat.reduceSub, Nat.zero_add, Nat.add_sub_cancel_left, Nat.add_sub_cancel, Nat.sub_self, tFor_eq, tLc_eq, iRng1, iRng2, iList, iTup, iEnum, rIsi, rIsiT, Option.isSome_some]
      obtain ⟨a, xs, rfl, hs, ha⟩ := av_items hv ei
      obtain ⟨hn, ho⟩ := ok_items hd ei
      have hl := avA_len ha
      refine ⟨a, rfl, xs, hs.mono s1, ?_⟩
      have e : isWillA d = (!ds.isEmpty && ds.all isShA) := by unfold isWillA; rw [ei]
      rw [e] at q
      by_cases h0 : ds = []
      · subst h0
        rw [if_neg (by rw [hl]; decide)]
        exact q _ s1
      · have hpos : 0 < ds.length := List.length_pos_iff.mpr h0
        have hie : ds.isEmpty = false := by cases ds with | nil => exact absurd rfl h0 | cons _ _ => rfl
        rw [if_pos (by omega)]
        obtain ⟨J, hJ⟩ := (hs.mono s1).it
        refine ⟨a, rfl, xs, J, hJ, fun D nD => lg_is hJ (avA_mono s1 _ _ ha) ho hn (by decide : 1 < 2) nD fun H2 s2 eD => ⟨_, sqL_of eD, ?_⟩⟩
        have e2 : (ds.map isShA).all id = (!ds.isEmpty && ds.all isShA) := by rw [hie, List.all_map]; rfl
        rw [e2]
        exact q _ (s1.trans s2)

end
end He

/-! the order of texts; a sorted list of texts is one -/
namespace He
open PySem PySem.Spec PyProof.Rows L2
def leC (a b : List Nat) : Prop := ltCps b a = false
theorem leC_refl : ∀ a : List Nat, leC a a
  | [] => rfl
  | x :: r => by
    have h : ltCps r r = false := leC_refl r
    show (decide (x < x) || (x == x && ltCps r r)) = false
    rw [h]
    simp
theorem leC_total : ∀ a b : List Nat, leC a b ∨ leC b a
  | [], b => .inl (by cases b <;> rfl)
  | _ :: _, [] => .inr rfl
  | x :: r, y :: t => by
    have e1 : leC (x :: r) (y :: t) ↔ (decide (y < x) || (y == x && ltCps t r)) = false := Iff.rfl
    have e2 : leC (y :: t) (x :: r) ↔ (decide (x < y) || (x == y && ltCps r t)) = false := Iff.rfl
    rw [e1, e2]
    rcases Nat.lt_trichotomy x y with h | h | h
    · exact .inl (by simp; omega)
    · subst h
      rcases leC_total r t with q | q
      · exact .inl (by rw [show ltCps t r = false from q]; simp)
      · exact .inr (by rw [show ltCps r t = false from q]; simp)
    · exact .inr (by simp; omega)
theorem leC_anti : ∀ {a b : List Nat}, leC a b → leC b a → a = b
  | [], [], _, _ => rfl
  | [], _ :: _, _, h => by cases (show true = false from h)
  | _ :: _, [], h, _ => by cases (show true = false from h)
  | x :: r, y :: t, h1, h2 => by
    have h1 : (decide (y < x) || (y == x && ltCps t r)) = false := h1
    have h2 : (decide (x < y) || (x == y && ltCps r t)) = false := h2
    rw [Bool.or_eq_false_iff] at h1 h2
    have e : x = y := by
      have a := of_decide_eq_false h1.1
      have b := of_decide_eq_false h2.1
      omega
    subst e
    have q1 : leC r t := (show ltCps t r = false by simpa using h1.2)
    have q2 : leC t r := (show ltCps r t = false by simpa using h2.2)
    rw [leC_anti q1 q2]
theorem leC_trans : ∀ {a b c : List Nat}, leC a b → leC b c → leC a c
  | [], _, c, _, _ => by cases c <;> rfl
  | _ :: _, [], _, h, _ => by cases (show true = false from h)
  | _ :: _, _ :: _, [], _, h => by cases (show true = false from h)
  | x :: r, y :: t, z :: u, h1, h2 => by
    have h1 : (decide (y < x) || (y == x && ltCps t r)) = false := h1
    have h2 : (decide (z < y) || (z == y && ltCps u t)) = false := h2
    rw [Bool.or_eq_false_iff] at h1 h2
    show (decide (z < x) || (z == x && ltCps u r)) = false
    have a := of_decide_eq_false h1.1
    have b := of_decide_eq_false h2.1
    rw [decide_eq_false (by omega : ¬ z < x), Bool.false_or]
    by_cases e : z = x
    · subst e
      have e2 : y = z := by omega
      subst e2
      have q1 : leC r t := (show ltCps t r = false by simpa using h1.2)
      have q2 : leC t u := (show ltCps u t = false by simpa using h2.2)
      have q3 : ltCps u r = false := leC_trans q1 q2
      rw [q3]
      simp
    · simp [e]
def leS (a b : Str) : Bool := !ltCps b.cps.toList a.cps.toList
theorem leS_iff {a b : Str} : leS a b = true ↔ leC a.cps.toList b.cps.toList := by unfold leS leC; simp
theorem leS_anti {a b : Str} (h1 : leS a b = true) (h2 : leS b a = true) : a = b := by
  have := leC_anti (leS_iff.mp h1) (leS_iff.mp h2)
  cases a; cases b
  exact congrArg Str.mk (Array.toList_inj.mp this)
/-- the texts ascending -/
def sortG (g : List Str) : List Str := g.mergeSort leS
theorem sortG_perm (g : List Str) : (sortG g).Perm g := List.mergeSort_perm g leS
theorem leS_trans (a b c : Str) (h1 : leS a b = true) (h2 : leS b c = true) : leS a c = true := leS_iff.mpr (leC_trans (leS_iff.mp h1) (leS_iff.mp h2))
theorem leS_total (a b : Str) : (leS a b || leS b a) = true := by
  rcases leC_total a.cps.toList b.cps.toList with h | h
  · rw [leS_iff.mpr h]; rfl
  · rw [leS_iff.mpr h, Bool.or_true]
theorem sortG_up (g : List Str) : (sortG g).Pairwise (fun a b => leS a b = true) := List.pairwise_mergeSort (leS_trans) (leS_total) g
theorem rising_up : ∀ (p : Str) (l : List Str), risingS p l = true → (p :: l).Pairwise (fun a b => leS a b = true)
  | p, [], _ => List.pairwise_singleton _ _
  | p, x :: r, h => by
    have h : (!ltCps x.cps.toList p.cps.toList && risingS x r) = true := h
    rw [Bool.and_eq_true] at h
    have ih := rising_up x r h.2
    have hpx : leS p x = true := h.1
    refine List.pairwise_cons.mpr ⟨fun y hy => ?_, ih⟩
    rcases List.mem_cons.mp hy with rfl | hy
    · exact hpx
    · exact leS_trans p x y hpx ((List.pairwise_cons.mp ih).1 y hy)
theorem sorted_up {l : List Str} (h : sortedS l = true) : l.Pairwise (fun a b => leS a b = true) := by
  cases l with
  | nil => exact List.Pairwise.nil
  | cons x r => exact rising_up x r h
theorem up_one : ∀ {a b : List Str}, a.Perm b → a.Pairwise (fun a b => leS a b = true) → b.Pairwise (fun a b => leS a b = true) → a = b
  | [], b, p, _, _ => p.nil_eq
  | x :: r, [], p, _, _ => by have := p.length_eq; simp at this
  | x :: r, y :: t, p, h1, h2 => by
    have e : x = y := by
      have hx : x ∈ y :: t := p.mem_iff.mp List.mem_cons_self
      have hy : y ∈ x :: r := p.mem_iff.mpr List.mem_cons_self
      rcases List.mem_cons.mp hx with q | q
      · exact q
      · rcases List.mem_cons.mp hy with q2 | q2
        · exact q2.symm
        · exact leS_anti ((List.pairwise_cons.mp h1).1 y q2) ((List.pairwise_cons.mp h2).1 x q)
    subst e
    rw [up_one (List.Perm.cons_inv p) (List.pairwise_cons.mp h1).2 (List.pairwise_cons.mp h2).2]
theorem sortG_of {ys g : List Str} (p : ys.Perm g) (h : sortedS ys = true) : ys = sortG g := up_one (p.trans (sortG_perm g).symm) (sorted_up h) (sortG_up g)
theorem sortG_perm_eq {a b : List Str} (p : a.Perm b) : sortG a = sortG b := up_one (((sortG_perm a).trans p).trans (sortG_perm b).symm) (sortG_up a) (sortG_up b)
theorem sortG_idem (g : List Str) : sortG (sortG g) = sortG g := sortG_perm_eq (sortG_perm g)
end He

/-! != by an own ==; str(x) by an own text -/
namespace He
namespace Own
open PySem PySem.W PySem.Calls PyProof.Rows
section
variable {pr : Program} {wd : World} {A : Around} {E : Value → Shared → Prop} {s : Shared} {K : PySem.W.Frag} {x C f L : Addr} {ox : Obj} {od : Option Obj} {h0 : Heap} {m : Str → Option Value} {b tb : Value}
theorem bound_builtin {M : Model} {nm : Str} {id : String} {args : List Value} {Q : Option Value → Shared → Prop} (X : K.In s.heap) (I : InstAt s.heap x ox C od) (at' : findIn K (.ref C) nm = some (some (.builtin id)))
    (bd : ∀ self, bindSpecial (.builtin id) self = pure (.builtin id, [self])) (go : wpAny M A (call (.builtin id) (.ref x :: args)) (fun v => Q (some v)) E s) : wpAny M A (callSpecialIfBound? (.ref x) nm args) Q E s := by
  simp only [callSpecialIfBound?, bindSpecialIfBound?]
  refine wpAny_holding (wpAny_bind (wpAny_bind (wpAny_bind (I.type.here ((looks_findIn X at').here ?_)))))
  have fin : wpAny M A (call (.builtin id) ([.ref x] ++ args) >>= fun v => pure (some v)) Q E s := wpAny_bind (wpAny_mono go (fun v s' q => wpAny_pure q) fun _ _ q => q)
  refine wpAny_bind (wpAny_askSetting (wpAny_ite ?_))
  split
  · exact wpAny_bind ((Looks.of_pure (bd _)).here (wpAny_pure (by exact fin)))
  · exact wpAny_tryCatch (wpAny_bind ((Looks.of_pure (bd _)).here (wpAny_pure (by exact fin))))
theorem not_eq {Q : Fin → Shared → Prop} (hu : A.units < cLine) (X : K.In s.heap) (I : InstAt s.heap x ox C od) (eqf : findIn K (.ref C) "__eq__" = some (some (.ref f))) (isf : isFn K (.ref f) = true)
    (go : wpAny (model pr wd) A (call (.ref f) [.ref x, b]) (fun v s' => ∃ r, v = .bool r ∧ Q (.done (.ret (.bool (!r)))) s') E s) : wpAny (model pr wd) A (Builtin.«object.__ne__» ⟨[.ref x, b], []⟩) Q E s := by
  unfold Builtin.«object.__ne__»
  refine wpAny_bind (m := slotArgs "__ne__" 1 _) (wpAny_pure ?_)
  refine wpAny_bind (m := cRoomFor _ _) (wpAny_cRoomFor hu ?_)
  refine wpAny_bind (m := callSpecialIfBound? (.ref x) (Str.ofString "__eq__") [b]) (ifBound_K X I eqf isf (wpAny_mono go (fun r s' q => ?_) fun _ _ q => q))
  obtain ⟨r, rfl, q⟩ := q
  exact wpAny_bind (wpAny_truthy_bool (wpAny_pure q))
theorem ne_K {Q : Value → Shared → Prop} (hu : A.units + 1 < cLine) (F : Fr h0 L s.heap m) (X0 : K.In h0) (I : InstAt s.heap x ox C od) (hb : Looks (model pr wd) s.heap (typeOf b) tb) (nf : notFirst K C tb = true)
    (nef : findIn K (.ref C) "__ne__" = some (some (.builtin "object.__ne__"))) (ob : mroIn K C (.type "object") = some true) (eqf : findIn K (.ref C) "__eq__" = some (some (.ref f))) (isf : isFn K (.ref f) = true)
    (go : wpAny (model pr wd) A.in1 (call (.ref f) [.ref x, b]) (fun v s' => ∃ r, v = .bool r ∧ Q (.bool (!r)) s') E s) : wpAny (model pr wd) A (richCompare .NotEq (.ref x) b) Q E s := by
  have X := X0.keeps F.keep
  have one : wpAny (model pr wd) A (tryCompare (.ref x) "__ne__" b) (fun r s' => ∃ v, r = some v ∧ Q v s') E s := by
    unfold tryCompare
    refine wpAny_bind (bound_builtin X I nef PySem.F.slot_object_ne.bind ?_)
    refine wpAny_call (codeAny_call_builtin PySem.F.slot_object_ne.plain PySem.F.cmpEntry_ne (check_slot (i := "object.__ne__") (owner := "object") (n := "__ne__") PySem.F.cmpKind_ne PySem.F.cmpSplit_ne (I.type.andThen (looks_mroIn X ob)) (PySem.F.cmpArgs_ne _ _) ?_))
    refine not_eq (A := A.in1) (by show A.units + 1 < cLine; exact hu) X I eqf isf (wpAny_mono go (fun v s' q => ?_) fun _ _ q => q)
    obtain ⟨r, rfl, q⟩ := q
    exact ⟨r, rfl, wpAny_pure ⟨_, rfl, q⟩⟩
  unfold richCompare
  simp only [oneThing_ref]
  refine wpAny_holding (wpAny_bind (wpAny_cRoomFor (by omega) ?_))
  refine wpAny_bind (I.type.here (wpAny_bind (hb.here ?_)))
  split
  · rename_i q
    have e : subIn K tb (.ref C) = some false := by
      rcases Bool.or_eq_true_iff.mp nf with e | e
      · rw [beq_iff_eq.mp e] at q; simp at q
      · exact beq_iff_eq.mp e
    refine wpAny_bind ((looks_subIn X e).here ?_)
    simp only [Bool.false_eq_true, if_false]
    refine wpAny_bind (wpAny_mono one (fun r s' z => ?_) fun _ _ e => e)
    obtain ⟨v, rfl, q⟩ := z
    exact wpAny_pure q
  · refine wpAny_bind (wpAny_pure ?_)
    simp only [Bool.false_eq_true, if_false]
    refine wpAny_bind (wpAny_mono one (fun r s' z => ?_) fun _ _ e => e)
    obtain ⟨v, rfl, q⟩ := z
    exact wpAny_pure q
end
end Own
end He

namespace He
open PySem PySem.Spec PyProof.Rows L2
/-- what the text says of a class with its own == and its own text -/
structure OwnCmp (K : PySem.W.Frag) (C fE fS : Addr) : Prop where
  ne : PySem.W.findIn K (.ref C) "__ne__" = some (some (.builtin "object.__ne__"))
  ob : PySem.W.mroIn K C (.type "object") = some true
  eq : PySem.W.findIn K (.ref C) "__eq__" = some (some (.ref fE))
  eqf : PySem.W.isFn K (.ref fE) = true
  str : PySem.W.findIn K (.ref C) "__str__" = some (some (.ref fS))
  strf : PySem.W.isFn K (.ref fS) = true
section
variable {X : Cx} {CX : CXT} {n : Nat} {C fE fS : Addr} {sp : Sp} {E : XK}
/-- what follows a call of a def from within a builtin -/
theorem run_in {pins : List (Addr × Obj)} {σ : L2.St} {H : Hp} {s : Shared} {A : Around} {f : Addr} {Q : VK} {us : List Value} {vs : List V} (F : FnR X.prog X.w X.K X.mg X.base CX n f sp) (hr : Room n A) (fr : A.frames = X.A.frames) (hx : Passes CX X E) (I : Inv X pins σ H s) (r : Vals vs us) (h : sp vs H Q E) :
    wpAny (model X.prog X.w) A (call (.ref f) us) (EP X pins σ Q) X.xe s := by
  have e := I.env0
  have e0 : Env0 X.prog X.w X.K X.mg X.base A X.stack s H := ⟨by rw [fr]; exact e.frames, e.mod, e.bs, e.bsz, e.funs, e.frf, e.hok, e.bare⟩
  refine wpAny_call (codeAny_mono (F A X.stack s H us vs Q E hr e0 r h) fun r s' hq => ?_)
  cases r with
  | error er => exact hx pins σ H s er s' I hq
  | ok fl =>
    cases fl with
    | ret u => exact I.after hq
    | next => exact False.elim hq
    | brk => exact False.elim hq
    | cont => exact False.elim hq
def rOwn (C : Addr) (sp : Sp) (E : XK) (neg : Bool) : R2 := fun x y H Q => ∃ a b dx dy fs gs, x = .ref a ∧ y = .ref b ∧ H a = some (.ins C dx fs) ∧ H b = some (.ins C dy gs) ∧ sp [.ref a, .ref b] H (fun v H' => ∃ r, v = .bl r ∧ Q (.bl (if neg then !r else r)) H') E
theorem op_neOwn (c : OwnCmp X.K C fE fS) (F : FnR X.prog X.w X.K X.mg X.base CX n fE sp) (hr : Room (n + 1) X.A) (hx : Passes CX X E) : OpR X (compareOp .NotEq) (rOwn C sp E true) := by
  intro pins s σ H x y v u Q I rx ry h
  obtain ⟨a, b, dx, dy, fs, gs, rfl, rfl, ha, hb, q⟩ := h
  cases rx
  cases ry
  obtain ⟨mA, J, _⟩ := ins_get I.hok ha
  obtain ⟨mB, J', _⟩ := ins_get I.hok hb
  obtain ⟨od, J, _⟩ := J.look
  obtain ⟨od', J', _⟩ := J'.look
  obtain ⟨m, hF⟩ := I.fr
  show wpAny (model X.prog X.w) X.A (richCompare .NotEq (.ref a) (.ref b)) _ _ _
  refine Own.ne_K (tb := .ref C) (by have := hr.un; omega) hF I.ok.mod.kin J J'.type (by simp [PySem.W.notFirst]) c.ne c.ob c.eq c.eqf ?_
  refine wpAny_mono (run_in F hr.in1 rfl (vs := [.ref a, .ref b]) hx I (.cons rfl (.cons rfl .nil)) q) (fun w s' hw => ?_) fun _ _ z => z
  obtain ⟨z, H', I', rz, r, rfl, q2⟩ := hw
  cases rz
  exact ⟨r, rfl, .bl (!r), H', I', rfl, q2⟩
theorem op_eqOwn (c : OwnCmp X.K C fE fS) (F : FnR X.prog X.w X.K X.mg X.base CX n fE sp) (hr : Room (n + 1) X.A) (hx : Passes CX X E) : OpR X (compareOp .Eq) (rOwn C sp E false) := by
  intro pins s σ H x y v u Q I rx ry h
  obtain ⟨a, b, dx, dy, fs, gs, rfl, rfl, ha, hb, q⟩ := h
  cases rx
  cases ry
  obtain ⟨mA, J, _⟩ := ins_get I.hok ha
  obtain ⟨mB, J', _⟩ := ins_get I.hok hb
  obtain ⟨od, J, _⟩ := J.look
  obtain ⟨od', J', _⟩ := J'.look
  obtain ⟨m, hF⟩ := I.fr
  show wpAny (model X.prog X.w) X.A (richCompare .Eq (.ref a) (.ref b)) _ _ _
  refine PySem.W.cmp_K (op := .Eq) (tb := .ref C) (by have := hr.un; omega) hF I.ok.mod.kin J J'.type (by simp [PySem.W.notFirst]) c.eq c.eqf ?_
  refine wpAny_mono (run_in F (hr.mono (Nat.le_succ n)) rfl (vs := [.ref a, .ref b]) hx I (.cons rfl (.cons rfl .nil)) q) (fun w s' hw => ?_) fun _ _ z => z
  obtain ⟨z, H', I', rz, r, rfl, q2⟩ := hw
  cases rz
  exact ⟨.bl r, H', I', rfl, q2⟩
/-- str(x), x of a class with its own text -/
theorem call_strOwn (c : OwnCmp X.K C fE fS) (F : FnR X.prog X.w X.K X.mg X.base CX n fS sp) (hr : Room (n + 2) X.A) (hx : Passes CX X E) :
    CallR X (.type "str") (fun xs H Q => ∃ a dx fs, xs = [.ref a] ∧ H a = some (.ins C dx fs) ∧ sp [.ref a] H (fun v H' => ∃ z, v = .str z ∧ Q (.str z) H') E) := by
  intro pins s σ H xs us Q I r h
  obtain ⟨a, dx, fs, rfl, ha, q⟩ := h
  obtain ⟨u, rfl, ru⟩ := vals1 r
  cases ru
  obtain ⟨mA, J, _⟩ := ins_get I.hok ha
  obtain ⟨od, J, _⟩ := J.look
  refine PySem.W.kso_call (by have := hr.un; show X.A.units + 1 + 1 < _; omega) I.kIn J c.str c.strf ?_
  refine wpAny_mono (run_in F hr.in1.in1 rfl (vs := [.ref a]) hx I (.cons rfl .nil) q) (fun w s' hw => ?_) fun _ _ z => z
  obtain ⟨z, H', I', rz, y, rfl, q2⟩ := hw
  obtain ⟨t, rfl⟩ := rz
  exact ⟨.str y, H', I', ⟨t, rfl⟩, q2⟩
end
end He

namespace He
open PySem PySem.Spec PyProof.Rows L2
section
variable {P : Program} {w : World} {K : PySem.W.Frag} {mg : Str → Option Value} {base : Heap}

/-! ### wills as lists of lists, and as the program keeps them -/
def adGrp (g : List Str) : AD := .lst (g.map AD.str)
def adSh (s : Sh) : AD := .tup [.int s.1, .lst (s.2.map adGrp)]
def adWill (shs : List Sh) : AD := .lst (shs.map adSh)
def nGrp (g : List Str) : PyData := .tuple ((sortG g).map PyData.str)
def nSh (s : Sh) : PyData := .tuple [.int s.1, .tuple (s.2.map nGrp)]
def nWill (shs : List Sh) : PyData := .tuple (shs.map nSh)
theorem adA_strs (g : List Str) : adA (g.map PyData.str) = g.map AD.str := by
  rw [adA_map, List.map_map]
  rfl
theorem ad_grp (g : List Str) : ad (dGrp g) = adGrp g := congrArg AD.lst (adA_strs g)
theorem ad_sh (s : Sh) : ad (dSh s) = adSh s := by
  show AD.tup [.int s.1, .lst (adA (s.2.map dGrp))] = _
  rw [adA_map, List.map_map]
  unfold adSh
  congr 4
  exact List.map_congr_left fun g _ => ad_grp g
theorem adA_shs (shs : List Sh) : adA (shs.map dSh) = shs.map adSh := by
  rw [adA_map, List.map_map]
  exact List.map_congr_left fun s _ => ad_sh s
theorem avA_strs {H : Hp} {vs : List V} {g : List Str} (h : AvAll K H vs (g.map AD.str)) : vs = g.map V.str := by
  have e : strsA (g.map AD.str) = some g := by
    clear h
    induction g with
    | nil => rfl
    | cons x g ih =>
      show (strsA (g.map AD.str)).map (x :: ·) = _
      rw [ih]
      rfl
  exact av_strs h e
theorem dp_list {H : Hp} {ys : List V} {ds : List PyData} (hl : ys.length = ds.length) (h : ∀ (i : Nat) (y : V), ys[i]? = some y → ∃ d, ds[i]? = some d ∧ Dp K H y d) : DpAll K H ys ds := by
  induction ys generalizing ds with
  | nil =>
    cases ds with
    | nil => exact .nil
    | cons _ _ => simp at hl
  | cons y ys ih =>
    cases ds with
    | nil => simp at hl
    | cons d ds =>
      obtain ⟨d', e, hd⟩ := h 0 y rfl
      cases Option.some.inj e
      exact .cons hd (ih (by simpa using hl) fun i z e => h (i + 1) z e)
def rTupOf (K : PySem.W.Frag) : List V → Hp → VK → Prop := fun xs H Q => ∃ p ys, xs = [.ref p] ∧ ((SqL K H p ys ∧ ∀ l, H l = none → Q (.ref l) (upd H l (.tup ys))) ∨ (SqT K H p ys ∧ Q (.ref p) H))
theorem cr_tup {X : Cx} : CallR X (.type "tuple") (rTupOf X.K) := call_tuple_of
def rLenL (K : PySem.W.Frag) : List V → Hp → VK → Prop := fun xs H Q => ∃ p ys, xs = [.ref p] ∧ SqL K H p ys ∧ Q (.int ys.length) H
/-- what has come since -/
def news (H H' : Hp) : Hp := fun b => match H b with
  | some _ => none
  | none => H' b
theorem news_at {H H' : Hp} {b : Addr} (h : H b = none) : news H H' b = H' b := by
  unfold news
  rw [h]
theorem news_get {H H' : Hp} {b : Addr} {o : HO} (h : news H H' b = some o) : H b = none ∧ H' b = some o := by
  unfold news at h
  split at h
  · cases h
  · rename_i e
    exact ⟨e, h⟩
theorem news_le {H H' : Hp} : Same (news H H') H' := fun b o e => (news_get e).2
theorem news_mono {H H1 H2 : Hp} (s : Same H1 H2) : Same (news H H1) (news H H2) := fun b o e => by
  obtain ⟨e1, e2⟩ := news_get e
  rw [news_at e1]
  exact s _ _ e2
theorem news_up {H0 H H' : Hp} (s : Same H0 H) : Same (news H H') (news H0 H') := fun b o e => by
  obtain ⟨e1, e2⟩ := news_get e
  rw [news_at (s.free e1)]
  exact e2
theorem news_hide {D : Addr} {H H' : Hp} (h : H D ≠ none) : Same (news H H') (news H (hide D H')) := fun b o e => by
  obtain ⟨e1, e2⟩ := news_get e
  have hb : b ≠ D := fun z => h (by rw [← z]; exact e1)
  rw [news_at e1, hide_ne hb]
  exact e2
theorem news_hide2 {D : Addr} {H H' : Hp} : Same (news H (hide D H')) (news H H') := news_mono hide_le
/-- groups, each sorted -/
def spLots (K : PySem.W.Frag) : Sp := fun vs H Q _ => ∃ (v : V) (gs : List (List Str)), vs = [v] ∧ Av K H v (.lst (gs.map adGrp)) ∧ gs.length < 1000 ∧ (∀ g ∈ gs, g.length < 64) ∧
  ∀ r H', Same H H' → Dp K (news H H') (.ref r) (.tuple (gs.map nGrp)) → Q (.ref r) H'
theorem ok_lots (T : TxtG K mg) : FnOk P w K mg base CX0 1 T.dLots.f T.dLots.fd ["groups"] (spLots K) := by
  refine T.dLots.F.ok scDLots (fun vs H Q E h => ?_) (fun cdv A outer s H vs Q E hr h => ?_)
  · obtain ⟨v, gs, rfl, _⟩ := h
    rfl
  · obtain ⟨v, gs, rfl, hv, hn, hg, q⟩ := h
    refine ⟨_, (pss_one (ps_ret (pe_callTy call_tuple_of (by rfl) T.z_tuple (show bootBuiltins "tuple" = some (.type "tuple") by decide +kernel) (pa_cons (pe_lc (own := [("group", 1)]) (g := (gName 1)) (tt := tYes) rfl scDLots.nd (pi_seq (pv 0)) (blkOk_by (N := ["groups", "group"]) (sc := defScope sDLots) (by decide +kernel)) (fun _ _ _ _ _ => (pg_name (i := 1) scDLots.nd rfl (.inl rfl))) (fun _ _ _ _ _ => pts_nil) (fun _ _ _ _ _ => (pe_callTy (show CallR _ (.type "tuple") (rTupOf K) from cr_tup) (by rfl) T.z_tuple (show bootBuiltins "tuple" = some (.type "tuple") by decide +kernel) (pa_cons (pe_callB (show CallR _ (.builtin "sorted") (rSortedS K) from cr_sortedS) (by rfl) T.z_sorted (show bootBuiltins "sorted" = some (.builtin "sorted") by decide +kernel) (pa_cons (pv 1) pa_nil)) pa_nil)))) pa_nil)))), ?_⟩
    simp only [and_assoc, tSeq, tAsg, tOp, tUn, rI, rI0, rU, tVar, tC, gName, L2.start, tIfS, tTest, tB, tCB, tCons, tNil, tIf, tRet, tRetN, tLst, tTup, tNext, tDrop, tNot, tNotV, tAnd, tOr, tAndV, tOrV, tPar, tAug, ipI, rEq, rNe, gSub, rSetL, rIxL, rIxT, tBM, tBM0, rAppend, rPopAt, gTup, gCons, gNil, tCall, tSl, tPart, tNoPart, rSlL, rCat, rEqD, rNeD, rIn, scal, List.map_cons, List.map_nil, List.length_cons, List.length_nil, List.length_map, List.cons_append, List.nil_append, List.append_nil, List.replicate, List.getElem?_cons_zero, List.getElem?_cons_succ, List.set_cons_zero, List.set_cons_succ, Option.some.injEq, exists_eq_left', exists_eq_left, exists_eq_right, exists_and_left, exists_and_right, V.int.injEq, V.ref.injEq, V.str.injEq, V.bl.injEq, reduceCtorEq, false_and, and_false, exists_false, or_false, false_or, true_and, and_true, List.cons.injEq, decide_eq_true_eq, cxOf, if_true, if_false, Bool.false_eq_true, Nat.reduceAdd, Nat.reduceSub, Nat.zero_add, Nat.add_sub_cancel_left, Nat.add_sub_cancel, Nat.sub_self, sFld, tFld, tFor_eq, tLc_eq, iRng1, iRng2, iList, iTup, iEnum, rIsi, rIsiT, iSeq]
    obtain ⟨a, xs, rfl, hs, ha⟩ := av_items hv rfl
    obtain ⟨J, hJ⟩ := hs.it
    have hxl : xs.length = gs.length := by rw [avA_len ha, List.length_map]
    obtain ⟨H0, hH0⟩ : ∃ H0, H0 = H := ⟨H, rfl⟩
    refine ⟨a, rfl, xs, J, hJ, fun D nD => ?_⟩
    refine lg_pure (fun i y H => ∃ g r, gs[i]? = some g ∧ y = .ref r ∧ H0 r = none ∧ H r = some (.tup ((sortG g).map V.str))) hJ (small1000 (by omega)) nD (fun i y H H' s h => let ⟨g, r, e1, e2, e3, e4⟩ := h; ⟨g, r, e1, e2, e3, s _ _ e4⟩) (fun i x H1 Φ hx s1 hD hΦ => ?_) (fun ys H1 s1 eD hl2 hY => ?_)
    · simp only [and_assoc, tSeq, tAsg, tOp, tUn, rI, rI0, rU, tVar, tC, gName, L2.start, tIfS, tTest, tB, tCB, tCons, tNil, tIf, tRet, tRetN, tLst, tTup, tNext, tDrop, tNot, tNotV, tAnd, tOr, tAndV, tOrV, tPar, tAug, ipI, rEq, rNe, gSub, rSetL, rIxL, rIxT, tBM, tBM0, rAppend, rPopAt, gTup, gCons, gNil, tCall, tSl, tPart, tNoPart, rSlL, rCat, rEqD, rNeD, rIn, scal, List.map_cons, List.map_nil, List.length_cons, List.length_nil, List.length_map, List.cons_append, List.nil_append, List.append_nil, List.replicate, List.getElem?_cons_zero, List.getElem?_cons_succ, List.set_cons_zero, List.set_cons_succ, Option.some.injEq, exists_eq_left', exists_eq_left, exists_eq_right, exists_and_left, exists_and_right, V.int.injEq, V.ref.injEq, V.str.injEq, V.bl.injEq, reduceCtorEq, false_and, and_false, exists_false, or_false, false_or, true_and, and_true, List.cons.injEq, decide_eq_true_eq, cxOf, if_true, if_false, Bool.false_eq_true, Nat.reduceAdd, Nat.reduceSub, Nat.zero_add, Nat.add_sub_cancel_left, Nat.add_sub_cancel, Nat.sub_self, sFld, tFld, tFor_eq, tLc_eq, iRng1, iRng2, iList, iTup, iEnum, rIsi, rIsiT, wipe, rSortedS]
      obtain ⟨d, ed, hx2⟩ := avA_get (avA_mono s1 _ _ ha) hx
      rw [List.getElem?_map] at ed
      obtain ⟨g, eg, rfl⟩ := Option.map_eq_some_iff.mp ed
      have hgm : g ∈ gs := List.mem_of_getElem? eg
      cases hx2 with
      | @lst b zs _ hb hzs =>
        have ez := avA_strs hzs
        subst ez
        refine ⟨b, rfl, g, hb, hg g hgm, fun ys p pm so np => ?_⟩
        simp only [and_assoc, tSeq, tAsg, tOp, tUn, rI, rI0, rU, tVar, tC, gName, L2.start, tIfS, tTest, tB, tCB, tCons, tNil, tIf, tRet, tRetN, tLst, tTup, tNext, tDrop, tNot, tNotV, tAnd, tOr, tAndV, tOrV, tPar, tAug, ipI, rEq, rNe, gSub, rSetL, rIxL, rIxT, tBM, tBM0, rAppend, rPopAt, gTup, gCons, gNil, tCall, tSl, tPart, tNoPart, rSlL, rCat, rEqD, rNeD, rIn, scal, List.map_cons, List.map_nil, List.length_cons, List.length_nil, List.length_map, List.cons_append, List.nil_append, List.append_nil, List.replicate, List.getElem?_cons_zero, List.getElem?_cons_succ, List.set_cons_zero, List.set_cons_succ, Option.some.injEq, exists_eq_left', exists_eq_left, exists_eq_right, exists_and_left, exists_and_right, V.int.injEq, V.ref.injEq, V.str.injEq, V.bl.injEq, reduceCtorEq, false_and, and_false, exists_false, or_false, false_or, true_and, and_true, List.cons.injEq, decide_eq_true_eq, cxOf, if_true, if_false, Bool.false_eq_true, Nat.reduceAdd, Nat.reduceSub, Nat.zero_add, Nat.add_sub_cancel_left, Nat.add_sub_cancel, Nat.sub_self, sFld, tFld, tFor_eq, tLc_eq, iRng1, iRng2, iList, iTup, iEnum, rIsi, rIsiT, rTupOf]
        have e := sortG_of pm so
        subst e
        refine ⟨_, .inl ⟨sqL_of upd_same, fun l nl => ?_⟩⟩
        have lD : l ≠ D := fun z => by
          rw [z] at nl
          by_cases h : D = p
          · rw [h, upd_same] at nl; cases nl
          · rw [upd_ne h] at nl; exact hD nl
        refine hΦ _ _ ((same_upd np).trans (same_upd nl)) ⟨g, l, eg, rfl, hH0 ▸ (s1.trans (same_upd np)).free nl, ?_⟩
        rw [hide_ne lD, upd_same]
    · refine ⟨ys, .inl ⟨sqL_of eD, fun l nl => ?_⟩⟩
      subst hH0
      have hds : DpAll K (news H0 H1) ys (gs.map nGrp) := dp_list (by rw [hl2, List.length_map]; exact hxl) fun i y e => by
        obtain ⟨g, r, eg, rfl, nr, er⟩ := hY i y e
        exact ⟨nGrp g, by rw [List.getElem?_map, eg]; rfl, .tup (sqT_of (by rw [news_at nr]; exact hide_le _ _ er)) (dpA_strs _)⟩
      exact q l _ (s1.trans (same_upd nl)) (.tup (sqT_of (by rw [news_at (s1.free nl), upd_same])) (dpA_mono (news_mono (same_upd nl)) _ _ hds))

end
end He

namespace He
open PySem PySem.Spec PyProof.Rows L2
section
variable {P : Program} {w : World} {K : PySem.W.Frag} {mg : Str → Option Value} {base : Heap}

/-! ### the class Will -/
structure TxtW (K : PySem.W.Frag) (mg : Str → Option Value) where
  t : TxtG K mg
  cl : Cls K t.cWill
  nS : NoAttr K t.cWill "shares"
  iF : Addr
  iD : FuncData
  iFn : Fun K "__init__" "Will.__init__" sDWillInit iF iD
  iB : Binds K iD ["self", "shares"] []
  iM : Mk K t.cWill iF
  eF : Addr
  eD : FuncData
  eFn : Fun K "__eq__" "Will.__eq__" sDWillEq eF eD
  eB : Binds K eD ["self", "other"] []
  sF : Addr
  sD : FuncData
  sFn : Fun K "__str__" "Will.__str__" sDWillStr sF sD
  sB : Binds K sD ["self"] []
  oc : OwnCmp K t.cWill eF sF
  rP : Addr
  rC : Value
  rF : Addr
  rD : FuncData
  rFn : Fun K "read" "Will.read" sDWillRead rF rD
  rB : Binds K rD ["cls", "text"] []
  rR : ClX.CRead K t.cWill rC
  rM : ClX.CMet K t.cWill rC "read" rP rF
  ty : ∀ {H : Hp} {a dx : Addr} {fs : List (Str × V)}, H a = some (.ins t.cWill dx fs) → TyOf K H (.ref a) (.ref t.cWill)
  is : PySem.W.kitOne K (.ref t.cWill) (.ref t.cWill) = some true
structure WOk (shs : List Sh) : Prop where
  ne : shs ≠ []
  l : shs.length ≤ 40
  ok : ∀ s ∈ shs, ShOk s ∧ s.2.length ≤ 40 ∧ ∀ g ∈ s.2, g.length ≤ 40
  w : ∀ s ∈ shs, s.1 ≤ 999999999
theorem WillOk.wok {ns : List Str} {shs : List Sh} (h : WillOk ns shs) : WOk shs := ⟨h.ne, by have := h.l3; omega, fun s hs => ⟨(h.ok s hs).1, by have := (h.ok s hs).2.1.l; omega, fun g hg => by have := (h.ok s hs).2.1.g g hg; omega⟩, fun s hs => by have := (h.ok s hs).2.1.w; omega⟩
theorem strsA_map (g : List Str) : strsA (g.map AD.str) = some g := by
  induction g with
  | nil => rfl
  | cons x g ih =>
    show (strsA (g.map AD.str)).map (x :: ·) = _
    rw [ih]
    rfl
theorem grp_ad {g : List Str} (h : GrpOk g) : isGrpA (adGrp g) = true := by
  unfold isGrpA grpA adGrp
  show Option.isSome (if (g.map AD.str).isEmpty then none else if (g.map AD.str).all isNameA then _ else none) = true
  rw [strsA_map]
  have h1 : (g.map AD.str).isEmpty = false := by
    cases g with
    | nil => exact absurd rfl h.ne
    | cons _ _ => rfl
  have h2 : (g.map AD.str).all isNameA = true := by
    rw [List.all_map]
    exact List.all_eq_true.mpr fun x hx => h.nm x hx
  rw [h1, h2]
  simp [h.nd]
theorem sh_ad {s : Sh} (h : ShOk s) : isShA (adSh s) = true := by
  show (decide (1 ≤ s.1) && isGrpsA (.lst (s.2.map adGrp))) = true
  rw [decide_eq_true h.w1]
  show (s.2.map adGrp).all isGrpA = true
  rw [List.all_map]
  exact List.all_eq_true.mpr fun g hg => grp_ad (h.gs g hg)
theorem will_ad {shs : List Sh} (h : WOk shs) : isWillA (adWill shs) = true := by
  show (!(shs.map adSh).isEmpty && (shs.map adSh).all isShA) = true
  have h1 : (shs.map adSh).isEmpty = false := by
    have := h.ne
    cases shs with
    | nil => exact absurd rfl this
    | cons _ _ => rfl
  rw [h1, List.all_map]
  exact List.all_eq_true.mpr fun s hs => sh_ad (h.ok s hs).1
theorem adOkA_of {ds : List AD} (h : ∀ d ∈ ds, AdOk K d) : AdOkA K ds := by
  induction ds with
  | nil => trivial
  | cons d ds ih => exact ⟨h d List.mem_cons_self, ih fun e he => h e (List.mem_cons_of_mem _ he)⟩
theorem name_len {x : Str} (h : nameB x = true) : x.length ≤ 5 := by
  unfold nameB at h
  simp only [Bool.and_eq_true, decide_eq_true_eq] at h
  exact h.1.1.2
theorem ok_grp {g : List Str} (h : GrpOk g) (hl : g.length ≤ 40) : AdOk K (adGrp g) := by
  refine ⟨by rw [List.length_map]; omega, adOkA_of fun d hd => ?_⟩
  obtain ⟨x, hx, rfl⟩ := List.mem_map.mp hd
  exact Nat.le_trans (name_len (h.nm x hx)) (by decide)
theorem adok_will {shs : List Sh} (h : WOk shs) : AdOk K (adWill shs) := by
  refine ⟨by rw [List.length_map]; have := h.l; omega, adOkA_of fun d hd => ?_⟩
  obtain ⟨s, hs, rfl⟩ := List.mem_map.mp hd
  obtain ⟨h1, h2, h3⟩ := h.ok s hs
  refine ⟨by show 2 < 4000; decide, trivial, ⟨by rw [List.length_map]; omega, adOkA_of fun e he => ?_⟩, trivial⟩
  obtain ⟨g, hg, rfl⟩ := List.mem_map.mp he
  exact ok_grp (h1.gs g hg) (h3 g hg)
/-- a will of the program at x -/
def WillAt (K : PySem.W.Frag) (C : Addr) (H : Hp) (x : Addr) (shs : List Sh) : Prop := ∃ dx t, H x = some (.ins C dx [("shares", .ref t)]) ∧ Dp K H (.ref t) (nWill shs)
theorem WillAt.mono {C : Addr} {H H' : Hp} {x : Addr} {shs : List Sh} (s : Same H H') (h : WillAt K C H x shs) : WillAt K C H' x shs := by
  obtain ⟨dx, t, e, d⟩ := h
  exact ⟨dx, t, s _ _ e, dp_mono s _ _ d⟩
def spWInit (K : PySem.W.Frag) (C : Addr) : Sp := fun vs H Q _ => ∃ (x dx : Addr) (v : V) (shs : List Sh), vs = [.ref x, v] ∧ H x = some (.ins C dx []) ∧ Av K H v (adWill shs) ∧ WOk shs ∧
  ∀ t H', (∀ b o, b ≠ x → H b = some o → H' b = some o) → H' x = some (.ins C dx [("shares", .ref t)]) → Dp K (news H H') (.ref t) (nWill shs) → Q .non H'
theorem ok_winit (W : TxtW K mg) : FnOk P w K mg base CX0 5 W.iF W.iD ["self", "shares"] (spWInit K W.t.cWill) := by
  refine W.iFn.ok scDWillInit (fun vs H Q E h => ?_) (fun cdv A outer s H vs Q E hr h => ?_)
  · obtain ⟨x, dx, v, shs, rfl, _⟩ := h
    rfl
  · obtain ⟨x, dx, v, shs, rfl, hx, hv, hw, q⟩ := h
    refine ⟨_, (pss_cons (ps_if (pt_not (pt_val (pe_call (ok_areshares W.t) (hr.mono (by decide)) (by rfl) W.t.dAreShares.g W.t.dAreShares.F.kp W.t.dAreShares.b .nil pass0 (pa_cons (pv 1) pa_nil))))
      (pss_one ps_never)
      pss_nil)
      (pss_one (ps_fld (pv 0) (pe_callTy call_tuple_of (by rfl) W.t.z_tuple (show bootBuiltins "tuple" = some (.type "tuple") by decide +kernel) (pa_cons (pe_lc (own := [("weight", 2), ("groups", 3)]) (g := (gTup K 2 (gCons (gName 2) (gCons (gName 3) gNil)))) (tt := tYes) rfl scDWillInit.nd (pi_seq (pv 1)) (blkOk_by (N := ["self", "shares", "weight", "groups"]) (sc := defScope sDWillInit) (by decide +kernel)) (fun _ _ _ _ _ => (pg_tup (n := 2) rfl (pgs_cons (pg_name (i := 2) scDWillInit.nd rfl (.inl rfl)) (pgs_cons (pg_name (i := 3) scDWillInit.nd rfl (.inl rfl)) pgs_nil)))) (fun _ _ _ _ _ => pts_nil) (fun _ _ _ _ _ => (pe_tup (pa_cons (pv 2) (pa_cons (pe_call (ok_lots W.t) (hr.mono (by decide)) (by rfl) W.t.dLots.g W.t.dLots.F.kp W.t.dLots.b .nil pass0 (pa_cons (pv 3) pa_nil)) pa_nil))))) pa_nil)) rfl))), ?_⟩
    simp only [and_assoc, tSeq, tAsg, tOp, tUn, rI, rI0, rU, tVar, tC, gName, L2.start, tIfS, tTest, tB, tCB, tCons, tNil, tIf, tRet, tRetN, tLst, tTup, tNext, tDrop, tNot, tNotV, tAnd, tOr, tAndV, tOrV, tPar, tAug, ipI, rEq, rNe, gSub, rSetL, rIxL, rIxT, tBM, tBM0, rAppend, rPopAt, gTup, gCons, gNil, tCall, tSl, tPart, tNoPart, rSlL, rCat, rEqD, rNeD, rIn, scal, List.map_cons, List.map_nil, List.length_cons, List.length_nil, List.length_map, List.cons_append, List.nil_append, List.append_nil, List.replicate, List.getElem?_cons_zero, List.getElem?_cons_succ, List.set_cons_zero, List.set_cons_succ, Option.some.injEq, exists_eq_left', exists_eq_left, exists_eq_right, exists_and_left, exists_and_right, V.int.injEq, V.ref.injEq, V.str.injEq, V.bl.injEq, reduceCtorEq, false_and, and_false, exists_false, or_false, false_or, true_and, and_true, List.cons.injEq, decide_eq_true_eq, cxOf, if_true, if_false, Bool.false_eq_true, Nat.reduceAdd, Nat.reduceSub, Nat.zero_add, Nat.add_sub_cancel_left, Nat.add_sub_cancel, Nat.sub_self, sFld, tFld, tFor_eq, tLc_eq, iRng1, iRng2, iList, iTup, iEnum, rIsi, rIsiT, iSeq, spIs, spLots]
    refine ⟨adWill shs, hv, adok_will hw, fun H1 s1 => ?_⟩
    rw [will_ad hw]
    simp only [and_assoc, tSeq, tAsg, tOp, tUn, rI, rI0, rU, tVar, tC, gName, L2.start, tIfS, tTest, tB, tCB, tCons, tNil, tIf, tRet, tRetN, tLst, tTup, tNext, tDrop, tNot, tNotV, tAnd, tOr, tAndV, tOrV, tPar, tAug, ipI, rEq, rNe, gSub, rSetL, rIxL, rIxT, tBM, tBM0, rAppend, rPopAt, gTup, gCons, gNil, tCall, tSl, tPart, tNoPart, rSlL, rCat, rEqD, rNeD, rIn, scal, List.map_cons, List.map_nil, List.length_cons, List.length_nil, List.length_map, List.cons_append, List.nil_append, List.append_nil, List.replicate, List.getElem?_cons_zero, List.getElem?_cons_succ, List.set_cons_zero, List.set_cons_succ, Option.some.injEq, exists_eq_left', exists_eq_left, exists_eq_right, exists_and_left, exists_and_right, V.int.injEq, V.ref.injEq, V.str.injEq, V.bl.injEq, reduceCtorEq, false_and, and_false, exists_false, or_false, false_or, true_and, and_true, List.cons.injEq, decide_eq_true_eq, cxOf, if_true, if_false, Bool.false_eq_true, Nat.reduceAdd, Nat.reduceSub, Nat.zero_add, Nat.add_sub_cancel_left, Nat.add_sub_cancel, Nat.sub_self, sFld, tFld, tFor_eq, tLc_eq, iRng1, iRng2, iList, iTup, iEnum, rIsi, rIsiT, iSeq, Bool.not_true]
    obtain ⟨a, xs, rfl, hs, ha⟩ := av_items hv rfl
    obtain ⟨J, hJ⟩ := (hs.mono s1).it
    have hxl : xs.length = shs.length := by rw [avA_len ha, List.length_map]
    have hlt := hw.l
    obtain ⟨H0, hH0⟩ : ∃ H0, H0 = H := ⟨H, rfl⟩
    refine ⟨a, rfl, xs, J, hJ, fun D nD => ?_⟩
    refine lg_pure (fun i y H => ∃ s, shs[i]? = some s ∧ Dp K (news H0 H) y (nSh s)) hJ (small1000 (by omega)) nD (fun i y H H' s h => let ⟨g, e1, e2⟩ := h; ⟨g, e1, dp_mono (news_mono s) _ _ e2⟩) (fun i x H2 Φ hx s2 hD hΦ => ?_) (fun ys H2 s2 eD hl2 hY => ?_)
    · simp only [and_assoc, tSeq, tAsg, tOp, tUn, rI, rI0, rU, tVar, tC, gName, L2.start, tIfS, tTest, tB, tCB, tCons, tNil, tIf, tRet, tRetN, tLst, tTup, tNext, tDrop, tNot, tNotV, tAnd, tOr, tAndV, tOrV, tPar, tAug, ipI, rEq, rNe, gSub, rSetL, rIxL, rIxT, tBM, tBM0, rAppend, rPopAt, gTup, gCons, gNil, tCall, tSl, tPart, tNoPart, rSlL, rCat, rEqD, rNeD, rIn, scal, List.map_cons, List.map_nil, List.length_cons, List.length_nil, List.length_map, List.cons_append, List.nil_append, List.append_nil, List.replicate, List.getElem?_cons_zero, List.getElem?_cons_succ, List.set_cons_zero, List.set_cons_succ, Option.some.injEq, exists_eq_left', exists_eq_left, exists_eq_right, exists_and_left, exists_and_right, V.int.injEq, V.ref.injEq, V.str.injEq, V.bl.injEq, reduceCtorEq, false_and, and_false, exists_false, or_false, false_or, true_and, and_true, List.cons.injEq, decide_eq_true_eq, cxOf, if_true, if_false, Bool.false_eq_true, Nat.reduceAdd, Nat.reduceSub, Nat.zero_add, Nat.add_sub_cancel_left, Nat.add_sub_cancel, Nat.sub_self, sFld, tFld, tFor_eq, tLc_eq, iRng1, iRng2, iList, iTup, iEnum, rIsi, rIsiT, iSeq, wipe, spLots]
      obtain ⟨d, ed, hx2⟩ := avA_get (avA_mono (s1.trans s2) _ _ ha) hx
      rw [List.getElem?_map] at ed
      obtain ⟨sh, eg, rfl⟩ := Option.map_eq_some_iff.mp ed
      obtain ⟨hok, h1, h2⟩ := hw.ok sh (List.mem_of_getElem? eg)
      cases hx2 with
      | @tup b zs _ hb hzs =>
        cases hzs with
        | cons w1 r1 =>
          cases w1
          cases r1 with
          | @cons v2 _ _ _ w2 r2 =>
            cases r2
            refine ⟨b, rfl, _, hb, rfl, _, _, rfl, v2, _, rfl, rfl, sh.2, w2, by omega, fun g hg => by have := h2 g hg; omega, fun r H3 s3 hr3 => ⟨by decide, fun p np => ?_⟩⟩
            have pD : p ≠ D := fun z => by
              cases e : H2 D with
              | none => exact hD e
              | some o => rw [z, s3 _ _ e] at np; cases np
            have s02 : Same H0 H2 := hH0 ▸ (s1.trans s2)
            refine hΦ _ _ (s3.trans (same_upd np)) ⟨sh, eg, ?_⟩
            have np0 : H0 p = none := s02.free (s3.free np)
            refine .tup (sqT_of (by rw [news_at np0, hide_ne pD, upd_same])) (.cons (.int _) (.cons ?_ .nil))
            exact dp_mono ((news_hide hD).trans ((news_up s02).trans (news_mono (hide_same (same_upd np))))) _ _ hr3
    · subst hH0
      have s02 : Same H0 H2 := s1.trans s2
      refine ⟨ys, .inl ⟨sqL_of eD, fun l nl => ?_⟩⟩
      have hds : DpAll K (news H0 H2) ys (shs.map nSh) := dp_list (by rw [hl2, List.length_map]; exact hxl) fun i y e => by
        obtain ⟨g, eg, er⟩ := hY i y e
        exact ⟨nSh g, by rw [List.getElem?_map, eg]; rfl, dp_mono news_hide2 _ _ er⟩
      have hx2 := same_upd (o := .tup ys) nl _ _ (s02 _ _ hx)
      have lx : l ≠ x := fun z => by rw [z, s02 _ _ hx] at nl; cases nl
      refine ⟨_, _, _, hx2, W.cl, W.nS, by show 0 < 1000; decide, q l _ (fun b o hb e => ?_) upd_same ?_⟩
      · rw [upd_ne hb]
        exact same_upd nl _ _ (s02 _ _ e)
      · have nl0 := s02.free nl
        refine .tup (sqT_of (by rw [news_at nl0, upd_ne lx, upd_same])) (dpA_mono (fun b o e => ?_) _ _ hds)
        obtain ⟨e1, e2⟩ := news_get e
        have bx : b ≠ x := fun z => by rw [z, hx] at e1; cases e1
        rw [news_at e1, upd_ne bx]
        exact same_upd nl _ _ e2

end
end He

namespace He
open PySem PySem.Spec PyProof.Rows L2
section
variable {P : Program} {w : World} {K : PySem.W.Frag} {mg : Str → Option Value} {base : Heap}

def rJoin (K : PySem.W.Frag) : V → List V → Hp → VK → Prop := fun x xs H Q => ∃ a p, ∃ ys : List Str, x = .str a ∧ xs = [.ref p] ∧ Sq K H p (ys.map V.str) ∧ (ys.map (·.length)).sum + ys.length * a.length ≤ 16777216 ∧ Q (.str (Txt.join a ys)) H
theorem pe_joinD {X : Cx} {o e : Expr} {to te : TE} {apos pos : Pos} (hK : X.K = K) (ho : PE X o to) (he : PE X e te) (hs : starEach [e] X.env = [(false, eval e X.env)] := by rfl) (hb : attributeBase o "join" X.env (eval o X.env) = eval o X.env := by rfl) (hl : (apos.endLine == pos.line) = true := by rfl) :
    PE X (.Call (.Attribute o "join" apos) [e] [] pos) (tM1 (rJoin K) to te) := by
  subst hK
  exact pe_join ho he hs hb hl
theorem canLay_strs : ∀ {g : List Str}, (∀ n ∈ g, nameB n = true) → PyData.canLayAll0 (g.map PyData.str) = true
  | [], _ => rfl
  | x :: g, h => by
    show (PyData.strOk x && PyData.canLayAll0 (g.map PyData.str)) = true
    rw [canLay_strs fun n hn => h n (List.mem_cons_of_mem _ hn), Bool.and_true]
    have hx := h x List.mem_cons_self
    unfold nameB at hx
    simp only [Bool.and_eq_true, decide_eq_true_eq] at hx
    have h2 := hx.1.2
    show x.cps.all (· < 0x110000) = true
    rw [Array.all_eq_true] at h2 ⊢
    intro i hi
    have := h2 i hi
    simp only [Bool.and_eq_true, decide_eq_true_eq] at this
    exact decide_eq_true (by omega)
theorem canLay_map {α : Type} {f : α → PyData} : ∀ {l : List α}, (∀ x ∈ l, PyData.canLay0 (f x) = true) → PyData.canLayAll0 (l.map f) = true
  | [], _ => rfl
  | x :: l, h => by
    show (PyData.canLay0 (f x) && PyData.canLayAll0 (l.map f)) = true
    rw [h x List.mem_cons_self, canLay_map fun y hy => h y (List.mem_cons_of_mem _ hy)]
    rfl
theorem depth_map {α : Type} {f : α → PyData} {n : Nat} : ∀ {l : List α}, (∀ x ∈ l, PyData.depth (f x) ≤ n) → PyData.depthAll (l.map f) ≤ n
  | [], _ => Nat.zero_le _
  | x :: l, h => by
    show max (PyData.depth (f x)) (PyData.depthAll (l.map f)) ≤ n
    exact Nat.max_le.mpr ⟨h x List.mem_cons_self, depth_map fun y hy => h y (List.mem_cons_of_mem _ hy)⟩
theorem depth_strs (g : List Str) : PyData.depthAll (g.map PyData.str) ≤ 0 := depth_map fun _ _ => Nat.le_refl _
theorem nm_sort {g : List Str} (h : ∀ n ∈ g, nameB n = true) : ∀ n ∈ sortG g, nameB n = true := fun n hn => h n ((sortG_perm g).mem_iff.mp hn)
theorem lay_nGrp {g : List Str} (h : GrpOk g) : PyData.canLay0 (nGrp g) = true ∧ PyData.depth (nGrp g) ≤ 1 := by
  refine ⟨canLay_strs (nm_sort h.nm), ?_⟩
  show PyData.depthAll _ + 1 ≤ 1
  have := depth_strs (sortG g)
  omega
theorem lay_nSh {s : Sh} (h : ShOk s) : PyData.canLay0 (nSh s) = true ∧ PyData.depth (nSh s) ≤ 3 := by
  have h1 : PyData.canLayAll0 (s.2.map nGrp) = true := canLay_map fun g hg => (lay_nGrp (h.gs g hg)).1
  have h2 : PyData.depthAll (s.2.map nGrp) ≤ 1 := depth_map fun g hg => (lay_nGrp (h.gs g hg)).2
  constructor
  · show (true && (PyData.canLayAll0 (s.2.map nGrp) && true)) = true
    rw [h1]
    rfl
  · show max 0 (max (PyData.depthAll (s.2.map nGrp) + 1) 0) + 1 ≤ 3
    omega
theorem lay_nWill {shs : List Sh} (h : WOk shs) : SeqAt.shaped (nWill shs) = true := by
  have h1 : PyData.canLayAll0 (shs.map nSh) = true := canLay_map fun s hs => (lay_nSh (h.ok s hs).1).1
  have h2 : PyData.depthAll (shs.map nSh) ≤ 3 := depth_map fun s hs => (lay_nSh (h.ok s hs).1).2
  show (PyData.canLay0 (nWill shs) && decide (PyData.depth (nWill shs) ≤ 64)) = true
  rw [show PyData.canLay0 (nWill shs) = true from h1, show PyData.depth (nWill shs) = PyData.depthAll (shs.map nSh) + 1 from rfl, decide_eq_true (by omega)]
  rfl
def spWEq (K : PySem.W.Frag) (C : Addr) : Sp := fun vs H Q _ => ∃ (a b : Addr) (s1 s2 : List Sh), vs = [.ref a, .ref b] ∧ WillAt K C H a s1 ∧ WillAt K C H b s2 ∧ WOk s1 ∧ WOk s2 ∧ Q (.bl (PyData.eqv (nWill s1) (nWill s2))) H
theorem ok_weq (W : TxtW K mg) : FnOk P w K mg base CX0 1 W.eF W.eD ["self", "other"] (spWEq K W.t.cWill) := by
  refine W.eFn.ok scDWillEq (fun vs H Q E h => ?_) (fun cdv A outer s H vs Q E hr h => ?_)
  · obtain ⟨a, b, s1, s2, rfl, _⟩ := h
    rfl
  · obtain ⟨a, b, s1, s2, rfl, h1, h2, w1, w2, q⟩ := h
    refine ⟨_, (pss_one (ps_ret (pe_and (pe_callB call_isi (by rfl) W.t.z_isinstance (show bootBuiltins "isinstance" = some (.builtin "isinstance") by decide +kernel) (pa_cons (pv 1) (pa_cons (pe_glob (v := .ref W.t.cWill) (by rfl) W.t.gcWill rfl) pa_nil))) (pe_one (pe_cmpR (op_eqD hr.units) (pe_fld (pv 0) rfl) (pe_fld (pv 1) rfl) (nomark _)))))), ?_⟩
    obtain ⟨dx, t1, e1, d1⟩ := h1
    obtain ⟨dy, t2, e2, d2⟩ := h2
    simp only [and_assoc, tSeq, tAsg, tOp, tUn, rI, rI0, rU, tVar, tC, gName, L2.start, tIfS, tTest, tB, tCB, tCons, tNil, tIf, tRet, tRetN, tLst, tTup, tNext, tDrop, tNot, tNotV, tAnd, tOr, tAndV, tOrV, tPar, tAug, ipI, rEq, rNe, gSub, rSetL, rIxL, rIxT, tBM, tBM0, rAppend, rPopAt, gTup, gCons, gNil, tCall, tSl, tPart, tNoPart, rSlL, rCat, rEqD, rNeD, rIn, scal, List.map_cons, List.map_nil, List.length_cons, List.length_nil, List.length_map, List.cons_append, List.nil_append, List.append_nil, List.replicate, List.getElem?_cons_zero, List.getElem?_cons_succ, List.set_cons_zero, List.set_cons_succ, Option.some.injEq, exists_eq_left', exists_eq_left, exists_eq_right, exists_and_left, exists_and_right, V.int.injEq, V.ref.injEq, V.str.injEq, V.bl.injEq, reduceCtorEq, false_and, and_false, exists_false, or_false, false_or, true_and, and_true, List.cons.injEq, decide_eq_true_eq, cxOf, if_true, if_false, Bool.false_eq_true, Nat.reduceAdd, Nat.reduceSub, Nat.zero_add, Nat.add_sub_cancel_left, Nat.add_sub_cancel, Nat.sub_self, sFld, tFld, tFor_eq, tLc_eq, iRng1, iRng2, iList, iTup, iEnum, rIsi, rIsiT, iSeq, tM0, tM1, tFmt, tJs, rJoin]
    refine ⟨_, _, .own _, .base (W.ty e2), _, W.is, ?_⟩
    simp only [and_assoc, tSeq, tAsg, tOp, tUn, rI, rI0, rU, tVar, tC, gName, L2.start, tIfS, tTest, tB, tCB, tCons, tNil, tIf, tRet, tRetN, tLst, tTup, tNext, tDrop, tNot, tNotV, tAnd, tOr, tAndV, tOrV, tPar, tAug, ipI, rEq, rNe, gSub, rSetL, rIxL, rIxT, tBM, tBM0, rAppend, rPopAt, gTup, gCons, gNil, tCall, tSl, tPart, tNoPart, rSlL, rCat, rEqD, rNeD, rIn, scal, List.map_cons, List.map_nil, List.length_cons, List.length_nil, List.length_map, List.cons_append, List.nil_append, List.append_nil, List.replicate, List.getElem?_cons_zero, List.getElem?_cons_succ, List.set_cons_zero, List.set_cons_succ, Option.some.injEq, exists_eq_left', exists_eq_left, exists_eq_right, exists_and_left, exists_and_right, V.int.injEq, V.ref.injEq, V.str.injEq, V.bl.injEq, reduceCtorEq, false_and, and_false, exists_false, or_false, false_or, true_and, and_true, List.cons.injEq, decide_eq_true_eq, cxOf, if_true, if_false, Bool.false_eq_true, Nat.reduceAdd, Nat.reduceSub, Nat.zero_add, Nat.add_sub_cancel_left, Nat.add_sub_cancel, Nat.sub_self, sFld, tFld, tFor_eq, tLc_eq, iRng1, iRng2, iList, iTup, iEnum, rIsi, rIsiT, iSeq, tM0, tM1, tFmt, tJs, rJoin]
    exact ⟨_, _, _, e1, W.cl, W.nS, _, rfl, _, _, _, e2, W.cl, W.nS, _, rfl, _, d1, _, d2, lay_nWill w1, lay_nWill w2, q⟩
/-! ### the texts -/
def grpT (g : List Str) : Str := Txt.join "+" g
def shareT (s : Sh) : Str := if s.2 = [] then (toString s.1 : Str) else ((Str.empty ++ (toString s.1 : Str)) ++ (" " : Str)) ++ Txt.join " > " (s.2.map grpT)
def willT (shs : List Sh) : Str := Txt.join " | " (shs.map shareT)
def nrmS (s : Sh) : Sh := (s.1, s.2.map sortG)
theorem join_len (sep : Str) (ys : List Str) : (Txt.join sep ys).length ≤ (ys.map (·.length)).sum + ys.length * sep.length := by
  have e : Txt.join sep ys = Str.join sep ys := StrLaws.glued_eq_join sep ys
  rw [e]
  exact StrLaws.join_length_le sep ys
theorem sum_le {B : Nat} : ∀ {ys : List Str}, (∀ y ∈ ys, y.length ≤ B) → (ys.map (·.length)).sum ≤ ys.length * B
  | [], _ => by simp
  | y :: ys, h => by
    have h1 := h y List.mem_cons_self
    have h2 := sum_le fun z hz => h z (List.mem_cons_of_mem y hz)
    rw [List.map_cons, List.sum_cons, List.length_cons, Nat.succ_mul]
    omega
theorem app_len (a b : Str) : (a ++ b).length = a.length + b.length := by
  show (a.cps ++ b.cps).size = a.cps.size + b.cps.size
  exact Array.size_append
theorem grpT_sum {g : List Str} (h : ∀ n ∈ g, nameB n = true) (hl : g.length ≤ 40) : (g.map (·.length)).sum + g.length * ("+" : Str).length ≤ 240 := by
  have h1 := sum_le (B := 5) fun n hn => name_len (h n hn)
  have h2 : ("+" : Str).length = 1 := by decide +kernel
  rw [h2]
  have h3 : g.length * 5 ≤ 40 * 5 := Nat.mul_le_mul_right _ hl
  omega
theorem grpT_len {g : List Str} (h : ∀ n ∈ g, nameB n = true) (hl : g.length ≤ 40) : (grpT g).length ≤ 240 := Nat.le_trans (join_len _ _) (grpT_sum h hl)
theorem told_sum {gs : List (List Str)} (h : ∀ g ∈ gs, (∀ n ∈ g, nameB n = true) ∧ g.length ≤ 40) (hl : gs.length ≤ 40) : ((gs.map grpT).map (·.length)).sum + (gs.map grpT).length * (" > " : Str).length ≤ 9720 := by
  have h1 := sum_le (B := 240) (ys := gs.map grpT) fun y hy => by
    obtain ⟨g, hg, rfl⟩ := List.mem_map.mp hy
    exact grpT_len (h g hg).1 (h g hg).2
  have h2 : (" > " : Str).length = 3 := by decide +kernel
  rw [h2]
  rw [List.length_map] at h1 ⊢
  have h3 : gs.length * 240 ≤ 40 * 240 := Nat.mul_le_mul_right _ hl
  omega
theorem w_len {w : Int} (h0 : 1 ≤ w) (h1 : w ≤ 999999999) : (Str.ofString (toString w)).length ≤ 9 ∧ w.natAbs.log2 < 1920 := by
  constructor
  · exact PyProof.Rows.toString_length_le (by omega) (by decide) (by show w < 1000000000; omega)
  · exact PyProof.Rows.shown_abs (N := 1000000000) (by split <;> omega) (by decide +kernel)
def spShareT (K : PySem.W.Frag) : Sp := fun vs H Q _ => ∃ (a : Addr) (s : Sh), vs = [.int s.1, .ref a] ∧ Dp K H (.ref a) (.tuple (s.2.map nGrp)) ∧ ShOk s ∧ s.2.length ≤ 40 ∧ (∀ g ∈ s.2, g.length ≤ 40) ∧ s.1 ≤ 999999999 ∧ ∀ H', Same H H' → Q (.str (shareT (nrmS s))) H'
theorem ok_sharetext (T : TxtG K mg) : FnOk P w K mg base CX0 1 T.dShareText.f T.dShareText.fd ["weight", "groups"] (spShareT K) := by
  refine T.dShareText.F.ok scDShareText (fun vs H Q E h => ?_) (fun cdv A outer s H vs Q E hr h => ?_)
  · obtain ⟨a, s, rfl, _⟩ := h
    rfl
  · obtain ⟨a, s, rfl, hd, ho, hl, hg, hw, q⟩ := h
    refine ⟨_, (pss_cons (ps_if (pt_not (pt_truth (pv 1) (by intro _; rfl)))
      (pss_one (ps_ret (pe_callTy call_str_int (by rfl) T.z_str (show bootBuiltins "str" = some (.type "str") by decide +kernel) (pa_cons (pv 0) pa_nil))))
      pss_nil)
      (pss_cons (ps_set (i := 2) scDShareText.nd rfl (.inl rfl) (pe_joinD (K := K) rfl pe_str (pe_lc (own := [("group", 3)]) (g := (gName 3)) (tt := tYes) rfl scDShareText.nd (pi_seq (pv 1)) (blkOk_by (N := ["weight", "groups", "told", "group"]) (sc := defScope sDShareText) (by decide +kernel)) (fun _ _ _ _ _ => (pg_name (i := 3) scDShareText.nd rfl (.inl rfl))) (fun _ _ _ _ _ => pts_nil) (fun _ _ _ _ _ => (pe_joinD (K := K) rfl pe_str (pv 3))))))
      (pss_one (ps_ret (pe_joined (.cons (pe_fmt (pv 0)) (.cons pe_str (.cons (pe_fmt (pv 2)) .nil)))))))), ?_⟩
    simp only [and_assoc, tSeq, tAsg, tOp, tUn, rI, rI0, rU, tVar, tC, gName, L2.start, tIfS, tTest, tB, tCB, tCons, tNil, tIf, tRet, tRetN, tLst, tTup, tNext, tDrop, tNot, tNotV, tAnd, tOr, tAndV, tOrV, tPar, tAug, ipI, rEq, rNe, gSub, rSetL, rIxL, rIxT, tBM, tBM0, rAppend, rPopAt, gTup, gCons, gNil, tCall, tSl, tPart, tNoPart, rSlL, rCat, rEqD, rNeD, rIn, scal, List.map_cons, List.map_nil, List.length_cons, List.length_nil, List.length_map, List.cons_append, List.nil_append, List.append_nil, List.replicate, List.getElem?_cons_zero, List.getElem?_cons_succ, List.set_cons_zero, List.set_cons_succ, Option.some.injEq, exists_eq_left', exists_eq_left, exists_eq_right, exists_and_left, exists_and_right, V.int.injEq, V.ref.injEq, V.str.injEq, V.bl.injEq, reduceCtorEq, false_and, and_false, exists_false, or_false, false_or, true_and, and_true, List.cons.injEq, decide_eq_true_eq, cxOf, if_true, if_false, Bool.false_eq_true, Nat.reduceAdd, Nat.reduceSub, Nat.zero_add, Nat.add_sub_cancel_left, Nat.add_sub_cancel, Nat.sub_self, sFld, tFld, tFor_eq, tLc_eq, iRng1, iRng2, iList, iTup, iEnum, rIsi, rIsiT, iSeq, tM0, tM1, tFmt, tJs, rJoin]
    obtain ⟨xs, hs, ha⟩ : ∃ xs, SqT K H a xs ∧ DpAll K H xs (s.2.map nGrp) := by
      cases hd with
      | tup h1 h2 => exact ⟨_, h1, h2⟩
    have hxl : xs.length = s.2.length := by rw [dpA_len ha, List.length_map]
    obtain ⟨wl, wd⟩ := w_len ho.w1 hw
    refine ⟨_, .inr (.inl ⟨xs, hs, rfl⟩), ?_⟩
    by_cases h0 : s.2 = []
    · have hx0 : xs = [] := List.length_eq_zero_iff.mp (by rw [hxl, h0]; rfl)
      rw [hx0]
      simp only [and_assoc, tSeq, tAsg, tOp, tUn, rI, rI0, rU, tVar, tC, gName, L2.start, tIfS, tTest, tB, tCB, tCons, tNil, tIf, tRet, tRetN, tLst, tTup, tNext, tDrop, tNot, tNotV, tAnd, tOr, tAndV, tOrV, tPar, tAug, ipI, rEq, rNe, gSub, rSetL, rIxL, rIxT, tBM, tBM0, rAppend, rPopAt, gTup, gCons, gNil, tCall, tSl, tPart, tNoPart, rSlL, rCat, rEqD, rNeD, rIn, scal, List.map_cons, List.map_nil, List.length_cons, List.length_nil, List.length_map, List.cons_append, List.nil_append, List.append_nil, List.replicate, List.getElem?_cons_zero, List.getElem?_cons_succ, List.set_cons_zero, List.set_cons_succ, Option.some.injEq, exists_eq_left', exists_eq_left, exists_eq_right, exists_and_left, exists_and_right, V.int.injEq, V.ref.injEq, V.str.injEq, V.bl.injEq, reduceCtorEq, false_and, and_false, exists_false, or_false, false_or, true_and, and_true, List.cons.injEq, decide_eq_true_eq, cxOf, if_true, if_false, Bool.false_eq_true, Nat.reduceAdd, Nat.reduceSub, Nat.zero_add, Nat.add_sub_cancel_left, Nat.add_sub_cancel, Nat.sub_self, sFld, tFld, tFor_eq, tLc_eq, iRng1, iRng2, iList, iTup, iEnum, rIsi, rIsiT, iSeq, tM0, tM1, tFmt, tJs, rJoin, List.isEmpty_nil, Bool.not_true, Bool.not_false]
      refine ⟨wd, ?_⟩
      have e : shareT (nrmS s) = Str.ofString (toString s.1) := by
        unfold shareT nrmS
        rw [h0]
        rfl
      rw [← e]
      exact q H (Same.refl H)
    · have hie : xs.isEmpty = false := by
        cases xs with
        | nil => exact absurd (List.length_eq_zero_iff.mp (by rw [← hxl]; rfl)) h0
        | cons _ _ => rfl
      rw [hie]
      simp only [and_assoc, tSeq, tAsg, tOp, tUn, rI, rI0, rU, tVar, tC, gName, L2.start, tIfS, tTest, tB, tCB, tCons, tNil, tIf, tRet, tRetN, tLst, tTup, tNext, tDrop, tNot, tNotV, tAnd, tOr, tAndV, tOrV, tPar, tAug, ipI, rEq, rNe, gSub, rSetL, rIxL, rIxT, tBM, tBM0, rAppend, rPopAt, gTup, gCons, gNil, tCall, tSl, tPart, tNoPart, rSlL, rCat, rEqD, rNeD, rIn, scal, List.map_cons, List.map_nil, List.length_cons, List.length_nil, List.length_map, List.cons_append, List.nil_append, List.append_nil, List.replicate, List.getElem?_cons_zero, List.getElem?_cons_succ, List.set_cons_zero, List.set_cons_succ, Option.some.injEq, exists_eq_left', exists_eq_left, exists_eq_right, exists_and_left, exists_and_right, V.int.injEq, V.ref.injEq, V.str.injEq, V.bl.injEq, reduceCtorEq, false_and, and_false, exists_false, or_false, false_or, true_and, and_true, List.cons.injEq, decide_eq_true_eq, cxOf, if_true, if_false, Bool.false_eq_true, Nat.reduceAdd, Nat.reduceSub, Nat.zero_add, Nat.add_sub_cancel_left, Nat.add_sub_cancel, Nat.sub_self, sFld, tFld, tFor_eq, tLc_eq, iRng1, iRng2, iList, iTup, iEnum, rIsi, rIsiT, iSeq, tM0, tM1, tFmt, tJs, rJoin, Bool.not_true, Bool.not_false]
      refine ⟨⟨_, rfl⟩, xs, _, .inr ⟨rfl, hs⟩, fun D nD => ?_⟩
      refine lg_pure (fun i y _ => ∃ g, s.2[i]? = some g ∧ y = .str (grpT (sortG g))) (.inr ⟨rfl, hs⟩) (small1000 (by omega)) nD (fun _ _ _ _ _ h => h) (fun i x H2 Φ hx s2 hD hΦ => ?_) (fun ys H2 s2 eD hl2 hY => ?_)
      · simp only [and_assoc, tSeq, tAsg, tOp, tUn, rI, rI0, rU, tVar, tC, gName, L2.start, tIfS, tTest, tB, tCB, tCons, tNil, tIf, tRet, tRetN, tLst, tTup, tNext, tDrop, tNot, tNotV, tAnd, tOr, tAndV, tOrV, tPar, tAug, ipI, rEq, rNe, gSub, rSetL, rIxL, rIxT, tBM, tBM0, rAppend, rPopAt, gTup, gCons, gNil, tCall, tSl, tPart, tNoPart, rSlL, rCat, rEqD, rNeD, rIn, scal, List.map_cons, List.map_nil, List.length_cons, List.length_nil, List.length_map, List.cons_append, List.nil_append, List.append_nil, List.replicate, List.getElem?_cons_zero, List.getElem?_cons_succ, List.set_cons_zero, List.set_cons_succ, Option.some.injEq, exists_eq_left', exists_eq_left, exists_eq_right, exists_and_left, exists_and_right, V.int.injEq, V.ref.injEq, V.str.injEq, V.bl.injEq, reduceCtorEq, false_and, and_false, exists_false, or_false, false_or, true_and, and_true, List.cons.injEq, decide_eq_true_eq, cxOf, if_true, if_false, Bool.false_eq_true, Nat.reduceAdd, Nat.reduceSub, Nat.zero_add, Nat.add_sub_cancel_left, Nat.add_sub_cancel, Nat.sub_self, sFld, tFld, tFor_eq, tLc_eq, iRng1, iRng2, iList, iTup, iEnum, rIsi, rIsiT, iSeq, tM0, tM1, tFmt, tJs, rJoin, wipe]
        obtain ⟨d, ed, hx2⟩ := dpA_get (dpA_mono s2 _ _ ha) hx
        rw [List.getElem?_map] at ed
        obtain ⟨g, eg, rfl⟩ := Option.map_eq_some_iff.mp ed
        have hgm := List.mem_of_getElem? eg
        cases hx2 with
        | @tup b zs _ hb hzs =>
          have ez := dpA_strs_inv hzs
          subst ez
          have hnm := nm_sort (ho.gs g hgm).nm
          have hgl : (sortG g).length ≤ 40 := by rw [(sortG_perm g).length_eq]; exact hg g hgm
          have hsum := grpT_sum hnm hgl
          exact ⟨⟨_, rfl⟩, b, rfl, sortG g, .inr hb, by omega, hΦ _ _ (Same.refl _) ⟨g, eg, rfl⟩⟩
      · have ey : ys = ((s.2.map fun g => grpT (sortG g))).map V.str := by
          refine List.ext_getElem? fun i => ?_
          rw [List.getElem?_map, List.getElem?_map]
          cases e : ys[i]? with
          | none =>
            rw [List.getElem?_eq_none (by have := List.getElem?_eq_none_iff.mp e; omega)]
            rfl
          | some y =>
            obtain ⟨g, eg, rfl⟩ := hY i y e
            rw [eg]
            rfl
        have e2 : (s.2.map fun g => grpT (sortG g)) = (nrmS s).2.map grpT := by unfold nrmS; rw [List.map_map]; rfl
        have hts := told_sum (gs := (nrmS s).2) (fun g hgm => by
          obtain ⟨g0, hg0, rfl⟩ := List.mem_map.mp hgm
          exact ⟨nm_sort (ho.gs g0 hg0).nm, by rw [(sortG_perm g0).length_eq]; exact hg g0 hg0⟩) (by show (s.2.map sortG).length ≤ 40; rw [List.length_map]; exact hl)
        have htl := join_len " > " ((nrmS s).2.map grpT)
        have hsp : (Str.ofString " ").length = 1 := by decide +kernel
        have hem : Str.empty.length = 0 := by decide +kernel
        have big : 16777216 ≤ sizeLine := by decide
        refine ⟨(nrmS s).2.map grpT, .inl (sqL_of (by rw [eD, ey, e2])), by omega, wd, ?_, ?_, by omega, ?_, ?_⟩
        · rw [app_len, hem]; omega
        · rw [app_len, app_len, hem, hsp]; omega
        · rw [app_len, app_len, app_len, hem, hsp]; omega
        · have e : shareT (nrmS s) = Str.empty ++ Str.ofString (toString s.1) ++ Str.ofString " " ++ Txt.join (Str.ofString " > ") ((nrmS s).2.map grpT) := by
            unfold shareT
            rw [if_neg (show (nrmS s).2 ≠ [] from fun z => h0 (List.map_eq_nil_iff.mp z))]
            rfl
          rw [← e]
          exact q _ s2

end
end He

/-! sorted(t), t a tuple of texts -/
namespace SrtQ
open PySem PySem.Spec PyProof.Rows
section
variable {prog : Program} {w : World} {A : Around} {E : Value → Shared → Prop} {s : Shared}
theorem collect_tupQ {l : Addr} {vs : List Value} {Q : List Value → Shared → Prop} (hl : s.heap.IsTuple l vs.toArray) (hsz : vs.length ≤ sizeLine)
    (h : Q vs { s with heap := (s.heap.push (seqObj "list" #[] 0)).update s.heap.objs.size (Obj.mapSeq (· ++ vs.toArray)) }) : wpAny (model prog w) A (collect (.ref l)) Q E s := by
  obtain ⟨o, ho, hc, n, hd⟩ := id hl
  unfold collect; refine wpAny_bind (wpAny_runValue (codeAny_builtin entry_proto_collect' ?_))
  show wpAny _ _ (do again (.builtin "list.__iadd__" ⟨[← newList [], .ref l], []⟩)) _ _ s; refine wpAny_bind (wpAny_newList (wpAny_pure ⟨Code.quiet_builtin _ (by decide +kernel), codeAny_builtin entry_list_iadd' ?_⟩))
  show wpAny _ _ (Builtin.List.listExtendWith (.ref s.heap.objs.size) (.ref l) (.ref s.heap.objs.size)) _ _ { s with heap := s.heap.push (seqObj "list" #[] 0) }; unfold Builtin.List.listExtendWith
  have ho' : (s.heap.push (seqObj "list" #[] 0)).get? l = some o := Heap.get?_push_of_some _ ho; refine wpAny_bind (wpAny_typeOf (T := "tuple") ⟨o, ho', hc⟩ ?_)
  rw [if_pos (by rw [show (Value.type "tuple" == Value.type "tuple") = true by rfl]; simp)]
  refine wpAny_bind (listItems_at ho' hd ?_); refine wpAny_bind (listItems_at (xs := #[]) (n := 0) (Heap.get?_push_size _ rfl) rfl ?_); rw [if_neg (by simp)]
  refine wpAny_bind (listUpdate_at (xs := #[]) (n := 0) (Heap.get?_push_size _ rfl) rfl ?_ (Nat.zero_le _) (by show (#[] ++ vs.toArray).size ≤ sizeLine + 1; simp only [Array.size_append, List.size_toArray, List.length_nil]; omega)); refine wpAny_pure ?_
  show wpAny (model prog w) A (do
      let o ← load s.heap.objs.size; match o.data with
      | .seq xs _ => pure xs.toList
      | _ => unsupported "internal:collect") Q E { s with heap := (s.heap.push (seqObj "list" #[] 0)).update s.heap.objs.size (Obj.mapSeq (· ++ vs.toArray)) }
  refine wpAny_bind (wpAny_load (get?_update_seq (Heap.get?_push_size _ rfl) _) ?_); show wpAny _ _ (pure ((#[] : Array Value) ++ vs.toArray).toList) Q E _
  rw [show ((#[] : Array Value) ++ vs.toArray).toList = vs by simp]; exact wpAny_pure h
theorem sorted_strsQ {l : Addr} {vs : List Value} {ss : List Str} {Q : Value → Shared → Prop} (hl : s.heap.IsTuple l vs.toArray) (hS : StrsAre vs ss) (h64 : vs.length < 64)
    (h : ∀ (out : Array Value) (ss' : List Str), StrsAre out.toList ss' → ss'.Perm ss → sortedS ss' = true → Q (.ref (s.heap.objs.size + 1)) { s with heap := sortedAll s.heap vs out }) : wpAny (model prog w) A (call (.builtin "sorted") [.ref l]) Q E s := by
  refine Calls.call_function_entry kind_sorted plain_sorted entry_sorted (args_sorted1 _) ?_; unfold Builtin.«sorted»
  refine wpAny_bind (m := checkCount "sorted" 1 1 _) (wpAny_pure ?_); refine wpAny_bind (collect_tupQ hl (by rw [sizeLine_eq]; omega) ?_); refine wpAny_bind (wpAny_newList ?_)
  have hsz : ((s.heap.push (seqObj "list" #[] 0)).update s.heap.objs.size (Obj.mapSeq (· ++ vs.toArray))).objs.size = s.heap.objs.size + 1 := by rw [Heap.size_update, size_push']
  have hoL : (((s.heap.push (seqObj "list" #[] 0)).update s.heap.objs.size (Obj.mapSeq (· ++ vs.toArray))).push (seqObj "list" vs.toArray 0)).get? (s.heap.objs.size + 1) = some (seqObj "list" vs.toArray 0) := by rw [← hsz]; exact Heap.get?_push_size _ rfl
  show wpAny _ _ _ _ _ { s with heap := ((s.heap.push (seqObj "list" #[] 0)).update s.heap.objs.size (Obj.mapSeq (· ++ vs.toArray))).push (seqObj "list" vs.toArray 0) }; rw [hsz]
  refine wpAny_bind (wpAny_holding (wpAny_call_entry slot_list_sort ⟨_, hoL, rfl⟩ entry_list_sort (list_sort_treeK strKind_oneLt hoL hS.keysOf (fun v₁ v₂ rest e => keyKind_strs (by rw [← e]; exact hS)) h64 fun st' hp hs => ⟨_, rfl, ?_⟩) (args_list_sort _)))
  obtain ⟨ss', h1, h2, h3⟩ := sorted_out_str hS hp hs; exact wpAny_pure ⟨_, rfl, h _ ss' h1 h2 h3⟩
end
end SrtQ
namespace He
open PySem PySem.Spec PyProof.Rows L2
/-- sorted(xs), xs a list or a tuple of texts -/
def rSortedQ (K : PySem.W.Frag) : List V → Hp → VK → Prop := fun vs H Q => ∃ (a : Addr) (xs : List Str), vs = [V.ref a] ∧ (SqL K H a (xs.map V.str) ∨ SqT K H a (xs.map V.str)) ∧ xs.length < 64 ∧
  ∀ (ys : List Str) (p : Addr), ys.Perm xs → sortedS ys = true → H p = none → Q (.ref p) (upd H p (.lst (ys.map V.str)))
theorem cr_sortedQ {X : Cx} : CallR X (.builtin "sorted") (rSortedQ X.K) := by
  intro pins s σ H vs us Q I r h
  obtain ⟨a, xs, rfl, hs, h64, q⟩ := h
  rcases hs with hs | hs
  · exact cr_sortedS pins s σ H _ us Q I r ⟨a, xs, rfl, hs, h64, q⟩
  · obtain ⟨its, rv, hl, _⟩ := I.tuple hs
    rw [Vals.ref1 r]
    have hlen0 := rv.length
    rw [List.length_map] at hlen0
    refine SrtQ.sorted_strsQ hl rv.strs (by rw [← hlen0]; exact h64) fun out ys h1 h2 h3 => ?_
    obtain ⟨ep, he'⟩ := PyProof.Rows.sortedAll_at s.heap its out
    have hlen : (ys.map V.str).length ≤ sizeLine := by rw [List.length_map, h2.length_eq]; exact small64 h64
    refine ⟨.ref _, upd H (s.heap.objs.size + 1) (.lst (ys.map V.str)), I.laid (t' := s.toks) (fun _ _ => PyProof.Rows.sortedAll_old) (Nat.le_succ _) ⟨hlen, out.toList, ep, vals_of_strs h1, he'⟩, rfl, ?_⟩
    exact q ys _ h2 h3 (I.hok.fresh (Nat.le_succ _))
end He

/-! enumerate(t), t a tuple -/
namespace EnT
open PySem PySem.Spec PyProof.Rows
open PySem.Sem (wp)
open PySem.AutoSeq1 (wpAny_loadPart')
theorem meets_enumT (l : Addr) (items : Array Value) (n : Nat) (dct : Option Addr) (sl : Array (Option Value)) :
    Meets (Builtin.«enumerate.__new__» ⟨[.type "enumerate", .ref l], []⟩) (fun _ R s => s.heap.get? l = some { cls := .type "tuple", dict := dct, data := .seq items n, slots := sl } ∧
      R (.ok (.ret (.ref (s.heap.push { cls := .type "tuple_iterator", data := .fields #[.ref l, .int 0 0] }).objs.size)))
        { s with heap := (s.heap.push { cls := .type "tuple_iterator", data := .fields #[.ref l, .int 0 0] }).push { cls := .type "enumerate", data := .fields #[.none, .bool false, .ref s.heap.objs.size, rawInt 0, .none, .none] } }) :=
  .of_wp fun prog w A R s h => by
    obtain ⟨hp, g, d, tk, os⟩ := s; obtain ⟨hl, h⟩ := h; have hsub := sub_enumerate
    have hL : Heap.IsTuple (Shared.heap ⟨hp, g, d, tk, os⟩) l items := ⟨_, hl, rfl, n, rfl⟩
    wp_walk using wpAny_loadPart' hl; refine wpAny_stack_any fun st => wpAny_pure ?_
    split
    · rename_i c _ _ _ _ _; cases (c == Value.type "enumerate")
      · wp_walk using wpAny_loadPart' hl, wpAny_pyIter_tuple hL; exact ⟨_, rfl, h⟩
      · wp_walk using wpAny_loadPart' hl, wpAny_pyIter_tuple hL; exact ⟨_, rfl, h⟩
    · wp_walk using wpAny_loadPart' hl, wpAny_pyIter_tuple hL; exact ⟨_, rfl, h⟩
section
variable {prog : Program} {w : World} {A : Around} {E : Value → Shared → Prop} {s : Shared}
theorem call_enumT {l : Addr} {items : Array Value} {Q : Value → Shared → Prop} (hL : s.heap.IsTuple l items)
    (h : ∀ h', IsEnum h' (s.heap.objs.size + 1) s.heap.objs.size 0 .none → h'.IsTupleIter s.heap.objs.size l 0 → h'.objs.size = s.heap.objs.size + 2 →
      (∀ b o, s.heap.get? b = some o → h'.get? b = some o) → Q (.ref (s.heap.objs.size + 1)) { s with heap := h' }) : wpAny (model prog w) A (call (.type "enumerate") [.ref l]) Q E s := by
  obtain ⟨⟨c, dct, dt, sl⟩, hl, hc, n, hd⟩ := hL
  replace hc : c = .type "tuple" := hc
  replace hd : dt = .seq items n := hd
  subst hc hd
  refine callType_new F.called_enumerate (by decide) (F.typeCall_enumerate_1 _) (F.newCall_enumerate_1 _) (fun obj => F.args_object_init_2 obj _) F.entry_enumerate_new (meets_enumT l items n dct sl) ⟨hl, ?_⟩
  have hz : (s.heap.push { cls := .type "tuple_iterator", data := .fields #[.ref l, .int 0 0] }).objs.size = s.heap.objs.size + 1 := Heap.size_push ..
  show _ ∧ _
  rw [hz]
  have he : IsEnum ((s.heap.push { cls := .type "tuple_iterator", data := .fields #[.ref l, .int 0 0] }).push { cls := .type "enumerate", data := .fields #[.none, .bool false, .ref s.heap.objs.size, rawInt 0, .none, .none] }) (s.heap.objs.size + 1) s.heap.objs.size 0 .none := by
    have := Heap.get?_push_size (s.heap.push { cls := .type "tuple_iterator", data := .fields #[.ref l, .int 0 0] }) (o := { cls := .type "enumerate", data := .fields #[.none, .bool false, .ref s.heap.objs.size, rawInt 0, .none, .none] }) rfl
    rw [hz] at this; exact this
  exact ⟨⟨_, he, rfl⟩, h _ he ⟨_, Heap.get?_push_of_some _ (Heap.get?_push_size _ rfl), rfl, rfl⟩ (by rw [Heap.size_push, hz]) fun b o x => Heap.get?_push_of_some _ (Heap.get?_push_of_some _ x)⟩
theorem next_endT {e it l : Addr} {i : Nat} {items : Array Value} {old : Value} {Q : Option Value → Shared → Prop} (hh : A.handled = none) (he : IsEnum s.heap e it i old) (hit : s.heap.IsTupleIter it l i) (hl : s.heap.IsTuple l items) (hx : items[i]? = none)
    (hQ : ∀ h', Heap.ExtBut it s.heap h' → Q none { s with heap := h' }) : wpAny (model prog w) A (pyNext (.ref e)) Q E s := by
  have hT : s.TypeIs (.ref e) "enumerate" := ⟨_, he, rfl⟩; unfold pyNext
  refine wpAny_bind (wpAny_attempt (wpAny_callSpecial?_slot (name := Str.ofString "__next__") hT F.slot_enumerate_next (wpAny_call_entry F.slot_enumerate_next hT F.entry_enumerate_next ?_ (F.args_enumerate_next_1 _))))
  show wpAny _ _ (field (.ref e) 2 >>= _) _ _ _; refine wpAny_bind (wpAny_field he rfl (x := .ref it) rfl ?_); refine wpAny_bind (wpAny_nextOf_tuple_end hh hit hl hx fun h' x he' hx' => ?_)
  obtain ⟨o, ho, hc⟩ := hx'; refine wpAny_bind (wpAny_isInstance (T := "StopIteration") (b := true) ⟨o, ho, hc⟩ isSubtype_stop ?_); exact wpAny_pure (hQ _ he')
end
end EnT
namespace He
open PySem PySem.Spec PyProof.Rows L2
/-- the tuple at a at each turn, each item in a new pair -/
def Iten (K : PySem.W.Frag) (a : Addr) : It :=
  ⟨fun i H => ∃ (xs : List V) (x : V), SqT K H a xs ∧ xs[i]? = some x, fun i H v H' => ∃ T x, v = .ref T ∧ H T = none ∧ H' = upd H T (.tup [.int (i : Nat), x]) ∧ ∀ xs, SqT K H a xs → xs[i]? = some x, fun i H => ∃ xs : List V, SqT K H a xs ∧ xs.length ≤ i⟩
theorem turn_enumT {P : Program} {w : World} {K : PySem.W.Frag} {elts : List Expr} {kk : Nat} {tpos : Pos} (a e it : Addr) :
    Turn P w K (.Tuple elts kk tpos) (Iten K a) [e, it] e (fun i h => (∃ old, IsEnum h e it ((i : Nat) : Int) old) ∧ h.IsTupleIter it a i ∧ e ≠ it) where
  mem := by simp
  obj := fun i h st b hb => by
    obtain ⟨⟨old, he⟩, ⟨o, ho, hc, hd⟩, _⟩ := st
    rcases (show b = e ∨ b = it by simpa using hb) with z | z
    · rw [z]; exact ⟨_, he, fun v q => nomatch q⟩
    · rw [z]; exact ⟨o, ho, fun v q => by rw [hd] at q; cases q⟩
  keep := fun i h h' st k => let ⟨⟨old, he⟩, hi, hne⟩ := st; ⟨⟨old, k e (by simp) _ he⟩, (let ⟨o, ho, hc, hd⟩ := hi; ⟨o, k it (by simp) o ho, hc, hd⟩), hne⟩
  item := by
    intro X hP hw hK hc i pins s σ H E I hf st hg
    subst hP hw hK
    obtain ⟨⟨old, he⟩, hit, hne⟩ := st
    obtain ⟨xs, x, hq, hx⟩ := hg
    obtain ⟨its, rv, p, hz⟩ := I.tuple hq
    obtain ⟨u, hu, ru⟩ := rv.get hx
    have hel : e < s.heap.objs.size := Heap.lt_size he
    have hil : it < s.heap.objs.size := by obtain ⟨_, q, _⟩ := hit; exact Heap.lt_size q
    have hp : s.heap.IsTuple a its.toArray := p
    have hai : a ≠ it := fun z => by
      obtain ⟨o, ho, h1, _⟩ := id hp
      obtain ⟨o2, ho2, h2, _⟩ := id hit
      rw [z, ho2] at ho
      rw [Option.some.inj ho, h1] at h2
      exact absurd h2 (by decide)
    have hea : e ≠ a := fun z => by
      obtain ⟨o, ho, h1, _⟩ := id hp
      rw [← z] at ho
      have he2 : s.heap.get? e = some _ := he
      rw [he2] at ho
      rw [← Option.some.inj ho] at h1
      have h3 : Value.type "enumerate" = Value.type "tuple" := h1
      exact absurd h3 (by decide)
    refine wpAny_pyNext_enum_itemD (Draws.tuple (A := X.A.in1) (I.ok.hd hc) it a hai its.toArray) he ⟨hit, hp⟩ (by have := (List.getElem?_eq_some_iff.mp hu).1; simpa using this) hne (by simp [hne, hea]) fun y h' tk hy ho hst' hT hsz hk => ?_
    have hyu : y = u := by
      have : its.toArray[i]? = some u := by simpa using hu
      rw [this] at hy
      exact (Option.some.inj hy).symm
    subst hyu
    refine ⟨_, rfl, wpAny_letOwnedTupleGo_enum (s := { s with heap := h', toks := tk + 1 }) ho fun h'' he' sb => ?_⟩
    have hT2 : h''.get? s.heap.objs.size = some { cls := .type "tuple", data := .seq #[.int i tk, y] } := (sb.2 _ (Nat.ne_of_gt hel)).trans hT
    have new : ObjOk X.prog X.w (upd H s.heap.objs.size (.tup [.int (i : Nat), x])) h'' s.heap.objs.size (.tup [.int (i : Nat), x]) := ⟨by show 2 ≤ sizeLine; decide, [.int i tk, y], .cons ⟨_, rfl⟩ (.cons ru .nil), ⟨_, hT2, rfl, _, rfl⟩⟩
    have I1 : Inv X pins σ (upd H s.heap.objs.size (.tup [.int (i : Nat), x])) { s with heap := h'', toks := tk + 1 } := I.turnedNew (ch := [e, it]) (fun b ob hb q => (sb.2 b (fun z => hb (by simp [z]))).trans (hk b ob (fun z => hb (by simp [z])) (fun z => hb (by simp [z])) q)) hf (Nat.le_refl _) new
    refine ⟨.ref s.heap.objs.size, _, I1, rfl, ⟨_, x, rfl, I.hok.fresh (Nat.le_refl _), rfl, fun ys hy => ?_⟩, ⟨⟨y, ?_⟩, ?_, hne⟩, fun b hb => ?_⟩
    · rw [I.tuple_inj hy hq]; exact hx
    · rw [show ((i + 1 : Nat) : Int) = (i : Int) + 1 by omega]; exact he'
    · obtain ⟨o, ho, r⟩ := hst'.1
      exact ⟨o, (sb.2 it (Ne.symm hne)).trans ho, r⟩
    · have hb' : b < s.heap.objs.size := by
        rcases (show b = e ∨ b = it by simpa using hb) with z | z
        · rw [z]; exact hel
        · rw [z]; exact hil
      rw [upd_ne (Nat.ne_of_lt hb')]; exact (hf b hb).1
  done := by
    intro X hP hw hK hc i pins s σ H E I hf st hg
    subst hP hw hK
    obtain ⟨⟨old, he⟩, hit, hne⟩ := st
    obtain ⟨xs, hq, hx⟩ := hg
    obtain ⟨its, rv, p, hz⟩ := I.tuple hq
    obtain ⟨f0, f1, f2, f3, f4, f5⟩ := hf it (by simp)
    have hl := rv.length
    exact EnT.next_endT (I.ok.hd hc) he hit p (by simp; omega) fun h' eb => ⟨rfl, I.turned (t' := s.toks) (fun b o hb q => eb b o hb q) f0 f1 f3 f4 f5⟩
  self := fun A i s Q E st h => let ⟨⟨_, he⟩, _⟩ := st; wpAny_pyIter_enum he h
end He

namespace He
open PySem PySem.Spec PyProof.Rows L2
section
variable {P : Program} {w : World} {K : PySem.W.Frag} {mg : Str → Option Value} {base : Heap}

/-! ### shares in lists or tuples -/
def GrpD (gd : AD) (n : List Str) : Prop := ∃ ds, itemsA gd = some ds ∧ strsA ds = some n
def GsD (g : AD) (gs : List (List Str)) : Prop := ∃ gds, itemsA g = some gds ∧ gds.length = gs.length ∧ ∀ (i : Nat) (gd : AD) (n : List Str), gds[i]? = some gd → gs[i]? = some n → GrpD gd n
def ShD (d : AD) (s : Sh) : Prop := ∃ g, d = .tup [.int s.1, g] ∧ GsD g s.2
def WillD (d : AD) (shs : List Sh) : Prop := ∃ ds, itemsA d = some ds ∧ ds.length = shs.length ∧ ∀ (i : Nat) (x : AD) (s : Sh), ds[i]? = some x → shs[i]? = some s → ShD x s
theorem get_some' {α β : Type} {xs : List α} {ys : List β} (hl : xs.length = ys.length) {i : Nat} {x : α} (h : xs[i]? = some x) : ∃ y, ys[i]? = some y :=
  ⟨_, List.getElem?_eq_getElem (by have := (List.getElem?_eq_some_iff.mp h).1; omega)⟩
def spLotsQ (K : PySem.W.Frag) : Sp := fun vs H Q _ => ∃ (v : V) (g : AD) (gs : List (List Str)), vs = [v] ∧ Av K H v g ∧ GsD g gs ∧ gs.length < 1000 ∧ (∀ g ∈ gs, g.length < 64) ∧
  ∀ r H', Same H H' → Dp K (news H H') (.ref r) (.tuple (gs.map nGrp)) → Q (.ref r) H'
theorem ok_lotsQ (T : TxtG K mg) : FnOk P w K mg base CX0 1 T.dLots.f T.dLots.fd ["groups"] (spLotsQ K) := by
  refine T.dLots.F.ok scDLots (fun vs H Q E h => ?_) (fun cdv A outer s H vs Q E hr h => ?_)
  · obtain ⟨v, g, gs, rfl, _⟩ := h
    rfl
  · obtain ⟨v, g, gs, rfl, hv, hD, hn, hg, q⟩ := h
    refine ⟨_, (pss_one (ps_ret (pe_callTy call_tuple_of (by rfl) T.z_tuple (show bootBuiltins "tuple" = some (.type "tuple") by decide +kernel) (pa_cons (pe_lc (own := [("group", 1)]) (g := (gName 1)) (tt := tYes) rfl scDLots.nd (pi_seq (pv 0)) (blkOk_by (N := ["groups", "group"]) (sc := defScope sDLots) (by decide +kernel)) (fun _ _ _ _ _ => (pg_name (i := 1) scDLots.nd rfl (.inl rfl))) (fun _ _ _ _ _ => pts_nil) (fun _ _ _ _ _ => (pe_callTy (show CallR _ (.type "tuple") (rTupOf K) from cr_tup) (by rfl) T.z_tuple (show bootBuiltins "tuple" = some (.type "tuple") by decide +kernel) (pa_cons (pe_callB (show CallR _ (.builtin "sorted") (rSortedQ K) from cr_sortedQ) (by rfl) T.z_sorted (show bootBuiltins "sorted" = some (.builtin "sorted") by decide +kernel) (pa_cons (pv 1) pa_nil)) pa_nil)))) pa_nil)))), ?_⟩
    simp only [and_assoc, tSeq, tAsg, tOp, tUn, rI, rI0, rU, tVar, tC, gName, L2.start, tIfS, tTest, tB, tCB, tCons, tNil, tIf, tRet, tRetN, tLst, tTup, tNext, tDrop, tNot, tNotV, tAnd, tOr, tAndV, tOrV, tPar, tAug, ipI, rEq, rNe, gSub, rSetL, rIxL, rIxT, tBM, tBM0, rAppend, rPopAt, gTup, gCons, gNil, tCall, tSl, tPart, tNoPart, rSlL, rCat, rEqD, rNeD, rIn, scal, List.map_cons, List.map_nil, List.length_cons, List.length_nil, List.length_map, List.cons_append, List.nil_append, List.append_nil, List.replicate, List.getElem?_cons_zero, List.getElem?_cons_succ, List.set_cons_zero, List.set_cons_succ, Option.some.injEq, exists_eq_left', exists_eq_left, exists_eq_right, exists_and_left, exists_and_right, V.int.injEq, V.ref.injEq, V.str.injEq, V.bl.injEq, reduceCtorEq, false_and, and_false, exists_false, or_false, false_or, true_and, and_true, List.cons.injEq, decide_eq_true_eq, cxOf, if_true, if_false, Bool.false_eq_true, Nat.reduceAdd, Nat.reduceSub, Nat.zero_add, Nat.add_sub_cancel_left, Nat.add_sub_cancel, Nat.sub_self, sFld, tFld, tFor_eq, tLc_eq, iRng1, iRng2, iList, iTup, iEnum, rIsi, rIsiT, iSeq, tM0, tM1, tFmt, tJs, rJoin, rNewStrs, tMake, tNever, tMkO, tOst]
    obtain ⟨gds, eg, hgl, hgd⟩ := hD
    obtain ⟨a, xs, rfl, hs, ha⟩ := av_items hv eg
    obtain ⟨J, hJ⟩ := hs.it
    have hxl : xs.length = gs.length := by rw [avA_len ha, hgl]
    obtain ⟨H0, hH0⟩ : ∃ H0, H0 = H := ⟨H, rfl⟩
    refine ⟨a, rfl, xs, J, hJ, fun D nD => ?_⟩
    refine lg_pure (fun i y H => ∃ g r, gs[i]? = some g ∧ y = .ref r ∧ H0 r = none ∧ H r = some (.tup ((sortG g).map V.str))) hJ (small1000 (by omega)) nD (fun i y H H' s h => let ⟨g, r, e1, e2, e3, e4⟩ := h; ⟨g, r, e1, e2, e3, s _ _ e4⟩) (fun i x H1 Φ hx s1 hD hΦ => ?_) (fun ys H1 s1 eD hl2 hY => ?_)
    · simp only [and_assoc, tSeq, tAsg, tOp, tUn, rI, rI0, rU, tVar, tC, gName, L2.start, tIfS, tTest, tB, tCB, tCons, tNil, tIf, tRet, tRetN, tLst, tTup, tNext, tDrop, tNot, tNotV, tAnd, tOr, tAndV, tOrV, tPar, tAug, ipI, rEq, rNe, gSub, rSetL, rIxL, rIxT, tBM, tBM0, rAppend, rPopAt, gTup, gCons, gNil, tCall, tSl, tPart, tNoPart, rSlL, rCat, rEqD, rNeD, rIn, scal, List.map_cons, List.map_nil, List.length_cons, List.length_nil, List.length_map, List.cons_append, List.nil_append, List.append_nil, List.replicate, List.getElem?_cons_zero, List.getElem?_cons_succ, List.set_cons_zero, List.set_cons_succ, Option.some.injEq, exists_eq_left', exists_eq_left, exists_eq_right, exists_and_left, exists_and_right, V.int.injEq, V.ref.injEq, V.str.injEq, V.bl.injEq, reduceCtorEq, false_and, and_false, exists_false, or_false, false_or, true_and, and_true, List.cons.injEq, decide_eq_true_eq, cxOf, if_true, if_false, Bool.false_eq_true, Nat.reduceAdd, Nat.reduceSub, Nat.zero_add, Nat.add_sub_cancel_left, Nat.add_sub_cancel, Nat.sub_self, sFld, tFld, tFor_eq, tLc_eq, iRng1, iRng2, iList, iTup, iEnum, rIsi, rIsiT, iSeq, tM0, tM1, tFmt, tJs, rJoin, rNewStrs, tMake, tNever, tMkO, tOst, wipe, rSortedQ]
      obtain ⟨d, ed, hx2⟩ := avA_get (avA_mono s1 _ _ ha) hx
      obtain ⟨g, eg2⟩ := get_some' hgl ed
      obtain ⟨ds, ei, es⟩ := hgd i d g ed eg2
      have hgm : g ∈ gs := List.mem_of_getElem? eg2
      obtain ⟨b, zs, rfl, hb, hzs⟩ := av_items hx2 ei
      have ez := av_strs hzs es
      subst ez
      refine ⟨b, rfl, g, hb, hg g hgm, fun ys p pm so np => ?_⟩
      simp only [and_assoc, tSeq, tAsg, tOp, tUn, rI, rI0, rU, tVar, tC, gName, L2.start, tIfS, tTest, tB, tCB, tCons, tNil, tIf, tRet, tRetN, tLst, tTup, tNext, tDrop, tNot, tNotV, tAnd, tOr, tAndV, tOrV, tPar, tAug, ipI, rEq, rNe, gSub, rSetL, rIxL, rIxT, tBM, tBM0, rAppend, rPopAt, gTup, gCons, gNil, tCall, tSl, tPart, tNoPart, rSlL, rCat, rEqD, rNeD, rIn, scal, List.map_cons, List.map_nil, List.length_cons, List.length_nil, List.length_map, List.cons_append, List.nil_append, List.append_nil, List.replicate, List.getElem?_cons_zero, List.getElem?_cons_succ, List.set_cons_zero, List.set_cons_succ, Option.some.injEq, exists_eq_left', exists_eq_left, exists_eq_right, exists_and_left, exists_and_right, V.int.injEq, V.ref.injEq, V.str.injEq, V.bl.injEq, reduceCtorEq, false_and, and_false, exists_false, or_false, false_or, true_and, and_true, List.cons.injEq, decide_eq_true_eq, cxOf, if_true, if_false, Bool.false_eq_true, Nat.reduceAdd, Nat.reduceSub, Nat.zero_add, Nat.add_sub_cancel_left, Nat.add_sub_cancel, Nat.sub_self, sFld, tFld, tFor_eq, tLc_eq, iRng1, iRng2, iList, iTup, iEnum, rIsi, rIsiT, iSeq, tM0, tM1, tFmt, tJs, rJoin, rNewStrs, tMake, tNever, tMkO, tOst, rTupOf]
      have e := sortG_of pm so
      subst e
      refine ⟨_, .inl ⟨sqL_of upd_same, fun l nl => ?_⟩⟩
      have lD : l ≠ D := fun z => by
        rw [z] at nl
        by_cases h : D = p
        · rw [h, upd_same] at nl; cases nl
        · rw [upd_ne h] at nl; exact hD nl
      refine hΦ _ _ ((same_upd np).trans (same_upd nl)) ⟨g, l, eg2, rfl, hH0 ▸ (s1.trans (same_upd np)).free nl, ?_⟩
      rw [hide_ne lD, upd_same]
    · refine ⟨ys, .inl ⟨sqL_of eD, fun l nl => ?_⟩⟩
      subst hH0
      have hds : DpAll K (news H0 H1) ys (gs.map nGrp) := dp_list (by rw [hl2, List.length_map]; exact hxl) fun i y e => by
        obtain ⟨g, r, eg, rfl, nr, er⟩ := hY i y e
        exact ⟨nGrp g, by rw [List.getElem?_map, eg]; rfl, .tup (sqT_of (by rw [news_at nr]; exact hide_le _ _ er)) (dpA_strs _)⟩
      exact q l _ (s1.trans (same_upd nl)) (.tup (sqT_of (by rw [news_at (s1.free nl), upd_same])) (dpA_mono (news_mono (same_upd nl)) _ _ hds))

structure TxtX (K : PySem.W.Frag) (mg : Str → Option Value) where
  w : TxtW K mg
  oe : OexC K w.t.cInvalidWill
  xF : Addr
  xD : FuncData
  xFn : Fun K "__init__" "InvalidWill.__init__" sDInvalidWillInit xF xD
  xB : L2.Binds K xD ["self", "word"] []
  xI : PySem.W.findIn K (.ref w.t.cInvalidWill) "__init__" = some (some (.ref xF))
  xT : PySem.W.typeIn K (.ref xF) = some (.type "function")
  xN : PySem.W.findIn K (.ref w.t.cInvalidWill) "word" = some none
  xf : XfC K w.t.cInvalidWill
  self : PySem.W.exmOne K (.ref w.t.cInvalidWill) (.ref w.t.cInvalidWill) = some true
  isx : ExcC K w.t.cInvalidWill
  k1 : PySem.W.kitOne K (.ref w.t.cInvalidWill) (.ref w.t.cHeirError) = some true
  k2 : PySem.W.kitOne K (.ref w.t.cInvalidWill) (.ref w.t.cInvalidFamily) = some false
def spXI (C : Addr) (f : Str) : Sp := fun vs H Q _ => ∃ (a : Addr) (v : V), vs = [.ref a, v] ∧ H a = some (exo a C none) ∧ ∀ dx, H dx = none → dx ≠ a → Q .non (upd (upd H dx (exd dx [(f, v)])) a (exo a C (some dx)))
theorem ok_iwinit (X : TxtX K mg) : FnOk P w K mg base CX0 1 X.xF X.xD ["self", "word"] (spXI X.w.t.cInvalidWill "word") := by
  refine X.xFn.ok scDInvalidWillInit (fun vs H Q E h => ?_) (fun cdv A outer s H vs Q E hr h => ?_)
  · obtain ⟨a, v, rfl, _⟩ := h
    rfl
  · obtain ⟨a, v, rfl, e, q⟩ := h
    refine ⟨_, (pss_one (ps_ost (pv 0) (pv 1))), ?_⟩
    simp only [and_assoc, tSeq, tAsg, tOp, tUn, rI, rI0, rU, tVar, tC, gName, L2.start, tIfS, tTest, tB, tCB, tCons, tNil, tIf, tRet, tRetN, tLst, tTup, tNext, tDrop, tNot, tNotV, tAnd, tOr, tAndV, tOrV, tPar, tAug, ipI, rEq, rNe, gSub, rSetL, rIxL, rIxT, tBM, tBM0, rAppend, rPopAt, gTup, gCons, gNil, tCall, tSl, tPart, tNoPart, rSlL, rCat, rEqD, rNeD, rIn, scal, List.map_cons, List.map_nil, List.length_cons, List.length_nil, List.length_map, List.cons_append, List.nil_append, List.append_nil, List.replicate, List.getElem?_cons_zero, List.getElem?_cons_succ, List.set_cons_zero, List.set_cons_succ, Option.some.injEq, exists_eq_left', exists_eq_left, exists_eq_right, exists_and_left, exists_and_right, V.int.injEq, V.ref.injEq, V.str.injEq, V.bl.injEq, reduceCtorEq, false_and, and_false, exists_false, or_false, false_or, true_and, and_true, List.cons.injEq, decide_eq_true_eq, cxOf, if_true, if_false, Bool.false_eq_true, Nat.reduceAdd, Nat.reduceSub, Nat.zero_add, Nat.add_sub_cancel_left, Nat.add_sub_cancel, Nat.sub_self, sFld, tFld, tFor_eq, tLc_eq, iRng1, iRng2, iList, iTup, iEnum, rIsi, rIsiT, iSeq, tM0, tM1, tFmt, tJs, rJoin, rNewStrs, tMake, tNever, tMkO, tOst]
    exact ⟨_, X.oe, X.xN, .inl ⟨e, q⟩⟩
/-- a will made of any value: good, or InvalidWill -/
def spWInitX (K : PySem.W.Frag) (C CT : Addr) : Sp := fun vs H Q E => ∃ (x dx : Addr) (v : V) (d : AD), vs = [.ref x, v] ∧ H x = some (.ins C dx []) ∧ Av K H v d ∧ AdOk K d ∧
  (isWillA d = false → ∀ e H', Same H H' → H e = none → H' e = some (.xd [("word", .str "shares")]) → E (.ref CT) (some e) H') ∧
  (isWillA d = true → ∃ shs, WillD d shs ∧ shs.length < 1000 ∧ (∀ s ∈ shs, s.2.length < 1000 ∧ ∀ g ∈ s.2, g.length < 64) ∧
    ∀ t H', (∀ b o, b ≠ x → H b = some o → H' b = some o) → H' x = some (.ins C dx [("shares", .ref t)]) → Dp K (news H H') (.ref t) (nWill shs) → Q .non H')
theorem ok_winitX (X : TxtX K mg) : FnOk P w K mg base (L2.CX P w) 5 X.w.iF X.w.iD ["self", "shares"] (spWInitX K X.w.t.cWill X.w.t.cInvalidWill) := by
  refine X.w.iFn.okX scDWillInit (fun vs H Q E h => ?_) (fun cdv A outer s H vs Q E hr h => ?_)
  · obtain ⟨x, dx, v, d, rfl, _⟩ := h
    rfl
  · obtain ⟨x, dx, v, d, rfl, hx, hv, hd, qE, qG⟩ := h
    refine ⟨_, (pss_cons (ps_if (pt_not (pt_val (pe_call (ok_areshares X.w.t) (hr.mono (by decide)) (by rfl) X.w.t.dAreShares.g X.w.t.dAreShares.F.kp X.w.t.dAreShares.b .nil pass0 (pa_cons (pv 1) pa_nil))))
      (pss_one (ps_raise rfl (takes_of rfl rfl rfl rfl) (pmk_oex X.oe X.xI X.xT (ok_iwinit X) (hr.mono (by decide)) X.xB .nil pass0 (by rfl) X.w.t.gcInvalidWill (pa_cons pe_str pa_nil))))
      pss_nil)
      (pss_one (ps_fld (pv 0) (pe_callTy call_tuple_of (by rfl) X.w.t.z_tuple (show bootBuiltins "tuple" = some (.type "tuple") by decide +kernel) (pa_cons (pe_lc (own := [("weight", 2), ("groups", 3)]) (g := (gTup K 2 (gCons (gName 2) (gCons (gName 3) gNil)))) (tt := tYes) rfl scDWillInit.nd (pi_seq (pv 1)) (blkOk_by (N := ["self", "shares", "weight", "groups"]) (sc := defScope sDWillInit) (by decide +kernel)) (fun _ _ _ _ _ => (pg_tup (n := 2) rfl (pgs_cons (pg_name (i := 2) scDWillInit.nd rfl (.inl rfl)) (pgs_cons (pg_name (i := 3) scDWillInit.nd rfl (.inl rfl)) pgs_nil)))) (fun _ _ _ _ _ => pts_nil) (fun _ _ _ _ _ => (pe_tup (pa_cons (pv 2) (pa_cons (pe_call (ok_lotsQ X.w.t) (hr.mono (by decide)) (by rfl) X.w.t.dLots.g X.w.t.dLots.F.kp X.w.t.dLots.b .nil pass0 (pa_cons (pv 3) pa_nil)) pa_nil))))) pa_nil)) rfl))), ?_⟩
    simp only [and_assoc, tSeq, tAsg, tOp, tUn, rI, rI0, rU, tVar, tC, gName, L2.start, tIfS, tTest, tB, tCB, tCons, tNil, tIf, tRet, tRetN, tLst, tTup, tNext, tDrop, tNot, tNotV, tAnd, tOr, tAndV, tOrV, tPar, tAug, ipI, rEq, rNe, gSub, rSetL, rIxL, rIxT, tBM, tBM0, rAppend, rPopAt, gTup, gCons, gNil, tCall, tSl, tPart, tNoPart, rSlL, rCat, rEqD, rNeD, rIn, scal, List.map_cons, List.map_nil, List.length_cons, List.length_nil, List.length_map, List.cons_append, List.nil_append, List.append_nil, List.replicate, List.getElem?_cons_zero, List.getElem?_cons_succ, List.set_cons_zero, List.set_cons_succ, Option.some.injEq, exists_eq_left', exists_eq_left, exists_eq_right, exists_and_left, exists_and_right, V.int.injEq, V.ref.injEq, V.str.injEq, V.bl.injEq, reduceCtorEq, false_and, and_false, exists_false, or_false, false_or, true_and, and_true, List.cons.injEq, decide_eq_true_eq, cxOf, if_true, if_false, Bool.false_eq_true, Nat.reduceAdd, Nat.reduceSub, Nat.zero_add, Nat.add_sub_cancel_left, Nat.add_sub_cancel, Nat.sub_self, sFld, tFld, tFor_eq, tLc_eq, iRng1, iRng2, iList, iTup, iEnum, rIsi, rIsiT, iSeq, tM0, tM1, tFmt, tJs, rJoin, rNewStrs, tMake, tNever, tMkO, tOst, spIs, spXI, spLotsQ]
    refine ⟨d, hv, hd, fun H1 s1 => ?_⟩
    cases hw : isWillA d with
    | false =>
      rw [if_pos (show (!false) = true from rfl)]
      refine ⟨by decide, fun a na => ⟨upd_same, fun dx2 nd hda => ⟨dx2, upd_same, _, by rw [upd_ne hda, upd_same], by rw [upd_ne hda] at nd; exact nd, ?_⟩⟩⟩
      rw [upd_ne hda] at nd
      refine qE hw dx2 _ (fun b o e => ?_) (s1.free nd) upd_same
      have e4 := s1 _ _ e
      have hbd : b ≠ dx2 := ne_of_none e4 nd
      have hba : b ≠ a := ne_of_none e4 na
      rw [upd_ne hbd, del_ne hba, upd_ne hba, upd_ne hbd, upd_ne hba]
      exact e4
    | true =>
      rw [if_neg (by simp)]
      obtain ⟨shs, ⟨ds, ei, hdl, hdd⟩, hlt, hsm, q⟩ := qG hw
      obtain ⟨a, xs, rfl, hs, ha⟩ := av_items hv ei
      obtain ⟨J, hJ⟩ := (hs.mono s1).it
      have hxl : xs.length = shs.length := by rw [avA_len ha, hdl]
      obtain ⟨H0, hH0⟩ : ∃ H0, H0 = H := ⟨H, rfl⟩
      refine ⟨a, rfl, xs, J, hJ, fun D nD => ?_⟩
      refine lg_pure (fun i y H => ∃ s, shs[i]? = some s ∧ Dp K (news H0 H) y (nSh s)) hJ (small1000 (by omega)) nD (fun i y H H' s h => let ⟨g, e1, e2⟩ := h; ⟨g, e1, dp_mono (news_mono s) _ _ e2⟩) (fun i x2 H2 Φ hx3 s2 hD hΦ => ?_) (fun ys H2 s2 eD hl2 hY => ?_)
      · simp only [and_assoc, tSeq, tAsg, tOp, tUn, rI, rI0, rU, tVar, tC, gName, L2.start, tIfS, tTest, tB, tCB, tCons, tNil, tIf, tRet, tRetN, tLst, tTup, tNext, tDrop, tNot, tNotV, tAnd, tOr, tAndV, tOrV, tPar, tAug, ipI, rEq, rNe, gSub, rSetL, rIxL, rIxT, tBM, tBM0, rAppend, rPopAt, gTup, gCons, gNil, tCall, tSl, tPart, tNoPart, rSlL, rCat, rEqD, rNeD, rIn, scal, List.map_cons, List.map_nil, List.length_cons, List.length_nil, List.length_map, List.cons_append, List.nil_append, List.append_nil, List.replicate, List.getElem?_cons_zero, List.getElem?_cons_succ, List.set_cons_zero, List.set_cons_succ, Option.some.injEq, exists_eq_left', exists_eq_left, exists_eq_right, exists_and_left, exists_and_right, V.int.injEq, V.ref.injEq, V.str.injEq, V.bl.injEq, reduceCtorEq, false_and, and_false, exists_false, or_false, false_or, true_and, and_true, List.cons.injEq, decide_eq_true_eq, cxOf, if_true, if_false, Bool.false_eq_true, Nat.reduceAdd, Nat.reduceSub, Nat.zero_add, Nat.add_sub_cancel_left, Nat.add_sub_cancel, Nat.sub_self, sFld, tFld, tFor_eq, tLc_eq, iRng1, iRng2, iList, iTup, iEnum, rIsi, rIsiT, iSeq, tM0, tM1, tFmt, tJs, rJoin, rNewStrs, tMake, tNever, tMkO, tOst, wipe, spLotsQ]
        obtain ⟨dd, ed, hx2⟩ := avA_get (avA_mono (s1.trans s2) _ _ ha) hx3
        obtain ⟨sh, eg⟩ := get_some' hdl ed
        obtain ⟨g, rfl, hgs⟩ := hdd i dd sh ed eg
        obtain ⟨h1, h2⟩ := hsm sh (List.mem_of_getElem? eg)
        cases hx2 with
        | @tup b zs _ hb hzs =>
          cases hzs with
          | cons w1 r1 =>
            cases w1
            cases r1 with
            | @cons v2 _ _ _ w2 r2 =>
              cases r2
              refine ⟨b, rfl, _, hb, rfl, _, _, rfl, v2, _, rfl, rfl, _, w2, sh.2, hgs, h1, h2, fun r H3 s3 hr3 => ⟨by decide, fun p np => ?_⟩⟩
              have pD : p ≠ D := fun z => by
                cases e : H2 D with
                | none => exact hD e
                | some o => rw [z, s3 _ _ e] at np; cases np
              have s02 : Same H0 H2 := hH0 ▸ (s1.trans s2)
              refine hΦ _ _ (s3.trans (same_upd np)) ⟨sh, eg, ?_⟩
              have np0 : H0 p = none := s02.free (s3.free np)
              refine .tup (sqT_of (by rw [news_at np0, hide_ne pD, upd_same])) (.cons (.int _) (.cons ?_ .nil))
              exact dp_mono ((news_hide hD).trans ((news_up s02).trans (news_mono (hide_same (same_upd np))))) _ _ hr3
      · subst hH0
        have s02 : Same H0 H2 := s1.trans s2
        refine ⟨ys, .inl ⟨sqL_of eD, fun l nl => ?_⟩⟩
        have hds : DpAll K (news H0 H2) ys (shs.map nSh) := dp_list (by rw [hl2, List.length_map]; exact hxl) fun i y e => by
          obtain ⟨g, eg, er⟩ := hY i y e
          exact ⟨nSh g, by rw [List.getElem?_map, eg]; rfl, dp_mono news_hide2 _ _ er⟩
        have hx2 := same_upd (o := .tup ys) nl _ _ (s02 _ _ hx)
        have lx : l ≠ x := fun z => by rw [z, s02 _ _ hx] at nl; cases nl
        refine ⟨_, _, _, hx2, X.w.cl, X.w.nS, by show 0 < 1000; decide, q l _ (fun b o hb e => ?_) upd_same ?_⟩
        · rw [upd_ne hb]
          exact same_upd nl _ _ (s02 _ _ e)
        · have nl0 := s02.free nl
          refine .tup (sqT_of (by rw [news_at nl0, upd_ne lx, upd_same])) (dpA_mono (fun b o e => ?_) _ _ hds)
          obtain ⟨e1, e2⟩ := news_get e
          have bx : b ≠ x := fun z => by rw [z, hx] at e1; cases e1
          rw [news_at e1, upd_ne bx]
          exact same_upd nl _ _ e2

end
end He

namespace He
open PySem PySem.Spec PyProof.Rows L2
section
variable {P : Program} {w : World} {K : PySem.W.Frag} {mg : Str → Option Value} {base : Heap}

def leafV : List V := [.non, .bl true, .bl false, .int 0, .int 1, .int (0 - 1), .int 7, .int 9, .str "", .str "a", .str "ann", .str "crown", .str "first", .str "abcde", .str "abcdef", .str "A", .str "a b"]
def leafA : List AD := [.non, .bl true, .bl false, .int 0, .int 1, .int (0 - 1), .int 7, .int 9, .str "", .str "a", .str "ann", .str "crown", .str "first", .str "abcde", .str "abcdef", .str "A", .str "a b"]
theorem leaf_av {H : Hp} : AvAll K H leafV leafA := .cons .non (.cons (.bl _) (.cons (.bl _) (.cons (.int _) (.cons (.int _) (.cons (.int _) (.cons (.int _) (.cons (.int _) (.cons (.str _) (.cons (.str _) (.cons (.str _) (.cons (.str _) (.cons (.str _) (.cons (.str _) (.cons (.str _) (.cons (.str _) (.cons (.str _) .nil))))))))))))))))
def spLeaf (K : PySem.W.Frag) : Sp := fun vs H Q _ => ∃ (p : Addr), vs = [.ref p] ∧ Box H p ∧ ∀ v d H', Bx p H H' → d ∈ leafA → (∀ H2, Av K H2 v d) → Q v H'
theorem ok_leaf (T : TxtG K mg) : FnOk P w K mg base CX0 3 T.dLawLeaf.f T.dLawLeaf.fd ["_law_box"] (spLeaf K) := by
  refine T.dLawLeaf.F.ok scDLawLeaf (fun vs H Q E h => ?_) (fun cdv A outer s H vs Q E hr h => ?_)
  · obtain ⟨p, rfl, _⟩ := h
    rfl
  · obtain ⟨p, rfl, hb, q⟩ := h
    refine ⟨_, (pss_cons (ps_set (i := 1) scDLawLeaf.nd rfl (.inl rfl) (pe_lst (pa_cons pe_non (pa_cons pe_bl (pa_cons pe_bl (pa_cons pe_int (pa_cons pe_int (pa_cons (pe_op op_sub pe_int pe_int) (pa_cons pe_int (pa_cons pe_int (pa_cons pe_str (pa_cons pe_str (pa_cons pe_str (pa_cons pe_str (pa_cons pe_str (pa_cons pe_str (pa_cons pe_str (pa_cons pe_str (pa_cons pe_str pa_nil)))))))))))))))))))
      (pss_one (ps_ret (pe_call (ok_oneof T) (hr.mono (by decide)) (by rfl) T.dLawOneOf.g T.dLawOneOf.F.kp T.dLawOneOf.b .nil pass0 (pa_cons (pv 0) (pa_cons (pv 1) pa_nil)))))), ?_⟩
    simp only [and_assoc, tSeq, tAsg, tOp, tUn, rI, rI0, rU, tVar, tC, gName, L2.start, tIfS, tTest, tB, tCB, tCons, tNil, tIf, tRet, tRetN, tLst, tTup, tNext, tDrop, tNot, tNotV, tAnd, tOr, tAndV, tOrV, tPar, tAug, ipI, rEq, rNe, gSub, rSetL, rIxL, rIxT, tBM, tBM0, rAppend, rPopAt, gTup, gCons, gNil, tCall, tSl, tPart, tNoPart, rSlL, rCat, rEqD, rNeD, rIn, scal, List.map_cons, List.map_nil, List.length_cons, List.length_nil, List.length_map, List.cons_append, List.nil_append, List.append_nil, List.replicate, List.getElem?_cons_zero, List.getElem?_cons_succ, List.set_cons_zero, List.set_cons_succ, Option.some.injEq, exists_eq_left', exists_eq_left, exists_eq_right, exists_and_left, exists_and_right, V.int.injEq, V.ref.injEq, V.str.injEq, V.bl.injEq, reduceCtorEq, false_and, and_false, exists_false, or_false, false_or, true_and, and_true, List.cons.injEq, decide_eq_true_eq, cxOf, if_true, if_false, Bool.false_eq_true, Nat.reduceAdd, Nat.reduceSub, Nat.zero_add, Nat.add_sub_cancel_left, Nat.add_sub_cancel, Nat.sub_self, sFld, tFld, tFor_eq, tLc_eq, iRng1, iRng2, iList, iTup, iEnum, rIsi, rIsiT, iSeq, tM0, tM1, tFmt, tJs, rJoin, rNewStrs, tMake, tNever, spOneOf, spChoose]
    refine ⟨by decide, fun a na => ?_⟩
    have ap : a ≠ p := fun z => by obtain ⟨_, _, e, _⟩ := hb; rw [z, e] at na; cases na
    have sa := same_upd (o := .lst leafV) na
    have ea : upd H a (.lst leafV) a = _ := upd_same
    refine ⟨hb.same sa, leafV, sqL_of (by rw [hide_ne ap]; exact ea), by decide, by decide, fun i v H1 B1 ev => ?_⟩
    obtain ⟨d, ed, _⟩ := avA_get (leaf_av (K := K) (H := H)) ev
    exact q v d _ ((Bx.of hb sa).trans B1) (List.mem_of_getElem? ed) fun H2 => by
      obtain ⟨d', ed', hd'⟩ := avA_get (leaf_av (K := K) (H := H2)) ev
      rw [ed] at ed'
      rw [Option.some.inj ed']
      exact hd'


/-- any object that the law draws -/
inductive AnyD : AD → Prop
  | leaf {d : AD} : d ∈ leafA → AnyD d
  | lst {ds : List AD} : ds.length ≤ 2 → (∀ d ∈ ds, AnyD d) → AnyD (.lst ds)
  | tup {ds : List AD} : ds.length ≤ 2 → (∀ d ∈ ds, AnyD d) → AnyD (.tup ds)
theorem avA_append {H : Hp} : ∀ {vs ws : List V} {ds es : List AD}, AvAll K H vs ds → AvAll K H ws es → AvAll K H (vs ++ ws) (ds ++ es)
  | _, _, _, _, .nil, b => b
  | _, _, _, _, .cons a r, b => .cons a (avA_append r b)
def spAny (K : PySem.W.Frag) : Nat → Sp
  | 0 => fun _ _ _ _ => False
  | n + 1 => fun vs H Q _ => ∃ (p : Addr), vs = [.ref p, .int (n : Nat)] ∧ Box H p ∧ ∀ v d H', Bx p H H' → AnyD d → Av K (news H H') v d → Q v H'
theorem news_mut {f : Addr} {H H2 : Hp} {o : HO} : Same (hide f (news H H2)) (hide f (news H (upd H2 f o))) := fun b u e => by
  have hb : b ≠ f := fun z => by rw [z, hide_self] at e; cases e
  rw [hide_ne hb] at e ⊢
  unfold news at e ⊢
  rw [upd_ne hb]
  exact e
theorem news_bx {p : Addr} {H H1 H2 : Hp} (hb : Box H p) (B : Bx p H1 H2) : Same (news H H1) (news H H2) := fun b o e => by
  obtain ⟨e1, e2⟩ := news_get e
  have hp : b ≠ p := fun z => by obtain ⟨_, _, e3, _⟩ := hb; rw [z, e3] at e1; cases e1
  rw [news_at e1]
  exact B.get hp e2
theorem news_in {p f : Addr} {H H1 H2 : Hp} (B : Bx p H H1) (hf : H1 f ≠ none) : Same (news H1 H2) (hide f (news H H2)) := fun b o e => by
  obtain ⟨e1, e2⟩ := news_get e
  have hbf : b ≠ f := fun z => hf (by rw [← z]; exact e1)
  rw [hide_ne hbf, news_at (B.new e1)]
  exact e2
theorem ok_any (T : TxtG K mg) : ∀ n : Nat, FnOk P w K mg base CX0 (n + 4) T.dLawAny.f T.dLawAny.fd ["_law_box", "_law_deep"] (spAny K n)
  | 0 => T.dLawAny.F.ok scDLawAny (fun vs H Q E h => h.elim) (fun cdv A outer s H vs Q E hr h => h.elim)
  | n + 1 => by
    have ih := ok_any T n
    refine T.dLawAny.F.ok scDLawAny (fun vs H Q E h => ?_) (fun cdv A outer s H vs Q E hr h => ?_)
    · obtain ⟨p, rfl, _⟩ := h
      rfl
    · obtain ⟨p, rfl, hb, q⟩ := h
      refine ⟨_, (pss_cons (ps_set (i := 2) scDLawAny.nd rfl (.inl rfl) (pe_ifExp (pt_cmpR op_gt (pv 1) pe_int (nomark _)) (pe_call (ok_choose T) (hr.mono (by omega)) (by rfl) T.dLawChoose.g T.dLawChoose.F.kp T.dLawChoose.b .nil pass0 (pa_cons (pv 0) (pa_cons pe_int pa_nil))) pe_int))
      (pss_cons (ps_if (pt_cmpR op_gt (pv 2) pe_int (nomark _))
      (pss_one (ps_ret (pe_call (ok_leaf T) (hr.mono (by omega)) (by rfl) T.dLawLeaf.g T.dLawLeaf.F.kp T.dLawLeaf.b .nil pass0 (pa_cons (pv 0) pa_nil))))
      pss_nil)
      (pss_cons (ps_setLc (i := 3) (own := [("_law_turn", 4)]) (g := (gName 4)) (tt := tYes) rfl scDLawAny.nd rfl rfl (sw_true rfl rfl rfl (by decide +kernel)) (pi_range1 (by rfl) T.z_range (pa_cons (pe_call (ok_choose T) (hr.mono (by omega)) (by rfl) T.dLawChoose.g T.dLawChoose.F.kp T.dLawChoose.b .nil pass0 (pa_cons (pv 0) (pa_cons pe_int pa_nil))) pa_nil)) (blkOk_by (N := ["_law_box", "_law_deep", "_law_form", "_law_found", "_law_turn"]) (sc := defScope sDLawAny) (by decide +kernel)) (fun _ _ _ _ _ => (pg_name (i := 4) scDLawAny.nd rfl (.inl rfl))) (fun _ _ _ _ _ => pts_nil) (fun _ _ _ _ _ => (pe_call ih hr (by rfl) T.dLawAny.g T.dLawAny.F.kp T.dLawAny.b .nil pass0 (pa_cons (pv 0) (pa_cons (pe_op op_sub (pv 1) pe_int) pa_nil)))))
      (pss_one (ps_ret (pe_ifExp (pt_cmpR op_eq (pv 2) pe_int (nomark _)) (pe_callTy call_tuple_of (by rfl) T.z_tuple (show bootBuiltins "tuple" = some (.type "tuple") by decide +kernel) (pa_cons (pv 3) pa_nil)) (pv 3))))))), ?_⟩
      simp only [and_assoc, tSeq, tAsg, tOp, tUn, rI, rI0, rU, tVar, tC, gName, L2.start, tIfS, tTest, tB, tCB, tCons, tNil, tIf, tRet, tRetN, tLst, tTup, tNext, tDrop, tNot, tNotV, tAnd, tOr, tAndV, tOrV, tPar, tAug, ipI, rEq, rNe, gSub, rSetL, rIxL, rIxT, tBM, tBM0, rAppend, rPopAt, gTup, gCons, gNil, tCall, tSl, tPart, tNoPart, rSlL, rCat, rEqD, rNeD, rIn, scal, List.map_cons, List.map_nil, List.length_cons, List.length_nil, List.length_map, List.cons_append, List.nil_append, List.append_nil, List.replicate, List.getElem?_cons_zero, List.getElem?_cons_succ, List.set_cons_zero, List.set_cons_succ, Option.some.injEq, exists_eq_left', exists_eq_left, exists_eq_right, exists_and_left, exists_and_right, V.int.injEq, V.ref.injEq, V.str.injEq, V.bl.injEq, reduceCtorEq, false_and, and_false, exists_false, or_false, false_or, true_and, and_true, List.cons.injEq, decide_eq_true_eq, cxOf, if_true, if_false, Bool.false_eq_true, Nat.reduceAdd, Nat.reduceSub, Nat.zero_add, Nat.add_sub_cancel_left, Nat.add_sub_cancel, Nat.sub_self, sFld, tFld, tFor_eq, tLc_eq, iRng1, iRng2, iList, iTup, iEnum, rIsi, rIsiT, iSeq, tM0, tM1, tFmt, tJs, rJoin, rNewStrs, tMake, tNever, spOneOf, spChoose, spLeaf]
      by_cases hn : 0 < n
      · rw [if_pos (by omega)]
        refine ⟨hb, by decide, by decide, fun r H1 B1 r0 r6 => ?_⟩
        split
        · exact ⟨B1.1, fun v d H2 B2 hd hv => q v d H2 (B1.trans B2) (.leaf hd) (hv _)⟩
        · refine ⟨B1.1, by decide, by decide, fun c H2 B2 c0 c3 => ⟨by omega, by omega, fun D nD => ?_⟩⟩
          have B12 := B1.trans B2
          have Dp' : D ≠ p := B12.ne hb nD
          obtain ⟨m, rfl⟩ : ∃ m, n = m + 1 := ⟨n - 1, by omega⟩
          refine lg_range (fun j H5 => ∃ (ds : List AD) (vs : List V), Bx p H2 H5 ∧ ds.length = j ∧ (∀ d ∈ ds, AnyD d) ∧ H5 D = some (.lst vs) ∧ AvAll K (hide D (news H H5)) vs ds)
            ⟨[], [], .of B2.1 (same_upd nD), rfl, (fun _ h => nomatch h), upd_same, .nil⟩ ?_ ?_
          · rintro j H5 hj ⟨ds, vs, B5, hdl, hda, eD, hav⟩
            simp only [and_assoc, tSeq, tAsg, tOp, tUn, rI, rI0, rU, tVar, tC, gName, L2.start, tIfS, tTest, tB, tCB, tCons, tNil, tIf, tRet, tRetN, tLst, tTup, tNext, tDrop, tNot, tNotV, tAnd, tOr, tAndV, tOrV, tPar, tAug, ipI, rEq, rNe, gSub, rSetL, rIxL, rIxT, tBM, tBM0, rAppend, rPopAt, gTup, gCons, gNil, tCall, tSl, tPart, tNoPart, rSlL, rCat, rEqD, rNeD, rIn, scal, List.map_cons, List.map_nil, List.length_cons, List.length_nil, List.length_map, List.cons_append, List.nil_append, List.append_nil, List.replicate, List.getElem?_cons_zero, List.getElem?_cons_succ, List.set_cons_zero, List.set_cons_succ, Option.some.injEq, exists_eq_left', exists_eq_left, exists_eq_right, exists_and_left, exists_and_right, V.int.injEq, V.ref.injEq, V.str.injEq, V.bl.injEq, reduceCtorEq, false_and, and_false, exists_false, or_false, false_or, true_and, and_true, List.cons.injEq, decide_eq_true_eq, cxOf, if_true, if_false, Bool.false_eq_true, Nat.reduceAdd, Nat.reduceSub, Nat.zero_add, Nat.add_sub_cancel_left, Nat.add_sub_cancel, Nat.sub_self, sFld, tFld, tFor_eq, tLc_eq, iRng1, iRng2, iList, iTup, iEnum, rIsi, rIsiT, iSeq, tM0, tM1, tFmt, tJs, rJoin, rNewStrs, tMake, tNever, spOneOf, spChoose, wipe, spAny, tYes]
            refine ⟨by omega, B5.1, fun v d H6 B6 hd hv => ?_⟩
            have eD6 := B6.get Dp' eD
            have hvl : vs.length = j := by rw [avA_len hav]; exact hdl
            have B26 := B5.trans B6
            refine ⟨vs, eD6, small1000 (by omega), B26.mut nD Dp', ds ++ [d], by rw [List.length_append, hdl]; rfl, fun d' hd' => ?_, vs ++ [v], upd_same, ?_⟩
            · rcases List.mem_append.mp hd' with h | h
              · exact hda d' h
              · rw [List.mem_singleton.mp h]; exact hd
            · refine avA_mono news_mut _ _ (avA_append (avA_mono (hide_same (news_bx hb B6)) _ _ hav) (.cons (av_mono (news_in (B12.trans B5) ?_) _ _ hv) .nil))
              rw [eD]
              exact fun z => nomatch z
          · rintro H5 ⟨ds, vs, B5, hdl, hda, eD, hav⟩
            have B25 := B12.trans B5
            have hdl2 : ds.length ≤ 2 := by omega
            have nD0 : H D = none := B12.new nD
            split
            · refine ⟨vs, .inl ⟨sqL_of eD, fun l nl => ?_⟩⟩
              have lp : l ≠ p := fun z => by obtain ⟨_, _, e, _⟩ := B5.1; rw [z, e] at nl; cases nl
              have sl := same_upd (o := .tup vs) nl
              refine q _ (.tup ds) _ (B25.trans (.of B5.1 sl)) (.tup hdl2 hda) (.tup (sqT_of (by rw [news_at (B25.new nl), upd_same])) (avA_mono (hide_le.trans (news_mono sl)) _ _ hav))
            · exact q _ (.lst ds) _ B25 (.lst hdl2 hda) (.lst (sqL_of (by rw [news_at nD0]; exact eD)) (avA_mono hide_le _ _ hav))
      · rw [if_neg (by omega), if_pos (by decide)]
        exact ⟨hb, fun v d H2 B2 hd hv => q v d H2 B2 (.leaf hd) (hv _)⟩

end
end He

namespace He
open PySem PySem.Spec PyProof.Rows L2
section
variable {P : Program} {w : World} {K : PySem.W.Frag} {mg : Str → Option Value} {base : Heap}

def rEqNil (K : PySem.W.Frag) : R2 := fun x y H Q => ∃ l e xs, x = .ref l ∧ y = .ref e ∧ SqL K H l xs ∧ SqL K H e [] ∧ Q (.bl xs.isEmpty) H
theorem op_eqNil {X : Cx} (hu : X.A.units + 64 < cLine) : OpR X (compareOp .Eq) (rEqNil X.K) := by
  intro pins s σ H x y v u Q I rx ry h
  obtain ⟨l, e, xs, rfl, rfl, hl, he, q⟩ := h
  cases rx
  cases ry
  obtain ⟨its, r1, p1, _⟩ := I.list hl
  obtain ⟨its2, r2, p2, _⟩ := I.list he
  cases r2
  have hu' : X.A.units < cLine := by omega
  cases r1 with
  | nil => exact SeqAt.RcAt.lists (e := fun _ => true) p1.isList p2.isList rfl hu' (fun j h1 => absurd h1 (by simp)) X.prog X.w X.xe _ ⟨.bl true, H, I, rfl, q⟩
  | cons a b => exact SeqAt.RcAt.lists_lengths p1.isList p2.isList (by simp) hu' X.prog X.w X.xe _ ⟨.bl false, H, I, rfl, q⟩
/-- a comprehension that keeps what passes its test -/
theorem lg_filter {J : It} {n : Nat} {G : Hp → Prop} {Y : Nat → Hp → V → Hp → Prop} (wk : Walk J n G Y) {g : TG} {tt : TT} {te : TE} {vs : List Nat} {σ : L2.St} {H1 : Hp} {D : Addr} {Qd : Hp → Prop} (t : Nat → Bool) (ye : Nat → V) (hn : n < sizeLine) (nD : H1 D = none) (hG : ∀ H, Same H1 H → G H)
    (turn : ∀ (i : Nat) (x : V) (H H' : Hp) (Aq : V → Hp → Prop) (Bq : Hp → Prop), i < n → Same H1 H → H D ≠ none → Y i H x H' → (∀ H4, t i = true → Same H H4 → Aq (ye i) H4) → (∀ H3, t i = false → Same H H3 → Bq H3) →
      g x (wipe σ vs) H' fun σ2 H2 => wipe σ2 vs = wipe σ vs ∧ tt σ2 H2 fun b H3 => if b = true then te σ2 H3 Aq else Bq H3)
    (done : ∀ H, Same H1 H → H D = some (.lst (((List.range n).filter t).map ye)) → Qd H) : LcGoes J g tt te vs σ H1 D Qd := by
  have hl : ∀ i, (((List.range i).filter t).map ye).length ≤ i := fun i => by
    rw [List.length_map]
    exact Nat.le_trans (List.length_filter_le _ _) (by rw [List.length_range]; exact Nat.le_refl _)
  refine lc_it wk (fun i H => Same H1 H ∧ H D = some (.lst (((List.range i).filter t).map ye))) ⟨same_upd nD, upd_same⟩ (fun i H _ h => hG H h.1) (fun i x H H' hi ⟨s1, eD⟩ hY => ?_) (fun H ⟨s1, eD⟩ => done H s1 eD)
  refine turn i x H H' _ _ hi s1 (by rw [eD]; exact fun z => nomatch z) hY (fun H4 ht s4 => ?_) (fun H3 ht s3 => ?_)
  · refine ⟨_, s4 _ _ eD, by have := hl i; omega, fun b o e => by rw [upd_ne (ne_of_none e nD)]; exact s4 _ _ (s1 _ _ e), ?_⟩
    rw [upd_same, List.range_succ, List.filter_append, List.map_append]
    simp [ht]
  · refine ⟨s1.trans s3, ?_⟩
    rw [s3 _ _ eD, List.range_succ, List.filter_append, List.map_append]
    simp [ht]
/-! ### the law's own look at names -/
def rNotSign : R2 := fun x y H Q => ∃ (c : Nat) (z : Str), x = .str ⟨#[c]⟩ ∧ y = .str z ∧ Q (.bl (!decide (c ∈ z.cps.toList))) H
theorem op_ns_str {X : Cx} : OpR X (compareOp .NotIn) rNotSign := op_notIn_sign
def rLenS : List V → Hp → VK → Prop := fun xs H Q => ∃ z : Str, xs = [.str z] ∧ z.length ≤ sizeLine ∧ Q (.int z.length) H
theorem abc_tl : (Str.ofString "abcdefghijklmnopqrstuvwxyz").cps.toList = (List.range 26).map (· + 97) := by decide +kernel
theorem dig_tl : (Str.ofString "0123456789").cps.toList = (List.range 10).map (· + 48) := by decide +kernel
theorem mem_abc {c : Nat} : c ∈ (Str.ofString "abcdefghijklmnopqrstuvwxyz").cps.toList ↔ 97 ≤ c ∧ c ≤ 122 := by
  rw [abc_tl, List.mem_map]
  constructor
  · rintro ⟨a, ha, rfl⟩
    have := List.mem_range.mp ha
    omega
  · intro h
    exact ⟨c - 97, List.mem_range.mpr (by omega), by omega⟩
theorem mem_dig {c : Nat} : c ∈ (Str.ofString "0123456789").cps.toList ↔ 48 ≤ c ∧ c ≤ 57 := by
  rw [dig_tl, List.mem_map]
  constructor
  · rintro ⟨a, ha, rfl⟩
    have := List.mem_range.mp ha
    omega
  · intro h
    exact ⟨c - 48, List.mem_range.mpr (by omega), by omega⟩
/-- no sign is left out: all are of the alphabet -/
theorem left_nil {x z : Str} {ye : Nat → V} : (((List.range x.cps.size).filter fun i => !decide ((x.cps.toList.getD i 0) ∈ z.cps.toList)).map ye).isEmpty = x.cps.toList.all fun c => decide (c ∈ z.cps.toList) := by
  rw [Bool.eq_iff_iff, List.isEmpty_iff, List.map_eq_nil_iff, List.filter_eq_nil_iff, List.all_eq_true]
  have hl : x.cps.toList.length = x.cps.size := Array.length_toList
  constructor
  · intro h c hc
    obtain ⟨i, hi⟩ := List.mem_iff_getElem?.mp hc
    have hil := (List.getElem?_eq_some_iff.mp hi).1
    have := h i (List.mem_range.mpr (by omega))
    rw [List.getD_eq_getElem?_getD, hi] at this
    simpa using this
  · intro h i hi
    have hil := List.mem_range.mp hi
    have e : x.cps.toList[i]? = some (x.cps.toList[i]'(by omega)) := List.getElem?_eq_getElem (by omega)
    have := h _ (List.mem_of_getElem? e)
    rw [List.getD_eq_getElem?_getD, e]
    simpa using this

def EnQ (K : PySem.W.Frag) (H : Hp) (a : Addr) (xs : List V) (J : It) : Prop := (J = Ite K a ∧ SqL K H a xs) ∨ (J = Iten K a ∧ SqT K H a xs)
def iEnumQ (K : PySem.W.Frag) (ta : TA) : TI := fun σ H R => ta σ H fun vs H1 => ∃ a xs J, vs = [.ref a] ∧ EnQ K H1 a xs J ∧ R J H1
theorem pi_enumQ {X : Cx} {e : Expr} {ta : TA} {p pos tpos : Pos} {elts : List Expr} {kk : Nat} (hg : Gl X "enumerate") (hm : X.mg "enumerate" = none) (ha : PA X [e] ta) (hs : starEach [e] X.env = [(false, eval e X.env)] := by rfl) :
    PI X (.Tuple elts kk tpos) (.Call (.Name "enumerate" p) [e] [] pos) (iEnumQ X.K ta) := by
  refine ⟨fun pins s σ H R I h => ?_⟩
  refine Call_ (ld_blt I hg hm boot_enumerate (PyProof.Rows.callWith_type1 (thn (ha.run pos pins s σ H _ I h) fun us s1 ⟨vs, H1, I1, r1, q1⟩ => ?_) hs rfl))
  obtain ⟨a, xs, J, ex, hq, q⟩ := q1
  subst ex
  cases r1 with
  | cons r rr =>
    cases rr
    cases r
    have fin : ∀ b ∈ [s1.heap.objs.size + 1, s1.heap.objs.size], FpOk X pins H1 b := fun b hb => by
      have hle : s1.heap.objs.size ≤ b := by
        rcases (show b = s1.heap.objs.size + 1 ∨ b = s1.heap.objs.size by simpa using hb) with z | z
        · rw [z]; exact Nat.le_add_right _ _
        · rw [z]; exact Nat.le_refl _
      exact I1.fpOk hle (I1.hok.fresh hle)
    rcases hq with ⟨rfl, hq⟩ | ⟨rfl, hq⟩
    · obtain ⟨its, rv, p', hz⟩ := I1.list hq
      refine call_enumerate_list p'.isList fun h' he hit hsz hk => wpAny_pyIter_enum he ?_
      have I2 : Inv X pins σ H1 { s1 with heap := h' } := I1.kept (t' := s1.toks) hk
      exact ⟨s1.heap.objs.size + 1, [s1.heap.objs.size + 1, s1.heap.objs.size], _, _, H1, rfl, I2, turn_enum a (s1.heap.objs.size + 1) s1.heap.objs.size, ⟨⟨.none, he⟩, hit, Nat.succ_ne_self _⟩, fin, q⟩
    · obtain ⟨its, rv, p', hz⟩ := I1.tuple hq
      refine EnT.call_enumT p' fun h' he hit hsz hk => wpAny_pyIter_enum he ?_
      have I2 : Inv X pins σ H1 { s1 with heap := h' } := I1.kept (t' := s1.toks) hk
      exact ⟨s1.heap.objs.size + 1, [s1.heap.objs.size + 1, s1.heap.objs.size], _, _, H1, rfl, I2, turn_enumT a (s1.heap.objs.size + 1) s1.heap.objs.size, ⟨⟨.none, he⟩, hit, Nat.succ_ne_self _⟩, fin, q⟩
theorem walk_enumT {K : PySem.W.Frag} {a : Addr} {xs : List V} : Walk (Iten K a) xs.length (fun H => SqT K H a xs) (YPair (fun i => some (.int (i : Nat))) (fun i => xs[i]?)) := by
  refine ⟨fun i _ hi q => ⟨xs, xs[i], q, by simp [hi]⟩, fun _ q => ⟨xs, q, Nat.le_refl _⟩, fun i H v H' _ q y => ?_⟩
  obtain ⟨T, x, h1, h2, h3, h4⟩ := y
  exact ⟨T, .int (i : Nat), x, h1, h2, h3, rfl, h4 xs q⟩
theorem fg_enumQ {H1 : Hp} {a : Addr} {xs : List V} {J : It} {g : TG} {tb : TS} {D : Ends} {σ : L2.St} (hJ : EnQ K H1 a xs J) (Pv : Nat → L2.St → Hp → Prop) (h0 : Pv 0 σ H1) (hG : ∀ i σ H, Pv i σ H → Same H1 H)
    (hs : ∀ (i : Nat) (x : V) (T : Addr) σ H, xs[i]? = some x → Pv i σ H → H T = none → g (.ref T) σ (upd H T (.tup [.int (i : Nat), x])) fun σ2 H2 => tb { D with nx := Pv (i + 1), ct := Pv (i + 1), bk := D.nx } σ2 H2) (hd : ∀ σ H, Pv xs.length σ H → D.nx σ H) : ForGoes J g tb D σ H1 := by
  rcases hJ with ⟨rfl, hq⟩ | ⟨rfl, hq⟩
  · refine for_it (walk_enum (K := K) (a := a) (xs := xs)) Pv h0 (fun i σ H _ p => (hG i σ H p).seq hq) (fun i x σ H H' hi hp y => ?_) hd
    obtain ⟨T, x1, y1, rfl, hn, rfl, h1, h2⟩ := y
    cases Option.some.inj h1
    exact hs i y1 T σ H h2 hp hn
  · refine for_it (walk_enumT (K := K) (a := a) (xs := xs)) Pv h0 (fun i σ H _ p => Same.seqT (hG i σ H p) hq) (fun i x σ H H' hi hp y => ?_) hd
    obtain ⟨T, x1, y1, rfl, hn, rfl, h1, h2⟩ := y
    cases Option.some.inj h1
    exact hs i y1 T σ H h2 hp hn
/-- xs[a:b], a list or a tuple -/
--RSLT
/-def rSlQ (K : PySem.W.Frag) : V → Option Int → Option Int → Hp → VK → Prop := fun x lo hi H Q => rSlL K x lo hi H Q ∨ RSLT K x lo hi H Q -/
theorem ok_title (T : TxtG K mg) : FnOk P w K mg base CX0 1 T.dLawIsTitle.f T.dLawIsTitle.fd ["_law_value"] (spIs K isNameA) := by
  refine T.dLawIsTitle.F.ok scDLawIsTitle (fun vs H Q E h => ?_) (fun cdv A outer s H vs Q E hr h => ?_)
  · obtain ⟨v, d, rfl, _⟩ := h
    rfl
  · obtain ⟨v, d, rfl, hv, hd, q⟩ := h
    refine ⟨_, (pss_cons (ps_if (PW.pt (pw_or (pt_not (pt_val (pe_callB call_isi (by rfl) T.z_isinstance (show bootBuiltins "isinstance" = some (.builtin "isinstance") by decide +kernel) (pa_cons (pv 0) (pa_cons (pe_bltn (v := .ty "str") (u := .type "str") (by rfl) T.z_str (by decide +kernel) rfl) pa_nil))))) (pw_or (pt_not (pt_chain op_lt op_lt pe_int (pe_callB (show CallR _ (.builtin "len") rLenS from call_len_str) (by rfl) T.z_len (show bootBuiltins "len" = some (.builtin "len") by decide +kernel) (pa_cons (pv 0) pa_nil)) pe_int)) (pw_or1 (pt_cmpR op_eq (pv 0) pe_str (nomark _))))))
      (pss_one (ps_ret pe_bl))
      pss_nil)
      (pss_one (ps_ret (pe_cmpR (op_eqNil hr.units) (pe_lc (own := [("_law_letter", 1)]) (g := (gName 1)) rfl scDLawIsTitle.nd (pi_str (pv 0)) (blkOk_by (N := ["_law_value", "_law_letter"]) (sc := defScope sDLawIsTitle) (by decide +kernel)) (fun _ _ _ _ _ => (pg_name (i := 1) scDLawIsTitle.nd rfl (.inl rfl))) (fun _ _ _ _ _ => (pts_one (pt_cmpR op_ns_str (pv 1) pe_str (by rfl)))) (fun _ _ _ _ _ => (pv 1))) (pe_lst pa_nil) (nomark _))))), ?_⟩
    simp only [and_assoc, tSeq, tAsg, tOp, tUn, rI, rI0, rU, tVar, tC, gName, L2.start, tIfS, tTest, tB, tCB, tCons, tNil, tIf, tRet, tRetN, tLst, tTup, tNext, tDrop, tNot, tNotV, tAnd, tOr, tAndV, tOrV, tPar, tAug, ipI, rEq, rNe, gSub, rSetL, rIxL, rIxT, tBM, tBM0, rAppend, rPopAt, gTup, gCons, gNil, tCall, tSl, tPart, tNoPart, rSlL, rCat, rEqD, rNeD, rIn, scal, List.map_cons, List.map_nil, List.length_cons, List.length_nil, List.length_map, List.cons_append, List.nil_append, List.append_nil, List.replicate, List.getElem?_cons_zero, List.getElem?_cons_succ, List.set_cons_zero, List.set_cons_succ, Option.some.injEq, exists_eq_left', exists_eq_left, exists_eq_right, exists_and_left, exists_and_right, V.int.injEq, V.ref.injEq, V.str.injEq, V.bl.injEq, reduceCtorEq, false_and, and_false, exists_false, or_false, false_or, true_and, and_true, List.cons.injEq, decide_eq_true_eq, cxOf, if_true, if_false, Bool.false_eq_true, Nat.reduceAdd, Nat.reduceSub, Nat.zero_add, Nat.add_sub_cancel_left, Nat.add_sub_cancel, Nat.sub_self, sFld, tFld, tFor_eq, tLc_eq, iRng1, iRng2, iList, iTup, iEnum, rIsi, rIsiT, iSeq, tM0, tM1, tFmt, tJs, rJoin, rNewStrs, tMake, tNever, tChain, iStr, rEqNil, rNeNil, rLenS, rNotSign, iEnumQ]
    have big : 16777216 ≤ sizeLine := by decide
    have q0 := q H (Same.refl H)
    refine ⟨_, _, .ty "str", av_ty hv, _, kit_str hd, ?_⟩
    cases hv with
    | non => exact q0
    | bl b => exact q0
    | int i => exact q0
    | lst _ _ => exact q0
    | tup _ _ => exact q0
    | ins _ _ => exact q0
    | str x =>
      rw [if_neg (show ¬ (!isStrA (.str x)) = true by simp [isStrA])]
      have hlx : x.length = x.cps.size := rfl
      have q : ∀ H', Same H H' → Q (.bl (nameB x)) H' := q
      have q0 : Q (.bl (nameB x)) H := q0
      have hd : x.length ≤ sizeLine := hd
      have nf : (¬ (1 ≤ x.cps.size ∧ x.cps.size ≤ 5) ∨ x = "crown") → nameB x = false := fun h => by
        unfold nameB
        rcases h with h | h
        · have : (decide (1 ≤ x.cps.size) && decide (x.cps.size ≤ 5)) = false := by
            rw [Bool.and_eq_false_iff, decide_eq_false_iff_not, decide_eq_false_iff_not]
            omega
          rw [this]
          rfl
        · rw [decide_eq_false (show ¬ (x ≠ "crown") from fun z => z h), Bool.and_false]
      refine ⟨x, rfl, hd, ?_⟩
      by_cases h1 : 0 < x.cps.size
      · rw [if_pos (by omega)]
        by_cases h2 : x.cps.size < 6
        · rw [if_neg (by simp; omega)]
          refine ⟨rfl, ?_⟩
          by_cases h3 : x = Str.ofString "crown"
          · rw [if_pos (by rw [h3])]
            rw [nf (.inr h3)] at q0
            exact q0
          · rw [if_neg (fun z => h3 (V.str.inj z))]
            refine ⟨x, rfl, fun D nD => ?_⟩
            refine lg_filter (walk_str (z := x)) (fun i => !decide ((x.cps.toList.getD i 0) ∈ (Str.ofString "abcdefghijklmnopqrstuvwxyz").cps.toList)) (fun i => .str ⟨#[x.cps.toList.getD i 0]⟩) (small1000 (by omega)) nD (fun _ _ => trivial) (fun i y H2 H3 Aq Bq hi s2 hD hY hA hB => ?_) (fun H2 s2 eD => ?_)
            · obtain ⟨rfl, c, ec, rfl⟩ := hY
              have e : x.cps.toList.getD i 0 = c := by rw [List.getD_eq_getElem?_getD, Array.getElem?_toList, ec]; rfl
              simp only [e] at hA hB
              simp only [and_assoc, tSeq, tAsg, tOp, tUn, rI, rI0, rU, tVar, tC, gName, L2.start, tIfS, tTest, tB, tCB, tCons, tNil, tIf, tRet, tRetN, tLst, tTup, tNext, tDrop, tNot, tNotV, tAnd, tOr, tAndV, tOrV, tPar, tAug, ipI, rEq, rNe, gSub, rSetL, rIxL, rIxT, tBM, tBM0, rAppend, rPopAt, gTup, gCons, gNil, tCall, tSl, tPart, tNoPart, rSlL, rCat, rEqD, rNeD, rIn, scal, List.map_cons, List.map_nil, List.length_cons, List.length_nil, List.length_map, List.cons_append, List.nil_append, List.append_nil, List.replicate, List.getElem?_cons_zero, List.getElem?_cons_succ, List.set_cons_zero, List.set_cons_succ, Option.some.injEq, exists_eq_left', exists_eq_left, exists_eq_right, exists_and_left, exists_and_right, V.int.injEq, V.ref.injEq, V.str.injEq, V.bl.injEq, reduceCtorEq, false_and, and_false, exists_false, or_false, false_or, true_and, and_true, List.cons.injEq, decide_eq_true_eq, cxOf, if_true, if_false, Bool.false_eq_true, Nat.reduceAdd, Nat.reduceSub, Nat.zero_add, Nat.add_sub_cancel_left, Nat.add_sub_cancel, Nat.sub_self, sFld, tFld, tFor_eq, tLc_eq, iRng1, iRng2, iList, iTup, iEnum, rIsi, rIsiT, iSeq, tM0, tM1, tFmt, tJs, rJoin, rNewStrs, tMake, tNever, tChain, iStr, rEqNil, rNeNil, rLenS, rNotSign, iEnumQ, wipe]
              refine ⟨c, rfl, ?_⟩
              cases hd2 : !decide (c ∈ (Str.ofString "abcdefghijklmnopqrstuvwxyz").cps.toList) with
              | true =>
                rw [if_pos rfl]
                exact hA _ hd2 (Same.refl _)
              | false =>
                rw [if_neg (by simp)]
                exact hB _ hd2 (Same.refl _)
            · refine ⟨by decide, fun p np => ⟨_, sqL_of (same_upd np _ _ eD), sqL_of upd_same, ?_⟩⟩
              rw [left_nil]
              have e : (x.cps.toList.all fun c => decide (c ∈ (Str.ofString "abcdefghijklmnopqrstuvwxyz").cps.toList)) = nameB x := by
                unfold nameB
                rw [decide_eq_true (by omega : 1 ≤ x.cps.size), decide_eq_true (by omega : x.cps.size ≤ 5), decide_eq_true (show x ≠ "crown" from h3), Bool.and_true, Bool.true_and, Bool.true_and, ← Array.all_toList]
                congr 1
                funext c
                rw [Bool.eq_iff_iff, decide_eq_true_eq, mem_abc]
                simp
              rw [e]
              exact q _ (s2.trans (same_upd np))
        · rw [if_pos (by simp; omega)]
          rw [nf (.inl (by omega))] at q0
          exact q0
      · rw [if_neg (by omega), if_pos (by rfl)]
        rw [nf (.inl (by omega))] at q0
        exact q0

end
end He

namespace He
open PySem PySem.Spec PyProof.Rows L2
section
variable {P : Program} {w : World} {K : PySem.W.Frag} {mg : Str → Option Value} {base : Heap}

theorem strs_inv : ∀ {ds : List AD} {ys : List Str}, strsA ds = some ys → ds = ys.map AD.str
  | [], ys, h => by cases Option.some.inj h; rfl
  | d :: ds, ys, h => by
    cases d with
    | str x =>
      have h' : (strsA ds).map (x :: ·) = some ys := h
      obtain ⟨zs, hz, rfl⟩ := Option.map_eq_some_iff.mp h'
      rw [strs_inv hz]
      rfl
    | _ => cases h
theorem grp_of {d : AD} {ds : List AD} (e : itemsA d = some ds) : isGrpA d = (!ds.isEmpty && (ds.all isNameA && match strsA ds with | some xs => decide xs.Nodup | none => false)) := by
  unfold isGrpA grpA
  rw [e]
  show Option.isSome (if ds.isEmpty then none else if ds.all isNameA then (match strsA ds with | some xs => if xs.Nodup then some xs else none | none => none) else none) = _
  cases ds.isEmpty <;> cases ds.all isNameA <;> cases strsA ds with
    | none => rfl
    | some xs => by_cases hn : xs.Nodup <;> simp [hn]
theorem avA_take {H : Hp} : ∀ {vs : List V} {ds : List AD}, AvAll K H vs ds → ∀ i, AvAll K H (vs.take i) (ds.take i)
  | _, _, .nil, i => by simp; exact .nil
  | _, _, .cons a r, 0 => .nil
  | _, _, .cons a r, i + 1 => .cons a (avA_take r i)
theorem enq_of {H : Hp} {a : Addr} {xs : List V} (h : Sq K H a xs) : ∃ J, EnQ K H a xs J := by
  rcases h with h | h
  · exact ⟨_, .inl ⟨rfl, h⟩⟩
  · exact ⟨_, .inr ⟨rfl, h⟩⟩
theorem grp_no1 {d : AD} {ds : List AD} {i : Nat} {x : AD} (e : itemsA d = some ds) (h : ds[i]? = some x) (hx : isNameA x = false) : isGrpA d = false := by
  rw [grp_of e]
  have : ds.all isNameA = false := List.all_eq_false.mpr ⟨x, List.mem_of_getElem? h, by rw [hx]; simp⟩
  rw [this, Bool.false_and, Bool.and_false]
theorem grp_no2 {d : AD} {ds : List AD} {i : Nat} {x : Str} {xs : List Str} (e : itemsA d = some ds) (h : ds[i]? = some (.str x)) (ht : ds.take i = xs.map AD.str) (hx : x ∈ xs) : isGrpA d = false := by
  rw [grp_of e]
  cases hs : strsA ds with
  | none => rw [Bool.and_false, Bool.and_false]
  | some ys =>
    have hd := strs_inv hs
    have hn : ¬ ys.Nodup := fun hnd => by
      subst hd
      rw [← List.map_take] at ht
      have hxs : ys.take i = xs := List.map_inj_right (fun a b z => AD.str.inj z) |>.mp ht
      rw [List.getElem?_map] at h
      obtain ⟨y, hy, hyx⟩ := Option.map_eq_some_iff.mp h
      obtain rfl := AD.str.inj hyx
      rw [← hxs] at hx
      obtain ⟨j, hj⟩ := List.mem_iff_getElem?.mp hx
      rw [List.getElem?_take] at hj
      split at hj
      · rename_i hji
        rw [List.nodup_iff_pairwise_ne, List.pairwise_iff_getElem] at hnd
        obtain ⟨hil, e1⟩ := List.getElem?_eq_some_iff.mp hy
        obtain ⟨hjl, e2⟩ := List.getElem?_eq_some_iff.mp hj
        exact hnd j i hjl hil hji (by rw [e1, e2])
      · cases hj
    show (!ds.isEmpty && (ds.all isNameA && decide ys.Nodup)) = false
    rw [decide_eq_false hn, Bool.and_false, Bool.and_false]
theorem grp_yes {d : AD} {ds : List AD} {xs : List Str} (e : itemsA d = some ds) (hne : ds ≠ []) (hd : ds = xs.map AD.str) (hn : ∀ x ∈ xs, nameB x = true) (hnd : xs.Nodup) : isGrpA d = true := by
  rw [grp_of e]
  subst hd
  rw [strsA_map]
  have h1 : (xs.map AD.str).isEmpty = false := by
    cases xs with
    | nil => exact absurd rfl hne
    | cons _ _ => rfl
  have h2 : (xs.map AD.str).all isNameA = true := by
    rw [List.all_map]
    exact List.all_eq_true.mpr fun x hx => hn x hx
  show (!(xs.map AD.str).isEmpty && ((xs.map AD.str).all isNameA && decide xs.Nodup)) = true
  rw [h1, h2, decide_eq_true hnd]
  rfl
theorem ok_lgroup (T : TxtG K mg) : FnOk P w K mg base CX0 2 T.dLawIsGroup.f T.dLawIsGroup.fd ["_law_value"] (spIs K isGrpA) := by
  refine T.dLawIsGroup.F.ok scDLawIsGroup (fun vs H Q E h => ?_) (fun cdv A outer s H vs Q E hr h => ?_)
  · obtain ⟨v, d, rfl, _⟩ := h
    rfl
  · obtain ⟨v, d, rfl, hv, hd, q⟩ := h
    refine ⟨_, (pss_cons (ps_if (PW.pt (pw_or (pt_not (pt_val (pe_callB call_isiT (by rfl) T.z_isinstance (show bootBuiltins "isinstance" = some (.builtin "isinstance") by decide +kernel) (pa_cons (pv 0) (pa_cons (pe_tup (pa_cons (pe_bltn (v := .ty "list") (u := .type "list") (by rfl) T.z_list (by decide +kernel) rfl) (pa_cons (pe_bltn (v := .ty "tuple") (u := .type "tuple") (by rfl) T.z_tuple (by decide +kernel) rfl) pa_nil))) pa_nil))))) (pw_or1 (pt_cmpR op_eq (pe_callB call_len_seq (by rfl) T.z_len (show bootBuiltins "len" = some (.builtin "len") by decide +kernel) (pa_cons (pv 0) pa_nil)) pe_int (nomark _)))))
      (pss_one (ps_ret pe_bl))
      pss_nil)
      (pss_cons (ps_for PassesOwn.never rfl (pi_enumQ (by rfl) T.z_enumerate (pa_cons (pv 0) pa_nil)) (pg_tup (n := 2) rfl (pgs_cons (pg_name (i := 1) scDLawIsGroup.nd rfl (.inl rfl)) (pgs_cons (pg_name (i := 2) scDLawIsGroup.nd rfl (.inl rfl)) pgs_nil)))
      (pss_one (ps_if (PW.pt (pw_or (pt_not (pt_val (pe_call (ok_title T) (hr.mono (by decide)) (by rfl) T.dLawIsTitle.g T.dLawIsTitle.F.kp T.dLawIsTitle.b .nil pass0 (pa_cons (pv 2) pa_nil)))) (pw_or1 (pt_cmpR (show OpR _ (compareOp .In) (rIn K false) from op_in_seq) (pv 2) (pe_slice (SlR.or sl_list sl_tup) (pv 0) po_none (po_some (pv 1))) (by rfl)))))
      (pss_one (ps_ret pe_bl))
      pss_nil)))
      (pss_one (ps_ret pe_bl)))), ?_⟩
    simp only [and_assoc, tSeq, tAsg, tOp, tUn, rI, rI0, rU, tVar, tC, gName, L2.start, tIfS, tTest, tB, tCB, tCons, tNil, tIf, tRet, tRetN, tLst, tTup, tNext, tDrop, tNot, tNotV, tAnd, tOr, tAndV, tOrV, tPar, tAug, ipI, rEq, rNe, gSub, rSetL, rIxL, rIxT, tBM, tBM0, rAppend, rPopAt, gTup, gCons, gNil, tCall, tSl, tPart, tNoPart, rSlL, rCat, rEqD, rNeD, rIn, scal, List.map_cons, List.map_nil, List.length_cons, List.length_nil, List.length_map, List.cons_append, List.nil_append, List.append_nil, List.replicate, List.getElem?_cons_zero, List.getElem?_cons_succ, List.set_cons_zero, List.set_cons_succ, Option.some.injEq, exists_eq_left', exists_eq_left, exists_eq_right, exists_and_left, exists_and_right, V.int.injEq, V.ref.injEq, V.str.injEq, V.bl.injEq, reduceCtorEq, false_and, and_false, exists_false, or_false, false_or, true_and, and_true, List.cons.injEq, decide_eq_true_eq, cxOf, if_true, if_false, Bool.false_eq_true, Nat.reduceAdd, Nat.reduceSub, Nat.zero_add, Nat.add_sub_cancel_left, Nat.add_sub_cancel, Nat.sub_self, sFld, tFld, tFor_eq, tLc_eq, iRng1, iRng2, iList, iTup, iEnum, rIsi, rIsiT, iSeq, tM0, tM1, tFmt, tJs, rJoin, rNewStrs, tMake, tNever, tChain, iStr, rEqNil, rNeNil, rLenS, rNotSign, iEnumQ, spIs]
    refine ⟨by decide, fun t nt => ⟨_, upd_same, _, _, .cons (.ty "list") (.cons (.ty "tuple") .nil), av_ty (av_mono (same_upd nt) _ _ hv), _, kit_seq hd, ?_⟩⟩
    have s1 := same_upd (o := .tup [V.ty "list", V.ty "tuple"]) nt
    generalize upd H t (.tup [V.ty "list", V.ty "tuple"]) = H1 at s1 ⊢
    cases hi : itemsA d with
    | none =>
      have e1 : isSeqA d = false := by
        cases d <;> first | rfl | cases hi
      have e2 : isGrpA d = false := by
        unfold isGrpA grpA
        rw [hi]
        rfl
      rw [e1, if_pos (show (!false) = true from rfl), ← e2]
      exact q _ s1
    | some ds =>
      have e1 : isSeqA d = true := by
        cases d <;> first | rfl | cases hi
      rw [e1, if_neg (by simp)]
      obtain ⟨a, vs, rfl, hs, ha⟩ := av_items (av_mono s1 _ _ hv) hi
      have hvl := avA_len ha
      refine ⟨a, rfl, vs, hs, ?_⟩
      by_cases h0 : ds = []
      · rw [if_pos (by rw [hvl, h0]; rfl)]
        have := q _ s1
        rw [grp_of hi, h0] at this
        exact this
      · have hpos : 0 < ds.length := List.length_pos_iff.mpr h0
        rw [if_neg (by omega)]
        obtain ⟨J, hJ⟩ := enq_of hs
        refine ⟨a, rfl, vs, J, hJ, ?_⟩
        have hdl : ds.length < 4000 := by
          cases d <;> first | (cases Option.some.inj hi; exact hd.1) | cases hi
        have hda : AdOkA K ds := by
          cases d <;> first | (cases Option.some.inj hi; exact hd.2) | cases hi
        refine fg_enumQ hJ (fun i σ H2 => ∃ (o1 o2 : Option V) (xs : List Str), σ = [some (.ref a), o1, o2] ∧ Same H1 H2 ∧ ds.take i = xs.map AD.str ∧ (∀ x ∈ xs, nameB x = true) ∧ xs.Nodup) ⟨none, none, [], rfl, Same.refl _, rfl, (fun _ h => nomatch h), List.nodup_nil⟩ (fun i σ H2 ⟨_, _, _, _, s, _⟩ => s) ?_ ?_
        · rintro i x T2 σ H2 hx ⟨o1, o2, xs, rfl, s2, hxs, hnm, hnd⟩ nT
          simp only [and_assoc, tSeq, tAsg, tOp, tUn, rI, rI0, rU, tVar, tC, gName, L2.start, tIfS, tTest, tB, tCB, tCons, tNil, tIf, tRet, tRetN, tLst, tTup, tNext, tDrop, tNot, tNotV, tAnd, tOr, tAndV, tOrV, tPar, tAug, ipI, rEq, rNe, gSub, rSetL, rIxL, rIxT, tBM, tBM0, rAppend, rPopAt, gTup, gCons, gNil, tCall, tSl, tPart, tNoPart, rSlL, rCat, rEqD, rNeD, rIn, scal, List.map_cons, List.map_nil, List.length_cons, List.length_nil, List.length_map, List.cons_append, List.nil_append, List.append_nil, List.replicate, List.getElem?_cons_zero, List.getElem?_cons_succ, List.set_cons_zero, List.set_cons_succ, Option.some.injEq, exists_eq_left', exists_eq_left, exists_eq_right, exists_and_left, exists_and_right, V.int.injEq, V.ref.injEq, V.str.injEq, V.bl.injEq, reduceCtorEq, false_and, and_false, exists_false, or_false, false_or, true_and, and_true, List.cons.injEq, decide_eq_true_eq, cxOf, if_true, if_false, Bool.false_eq_true, Nat.reduceAdd, Nat.reduceSub, Nat.zero_add, Nat.add_sub_cancel_left, Nat.add_sub_cancel, Nat.sub_self, sFld, tFld, tFor_eq, tLc_eq, iRng1, iRng2, iList, iTup, iEnum, rIsi, rIsiT, iSeq, tM0, tM1, tFmt, tJs, rJoin, rNewStrs, tMake, tNever, tChain, iStr, rEqNil, rNeNil, rLenS, rNotSign, iEnumQ, spIs]
          obtain ⟨dx, edx, hdx⟩ := avA_get (avA_mono s2 _ _ ha) hx
          have s12 := s1.trans s2
          refine ⟨_, sqT_of upd_same, rfl, _, _, rfl, _, _, rfl, rfl, dx, av_mono (same_upd nT) _ _ hdx, adOkA_get hda edx, fun H3 s3 => ?_⟩
          have s23 := (same_upd (o := .tup [.int (i : Nat), x]) nT).trans s3
          have s13 := s2.trans s23
          cases hnx : isNameA dx with
          | false =>
            rw [if_pos (show (!false) = true from rfl)]
            have := q _ (s1.trans s13)
            rw [grp_no1 hi edx hnx] at this
            exact this
          | true =>
            rw [if_neg (by simp)]
            obtain ⟨z, rfl⟩ : ∃ z, dx = .str z := by
              cases dx with
              | str z => exact ⟨z, rfl⟩
              | _ => cases hnx
            cases hdx
            have hil : i < vs.length := (List.getElem?_eq_some_iff.mp hx).1
            have hvt : vs.take i = xs.map V.str := by
              have h1 : AvAll K H1 (vs.take i) (ds.take i) := avA_take ha i
              rw [hxs] at h1
              exact av_strs h1 (strsA_map xs)
            refine ⟨_, rfl, ?_⟩
            have hin : inV (V.str z) (xs.map V.str) = xs.any fun y => decide (y = z) := by
              unfold inV
              rw [List.any_map]
              congr 1
            have hall : (xs.map V.str).all flatV = true := by
              rw [List.all_map]
              exact List.all_eq_true.mpr fun _ _ => rfl
            have fin : ∀ H4, Same H3 H4 → (if inV (V.str z) (xs.map V.str) = true then Q (.bl false) H4 else Same H1 H4 ∧ ∃ x : List Str, List.take (i + 1) ds = List.map AD.str x ∧ (∀ x_1 ∈ x, nameB x_1 = true) ∧ x.Nodup) := fun H4 s4 => by
              have s14 := s13.trans s4
              rw [hin]
              cases hany : xs.any fun y => decide (y = z) with
              | true =>
                rw [if_pos rfl]
                obtain ⟨y, hy, hyz⟩ := List.any_eq_true.mp hany
                obtain rfl := of_decide_eq_true hyz
                have := q _ (s1.trans s14)
                rw [grp_no2 hi edx hxs hy] at this
                exact this
              | false =>
                rw [if_neg (by simp)]
                have hz : z ∉ xs := fun hm => by
                  have := List.any_eq_false.mp hany z hm
                  simp at this
                refine ⟨s14, xs ++ [z], ?_, fun x hx => ?_, ?_⟩
                · rw [List.take_add_one, edx, hxs, List.map_append]
                  rfl
                · rcases List.mem_append.mp hx with h | h
                  · exact hnm x h
                  · rw [List.mem_singleton.mp h]
                    exact hnx
                · rw [List.nodup_append]
                  exact ⟨hnd, by simp, fun x hx y hy z2 => hz (by rw [List.mem_singleton] at hy; rw [← hy, ← z2]; exact hx)⟩
            rcases hs with hs | hs
            · refine .inl ⟨vs, s13.seq hs, fun p np => ⟨_, .inl (sqL_of upd_same), rfl, ?_, ?_⟩⟩
              · rw [cut_to, hvt]; exact hall
              · rw [cut_to, hvt]; exact fin _ (same_upd np)
            · refine .inr ?_
              unfold rSlT
              refine ⟨a, vs, rfl, Same.seqT s13 hs, fun z => ?_, fun p np => ⟨p, rfl, _, .inr (sqT_of upd_same), rfl, ?_, ?_⟩⟩
              · have := z.2
                rw [HT.sIx_nat] at this
                omega
              · rw [cut_to, hvt]; exact hall
              · rw [cut_to, hvt]; exact fin _ (same_upd np)
        · rintro σ H2 ⟨o1, o2, xs, rfl, s2, hxs, hnm, hnd⟩
          rw [hvl, List.take_length] at hxs
          have := q _ (s1.trans s2)
          rw [grp_yes hi h0 hxs hnm hnd] at this
          exact this

end
end He

namespace He
open PySem PySem.Spec PyProof.Rows L2
section
variable {P : Program} {w : World} {K : PySem.W.Frag} {mg : Str → Option Value} {base : Heap}

/-- [x for x in xs if not f(x)] -/
theorem lg_isnt {H1 : Hp} {a D : Addr} {xs : List V} {ds : List AD} {J : It} {i : Nat} {σ : L2.St} {Qd : Hp → Prop} {f : AD → Bool} (hJ : SeqIt K H1 a xs J) (hv : AvAll K H1 xs ds) (ho : AdOkA K ds) (hn : ds.length < 4000) (hi : i < σ.length) (nD : H1 D = none)
    (done : ∀ (H : Hp) (ys : List V), Same H1 H → H D = some (.lst ys) → ys.isEmpty = ds.all f → Qd H) : LcGoes J (gName i) (tNot (tB (tCall (spIs K f) [] E0 (tCons (tVar i) tNil)))) (tVar i) [i] σ H1 D Qd := by
  have hl := avA_len hv
  have big : 16777216 ≤ sizeLine := by decide
  have turn : ∀ (j : Nat) (x : V) (H H' : Hp) (Aq : V → Hp → Prop) (Bq : Hp → Prop), j < xs.length → Same H1 H → H D ≠ none → YAt xs j H x H' → (∀ H4, (!f (ds.getD j .non)) = true → Same H H4 → Aq (xs.getD j .non) H4) → (∀ H3, (!f (ds.getD j .non)) = false → Same H H3 → Bq H3) →
      gName i x (wipe σ [i]) H' fun σ2 H2 => wipe σ2 [i] = wipe σ [i] ∧ tNot (tB (tCall (spIs K f) [] E0 (tCons (tVar i) tNil))) σ2 H2 fun b H3 => if b = true then tVar i σ2 H3 Aq else Bq H3 := by
    intro j x H H' Aq Bq hj s1 hD hY hA hB
    obtain ⟨rfl, hx⟩ := hY
    obtain ⟨d, hd, hx2⟩ := avA_get hv hx
    have ex : xs.getD j .non = x := by rw [List.getD_eq_getElem?_getD, hx]; rfl
    have ed : ds.getD j .non = d := by rw [List.getD_eq_getElem?_getD, hd]; rfl
    rw [ex, ed] at hA
    rw [ed] at hB
    show wipe ((wipe σ [i]).set i (some x)) [i] = wipe σ [i] ∧ _
    refine ⟨by show ((σ.set i none).set i (some x)).set i none = σ.set i none; rw [List.set_set, List.set_set], ?_⟩
    have hsx : ((wipe σ [i]).set i (some x))[i]? = some (some x) := by
      show ((σ.set i none).set i (some x))[i]? = _
      rw [List.set_set, List.getElem?_set_self hi]
    refine ⟨x, hsx, ?_⟩
    refine ⟨x, d, rfl, av_mono s1 d x hx2, adOkA_get ho hd, fun H2 s2 => ⟨f d, rfl, ?_⟩⟩
    cases hf : f d with
    | true =>
      show if (!true) = true then _ else _
      rw [if_neg (by simp)]
      exact hB _ (by rw [hf]; rfl) s2
    | false =>
      show if (!false) = true then _ else _
      rw [if_pos (show (!false) = true from rfl)]
      exact ⟨x, hsx, hA _ (by rw [hf]; rfl) s2⟩
  have fin : ∀ H, Same H1 H → H D = some (.lst (((List.range xs.length).filter fun j => !f (ds.getD j .non)).map fun j => xs.getD j .non)) → Qd H := fun H s1 eD => by
    refine done H _ s1 eD ?_
    rw [Bool.eq_iff_iff, List.isEmpty_iff, List.map_eq_nil_iff, List.filter_eq_nil_iff, List.all_eq_true]
    constructor
    · intro h d hd
      obtain ⟨j, hj⟩ := List.mem_iff_getElem?.mp hd
      have hjl := (List.getElem?_eq_some_iff.mp hj).1
      have := h j (List.mem_range.mpr (by omega))
      rw [List.getD_eq_getElem?_getD, hj] at this
      simpa using this
    · intro h j hj
      have hjl := List.mem_range.mp hj
      have e : ds[j]? = some (ds[j]'(by omega)) := List.getElem?_eq_getElem (by omega)
      have := h _ (List.mem_of_getElem? e)
      rw [List.getD_eq_getElem?_getD, e]
      simpa using this
  rcases hJ with ⟨rfl, hq⟩ | ⟨rfl, hq⟩
  · exact lg_filter (walk_list (K := K) (a := a) (xs := xs)) (fun j => !f (ds.getD j .non)) (fun j => xs.getD j .non) (by omega) nD (fun H' s' => s'.seq hq) turn fin
  · exact lg_filter (walk_tup (K := K) (a := a) (xs := xs)) (fun j => !f (ds.getD j .non)) (fun j => xs.getD j .non) (by omega) nD (fun H' s' => Same.seqT s' hq) turn fin
theorem itemsA_ok {d : AD} {ds : List AD} (hi : itemsA d = some ds) (hd : AdOk K d) : ds.length < 4000 ∧ AdOkA K ds := by
  cases d <;> first | (cases Option.some.inj hi; exact hd) | cases hi
theorem kit_bool : ∀ {d : AD}, AdOk K d → PySem.W.kitOne K (tyA d) (.type "bool") = some (isBoolA d)
  | .non, _ => (kit_ty (by decide +kernel) : PySem.W.kitOne K (.type "NoneType") (.type "bool") = some false)
  | .bl _, _ => (kit_ty (by decide +kernel) : PySem.W.kitOne K (.type "bool") (.type "bool") = some true)
  | .int _, _ => (kit_ty (by decide +kernel) : PySem.W.kitOne K (.type "int") (.type "bool") = some false)
  | .str _, _ => (kit_ty (by decide +kernel) : PySem.W.kitOne K (.type "str") (.type "bool") = some false)
  | .lst _, _ => (kit_ty (by decide +kernel) : PySem.W.kitOne K (.type "list") (.type "bool") = some false)
  | .tup _, _ => (kit_ty (by decide +kernel) : PySem.W.kitOne K (.type "tuple") (.type "bool") = some false)
  | .ins _, h => NoBuilt.b h
theorem items_seq {d : AD} {ds : List AD} (hi : itemsA d = some ds) : isSeqA d = true := by
  cases d <;> first | rfl | cases hi
theorem items_noseq {d : AD} (hi : itemsA d = none) : isSeqA d = false := by
  cases d <;> first | rfl | cases hi
theorem ok_lshare (T : TxtG K mg) : FnOk P w K mg base CX0 3 T.dLawIsShare.f T.dLawIsShare.fd ["_law_value"] (spIs K isShA) := by
  refine T.dLawIsShare.F.ok scDLawIsShare (fun vs H Q E h => ?_) (fun cdv A outer s H vs Q E hr h => ?_)
  · obtain ⟨v, d, rfl, _⟩ := h
    rfl
  · obtain ⟨v, d, rfl, hv, hd, q⟩ := h
    refine ⟨_, (pss_cons (ps_if (PW.pt (pw_or (pt_not (pt_val (pe_callB call_isi (by rfl) T.z_isinstance (show bootBuiltins "isinstance" = some (.builtin "isinstance") by decide +kernel) (pa_cons (pv 0) (pa_cons (pe_bltn (v := .ty "tuple") (u := .type "tuple") (by rfl) T.z_tuple (by decide +kernel) rfl) pa_nil))))) (pw_or (pt_cmpR op_ne (pe_callB call_len_seq (by rfl) T.z_len (show bootBuiltins "len" = some (.builtin "len") by decide +kernel) (pa_cons (pv 0) pa_nil)) pe_int (nomark _)) (pw_or1 (pt_not (pt_val (pe_callB call_isiT (by rfl) T.z_isinstance (show bootBuiltins "isinstance" = some (.builtin "isinstance") by decide +kernel) (pa_cons (pe_ix ix_tup (pv 0) pe_int (fun _ _ => rfl)) (pa_cons (pe_tup (pa_cons (pe_bltn (v := .ty "list") (u := .type "list") (by rfl) T.z_list (by decide +kernel) rfl) (pa_cons (pe_bltn (v := .ty "tuple") (u := .type "tuple") (by rfl) T.z_tuple (by decide +kernel) rfl) pa_nil))) pa_nil)))))))))
      (pss_one (ps_ret pe_bl))
      pss_nil)
      (pss_cons (ps_if (PW.pt (pw_or (pt_val (pe_callB call_isi (by rfl) T.z_isinstance (show bootBuiltins "isinstance" = some (.builtin "isinstance") by decide +kernel) (pa_cons (pe_ix ix_tup (pv 0) pe_int (fun _ _ => rfl)) (pa_cons (pe_bltn (v := .ty "bool") (u := .type "bool") (by rfl) T.z_bool (by decide +kernel) rfl) pa_nil)))) (pw_or (pt_not (pt_val (pe_callB call_isi (by rfl) T.z_isinstance (show bootBuiltins "isinstance" = some (.builtin "isinstance") by decide +kernel) (pa_cons (pe_ix ix_tup (pv 0) pe_int (fun _ _ => rfl)) (pa_cons (pe_bltn (v := .ty "int") (u := .type "int") (by rfl) T.z_int (by decide +kernel) rfl) pa_nil))))) (pw_or1 (pt_cmpR op_lt (pe_ix ix_tup (pv 0) pe_int (fun _ _ => rfl)) pe_int (nomark _))))))
      (pss_one (ps_ret pe_bl))
      pss_nil)
      (pss_one (ps_ret (pe_cmpR (op_eqNil hr.units) (pe_lc (own := [("_law_group_here", 1)]) (g := (gName 1)) rfl scDLawIsShare.nd (pi_seq (pe_ix ix_tup (pv 0) pe_int (fun _ _ => rfl))) (blkOk_by (N := ["_law_value", "_law_group_here"]) (sc := defScope sDLawIsShare) (by decide +kernel)) (fun _ _ _ _ _ => (pg_name (i := 1) scDLawIsShare.nd rfl (.inl rfl))) (fun _ _ _ _ _ => (pts_one (pt_not (pt_val (pe_call (ok_lgroup T) (hr.mono (by decide)) (by rfl) T.dLawIsGroup.g T.dLawIsGroup.F.kp T.dLawIsGroup.b .nil pass0 (pa_cons (pv 1) pa_nil)))))) (fun _ _ _ _ _ => (pv 1))) (pe_lst pa_nil) (nomark _)))))), ?_⟩
    simp only [and_assoc, tSeq, tAsg, tOp, tUn, rI, rI0, rU, tVar, tC, gName, L2.start, tIfS, tTest, tB, tCB, tCons, tNil, tIf, tRet, tRetN, tLst, tTup, tNext, tDrop, tNot, tNotV, tAnd, tOr, tAndV, tOrV, tPar, tAug, ipI, rEq, rNe, gSub, rSetL, rIxL, rIxT, tBM, tBM0, rAppend, rPopAt, gTup, gCons, gNil, tCall, tSl, tPart, tNoPart, rSlL, rCat, rEqD, rNeD, rIn, scal, List.map_cons, List.map_nil, List.length_cons, List.length_nil, List.length_map, List.cons_append, List.nil_append, List.append_nil, List.replicate, List.getElem?_cons_zero, List.getElem?_cons_succ, List.set_cons_zero, List.set_cons_succ, Option.some.injEq, exists_eq_left', exists_eq_left, exists_eq_right, exists_and_left, exists_and_right, V.int.injEq, V.ref.injEq, V.str.injEq, V.bl.injEq, reduceCtorEq, false_and, and_false, exists_false, or_false, false_or, true_and, and_true, List.cons.injEq, decide_eq_true_eq, cxOf, if_true, if_false, Bool.false_eq_true, Nat.reduceAdd, Nat.reduceSub, Nat.zero_add, Nat.add_sub_cancel_left, Nat.add_sub_cancel, Nat.sub_self, sFld, tFld, tFor_eq, tLc_eq, iRng1, iRng2, iList, iTup, iEnum, rIsi, rIsiT, iSeq, tM0, tM1, tFmt, tJs, rJoin, rNewStrs, tMake, tNever, tChain, iStr, rEqNil, rNeNil, rLenS, rNotSign, iEnumQ]
    refine ⟨_, _, .ty "tuple", av_ty hv, _, kit_tup hd, ?_⟩
    have no : ∀ H', Same H H' → isShA d = false → Q (.bl false) H' := fun H' s' z => by have := q H' s'; rw [z] at this; exact this
    cases hv with
    | non => exact no _ (Same.refl _) rfl
    | bl b => exact no _ (Same.refl _) rfl
    | int i => exact no _ (Same.refl _) rfl
    | str x => exact no _ (Same.refl _) rfl
    | lst _ _ => exact no _ (Same.refl _) rfl
    | ins _ _ => exact no _ (Same.refl _) rfl
    | @tup a vs ds hs ha =>
      rw [if_neg (show ¬ (!isTupA (.tup ds)) = true by simp [isTupA])]
      refine ⟨a, rfl, vs, .inr hs, ?_⟩
      have hvl := avA_len ha
      by_cases h2 : ds.length = 2
      · rw [if_neg (by simp; omega)]
        match ds, h2 with
        | [dw, dg], _ =>
          match vs, ha, hvl with
          | [vw, vg], .cons hw (.cons hg .nil), _ =>
            obtain ⟨_, hdw, hdg, _⟩ := hd
            refine ⟨a, rfl, _, hs, vg, by rfl, by decide, fun t nt => ⟨_, upd_same, _, _, .cons (.ty "list") (.cons (.ty "tuple") .nil), av_ty (av_mono (same_upd nt) _ _ hg), _, kit_seq hdg, ?_⟩⟩
            have s1 := same_upd (o := .tup [V.ty "list", V.ty "tuple"]) nt
            generalize upd H t (.tup [V.ty "list", V.ty "tuple"]) = H1 at s1 ⊢
            cases hi : itemsA dg with
            | none =>
              rw [items_noseq hi, if_pos (show (!false) = true from rfl)]
              refine no _ s1 ?_
              show (wOkA dw && isGrpsA dg) = false
              unfold isGrpsA
              rw [hi, Bool.and_false]
            | some gds =>
              rw [items_seq hi, if_neg (by simp)]
              have eg : isShA (.tup [dw, dg]) = (wOkA dw && gds.all isGrpA) := by
                show (wOkA dw && isGrpsA dg) = _
                unfold isGrpsA
                rw [hi]
              refine ⟨a, rfl, _, Same.seqT s1 hs, vw, by rfl, _, _, .ty "bool", av_ty (av_mono s1 _ _ hw), _, kit_bool hdw, ?_⟩
              have nw : wOkA dw = false → Q (.bl false) H1 := fun z => no _ s1 (by rw [eg, z, Bool.false_and])
              split
              · rename_i hb
                refine nw ?_
                cases dw <;> first | rfl | cases hb
              · rename_i hb
                refine ⟨a, rfl, _, Same.seqT s1 hs, vw, by rfl, _, _, .ty "int", av_ty (av_mono s1 _ _ hw), _, kit_int hdw, ?_⟩
                split
                · rename_i hint
                  refine nw ?_
                  cases dw <;> first | rfl | (exact absurd rfl hint) | (exfalso; revert hint; simp [isIntT])
                · rename_i hint
                  obtain ⟨n, rfl⟩ : ∃ n, dw = .int n := by
                    cases dw with
                    | int n => exact ⟨n, rfl⟩
                    | bl b => exact absurd rfl hb
                    | _ => exfalso; revert hint; simp [isIntT]
                  cases hw
                  refine ⟨a, rfl, _, Same.seqT s1 hs, _, by rfl, n, rfl, ?_⟩
                  by_cases hn1 : n < 1
                  · rw [if_pos hn1]
                    exact nw (decide_eq_false (by omega))
                  · rw [if_neg hn1]
                    have hwk : wOkA (.int n) = true := decide_eq_true (by omega)
                    obtain ⟨b, gvs, rfl, hgs, hga⟩ := av_items (av_mono s1 _ _ hg) hi
                    obtain ⟨hgn, hgd⟩ := itemsA_ok hi hdg
                    obtain ⟨J, hJ⟩ := hgs.it
                    refine ⟨a, rfl, _, Same.seqT s1 hs, _, by rfl, b, rfl, gvs, J, hJ, fun D nD => ?_⟩
                    refine lg_isnt hJ hga hgd hgn (by show 1 < 2; decide) nD fun H2 ys s2 eD hy => ?_
                    refine ⟨by decide, fun p np => ⟨_, sqL_of (same_upd np _ _ eD), sqL_of upd_same, ?_⟩⟩
                    have := q _ (s1.trans (s2.trans (same_upd (o := .lst []) np)))
                    rw [eg, hwk, Bool.true_and, ← hy] at this
                    exact this
      · rw [if_pos (by simp; omega)]
        refine no _ (Same.refl _) ?_
        match ds, h2 with
        | [], _ => rfl
        | [_], _ => rfl
        | [_, _], h => exact absurd rfl h
        | _ :: _ :: _ :: _, _ => rfl
theorem ok_lright (T : TxtG K mg) : FnOk P w K mg base CX0 4 T.dLawIsRight.f T.dLawIsRight.fd ["_law_value"] (spIs K isWillA) := by
  refine T.dLawIsRight.F.ok scDLawIsRight (fun vs H Q E h => ?_) (fun cdv A outer s H vs Q E hr h => ?_)
  · obtain ⟨v, d, rfl, _⟩ := h
    rfl
  · obtain ⟨v, d, rfl, hv, hd, q⟩ := h
    refine ⟨_, (pss_cons (ps_if (PW.pt (pw_or (pt_not (pt_val (pe_callB call_isiT (by rfl) T.z_isinstance (show bootBuiltins "isinstance" = some (.builtin "isinstance") by decide +kernel) (pa_cons (pv 0) (pa_cons (pe_tup (pa_cons (pe_bltn (v := .ty "list") (u := .type "list") (by rfl) T.z_list (by decide +kernel) rfl) (pa_cons (pe_bltn (v := .ty "tuple") (u := .type "tuple") (by rfl) T.z_tuple (by decide +kernel) rfl) pa_nil))) pa_nil))))) (pw_or1 (pt_cmpR op_eq (pe_callB call_len_seq (by rfl) T.z_len (show bootBuiltins "len" = some (.builtin "len") by decide +kernel) (pa_cons (pv 0) pa_nil)) pe_int (nomark _)))))
      (pss_one (ps_ret pe_bl))
      pss_nil)
      (pss_one (ps_ret (pe_cmpR (op_eqNil hr.units) (pe_lc (own := [("_law_share", 1)]) (g := (gName 1)) rfl scDLawIsRight.nd (pi_seq (pv 0)) (blkOk_by (N := ["_law_value", "_law_share"]) (sc := defScope sDLawIsRight) (by decide +kernel)) (fun _ _ _ _ _ => (pg_name (i := 1) scDLawIsRight.nd rfl (.inl rfl))) (fun _ _ _ _ _ => (pts_one (pt_not (pt_val (pe_call (ok_lshare T) (hr.mono (by decide)) (by rfl) T.dLawIsShare.g T.dLawIsShare.F.kp T.dLawIsShare.b .nil pass0 (pa_cons (pv 1) pa_nil)))))) (fun _ _ _ _ _ => (pv 1))) (pe_lst pa_nil) (nomark _))))), ?_⟩
    simp only [and_assoc, tSeq, tAsg, tOp, tUn, rI, rI0, rU, tVar, tC, gName, L2.start, tIfS, tTest, tB, tCB, tCons, tNil, tIf, tRet, tRetN, tLst, tTup, tNext, tDrop, tNot, tNotV, tAnd, tOr, tAndV, tOrV, tPar, tAug, ipI, rEq, rNe, gSub, rSetL, rIxL, rIxT, tBM, tBM0, rAppend, rPopAt, gTup, gCons, gNil, tCall, tSl, tPart, tNoPart, rSlL, rCat, rEqD, rNeD, rIn, scal, List.map_cons, List.map_nil, List.length_cons, List.length_nil, List.length_map, List.cons_append, List.nil_append, List.append_nil, List.replicate, List.getElem?_cons_zero, List.getElem?_cons_succ, List.set_cons_zero, List.set_cons_succ, Option.some.injEq, exists_eq_left', exists_eq_left, exists_eq_right, exists_and_left, exists_and_right, V.int.injEq, V.ref.injEq, V.str.injEq, V.bl.injEq, reduceCtorEq, false_and, and_false, exists_false, or_false, false_or, true_and, and_true, List.cons.injEq, decide_eq_true_eq, cxOf, if_true, if_false, Bool.false_eq_true, Nat.reduceAdd, Nat.reduceSub, Nat.zero_add, Nat.add_sub_cancel_left, Nat.add_sub_cancel, Nat.sub_self, sFld, tFld, tFor_eq, tLc_eq, iRng1, iRng2, iList, iTup, iEnum, rIsi, rIsiT, iSeq, tM0, tM1, tFmt, tJs, rJoin, rNewStrs, tMake, tNever, tChain, iStr, rEqNil, rNeNil, rLenS, rNotSign, iEnumQ]
    refine ⟨by decide, fun t nt => ⟨_, upd_same, _, _, .cons (.ty "list") (.cons (.ty "tuple") .nil), av_ty (av_mono (same_upd nt) _ _ hv), _, kit_seq hd, ?_⟩⟩
    have s1 := same_upd (o := .tup [V.ty "list", V.ty "tuple"]) nt
    generalize upd H t (.tup [V.ty "list", V.ty "tuple"]) = H1 at s1 ⊢
    cases hi : itemsA d with
    | none =>
      have e2 : isWillA d = false := by unfold isWillA; rw [hi]
      rw [items_noseq hi, if_pos (show (!false) = true from rfl), ← e2]
      exact q _ s1
    | some ds =>
      rw [items_seq hi, if_neg (by simp)]
      have ew : isWillA d = (!ds.isEmpty && ds.all isShA) := by unfold isWillA; rw [hi]
      obtain ⟨a, vs, rfl, hs, ha⟩ := av_items (av_mono s1 _ _ hv) hi
      obtain ⟨hn, hda⟩ := itemsA_ok hi hd
      have hvl := avA_len ha
      refine ⟨a, rfl, vs, hs, ?_⟩
      by_cases h0 : ds = []
      · rw [if_pos (by rw [hvl, h0]; rfl)]
        have := q _ s1
        rw [ew, h0] at this
        exact this
      · have hpos : 0 < ds.length := List.length_pos_iff.mpr h0
        rw [if_neg (by omega)]
        have he : ds.isEmpty = false := by
          cases ds with
          | nil => exact absurd rfl h0
          | cons _ _ => rfl
        obtain ⟨J, hJ⟩ := hs.it
        refine ⟨a, rfl, vs, J, hJ, fun D nD => ?_⟩
        refine lg_isnt hJ ha hda hn (by show 1 < 2; decide) nD fun H2 ys s2 eD hy => ?_
        refine ⟨by decide, fun p np => ⟨_, sqL_of (same_upd np _ _ eD), sqL_of upd_same, ?_⟩⟩
        have := q _ (s1.trans (s2.trans (same_upd (o := .lst []) np)))
        rw [ew, he, ← hy] at this
        exact this

end
end He

namespace He
open PySem PySem.Spec PyProof.Rows L2
section
variable {P : Program} {w : World} {K : PySem.W.Frag} {mg : Str → Option Value} {base : Heap}

/-- list + list, any lists -/
def rCatQ (K : PySem.W.Frag) : R2 := fun x y H Q => ∃ l b xs zs, x = .ref l ∧ y = .ref b ∧ SqL K H l xs ∧ SqL K H b zs ∧ xs.length + zs.length ≤ sizeLine ∧ ∀ p, H p = none → Q (.ref p) (upd H p (.lst (xs ++ zs)))
theorem op_catQ {X : Cx} : OpR X (binaryOp .Add) (rCatQ X.K) := by
  intro pins s σ H x y v u Q I rx ry h
  obtain ⟨l, b, xs, zs, rfl, rfl, hl, hb, hz, q⟩ := h
  cases rx
  cases ry
  obtain ⟨its, r, p1, _⟩ := I.list hl
  obtain ⟨its2, r2, p2, _⟩ := I.list hb
  have h1 := r.length
  have h2 := r2.length
  obtain ⟨⟨c1, d1, t1, sl1⟩, ho, hc, n, hd⟩ := p1.isList
  obtain ⟨⟨c2, d2, t2, sl2⟩, ho2, hc2, n2, hd2⟩ := p2.isList
  replace hc : c1 = .type "list" := hc
  replace hd : t1 = .seq its.toArray n := hd
  replace hc2 : c2 = .type "list" := hc2
  replace hd2 : t2 = .seq its2.toArray n2 := hd2
  subst hc hd hc2 hd2
  refine concat_meets ⟨_, ho, rfl⟩ ⟨_, ho2, rfl⟩ noFill_list_add seq_list_add PySem.F.slot_list_add PySem.F.entry_list_add (PySem.F.args_list_add_2 _ _) (list_addW l b its.toArray its2.toArray n n2 d1 d2 sl1 sl2 (by simp; omega)) ⟨ho, ho2, ?_⟩
  rw [show its.toArray ++ its2.toArray = (its ++ its2).toArray by simp]
  exact ⟨.ref _, _, I.lnew (t' := s.toks) (r.append r2) (by rw [List.length_append]; omega), rfl, q _ I.fresh⟩
/-! ### expressions that build values -/
/-- at every heap from H on, t makes a value that is d, apart from the box at p -/
def Bd (K : PySem.W.Frag) (p : Addr) (t : TE) (σ : L2.St) (H : Hp) (d : AD) : Prop := ∀ H1, Same H H1 → H1 p ≠ none → ∀ Q : VK, (∀ v H', Same H1 H' → Av K (hide p H') v d → Q v H') → t σ H1 Q
def BdA (K : PySem.W.Frag) (p : Addr) (t : TA) (σ : L2.St) (H : Hp) (ds : List AD) : Prop := ∀ H1, Same H H1 → H1 p ≠ none → ∀ Q : List V → Hp → Prop, (∀ vs H', Same H1 H' → AvAll K (hide p H') vs ds → Q vs H') → t σ H1 Q
theorem same_ne {H H' : Hp} {p : Addr} (s : Same H H') (h : H p ≠ none) : H' p ≠ none := by
  cases e : H p with
  | none => exact absurd e h
  | some o => rw [s _ _ e]; exact fun z => nomatch z
theorem new_ne {H : Hp} {p l : Addr} (hp : H p ≠ none) (nl : H l = none) : l ≠ p := fun z => hp (by rw [← z]; exact nl)
section
variable {p : Addr} {σ : L2.St} {H : Hp} {t u : TE} {ta : TA} {d e : AD} {ds es : List AD}
theorem ba_nil : BdA K p tNil σ H [] := fun H1 _ _ Q q => q [] H1 (Same.refl _) .nil
theorem ba_cons (h : Bd K p t σ H d) (r : BdA K p ta σ H ds) : BdA K p (tCons t ta) σ H (d :: ds) := fun H1 s1 hp Q q =>
  h H1 s1 hp _ fun v H2 s2 hv => r H2 (s1.trans s2) (same_ne s2 hp) _ fun vs H3 s3 hvs => q (v :: vs) H3 (s2.trans s3) (.cons (av_mono (hide_same s3) _ _ hv) hvs)
theorem len_ok {n : Nat} (h : n ≤ 1000) : n ≤ sizeLine := Nat.le_trans h (by decide)
theorem bd_tup (h : BdA K p ta σ H ds) (hl : ds.length ≤ 1000) : Bd K p (tTup ta) σ H (.tup ds) := fun H1 s1 hp Q q =>
  h H1 s1 hp _ fun vs H2 s2 hvs => ⟨len_ok (by rw [avA_len hvs]; exact hl), fun l nl => q (.ref l) _ (s2.trans (same_upd nl)) (.tup (sqT_of (by rw [hide_ne (new_ne (same_ne s2 hp) nl), upd_same])) (avA_mono (hide_same (same_upd nl)) _ _ hvs))⟩
theorem bd_lst (h : BdA K p ta σ H ds) (hl : ds.length ≤ 1000) : Bd K p (tLst ta) σ H (.lst ds) := fun H1 s1 hp Q q =>
  h H1 s1 hp _ fun vs H2 s2 hvs => ⟨len_ok (by rw [avA_len hvs]; exact hl), fun l nl => q (.ref l) _ (s2.trans (same_upd nl)) (.lst (sqL_of (by rw [hide_ne (new_ne (same_ne s2 hp) nl), upd_same])) (avA_mono (hide_same (same_upd nl)) _ _ hvs))⟩
theorem bd_str (x : Str) : Bd K p (tC (.str x)) σ H (.str x) := fun H1 _ _ Q q => q _ H1 (Same.refl _) (.str x)
theorem bd_int (i : Int) : Bd K p (tC (.int i)) σ H (.int i) := fun H1 _ _ Q q => q _ H1 (Same.refl _) (.int i)
theorem bd_bl (b : Bool) : Bd K p (tC (.bl b)) σ H (.bl b) := fun H1 _ _ Q q => q _ H1 (Same.refl _) (.bl b)
theorem bd_non : Bd K p (tC .non) σ H .non := fun H1 _ _ Q q => q _ H1 (Same.refl _) .non
theorem bd_var {i : Nat} {v : V} (h : σ[i]? = some (some v)) (hv : Av K (hide p H) v d) : Bd K p (tVar i) σ H d := fun H1 s1 _ Q q => ⟨v, h, q v H1 (Same.refl _) (av_mono (hide_same s1) _ _ hv)⟩
theorem bd_cat (h1 : Bd K p t σ H (.lst ds)) (h2 : Bd K p u σ H (.lst es)) (hl : ds.length + es.length ≤ 1000) : Bd K p (tOp (rCatQ K) t u) σ H (.lst (ds ++ es)) := fun H1 s1 hp Q q =>
  h1 H1 s1 hp _ fun v H2 s2 hv => h2 H2 (s1.trans s2) (same_ne s2 hp) _ fun w H3 s3 hw => by
    have hv3 := av_mono (hide_same s3) _ _ hv
    cases hv3 with
    | @lst a xs _ ha hxs =>
      cases hw with
      | @lst b zs _ hb hzs =>
        have l1 := avA_len hxs
        have l2 := avA_len hzs
        have hp3 := same_ne s3 (same_ne s2 hp)
        exact ⟨a, b, xs, zs, rfl, rfl, hide_le.seq ha, hide_le.seq hb, len_ok (by omega), fun l nl => q _ _ ((s2.trans s3).trans (same_upd nl)) (.lst (sqL_of (by rw [hide_ne (new_ne hp3 nl), upd_same])) (avA_mono (hide_same (same_upd nl)) _ _ (avA_append hxs hzs)))⟩
theorem bd_slice {lo hi : TO} {l h : Option Int} {es : List AD} (hlo : ∀ H2 (R : Option Int → Hp → Prop), R l H2 → lo σ H2 R) (hhi : ∀ H2 (R : Option Int → Hp → Prop), R h H2 → hi σ H2 R) (he : ∀ (vs : List V), vs.length = ds.length → ∀ H2, AvAll K H2 vs ds → AvAll K H2 (cutV vs l h) es)
    (h1 : Bd K p t σ H (.lst ds)) : Bd K p (tSl (rSlL K) t lo hi) σ H (.lst es) := fun H1 s1 hp Q q =>
  h1 H1 s1 hp _ fun v H2 s2 hv => hlo _ _ (hhi _ _ (by
    cases hv with
    | @lst a xs _ ha hxs => exact ⟨a, xs, rfl, hide_le.seq ha, fun l nl => q _ _ (s2.trans (same_upd nl)) (.lst (sqL_of (by rw [hide_ne (new_ne (same_ne s2 hp) nl), upd_same])) (avA_mono (hide_same (same_upd nl)) _ _ (he xs (avA_len hxs) _ hxs)))⟩))
theorem bd_use {Q : VK} (h : Bd K p t σ H d) (hp : H p ≠ none) (q : ∀ v H', Same H H' → Av K (hide p H') v d → Q v H') : t σ H Q := h H (Same.refl _) hp Q q
end
theorem cut_from (xs : List V) (m : Nat) : cutV xs (some (m : Int)) none = xs.drop m := by
  unfold cutV
  rw [HT.sIx_none, HT.sIx_nat]
  rw [List.take_of_length_le (by rw [List.length_drop]; omega)]
  by_cases hm : m ≤ xs.length
  · rw [Nat.min_eq_left hm]
  · rw [Nat.min_eq_right (by omega), List.drop_of_length_le (by omega), List.drop_of_length_le (by omega)]
theorem avA_drop {H : Hp} : ∀ {vs : List V} {ds : List AD}, AvAll K H vs ds → ∀ i, AvAll K H (vs.drop i) (ds.drop i)
  | _, _, .nil, i => by simp; exact .nil
  | _, _, .cons a r, 0 => .cons a r
  | _, _, .cons a r, i + 1 => avA_drop r i

theorem bd_m1 {p : Addr} {σ : L2.St} {H : Hp} : Bd K p (tOp (rI0 fun i j => .int (i - j)) (tC (.int 0)) (tC (.int 1))) σ H (.int (0 - 1)) := fun H1 _ _ Q q => ⟨0, 1, rfl, rfl, q _ H1 (Same.refl _) (.int _)⟩
theorem bd_take1 {p : Addr} {σ : L2.St} {H : Hp} {t : TE} {ds : List AD} (h : Bd K p t σ H (.lst ds)) : Bd K p (tSl (rSlL K) t tNoPart (tPart (tC (.int 1)))) σ H (.lst (ds.take 1)) :=
  bd_slice (l := none) (h := some ((1 : Nat) : Int)) (fun _ _ r => r) (fun _ _ r => ⟨1, rfl, r⟩) (fun vs _ H2 hv => by rw [cut_to]; exact avA_take hv 1) h

def tLast (K : PySem.W.Frag) : TE := tOp (rCatQ K) (tOp (rCatQ K) (tSl (rSlL K) (tVar 1) tNoPart (tPart (tVar 2))) (tLst (tCons (tVar 8) tNil))) (tSl (rSlL K) (tVar 1) (tPart (tOp (rI0 fun i j => .int (i + j)) (tVar 2) (tC (.int 1)))) tNoPart)
theorem bLast {p : Addr} {σ : L2.St} {H : Hp} {n : Nat} {v1 v8 : V} {ws : List AD} {d : AD} (e1 : σ[1]? = some (some v1)) (e2 : σ[2]? = some (some (.int (n : Int)))) (e8 : σ[8]? = some (some v8)) (h1 : Av K (hide p H) v1 (.lst ws)) (h8 : Av K (hide p H) v8 d) (hl : ws.length ≤ 100) : Bd K p (tLast K) σ H (.lst ((ws.take n ++ [d]) ++ ws.drop (n + 1))) := by
  unfold tLast
  have l1 : (ws.take n).length ≤ 100 := by rw [List.length_take]; omega
  have l2 : (ws.drop (n + 1)).length ≤ 100 := by rw [List.length_drop]; omega
  refine bd_cat (bd_cat (bd_slice (l := none) (h := some (n : Int)) (fun _ _ r => r) (fun _ _ r => ⟨_, e2, _, rfl, r⟩) (fun vs _ H2 hv => by rw [cut_to]; exact avA_take hv n) (bd_var e1 h1)) (bd_lst (ba_cons (bd_var e8 h8) ba_nil) (by simp)) (by rw [List.length_singleton]; omega)) (bd_slice (l := some ((n : Int) + 1)) (h := none) (fun _ _ r => ⟨_, e2, _, _, rfl, rfl, _, rfl, r⟩) (fun _ _ r => r) (fun vs _ H2 hv => by rw [show ((n : Int) + 1) = ((n + 1 : Nat) : Int) by omega, cut_from]; exact avA_drop hv (n + 1)) (bd_var e1 h1)) (by rw [List.length_append, List.length_singleton]; omega)
def tS0 (K : PySem.W.Frag) : TE := (tLst (tCons (tTup (tCons (tC (.int 0)) (tCons (tVar 5) tNil))) (tCons (tTup (tCons (tC (.bl true)) (tCons (tVar 5) tNil))) (tCons (tTup (tCons (tOp (rI0 fun i j => .int (i - j)) (tC (.int 0)) (tC (.int 1))) (tCons (tVar 5) tNil))) (tCons (tTup (tCons (tC .non) (tCons (tVar 5) tNil))) (tCons (tTup (tCons (tC (.str "2")) (tCons (tVar 5) tNil))) (tCons (tLst (tCons (tVar 4) (tCons (tVar 5) tNil))) (tCons (tTup (tCons (tVar 4) tNil)) tNil))))))))
def aS0 (dW dG : AD) (dH dS : List AD) : List AD := [(.tup [(.int 0), dG]), (.tup [(.bl true), dG]), (.tup [(.int (0 - 1)), dG]), (.tup [.non, dG]), (.tup [(.str "2"), dG]), (.lst [dW, dG]), (.tup [dW])]
theorem bS0 {p : Addr} {σ : L2.St} {H : Hp} {dW dG : AD} {dH dS : List AD} {v4 v5 v6 v7 : V} (e4 : σ[4]? = some (some v4)) (e5 : σ[5]? = some (some v5)) (e6 : σ[6]? = some (some v6)) (hW : Av K (hide p H) v4 dW) (hG : Av K (hide p H) v5 dG) (hH : Av K (hide p H) v6 (.lst dH)) (l6 : dH.length ≤ 40) (l7 : dS.length ≤ 40)   : Bd K p (tS0 K) σ H (.lst (aS0 dW dG dH dS)) := by
  unfold aS0 tS0
  exact (bd_lst (ba_cons (bd_tup (ba_cons (bd_int _) (ba_cons (bd_var e5 hG) ba_nil)) (by simp)) (ba_cons (bd_tup (ba_cons (bd_bl _) (ba_cons (bd_var e5 hG) ba_nil)) (by simp)) (ba_cons (bd_tup (ba_cons bd_m1 (ba_cons (bd_var e5 hG) ba_nil)) (by simp)) (ba_cons (bd_tup (ba_cons bd_non (ba_cons (bd_var e5 hG) ba_nil)) (by simp)) (ba_cons (bd_tup (ba_cons (bd_str _) (ba_cons (bd_var e5 hG) ba_nil)) (by simp)) (ba_cons (bd_lst (ba_cons (bd_var e4 hW) (ba_cons (bd_var e5 hG) ba_nil)) (by simp)) (ba_cons (bd_tup (ba_cons (bd_var e4 hW) ba_nil) (by simp)) ba_nil))))))) (by simp))
def tS1 (K : PySem.W.Frag) : TE := (tOp (rCatQ K) (tVar 7) (tLst (tCons (tTup (tCons (tVar 4) (tCons (tVar 5) (tCons (tC (.int 1)) tNil)))) (tCons (tTup (tCons (tVar 4) (tCons (tC .non) tNil))) (tCons (tTup (tCons (tVar 4) (tCons (tC (.str "ann")) tNil))) (tCons (tTup (tCons (tVar 4) (tCons (tLst (tCons (tLst tNil) tNil)) tNil))) (tCons (tTup (tCons (tVar 4) (tCons (tLst (tCons (tC (.str "ann")) tNil)) tNil))) tNil)))))))
def aS1 (dW dG : AD) (dH dS : List AD) : List AD := dS ++ [(.tup [dW, dG, (.int 1)]), (.tup [dW, .non]), (.tup [dW, (.str "ann")]), (.tup [dW, (.lst [(.lst [])])]), (.tup [dW, (.lst [(.str "ann")])])]
theorem bS1 {p : Addr} {σ : L2.St} {H : Hp} {dW dG : AD} {dH dS : List AD} {v4 v5 v6 v7 : V} (e4 : σ[4]? = some (some v4)) (e5 : σ[5]? = some (some v5)) (e6 : σ[6]? = some (some v6)) (hW : Av K (hide p H) v4 dW) (hG : Av K (hide p H) v5 dG) (hH : Av K (hide p H) v6 (.lst dH)) (e7 : σ[7]? = some (some v7)) (hS : Av K (hide p H) v7 (.lst dS)) (l6 : dH.length ≤ 40) (l7 : dS.length ≤ 40)   : Bd K p (tS1 K) σ H (.lst (aS1 dW dG dH dS)) := by
  unfold aS1 tS1
  exact (bd_cat (bd_var e7 hS) (bd_lst (ba_cons (bd_tup (ba_cons (bd_var e4 hW) (ba_cons (bd_var e5 hG) (ba_cons (bd_int _) ba_nil))) (by simp)) (ba_cons (bd_tup (ba_cons (bd_var e4 hW) (ba_cons bd_non ba_nil)) (by simp)) (ba_cons (bd_tup (ba_cons (bd_var e4 hW) (ba_cons (bd_str _) ba_nil)) (by simp)) (ba_cons (bd_tup (ba_cons (bd_var e4 hW) (ba_cons (bd_lst (ba_cons (bd_lst ba_nil (by simp)) ba_nil) (by simp)) ba_nil)) (by simp)) (ba_cons (bd_tup (ba_cons (bd_var e4 hW) (ba_cons (bd_lst (ba_cons (bd_str _) ba_nil) (by simp)) ba_nil)) (by simp)) ba_nil))))) (by simp)) (by first | omega | (simp; omega) | simp))
def tS2 (K : PySem.W.Frag) : TE := (tOp (rCatQ K) (tVar 7) (tLst (tCons (tTup (tCons (tVar 4) (tCons (tLst (tCons (tOp (rCatQ K) (tVar 6) (tSl (rSlL K) (tVar 6) tNoPart (tPart (tC (.int 1))))) tNil)) tNil))) (tCons (tTup (tCons (tVar 4) (tCons (tLst (tCons (tOp (rCatQ K) (tVar 6) (tLst (tCons (tC (.str "crown")) tNil))) tNil)) tNil))) (tCons (tTup (tCons (tVar 4) (tCons (tLst (tCons (tOp (rCatQ K) (tVar 6) (tLst (tCons (tC (.str "abcdef")) tNil))) tNil)) tNil))) tNil)))))
def aS2 (dW dG : AD) (dH dS : List AD) : List AD := dS ++ [(.tup [dW, (.lst [(.lst (dH ++ (dH.take 1)))])]), (.tup [dW, (.lst [(.lst (dH ++ [(.str "crown")]))])]), (.tup [dW, (.lst [(.lst (dH ++ [(.str "abcdef")]))])])]
theorem bS2 {p : Addr} {σ : L2.St} {H : Hp} {dW dG : AD} {dH dS : List AD} {v4 v5 v6 v7 : V} (e4 : σ[4]? = some (some v4)) (e5 : σ[5]? = some (some v5)) (e6 : σ[6]? = some (some v6)) (hW : Av K (hide p H) v4 dW) (hG : Av K (hide p H) v5 dG) (hH : Av K (hide p H) v6 (.lst dH)) (e7 : σ[7]? = some (some v7)) (hS : Av K (hide p H) v7 (.lst dS)) (l6 : dH.length ≤ 40) (l7 : dS.length ≤ 40)   : Bd K p (tS2 K) σ H (.lst (aS2 dW dG dH dS)) := by
  unfold aS2 tS2
  exact (bd_cat (bd_var e7 hS) (bd_lst (ba_cons (bd_tup (ba_cons (bd_var e4 hW) (ba_cons (bd_lst (ba_cons (bd_cat (bd_var e6 hH) (bd_take1 (bd_var e6 hH)) (by first | omega | (simp; omega) | simp)) ba_nil) (by simp)) ba_nil)) (by simp)) (ba_cons (bd_tup (ba_cons (bd_var e4 hW) (ba_cons (bd_lst (ba_cons (bd_cat (bd_var e6 hH) (bd_lst (ba_cons (bd_str _) ba_nil) (by simp)) (by first | omega | (simp; omega) | simp)) ba_nil) (by simp)) ba_nil)) (by simp)) (ba_cons (bd_tup (ba_cons (bd_var e4 hW) (ba_cons (bd_lst (ba_cons (bd_cat (bd_var e6 hH) (bd_lst (ba_cons (bd_str _) ba_nil) (by simp)) (by first | omega | (simp; omega) | simp)) ba_nil) (by simp)) ba_nil)) (by simp)) ba_nil))) (by simp)) (by first | omega | (simp; omega) | simp))
def tS3 (K : PySem.W.Frag) : TE := (tOp (rCatQ K) (tVar 7) (tLst (tCons (tTup (tCons (tVar 4) (tCons (tLst (tCons (tOp (rCatQ K) (tVar 6) (tLst (tCons (tC (.str "a\n")) tNil))) tNil)) tNil))) (tCons (tTup (tCons (tVar 4) (tCons (tLst (tCons (tOp (rCatQ K) (tVar 6) (tLst (tCons (tC (.str "")) tNil))) tNil)) tNil))) (tCons (tC .non) tNil)))))
def aS3 (dW dG : AD) (dH dS : List AD) : List AD := dS ++ [(.tup [dW, (.lst [(.lst (dH ++ [(.str "a\n")]))])]), (.tup [dW, (.lst [(.lst (dH ++ [(.str "")]))])]), .non]
theorem bS3 {p : Addr} {σ : L2.St} {H : Hp} {dW dG : AD} {dH dS : List AD} {v4 v5 v6 v7 : V} (e4 : σ[4]? = some (some v4)) (e5 : σ[5]? = some (some v5)) (e6 : σ[6]? = some (some v6)) (hW : Av K (hide p H) v4 dW) (hG : Av K (hide p H) v5 dG) (hH : Av K (hide p H) v6 (.lst dH)) (e7 : σ[7]? = some (some v7)) (hS : Av K (hide p H) v7 (.lst dS)) (l6 : dH.length ≤ 40) (l7 : dS.length ≤ 40)   : Bd K p (tS3 K) σ H (.lst (aS3 dW dG dH dS)) := by
  unfold aS3 tS3
  exact (bd_cat (bd_var e7 hS) (bd_lst (ba_cons (bd_tup (ba_cons (bd_var e4 hW) (ba_cons (bd_lst (ba_cons (bd_cat (bd_var e6 hH) (bd_lst (ba_cons (bd_str _) ba_nil) (by simp)) (by first | omega | (simp; omega) | simp)) ba_nil) (by simp)) ba_nil)) (by simp)) (ba_cons (bd_tup (ba_cons (bd_var e4 hW) (ba_cons (bd_lst (ba_cons (bd_cat (bd_var e6 hH) (bd_lst (ba_cons (bd_str _) ba_nil) (by simp)) (by first | omega | (simp; omega) | simp)) ba_nil) (by simp)) ba_nil)) (by simp)) (ba_cons bd_non ba_nil))) (by simp)) (by first | omega | (simp; omega) | simp))

theorem dp_sh {H : Hp} {x : V} {s : Sh} (h : Dp K H x (dSh s)) : ∃ b c us, x = .ref b ∧ SqT K H b [.int s.1, .ref c] ∧ SqL K H c us ∧ DpAll K H us (s.2.map dGrp) := by
  cases h with
  | @tup b zs _ hb hzs =>
    cases hzs with
    | cons a1 r1 =>
      cases r1 with
      | cons a2 r2 =>
        cases r2
        cases a1
        cases a2 with
        | @lst c us _ hc hus => exact ⟨b, c, us, rfl, hb, hc, hus⟩
/-! ### values that are not too large -/
mutual
def Sm : AD → Prop
  | .lst ds => ds.length ≤ 45 ∧ SmS ds
  | .tup ds => ds.length ≤ 45 ∧ SmS ds
  | .str x => x.length ≤ 100
  | .ins _ => False
  | _ => True
def SmS : List AD → Prop
  | [] => True
  | d :: ds => Sm d ∧ SmS ds
end
theorem smS_of : ∀ {ds : List AD}, (∀ d ∈ ds, Sm d) → SmS ds
  | [], _ => trivial
  | d :: ds, h => ⟨h d List.mem_cons_self, smS_of fun e he => h e (List.mem_cons_of_mem _ he)⟩
theorem smS_get : ∀ {ds : List AD}, SmS ds → ∀ d ∈ ds, Sm d
  | _ :: _, h, d, hd => by
    rcases List.mem_cons.mp hd with rfl | hd
    · exact h.1
    · exact smS_get h.2 d hd
theorem smS_app {ds es : List AD} (h : SmS ds) (h2 : SmS es) : SmS (ds ++ es) := smS_of fun d hd => by
  rcases List.mem_append.mp hd with h' | h'
  · exact smS_get h d h'
  · exact smS_get h2 d h'
mutual
theorem sm_ok : ∀ d : AD, Sm d → AdOk K d
  | .lst ds, h => ⟨by have := h.1; omega, smS_ok ds h.2⟩
  | .tup ds, h => ⟨by have := h.1; omega, smS_ok ds h.2⟩
  | .str x, h => Nat.le_trans h (by decide)
  | .ins _, h => h.elim
  | .non, _ => trivial
  | .bl _, _ => trivial
  | .int _, _ => trivial
theorem smS_ok : ∀ ds : List AD, SmS ds → AdOkA K ds
  | [], _ => trivial
  | d :: ds, h => ⟨sm_ok d h.1, smS_ok ds h.2⟩
end
theorem leaf_sm : ∀ d ∈ leafA, Sm d := by
  intro d hd
  simp only [leafA, List.mem_cons, List.not_mem_nil, or_false] at hd
  rcases hd with rfl | rfl | rfl | rfl | rfl | rfl | rfl | rfl | rfl | rfl | rfl | rfl | rfl | rfl | rfl | rfl | rfl <;> first | trivial | (show Str.length _ ≤ 100; decide +kernel)
theorem any_sm {d : AD} (h : AnyD d) : Sm d := by
  induction h with
  | leaf h => exact leaf_sm _ h
  | lst hl _ ih => exact ⟨by omega, smS_of ih⟩
  | tup hl _ ih => exact ⟨by omega, smS_of ih⟩
theorem sm_names {n : List Str} (h : ∀ x ∈ n, nameB x = true) : SmS (n.map AD.str) := smS_of fun d hd => by
  obtain ⟨x, hx, rfl⟩ := List.mem_map.mp hd
  exact Nat.le_trans (name_len (h x hx)) (by decide)
theorem sm_groups {gs : List (List Str)} (h : ∀ g ∈ gs, GrpOk g ∧ g.length ≤ 40) : SmS (gs.map fun n => .lst (n.map AD.str)) := smS_of fun d hd => by
  obtain ⟨g, hg, rfl⟩ := List.mem_map.mp hd
  exact ⟨by rw [List.length_map]; have := (h g hg).2; omega, sm_names (h g hg).1.nm⟩
theorem sm_share {s : Sh} (h : ShOk s) (hl : s.2.length ≤ 40) (hg : ∀ g ∈ s.2, g.length ≤ 40) : Sm (adSh s) :=
  ⟨by show 2 ≤ 45; decide, trivial, ⟨by rw [List.length_map]; omega, sm_groups fun g hgm => ⟨h.gs g hgm, hg g hgm⟩⟩, trivial⟩
abbrev GoodD (d : AD) : Prop := Sm d
theorem sm_some {dW dG : AD} {dH : List AD} (hW : Sm dW) (hG : Sm dG) (hH : SmS dH) (hl : dH.length ≤ 40) : SmS (aS3 dW dG dH (aS2 dW dG dH (aS1 dW dG dH (aS0 dW dG dH [])))) := by
  have hcat : ∀ x : Str, x.length ≤ 100 → Sm (.lst (dH ++ [.str x])) := fun x hx => ⟨by rw [List.length_append, List.length_singleton]; omega, smS_app hH ⟨hx, trivial⟩⟩
  have htk : Sm (.lst (dH ++ dH.take 1)) := ⟨by rw [List.length_append, List.length_take]; omega, smS_app hH (smS_of fun d hd => smS_get hH d (List.mem_of_mem_take hd))⟩
  have st : ∀ x : Str, x.length ≤ 100 → Sm (.str x) := fun x hx => hx
  unfold aS3 aS2 aS1 aS0
  refine smS_app (smS_app (smS_app ?_ ?_) ?_) ?_
  · exact ⟨⟨Nat.le_of_ble_eq_true rfl, trivial, hG, trivial⟩, ⟨Nat.le_of_ble_eq_true rfl, trivial, hG, trivial⟩, ⟨Nat.le_of_ble_eq_true rfl, trivial, hG, trivial⟩, ⟨Nat.le_of_ble_eq_true rfl, trivial, hG, trivial⟩, ⟨Nat.le_of_ble_eq_true rfl, st _ (by decide +kernel), hG, trivial⟩, ⟨Nat.le_of_ble_eq_true rfl, hW, hG, trivial⟩, ⟨Nat.le_of_ble_eq_true rfl, hW, trivial⟩, trivial⟩
  · exact ⟨⟨Nat.le_of_ble_eq_true rfl, hW, hG, trivial, trivial⟩, ⟨Nat.le_of_ble_eq_true rfl, hW, trivial, trivial⟩, ⟨Nat.le_of_ble_eq_true rfl, hW, st _ (by decide +kernel), trivial⟩, ⟨Nat.le_of_ble_eq_true rfl, hW, ⟨Nat.le_of_ble_eq_true rfl, ⟨Nat.le_of_ble_eq_true rfl, trivial⟩, trivial⟩, trivial⟩, ⟨Nat.le_of_ble_eq_true rfl, hW, ⟨Nat.le_of_ble_eq_true rfl, st _ (by decide +kernel), trivial⟩, trivial⟩, trivial⟩
  · exact ⟨⟨Nat.le_of_ble_eq_true rfl, hW, ⟨Nat.le_of_ble_eq_true rfl, htk, trivial⟩, trivial⟩, ⟨Nat.le_of_ble_eq_true rfl, hW, ⟨Nat.le_of_ble_eq_true rfl, hcat _ (by decide +kernel), trivial⟩, trivial⟩, ⟨Nat.le_of_ble_eq_true rfl, hW, ⟨Nat.le_of_ble_eq_true rfl, hcat _ (by decide +kernel), trivial⟩, trivial⟩, trivial⟩
  · exact ⟨⟨Nat.le_of_ble_eq_true rfl, hW, ⟨Nat.le_of_ble_eq_true rfl, hcat _ (by decide +kernel), trivial⟩, trivial⟩, ⟨Nat.le_of_ble_eq_true rfl, hW, ⟨Nat.le_of_ble_eq_true rfl, hcat _ (by decide +kernel), trivial⟩, trivial⟩, trivial, trivial⟩
def spBent (K : PySem.W.Frag) : Sp := fun vs H Q _ => ∃ (p a : Addr) (xs : List V) (shs : List Sh), vs = [.ref p, .ref a] ∧ Box H p ∧ SqL K (hide p H) a xs ∧ DpAll K (hide p H) xs (shs.map dSh) ∧ WOk shs ∧
  ∀ v ds H', Bx p H H' → Av K (hide p H') v (.lst ds) → GoodD (.lst ds) → Q v H'
theorem ok_bent (T : TxtG K mg) : FnOk P w K mg base CX0 12 T.dLawBent.f T.dLawBent.fd ["_law_box", "_law_will_here"] (spBent K) := by
  refine T.dLawBent.F.ok scDLawBent (fun vs H Q E h => ?_) (fun cdv A outer s H vs Q E hr h => ?_)
  · obtain ⟨p, a, xs, shs, rfl, _⟩ := h
    rfl
  · obtain ⟨p, a, xs, shs, rfl, hb, hs, ha, hw, q⟩ := h
    refine ⟨_, (pss_cons (ps_par (i := 2) (j := 3) (by rfl) scDLawBent.nd rfl rfl (by decide) rfl rfl (pa_cons (pe_call (ok_choose T) (hr.mono (by decide)) (by rfl) T.dLawChoose.g T.dLawChoose.F.kp T.dLawChoose.b .nil pass0 (pa_cons (pv 0) (pa_cons (pe_callB call_lenL (by rfl) T.z_len (show bootBuiltins "len" = some (.builtin "len") by decide +kernel) (pa_cons (pv 1) pa_nil)) pa_nil))) (pa_cons (pe_call (ok_choose T) (hr.mono (by decide)) (by rfl) T.dLawChoose.g T.dLawChoose.F.kp T.dLawChoose.b .nil pass0 (pa_cons (pv 0) (pa_cons pe_int pa_nil))) pa_nil)) (by rfl))
      (pss_cons (ps_asg (pe_ix ix_list (pv 1) (pv 2) (fun _ _ => rfl)) (pg_tup (n := 2) rfl (pgs_cons (pg_name (i := 4) scDLawBent.nd rfl (.inl rfl)) (pgs_cons (pg_name (i := 5) scDLawBent.nd rfl (.inl rfl)) pgs_nil))))
      (pss_cons (ps_set (i := 6) scDLawBent.nd rfl (.inl rfl) (pe_ifExp (pt_cmpR (op_neNil hr.units) (pv 5) (pe_lst pa_nil) (nomark _)) (pe_ix ix_list (pv 5) pe_int (fun _ _ => rfl)) (pe_lst (pa_cons pe_str pa_nil))))
      (pss_cons (ps_set (i := 7) scDLawBent.nd rfl (.inl rfl) (show PE _ _ (tS0 K) from (pe_lst (pa_cons (pe_tup (pa_cons pe_int (pa_cons (pv 5) pa_nil))) (pa_cons (pe_tup (pa_cons pe_bl (pa_cons (pv 5) pa_nil))) (pa_cons (pe_tup (pa_cons (pe_op op_sub pe_int pe_int) (pa_cons (pv 5) pa_nil))) (pa_cons (pe_tup (pa_cons pe_non (pa_cons (pv 5) pa_nil))) (pa_cons (pe_tup (pa_cons pe_str (pa_cons (pv 5) pa_nil))) (pa_cons (pe_lst (pa_cons (pv 4) (pa_cons (pv 5) pa_nil))) (pa_cons (pe_tup (pa_cons (pv 4) pa_nil)) pa_nil))))))))))
      (pss_cons (ps_set (i := 7) scDLawBent.nd rfl (.inl rfl) (show PE _ _ (tS1 K) from (pe_op op_catQ (pv 7) (pe_lst (pa_cons (pe_tup (pa_cons (pv 4) (pa_cons (pv 5) (pa_cons pe_int pa_nil)))) (pa_cons (pe_tup (pa_cons (pv 4) (pa_cons pe_non pa_nil))) (pa_cons (pe_tup (pa_cons (pv 4) (pa_cons pe_str pa_nil))) (pa_cons (pe_tup (pa_cons (pv 4) (pa_cons (pe_lst (pa_cons (pe_lst pa_nil) pa_nil)) pa_nil))) (pa_cons (pe_tup (pa_cons (pv 4) (pa_cons (pe_lst (pa_cons pe_str pa_nil)) pa_nil))) pa_nil)))))))))
      (pss_cons (ps_set (i := 7) scDLawBent.nd rfl (.inl rfl) (show PE _ _ (tS2 K) from (pe_op op_catQ (pv 7) (pe_lst (pa_cons (pe_tup (pa_cons (pv 4) (pa_cons (pe_lst (pa_cons (pe_op op_catQ (pv 6) (pe_slice sl_list (pv 6) po_none (po_some pe_int))) pa_nil)) pa_nil))) (pa_cons (pe_tup (pa_cons (pv 4) (pa_cons (pe_lst (pa_cons (pe_op op_catQ (pv 6) (pe_lst (pa_cons pe_str pa_nil))) pa_nil)) pa_nil))) (pa_cons (pe_tup (pa_cons (pv 4) (pa_cons (pe_lst (pa_cons (pe_op op_catQ (pv 6) (pe_lst (pa_cons pe_str pa_nil))) pa_nil)) pa_nil))) pa_nil)))))))
      (pss_cons (ps_set (i := 7) scDLawBent.nd rfl (.inl rfl) (show PE _ _ (tS3 K) from (pe_op op_catQ (pv 7) (pe_lst (pa_cons (pe_tup (pa_cons (pv 4) (pa_cons (pe_lst (pa_cons (pe_op op_catQ (pv 6) (pe_lst (pa_cons pe_str pa_nil))) pa_nil)) pa_nil))) (pa_cons (pe_tup (pa_cons (pv 4) (pa_cons (pe_lst (pa_cons (pe_op op_catQ (pv 6) (pe_lst (pa_cons pe_str pa_nil))) pa_nil)) pa_nil))) (pa_cons pe_non pa_nil)))))))
      (pss_cons (ps_set (i := 8) scDLawBent.nd rfl (.inl rfl) (pe_ifExp (pt_cmpR op_lt (pv 3) pe_int (nomark _)) (pe_call (ok_oneof T) (hr.mono (by decide)) (by rfl) T.dLawOneOf.g T.dLawOneOf.F.kp T.dLawOneOf.b .nil pass0 (pa_cons (pv 0) (pa_cons (pv 7) pa_nil))) (pe_call (ok_any T 7) (hr.mono (by decide)) (by rfl) T.dLawAny.g T.dLawAny.F.kp T.dLawAny.b .nil pass0 (pa_cons (pv 0) (pa_cons pe_int pa_nil)))))
      (pss_one (ps_ret (show PE _ _ (tLast K) from (pe_op op_catQ (pe_op op_catQ (pe_slice sl_list (pv 1) po_none (po_some (pv 2))) (pe_lst (pa_cons (pv 8) pa_nil))) (pe_slice sl_list (pv 1) (po_some (pe_op op_add (pv 2) pe_int)) po_none))))))))))))), ?_⟩
    have big : 16777216 ≤ sizeLine := by decide
    have hwl := hw.l
    have hxl : xs.length = shs.length := by rw [dpA_len ha, List.length_map]
    have hne : shs ≠ [] := hw.ne
    have hpos : 0 < xs.length := by rw [hxl]; exact List.length_pos_iff.mpr hne
    simp only [and_assoc, tSeq, tAsg, tOp, tUn, rI, rI0, rU, tVar, tC, gName, L2.start, tIfS, tTest, tB, tCB, tCons, tNil, tIf, tRet, tRetN, tLst, tTup, tNext, tDrop, tNot, tNotV, tAnd, tOr, tAndV, tOrV, tPar, tAug, ipI, rEq, rNe, gSub, rSetL, rIxL, rIxT, tBM, tBM0, rAppend, rPopAt, gTup, gCons, gNil, tCall, tSl, tPart, tNoPart, rSlL, rCat, rEqD, rNeD, rIn, scal, List.map_cons, List.map_nil, List.length_cons, List.length_nil, List.length_map, List.cons_append, List.nil_append, List.append_nil, List.replicate, List.getElem?_cons_zero, List.getElem?_cons_succ, List.set_cons_zero, List.set_cons_succ, Option.some.injEq, exists_eq_left', exists_eq_left, exists_eq_right, exists_and_left, exists_and_right, V.int.injEq, V.ref.injEq, V.str.injEq, V.bl.injEq, reduceCtorEq, false_and, and_false, exists_false, or_false, false_or, true_and, and_true, List.cons.injEq, decide_eq_true_eq, cxOf, if_true, if_false, Bool.false_eq_true, Nat.reduceAdd, Nat.reduceSub, Nat.zero_add, Nat.add_sub_cancel_left, Nat.add_sub_cancel, Nat.sub_self, sFld, tFld, tFor_eq, tLc_eq, iRng1, iRng2, iList, iTup, iEnum, rIsi, rIsiT, iSeq, tM0, tM1, tFmt, tJs, rJoin, rNewStrs, tMake, tNever, tChain, iStr, rEqNil, rNeNil, rLenS, rNotSign, iEnumQ, rCatQ, spChoose, rLenL]
    refine ⟨xs, hide_le.seq hs, hb, by omega, by omega, fun r H1 B1 r0 r1 => ⟨B1.1, by decide, by decide, fun f H2 B2 f0 f1 => ?_⟩⟩
    obtain ⟨n, rfl⟩ : ∃ n : Nat, r = (n : Int) := ⟨r.toNat, by omega⟩
    have B12 := B1.trans B2
    have hn : n < xs.length := by omega
    have ex : xs[n]? = some (xs[n]) := List.getElem?_eq_getElem hn
    obtain ⟨d, ed, hx2⟩ := dpA_get (dpA_mono B12.2 _ _ ha) ex
    rw [List.getElem?_map] at ed
    obtain ⟨g, eg, rfl⟩ := Option.map_eq_some_iff.mp ed
    have hgm := List.mem_of_getElem? eg
    obtain ⟨ho, hgl, hgg⟩ := hw.ok g hgm
    obtain ⟨b, c, us, exn, hb2, hc, hus⟩ := dp_sh hx2
    have hul : us.length = g.2.length := by rw [dpA_len hus, List.length_map]
    rw [exn] at ex
    refine ⟨xs, hide_le.seq (B12.2.seq hs), .ref b, ?_, b, rfl, _, Same.seqT hide_le hb2, rfl, _, _, rfl, _, _, rfl, rfl, by decide, fun e0 n0 => ⟨c, rfl, us, (same_upd n0).seq (hide_le.seq hc), sqL_of upd_same, ?_⟩⟩
    · unfold atI ixN
      rw [if_pos (by omega), if_pos (by omega)]
      exact ex
    have s3 := same_upd (o := .lst []) n0
    have B3 : Bx p H (upd H2 e0 (.lst [])) := B12.trans (.of B12.1 s3)
    have hG2 : Av K (hide p H2) (.ref c) (.lst (g.2.map fun n => .lst (n.map AD.str))) := .lst hc (by
      have := avA_of _ _ hus
      rw [adA_map, List.map_map] at this
      have e : (ad ∘ dGrp) = fun n : List Str => AD.lst (n.map AD.str) := by
        funext n
        exact ad_grp n
      rw [e] at this
      exact this)
    generalize upd H2 e0 (.lst []) = H3 at s3 B3 ⊢
    have hG3 := av_mono (hide_same s3) _ _ hG2
    have hpn : ∀ {H' : Hp}, Box H' p → H' p ≠ none := fun h => Bx.ne0 h
    obtain ⟨adX, hadX⟩ : ∃ adX : List AD, adX = shs.map adSh := ⟨_, rfl⟩
    have hX3 : Av K (hide p H3) (.ref a) (.lst adX) := .lst (B3.2.seq hs) (by
      have := avA_of _ _ (dpA_mono B3.2 _ _ ha)
      rw [adA_shs] at this
      rw [hadX]; exact this)
    have hXl : adX.length = shs.length := by rw [hadX, List.length_map]
    have smX : SmS adX := by
      rw [hadX]
      exact smS_of fun d hd => by
        obtain ⟨s0, hs0, rfl⟩ := List.mem_map.mp hd
        obtain ⟨w1, w2, w3⟩ := hw.ok s0 hs0
        exact sm_share w1 w2 w3
    -- with the group at hand
    have go : ∀ (vH : V) (dH : List AD) (H4 : Hp), Same H3 H4 → Av K (hide p H4) vH (.lst dH) → dH.length ≤ 40 → (dH = [.str "ann"] ∨ ∃ n ∈ g.2, dH = n.map AD.str) →
        tS0 K [some (V.ref p), some (V.ref a), some (V.int ↑n), some (V.int f), some (V.int g.fst), some (V.ref c), some vH, none, none] H4 fun x H1 =>
          tS1 K [some (V.ref p), some (V.ref a), some (V.int ↑n), some (V.int f), some (V.int g.fst), some (V.ref c), some vH, some x, none] H1 fun x H1 =>
            tS2 K [some (V.ref p), some (V.ref a), some (V.int ↑n), some (V.int f), some (V.int g.fst), some (V.ref c), some vH, some x, none] H1 fun x H1 =>
              tS3 K [some (V.ref p), some (V.ref a), some (V.int ↑n), some (V.int f), some (V.int g.fst), some (V.ref c), some vH, some x, none] H1 fun x H1 =>
                if f < 5 then spOneOf K [V.ref p, x] H1 (fun x_2 H1 => tLast K [some (V.ref p), some (V.ref a), some (V.int ↑n), some (V.int f), some (V.int g.fst), some (V.ref c), some vH, some x, some x_2] H1 Q) E0
                else spAny K 7 [V.ref p, V.int 6] H1 (fun x_2 H1 => tLast K [some (V.ref p), some (V.ref a), some (V.int ↑n), some (V.int f), some (V.int g.fst), some (V.ref c), some vH, some x, some x_2] H1 Q) E0 := by
      intro vH dH H4 s4 hvH hdl hdH
      have b4 : Box H4 p := B3.1.same s4
      have hW : ∀ {H' : Hp}, Av K (hide p H') (.int g.fst) (.int g.1) := .int _
      have hG4 := av_mono (hide_same s4) _ _ hG3
      refine bd_use (bS0 (v7 := .non) (dS := []) rfl rfl rfl hW hG4 hvH hdl (by simp)) (hpn b4) fun v1 H5 s5 hv1 => ?_
      have l1 : (aS0 (.int g.1) (.lst (g.2.map fun n => .lst (n.map AD.str))) dH []).length = 7 := rfl
      refine bd_use (bS1 rfl rfl rfl hW (av_mono (hide_same s5) _ _ hG4) (av_mono (hide_same s5) _ _ hvH) rfl hv1 hdl (by omega)) (hpn (b4.same s5)) fun v2 H6 s6 hv2 => ?_
      have s46 := s5.trans s6
      refine bd_use (bS2 rfl rfl rfl hW (av_mono (hide_same s46) _ _ hG4) (av_mono (hide_same s46) _ _ hvH) rfl hv2 hdl (by unfold aS1; rw [List.length_append, l1]; exact Nat.le_of_ble_eq_true rfl)) (hpn (b4.same s46)) fun v3 H7 s7 hv3 => ?_
      have s47 := s46.trans s7
      refine bd_use (bS3 rfl rfl rfl hW (av_mono (hide_same s47) _ _ hG4) (av_mono (hide_same s47) _ _ hvH) rfl hv3 hdl (by unfold aS2 aS1; rw [List.length_append, List.length_append, l1]; exact Nat.le_of_ble_eq_true rfl)) (hpn (b4.same s47)) fun v4 H8 s8 hv4 => ?_
      have s48 := s47.trans s8
      have b8 := b4.same s48
      have B8 : Bx p H H8 := (B3.trans (.of B3.1 s4)).trans (.of b4 s48)
      have fin : ∀ (v : V) (d : AD) (H9 : Hp), Bx p H8 H9 → Av K (hide p H9) v d → GoodD d → tLast K [some (V.ref p), some (V.ref a), some (V.int ↑n), some (V.int f), some (V.int g.fst), some (V.ref c), some vH, some v4, some v] H9 Q := fun v d H9 B9 hv hgd => by
        have hX9 := av_mono B9.2 _ _ (av_mono (hide_same (s4.trans s48)) _ _ hX3)
        refine bd_use (bLast (n := n) rfl rfl rfl hX9 hv (by omega)) (hpn B9.1) fun w H10 s10 hw10 => ?_
        refine q w _ _ ((B8.trans B9).trans (.of B9.1 s10)) hw10 ⟨?_, smS_app (smS_app ?_ ⟨hgd, trivial⟩) ?_⟩
        · rw [List.length_append, List.length_append, List.length_take, List.length_drop, List.length_singleton]
          omega
        · exact smS_of fun d hd => smS_get smX d (List.mem_of_mem_take hd)
        · exact smS_of fun d hd => smS_get smX d (List.mem_of_mem_drop hd)
      split
      · cases hv4 with
        | @lst a4 xs4 _ ha4 hxs4 =>
          have hl4 := avA_len hxs4
          simp only [spOneOf]
          have hlen4 : (aS3 (.int g.1) (.lst (g.2.map fun n => .lst (n.map AD.str))) dH (aS2 (.int g.1) (.lst (g.2.map fun n => .lst (n.map AD.str))) dH (aS1 (.int g.1) (.lst (g.2.map fun n => .lst (n.map AD.str))) dH (aS0 (.int g.1) (.lst (g.2.map fun n => .lst (n.map AD.str))) dH [])))).length = 18 := by
            unfold aS3 aS2 aS1
            rw [List.length_append, List.length_append, List.length_append, l1]
            rfl
          refine ⟨p, a4, xs4, rfl, b8, ha4, by omega, by omega, fun i v H9 B9 hv => ?_⟩
          obtain ⟨d, ed, hd⟩ := avA_get (avA_mono B9.2 _ _ hxs4) hv
          refine fin v d H9 B9 hd ?_
          refine smS_get ?_ d (List.mem_of_getElem? ed)
          have gG : Sm (.lst (g.2.map fun n => AD.lst (n.map AD.str))) := ⟨by rw [List.length_map]; omega, sm_groups fun g' hg' => ⟨ho.gs g' hg', hgg g' hg'⟩⟩
          have smH : SmS dH := by
            rcases hdH with rfl | ⟨n', hn', rfl⟩
            · exact ⟨by show Str.length _ ≤ 100; decide +kernel, trivial⟩
            · exact sm_names (ho.gs n' hn').nm
          exact sm_some trivial gG smH hdl
      · simp only [spAny]
        exact ⟨p, rfl, b8, fun v d H9 B9 hd hv => fin v d H9 B9 (av_mono (fun b o e => by
          obtain ⟨e1, e2⟩ := news_get e
          rw [hide_ne (new_ne (hpn b8) e1)]
          exact e2) _ _ hv) (any_sm hd)⟩
    cases us with
    | nil =>
      rw [if_neg (by simp)]
      refine ⟨by decide, fun l nl => go (.ref l) [.str "ann"] _ (same_upd nl) ?_ (by simp) (.inl rfl)⟩
      have lp : l ≠ p := new_ne (hpn B3.1) nl
      exact .lst (sqL_of (by rw [hide_ne lp, upd_same])) (.cons (.str _) .nil)
    | cons u0 ur =>
      rw [if_pos (show (!(u0 :: ur).isEmpty) = true from rfl)]
      refine ⟨c, rfl, _, s3.seq (hide_le.seq hc), u0, ?_, ?_⟩
      · show atI (u0 :: ur) 0 = _
        unfold atI ixN
        rw [if_pos (by omega), if_pos (by simp)]
        exact rfl
      · cases hg2 : g.2 with
        | nil => rw [hg2] at hul; simp at hul
        | cons g0 gr =>
          obtain ⟨d0, ed0, hd0⟩ := dpA_get hus (show (u0 :: ur)[0]? = some u0 from rfl)
          rw [hg2] at ed0
          have e0' : d0 = dGrp g0 := (Option.some.inj ed0).symm
          subst e0'
          have hv0 := av_of _ _ (dp_mono (hide_same s3) _ _ hd0)
          rw [ad_grp] at hv0
          exact go u0 (g0.map AD.str) H3 (Same.refl _) hv0 (by rw [List.length_map]; exact hgg g0 (by rw [hg2]; exact List.mem_cons_self)) (.inr ⟨g0, by rw [hg2]; exact List.mem_cons_self, rfl⟩)

end
end He

namespace He
open PySem PySem.Spec PyProof.Rows L2
section
variable {P : Program} {w : World} {K : PySem.W.Frag} {mg : Str → Option Value} {base : Heap}

/-- isinstance(e, c), e the caught exception with its dict -/
def rIsEd (K : PySem.W.Frag) (D a : Addr) (cls : Value) (d : Option Addr) : List V → Hp → VK → Prop := fun xs H Q => ∃ (c : V) (cv : Value) (b : Bool) (dd : Addr) (fs : List (Str × V)), xs = [.ref a, c] ∧ cls = .ref D ∧ d = some dd ∧ H dd = some (.xd fs) ∧ (∀ u, RelV c u → u = cv) ∧ PySem.W.kitOne K (.ref D) cv = some b ∧ Q (.bl b) H
theorem call_isEd {X : Cx} {a D : Addr} {oe : Obj} {cls : Value} {d : Option Addr} {pn : List (Addr × Obj)} (C : ExcC X.K D) (hz : Zc cls d oe) (hf : ∃ vs, oe.data = .fields vs) : CallR (X.suite a ((a, oe) :: pn)) (.builtin "isinstance") (rIsEd X.K D a cls d) := by
  intro pins s σ H xs us Q I r h
  obtain ⟨c, cv, b, dd, fs, rfl, rfl, rfl, ed, hcv, e, q⟩ := h
  cases r with
  | cons rx rr =>
    cases rr with
    | cons rt rr =>
      cases rr
      cases rx
      have ec := hcv _ rt
      subst ec
      obtain ⟨hget, _⟩ := I.pin (a, oe) (List.mem_append.mpr (.inl List.mem_cons_self))
      obtain ⟨vs, hv⟩ := hf
      have hx : ObjOk X.prog X.w H s.heap dd (.xd fs) := I.hok dd _ ed
      obtain ⟨mA, hns, hr⟩ := hx
      obtain ⟨od, ho, hl⟩ := lookIn_ns hns
      have J : PySem.W.InstAt s.heap a oe D (some od) := ⟨hget, hz.1, by unfold PySem.W.notCls; rw [hv] <;> rfl, by rw [hz.2]; exact ho⟩
      have hcl : (PySem.W.clsIn X.K D).isSome = true := by
        have := C.hd
        unfold PySem.W.hasDictIn at this
        cases hc : PySem.W.clsIn X.K D with
        | none => rw [hc] at this; cases this
        | some cd => rfl
      exact PySem.W.kia_one (PySem.W.kitx_exc hcl C.hg C.hk C.hs C.ha C.hn C.ht C.hm) I.kIn J e (fun z => nomatch z) fun tk => ⟨.bl b, H, I.kept (t' := tk) fun _ _ z => z, rfl, q⟩

/-- C(e, ..) within a try -/
def tMakeS (C : Addr) (sp : Sp) (E : L2.St → XK) (t : TA) : TE := fun σ H Q => t σ H fun vs H1 => ∀ x dx, H1 x = none → H1 dx = none → dx ≠ x → sp (.ref x :: vs) (upd (upd H1 dx (.own x)) x (.ins C dx [])) (fun v H2 => v = .non ∧ Q (.ref x) H2) (E σ)
section
variable {X : Cx} {CX : CXT} {k : Nat} {f C : Addr} {fd : FuncData} {ps : List Str} {sp : Sp} {E : L2.St → XK} {x : Str} {p pos : Pos} {e : Expr} {es : List Expr} {t : TA}
theorem pe_makeS (M : Mk X.K C f) (F : FnOk X.prog X.w X.K X.mg X.base CX k f fd ps sp) (hr : Room (k + 1) X.A) (hg : Gl X x) (hm : X.mg x = some (.ref C)) (hb : L2.Binds X.K fd ps []) (hx : ∀ σ, PassesAt CX X σ (E σ))
    (ha : PA X (e :: es) t) (hdb : (x == ("__debug__" : Str)) = false := by decide) (he : starEach (e :: es) X.env = (false, eval e X.env) :: starEach es X.env := by rfl) (hpl : (backTo pos (starEach es X.env)).any (·.1) = false := by rfl) :
    PE X (.Call (.Name x p) (e :: es) [] pos) (tMakeS C sp E t) := by
  refine ⟨fun pins s σ H Q I h => ?_⟩
  refine wpAny_Call_Name_kw (ld_glob I hg hm ?_ hdb)
  refine PySem.W.callWith_K (h₀ := X.base) I.ok.mod.kin M.kp (thn (ha.run pos pins s σ H _ I h) fun us s1 ⟨vs, H1, I1, r, q⟩ => ⟨I1.kIn, ?_⟩) he hpl
  have hq := q (s1.heap.objs.size + 1) s1.heap.objs.size (I1.hok.fresh (Nat.le_succ _)) (I1.hok.fresh (Nat.le_refl _)) (Nat.ne_of_lt (Nat.lt_succ_self _))
  have I2 := Inv.made (C := C) I1; have r2 : Vals (V.ref (s1.heap.objs.size + 1) :: vs) (Value.ref (s1.heap.objs.size + 1) :: us) := .cons rfl r
  have hl : (Value.ref (s1.heap.objs.size + 1) :: us).length = ps.length := by
    have e := r2.length; rw [F.len _ _ _ _ hq] at e; exact e.symm
  have hbb := hb _ (Value.ref (s1.heap.objs.size + 1) :: us) I2.kIn (by rw [List.append_nil]; exact hl)
  rw [List.append_nil] at hbb
  refine wpAny_call (make_map (f := f) I1.kIn M.makes M.init (beq_iff_eq.mp M.fn) (codeAny_mono (F.run _ X.stack _ _ ⟨Value.ref (s1.heap.objs.size + 1) :: us, []⟩ (Value.ref (s1.heap.objs.size + 1) :: us) _ _ (E σ) (hr.make C us []) (I2.env0.make C us []) hbb r2 hq) fun r s' hq' => ?_))
  cases r with
  | error e => exact hx σ pins _ _ e s' I2 hq'
  | ok fl =>
    cases fl with
    | ret u => obtain ⟨v, H', I3, rv, ev, q3⟩ := I2.after hq'; subst ev; exact ⟨rv, ⟨V.ref (s1.heap.objs.size + 1), H', I3, rfl, q3⟩⟩
    | next => exact False.elim hq'
    | brk => exact False.elim hq'
    | cont => exact False.elim hq'
end
/-! ### good wills of small values -/
theorem grpD_of {gd : AD} {k : List Str} (h : grpA gd = some k) : GrpD gd k := by
  unfold grpA at h
  cases hi : itemsA gd with
  | none => rw [hi] at h; cases h
  | some ds =>
    rw [hi] at h
    have h' : (if ds.isEmpty then none else if ds.all isNameA then (match strsA ds with | some xs => if xs.Nodup then some xs else none | none => none) else none) = some k := h
    split at h'
    · cases h'
    · split at h'
      · cases hs : strsA ds with
        | none => rw [hs] at h'; cases h'
        | some xs =>
          rw [hs] at h'
          have h2 : (if xs.Nodup then some xs else none) = some k := h'
          split at h2
          · cases Option.some.inj h2
            exact ⟨ds, hi, hs⟩
          · cases h2
      · cases h'
theorem will_of {d : AD} (hs : Sm d) (hw : isWillA d = true) : ∃ shs, WillD d shs ∧ shs.length < 1000 ∧ ∀ s ∈ shs, s.2.length < 1000 ∧ ∀ g ∈ s.2, g.length < 64 := by
  cases hi : itemsA d with
  | none => unfold isWillA at hw; rw [hi] at hw; cases hw
  | some ds =>
    have ew : isWillA d = (!ds.isEmpty && ds.all isShA) := by unfold isWillA; rw [hi]
    rw [ew, Bool.and_eq_true, List.all_eq_true] at hw
    have sm : ds.length ≤ 45 ∧ SmS ds := by cases d <;> first | (cases Option.some.inj hi; exact hs) | cases hi
    have one : ∀ x ∈ ds, ∃ s : Sh, ShD x s ∧ s.2.length < 1000 ∧ ∀ g ∈ s.2, g.length < 64 := fun x hx => by
      have h1 := hw.2 x hx
      have h2 := smS_get sm.2 x hx
      match x, h1, h2 with
      | .tup [w, g], h1, h2 =>
        have h1' : (wOkA w && isGrpsA g) = true := h1
        rw [Bool.and_eq_true] at h1'
        obtain ⟨n, rfl⟩ : ∃ n, w = .int n := by
          cases w with
          | int n => exact ⟨n, rfl⟩
          | _ => cases h1'.1
        have h3 := h1'.2
        cases hg : itemsA g with
        | none => unfold isGrpsA at h3; rw [hg] at h3; cases h3
        | some gds =>
          have h4 : gds.all isGrpA = true := by unfold isGrpsA at h3; rw [hg] at h3; exact h3
          rw [List.all_eq_true] at h4
          have smg : gds.length ≤ 45 ∧ SmS gds := by
            have := h2.2.2.1
            cases g <;> first | (cases Option.some.inj hg; exact this) | cases hg
          refine ⟨(n, gds.map fun gd => (grpA gd).getD []), ⟨g, rfl, gds, hg, by rw [List.length_map], fun i gd m e1 e2 => ?_⟩, by show (gds.map _).length < 1000; rw [List.length_map]; omega, fun m hm => ?_⟩
          · have e3 : (gds.map fun gd => (grpA gd).getD [])[i]? = some m := e2
            rw [List.getElem?_map, e1] at e3
            have e4 : (grpA gd).getD [] = m := Option.some.inj e3
            obtain ⟨k, hk⟩ := Option.isSome_iff_exists.mp (h4 gd (List.mem_of_getElem? e1))
            rw [hk] at e4
            have e5 : k = m := e4
            subst e5
            exact grpD_of hk
          · obtain ⟨gd, hgd, rfl⟩ := List.mem_map.mp hm
            obtain ⟨k, hk⟩ := Option.isSome_iff_exists.mp (h4 gd hgd)
            rw [hk]
            obtain ⟨es, he1, he2⟩ := grpD_of hk
            have sme : es.length ≤ 45 := by
              have := smS_get smg.2 gd hgd
              cases gd <;> first | (cases Option.some.inj he1; exact this.1) | cases he1
            have := strs_inv he2
            show k.length < 64
            rw [this, List.length_map] at sme
            omega
    obtain ⟨f, hf⟩ : ∃ f : AD → Sh, ∀ x ∈ ds, ShD x (f x) ∧ (f x).2.length < 1000 ∧ ∀ g ∈ (f x).2, g.length < 64 := by
      classical
      exact ⟨fun x => if h : x ∈ ds then Classical.choose (one x h) else (0, []), fun x hx => by simp only [dif_pos hx]; exact Classical.choose_spec (one x hx)⟩
    refine ⟨ds.map f, ⟨ds, hi, by rw [List.length_map], fun i x s e1 e2 => ?_⟩, by rw [List.length_map]; omega, fun s hs' => ?_⟩
    · rw [List.getElem?_map, e1] at e2
      rw [← Option.some.inj e2]
      exact (hf x (List.mem_of_getElem? e1)).1
    · obtain ⟨x, hx, rfl⟩ := List.mem_map.mp hs'
      exact (hf x hx).2
def wordOf (d : AD) : V := if isWillA d then .non else .str "shares"
/-- what is heard of a value -/
def spHeard (K : PySem.W.Frag) : Sp := fun vs H Q _ => ∃ (v : V) (d : AD), vs = [v] ∧ Av K H v d ∧ AdOk K d ∧ (isWillA d = true → Sm d) ∧ ∀ H', Same H H' → Q (wordOf d) H'
theorem ok_heard (X : TxtX K mg) : FnOk P w K mg base CX0 7 X.w.t.dLawHeard.f X.w.t.dLawHeard.fd ["_law_value"] (spHeard K) := by
  refine X.w.t.dLawHeard.F.ok scDLawHeard (fun vs H Q E h => ?_) (fun cdv A outer s H vs Q E hr h => ?_)
  · obtain ⟨v, d, rfl, _⟩ := h
    rfl
  · obtain ⟨v, d, rfl, hv, hd, hsm, q⟩ := h
    refine ⟨_, (pss_cons (ps_set (i := 1) scDLawHeard.nd rfl (.inl rfl) pe_non)
      (pss_cons (ps_try_as (i := 2) (tb := fun W => tDrop (tMakeS X.w.t.cWill (spWInitX K X.w.t.cWill X.w.t.cInvalidWill) (WE W) (tCons (tVar 0) tNil)))
        (ts := fun a cls d => tAsg (tIf (tAnd (tB (tCB (rIsEd K X.w.t.cInvalidWill a cls d) (tCons (tVar 2) (tCons (tC (.ref X.w.t.cHeirError)) tNil)))) (tNot (tB (tCB (rIsEd K X.w.t.cInvalidWill a cls d) (tCons (tVar 2) (tCons (tC (.ref X.w.t.cInvalidFamily)) tNil)))))) (tXf a cls d X.w.t.cInvalidWill "word" (tVar 2)) (tC (.str "other"))) (gName 1))
        (Wout := fun _ _ _ _ => False) rfl rfl scDLawHeard.nd rfl rfl ⟨rfl, by decide, Or.inl X.w.t.gcInvalidWill⟩ takes0
        (fun W pn xe tk _ => pss_one (ps_expr (by exact (pe_makeS X.w.iM (ok_winitX X) (hr.mono (by decide)) (by rfl) X.w.t.gcWill X.w.iB (fun σ => passAt tk σ) (pa_cons (pv 0) pa_nil)))))
        (fun a oe cls d pn hz hf => pss_one (ps_set (i := 1) scDLawHeard.nd rfl (.inl rfl) (by exact (pe_ifExp (PW.pt (pw_and (pt_val (pe_callB (call_isEd X.isx hz hf) (by rfl) X.w.t.z_isinstance (show bootBuiltins "isinstance" = some (.builtin "isinstance") by decide +kernel) (pa_cons (pv 2) (pa_cons (pe_glob (v := .ref X.w.t.cHeirError) (by rfl) X.w.t.gcHeirError rfl) pa_nil)))) (pw_and1 (pt_not (pt_val (pe_callB (call_isEd X.isx hz hf) (by rfl) X.w.t.z_isinstance (show bootBuiltins "isinstance" = some (.builtin "isinstance") by decide +kernel) (pa_cons (pv 2) (pa_cons (pe_glob (v := .ref X.w.t.cInvalidFamily) (by rfl) X.w.t.gcInvalidFamily rfl) pa_nil)))))))) (pe_xf X.xf X.xN hz hf (pv 2)) pe_str)))))
      (pss_one (ps_ret (pv 1))))), ?_⟩
    simp only [and_assoc, tSeq, tAsg, tOp, tUn, rI, rI0, rU, tVar, tC, gName, L2.start, tIfS, tTest, tB, tCB, tCons, tNil, tIf, tRet, tRetN, tLst, tTup, tNext, tDrop, tNot, tNotV, tAnd, tOr, tAndV, tOrV, tPar, tAug, ipI, rEq, rNe, gSub, rSetL, rIxL, rIxT, tBM, tBM0, rAppend, rPopAt, gTup, gCons, gNil, tCall, tSl, tPart, tNoPart, rSlL, rCat, rEqD, rNeD, rIn, scal, List.map_cons, List.map_nil, List.length_cons, List.length_nil, List.length_map, List.cons_append, List.nil_append, List.append_nil, List.replicate, List.getElem?_cons_zero, List.getElem?_cons_succ, List.set_cons_zero, List.set_cons_succ, Option.some.injEq, exists_eq_left', exists_eq_left, exists_eq_right, exists_and_left, exists_and_right, V.int.injEq, V.ref.injEq, V.str.injEq, V.bl.injEq, reduceCtorEq, false_and, and_false, exists_false, or_false, false_or, true_and, and_true, List.cons.injEq, decide_eq_true_eq, cxOf, if_true, if_false, Bool.false_eq_true, Nat.reduceAdd, Nat.reduceSub, Nat.zero_add, Nat.add_sub_cancel_left, Nat.add_sub_cancel, Nat.sub_self, sFld, tFld, tFor_eq, tLc_eq, iRng1, iRng2, iList, iTup, iEnum, rIsi, rIsiT, iSeq, tM0, tM1, tFmt, tJs, rJoin, rNewStrs, tMake, tNever, tMakeS, wAs, rIsEd, tXf, spWInitX]
    intro x dx nx ndx hne
    have sH : Same H (upd (upd H dx (.own x)) x (.ins X.w.t.cWill dx [])) := (same_upd ndx).trans (same_upd (by rw [upd_ne (Ne.symm hne)]; exact nx))
    have ex0 : upd (upd H dx (.own x)) x (.ins X.w.t.cWill dx []) x = some (.ins X.w.t.cWill dx []) := upd_same
    generalize upd (upd H dx (.own x)) x (.ins X.w.t.cWill dx []) = Hi at sH ex0 ⊢
    refine ⟨dx, ex0, d, av_mono sH _ _ hv, hd, fun hw e H' s' ne ee => ⟨true, X.self, fun _ a na => ⟨⟨_, ee⟩, .ref X.w.t.cHeirError, fun u hu => hu, true, X.k1, ?_⟩, fun h => nomatch h⟩, fun hw => ?_⟩
    · rw [if_pos rfl]
      refine ⟨⟨_, ee⟩, .ref X.w.t.cInvalidFamily, fun u hu => hu, false, X.k2, ?_⟩
      rw [if_pos (show (!false) = true from rfl)]
      have := q H' (sH.trans s')
      unfold wordOf at this
      rw [hw] at this
      exact ⟨_, ee, _, rfl, this⟩
    · obtain ⟨shs, h1, h2, h3⟩ := will_of (hsm hw) hw
      refine ⟨shs, h1, h2, h3, fun t H' k e d' => ?_⟩
      have := q H' (fun b o eb => k b o (ne_of_none eb nx) (sH _ _ eb))
      unfold wordOf at this
      rw [hw] at this
      exact this

end
end He

namespace He
open PySem PySem.Spec PyProof.Rows L2
section
variable {P : Program} {w : World} {K : PySem.W.Frag} {mg : Str → Option Value} {base : Heap}

def spLaw (K : PySem.W.Frag) : Sp := fun vs H Q _ => ∃ (a : Addr) (ns : List Int), vs = [.ref a] ∧ SqL K H a (ns.map V.int) ∧ ns.length ≤ 63 ∧ ∀ H', Q (.bl true) H'
structure TxtY (K : PySem.W.Frag) (mg : Str → Option Value) where
  x : TxtX K mg
  nb : NoBuilt K x.w.t.cWill
theorem bd_make {W : TxtW K mg} {p : Addr} {σ : L2.St} {H : Hp} {ta : TA} {shs : List Sh} (h : BdA K p ta σ H [adWill shs]) (hw : WOk shs) : Bd K p (tMake W.t.cWill (spWInit K W.t.cWill) [] E0 ta) σ H (.ins W.t.cWill) := fun H1 s1 hp Q q =>
  h H1 s1 hp _ fun vs H2 s2 hvs => by
    cases hvs with
    | @cons v _ _ _ hv hr =>
      cases hr
      intro x dx nx ndx hne
      have sH : Same H2 (upd (upd H2 dx (.own x)) x (.ins W.t.cWill dx [])) := (same_upd ndx).trans (same_upd (by rw [upd_ne (Ne.symm hne)]; exact nx))
      show spWInit K W.t.cWill [.ref x, v] _ _ _
      unfold spWInit
      refine ⟨x, dx, v, shs, rfl, upd_same, av_mono (hide_le.trans sH) _ _ hv, hw, fun t H' k e d => ⟨rfl, ?_⟩⟩
      have hxp : x ≠ p := new_ne (same_ne s2 hp) nx
      refine q _ _ (s2.trans fun b o eb => k b o (ne_of_none eb nx) (sH _ _ eb)) ?_
      have e2 : hide p H' x = _ := (hide_ne hxp).trans e
      exact .ins e2 (W.ty e2)
section
variable {H : Hp} {Q : VK}
theorem go_heard {v : V} {d : AD} (hv : Av K H v d) (hd : AdOk K d) (hs : isWillA d = true → Sm d) (q : ∀ H', Same H H' → Q (wordOf d) H') : spHeard K [v] H Q E0 := by
  unfold spHeard
  exact ⟨v, d, rfl, hv, hd, hs, q⟩
theorem go_right {v : V} {d : AD} (hv : Av K H v d) (hd : AdOk K d) (q : ∀ H', Same H H' → Q (.bl (isWillA d)) H') : spIs K isWillA [v] H Q E0 := by
  unfold spIs
  exact ⟨v, d, rfl, hv, hd, q⟩
end
theorem sm_will {shs : List Sh} (h : WOk shs) : SmS (shs.map adSh) := smS_of fun d hd => by
  obtain ⟨s0, hs0, rfl⟩ := List.mem_map.mp hd
  obtain ⟨w1, w2, w3⟩ := h.ok s0 hs0
  exact sm_share w1 w2 w3
def shs1 : List Sh := [(1, [])]
theorem ok1 : WOk shs1 := by
  refine ⟨by simp [shs1], by decide, ?_, ?_⟩
  · intro s hs
    simp only [shs1, List.mem_cons, List.not_mem_nil, or_false] at hs
    subst hs
    exact ⟨⟨by decide, by intro g hg; cases hg⟩, by decide, by decide⟩
  · intro s hs
    simp only [shs1, List.mem_cons, List.not_mem_nil, or_false] at hs
    subst hs
    decide
def tW1 (K : PySem.W.Frag) (C : Addr) : TE := tMake C (spWInit K C) [] E0 (tCons (tLst (tCons (tTup (tCons (tC (.int 1)) (tCons (tLst tNil) tNil))) tNil)) tNil)
def tCs (K : PySem.W.Frag) (C : Addr) : TE := tTup (tCons (tLst tNil) (tCons (tTup tNil) (tCons (tC .non) (tCons (tC (.str "1 ann")) (tCons (tC (.int 3)) (tCons (tW1 K C) (tCons (tTup (tCons (tC (.int 1)) (tCons (tLst (tCons (tLst (tCons (tC (.str "ann")) tNil)) tNil)) tNil))) tNil)))))))
def aCs (C : Addr) : List AD := [.lst [], .tup [], .non, .str "1 ann", .int 3, .ins C, .tup [.int 1, .lst [.lst [.str "ann"]]]]
theorem bCs {W : TxtW K mg} {p : Addr} {σ : L2.St} {H : Hp} : Bd K p (tCs K W.t.cWill) σ H (.tup (aCs W.t.cWill)) := by
  unfold tCs aCs
  refine bd_tup (ba_cons (bd_lst ba_nil (by simp)) (ba_cons (bd_tup ba_nil (by simp)) (ba_cons bd_non (ba_cons (bd_str _) (ba_cons (bd_int _) (ba_cons ?_ (ba_cons (bd_tup (ba_cons (bd_int _) (ba_cons (bd_lst (ba_cons (bd_lst (ba_cons (bd_str _) ba_nil) (by simp)) ba_nil) (by simp)) ba_nil)) (by simp)) ba_nil))))))) (by simp)
  exact bd_make (shs := shs1) (ba_cons (bd_lst (ba_cons (bd_tup (ba_cons (bd_int _) (ba_cons (bd_lst ba_nil (by simp)) ba_nil)) (by simp)) ba_nil) (Nat.le_of_ble_eq_true rfl)) ba_nil) ok1
theorem aCs_ok {C : Addr} (nb : NoBuilt K C) : ∀ d ∈ aCs C, AdOk K d := by
  intro d hd
  simp only [aCs, List.mem_cons, List.not_mem_nil, or_false] at hd
  have st : ∀ x : Str, x.length ≤ 100 → Sm (.str x) := fun _ h => h
  have le : ∀ {n : Nat}, Nat.ble n 45 = true → n ≤ 45 := fun h => Nat.le_of_ble_eq_true h
  rcases hd with rfl | rfl | rfl | rfl | rfl | rfl | rfl
  · exact sm_ok _ ⟨le rfl, trivial⟩
  · exact sm_ok _ ⟨le rfl, trivial⟩
  · trivial
  · exact sm_ok _ (st _ (by decide +kernel))
  · trivial
  · exact nb
  · exact sm_ok _ ⟨le rfl, trivial, ⟨le rfl, ⟨le rfl, st _ (by decide +kernel), trivial⟩, trivial⟩, trivial⟩
theorem aCs_bad {C : Addr} : ∀ d ∈ aCs C, isWillA d = false := by
  intro d hd
  simp only [aCs, List.mem_cons, List.not_mem_nil, or_false] at hd
  rcases hd with rfl | rfl | rfl | rfl | rfl | rfl | rfl <;> rfl
theorem ok_law (Y : TxtY K mg) : FnOk P w K mg base CX0 16 Y.x.w.t.dLaw.f Y.x.w.t.dLaw.fd ["_law_script"] (spLaw K) := by
  refine Y.x.w.t.dLaw.F.ok scDLaw (fun vs H Q E h => ?_) (fun cdv A outer s H vs Q E hr h => ?_)
  · obtain ⟨a, ns, rfl, _⟩ := h
    rfl
  · obtain ⟨a, ns, rfl, hs, hn, q⟩ := h
    refine ⟨_, (pss_cons (ps_for PassesOwn.never rfl (pi_range1 (by rfl) Y.x.w.t.z_range (pa_cons (pe_callB (call_max2 rfl) (by rfl) Y.x.w.t.z_max (show bootBuiltins "max" = some (.builtin "max") by decide +kernel) (pa_cons pe_int (pa_cons (pe_callB (call_min2 rfl) (by rfl) Y.x.w.t.z_min (show bootBuiltins "min" = some (.builtin "min") by decide +kernel) (pa_cons pe_int (pa_cons (pe_callB call_lenL (by rfl) Y.x.w.t.z_len (show bootBuiltins "len" = some (.builtin "len") by decide +kernel) (pa_cons (pv 0) pa_nil)) pa_nil))) pa_nil))) pa_nil)) (pg_name (i := 1) scDLaw.nd rfl (.inl rfl))
      (pss_cons (ps_set (i := 2) scDLaw.nd rfl (.inl rfl) (pe_call (ok_seed Y.x.w.t) (hr.mono (by decide)) (by rfl) Y.x.w.t.dLawSeed.g Y.x.w.t.dLawSeed.F.kp Y.x.w.t.dLawSeed.b .nil pass0 (pa_cons (pv 0) (pa_cons (pv 1) pa_nil))))
      (pss_cons (ps_for PassesOwn.never rfl (pi_range1 (by rfl) Y.x.w.t.z_range (pa_cons pe_int pa_nil)) (pg_name (i := 3) scDLaw.nd rfl (.inl rfl))
      (pss_cons (ps_set (i := 4) scDLaw.nd rfl (.inl rfl) (pe_call (ok_will Y.x.w.t) (hr.mono (by decide)) (by rfl) Y.x.w.t.dLawWill.g Y.x.w.t.dLawWill.F.kp Y.x.w.t.dLawWill.b .nil pass0 (pa_cons (pv 2) (pa_cons (pe_call (ok_names Y.x.w.t) (hr.mono (by decide)) (by rfl) Y.x.w.t.dLawNames.g Y.x.w.t.dLawNames.F.kp Y.x.w.t.dLawNames.b .nil pass0 (pa_cons (pv 2) (pa_cons pe_int pa_nil))) pa_nil))))
      (pss_cons (ps_if (PW.pt (pw_or (pt_cmpR op_notN (pe_call (ok_heard Y.x) (hr.mono (by decide)) (by rfl) Y.x.w.t.dLawHeard.g Y.x.w.t.dLawHeard.F.kp Y.x.w.t.dLawHeard.b .nil pass0 (pa_cons (pv 4) pa_nil)) pe_non (nomark _)) (pw_or1 (pt_cmpR op_notN (pe_call (ok_heard Y.x) (hr.mono (by decide)) (by rfl) Y.x.w.t.dLawHeard.g Y.x.w.t.dLawHeard.F.kp Y.x.w.t.dLawHeard.b .nil pass0 (pa_cons (pe_callTy call_tuple_of (by rfl) Y.x.w.t.z_tuple (show bootBuiltins "tuple" = some (.type "tuple") by decide +kernel) (pa_cons (pv 4) pa_nil)) pa_nil)) pe_non (nomark _)))))
      (pss_one (ps_ret pe_bl))
      pss_nil)
      (pss_one (ps_for PassesOwn.never rfl (pi_tup (pe_tup (pa_cons (pe_call (ok_bent Y.x.w.t) (hr.mono (by decide)) (by rfl) Y.x.w.t.dLawBent.g Y.x.w.t.dLawBent.F.kp Y.x.w.t.dLawBent.b .nil pass0 (pa_cons (pv 2) (pa_cons (pv 4) pa_nil))) (pa_cons (pe_callTy call_tuple_of (by rfl) Y.x.w.t.z_tuple (show bootBuiltins "tuple" = some (.type "tuple") by decide +kernel) (pa_cons (pe_call (ok_bent Y.x.w.t) (hr.mono (by decide)) (by rfl) Y.x.w.t.dLawBent.g Y.x.w.t.dLawBent.F.kp Y.x.w.t.dLawBent.b .nil pass0 (pa_cons (pv 2) (pa_cons (pv 4) pa_nil))) pa_nil)) (pa_cons (pe_call (ok_any Y.x.w.t 9) (hr.mono (by decide)) (by rfl) Y.x.w.t.dLawAny.g Y.x.w.t.dLawAny.F.kp Y.x.w.t.dLawAny.b .nil pass0 (pa_cons (pv 2) (pa_cons pe_int pa_nil))) pa_nil))))) (pg_name (i := 5) scDLaw.nd rfl (.inl rfl))
      (pss_one (ps_if (pt_cmpR op_ne (pe_call (ok_heard Y.x) (hr.mono (by decide)) (by rfl) Y.x.w.t.dLawHeard.g Y.x.w.t.dLawHeard.F.kp Y.x.w.t.dLawHeard.b .nil pass0 (pa_cons (pv 5) pa_nil)) (pe_ifExp (pt_val (pe_call (ok_lright Y.x.w.t) (hr.mono (by decide)) (by rfl) Y.x.w.t.dLawIsRight.g Y.x.w.t.dLawIsRight.F.kp Y.x.w.t.dLawIsRight.b .nil pass0 (pa_cons (pv 5) pa_nil))) pe_non pe_str) (nomark _))
      (pss_one (ps_ret pe_bl))
      pss_nil)))))))
      (pss_one (ps_for PassesOwn.never rfl (pi_tup (show PE _ _ (tCs K Y.x.w.t.cWill) from (pe_tup (pa_cons (pe_lst pa_nil) (pa_cons (pe_tup pa_nil) (pa_cons pe_non (pa_cons pe_str (pa_cons pe_int (pa_cons (pe_make Y.x.w.iM (ok_winit Y.x.w) (hr.mono (by decide)) (by rfl) Y.x.w.t.gcWill Y.x.w.iB .nil pass0 (pa_cons (pe_lst (pa_cons (pe_tup (pa_cons pe_int (pa_cons (pe_lst pa_nil) pa_nil))) pa_nil)) pa_nil)) (pa_cons (pe_tup (pa_cons pe_int (pa_cons (pe_lst (pa_cons (pe_lst (pa_cons pe_str pa_nil)) pa_nil)) pa_nil))) pa_nil)))))))))) (pg_name (i := 5) scDLaw.nd rfl (.inl rfl))
      (pss_one (ps_if (pt_cmpR op_ne (pe_call (ok_heard Y.x) (hr.mono (by decide)) (by rfl) Y.x.w.t.dLawHeard.g Y.x.w.t.dLawHeard.F.kp Y.x.w.t.dLawHeard.b .nil pass0 (pa_cons (pv 5) pa_nil)) pe_str (nomark _))
      (pss_one (ps_ret pe_bl))
      pss_nil)))))))
      (pss_one (ps_ret (pe_and (pe_cmpR op_isN (pe_call (ok_heard Y.x) (hr.mono (by decide)) (by rfl) Y.x.w.t.dLawHeard.g Y.x.w.t.dLawHeard.F.kp Y.x.w.t.dLawHeard.b .nil pass0 (pa_cons (pe_lst (pa_cons (pe_tup (pa_cons pe_int (pa_cons (pe_lst pa_nil) pa_nil))) pa_nil)) pa_nil)) pe_non (nomark _)) (pe_one (pe_cmpR op_isN (pe_call (ok_heard Y.x) (hr.mono (by decide)) (by rfl) Y.x.w.t.dLawHeard.g Y.x.w.t.dLawHeard.F.kp Y.x.w.t.dLawHeard.b .nil pass0 (pa_cons (pe_lst (pa_cons (pe_tup (pa_cons pe_int (pa_cons (pe_lst (pa_cons (pe_tup (pa_cons pe_str pa_nil)) pa_nil)) pa_nil))) pa_nil)) pa_nil)) pe_non (nomark _))))))), ?_⟩
    simp only [and_assoc, tSeq, tAsg, tOp, tUn, rI, rI0, rU, tVar, tC, gName, L2.start, tIfS, tTest, tB, tCB, tCons, tNil, tIf, tRet, tRetN, tLst, tTup, tNext, tDrop, tNot, tNotV, tAnd, tOr, tAndV, tOrV, tPar, tAug, ipI, rEq, rNe, gSub, rSetL, rIxL, rIxT, tBM, tBM0, rAppend, rPopAt, gTup, gCons, gNil, tCall, tSl, tPart, tNoPart, rSlL, rCat, rEqD, rNeD, rIn, scal, List.map_cons, List.map_nil, List.length_cons, List.length_nil, List.length_map, List.cons_append, List.nil_append, List.append_nil, List.replicate, List.getElem?_cons_zero, List.getElem?_cons_succ, List.set_cons_zero, List.set_cons_succ, Option.some.injEq, exists_eq_left', exists_eq_left, exists_eq_right, exists_and_left, exists_and_right, V.int.injEq, V.ref.injEq, V.str.injEq, V.bl.injEq, reduceCtorEq, false_and, and_false, exists_false, or_false, false_or, true_and, and_true, List.cons.injEq, decide_eq_true_eq, cxOf, if_true, if_false, Bool.false_eq_true, Nat.reduceAdd, Nat.reduceSub, Nat.zero_add, Nat.add_sub_cancel_left, Nat.add_sub_cancel, Nat.sub_self, sFld, tFld, tFor_eq, tLc_eq, iRng1, iRng2, iList, iTup, iEnum, rIsi, rIsiT, iSeq, tM0, tM1, tFmt, tJs, rJoin, rNewStrs, tNever, rLenL, rTupOf]
    obtain ⟨n, hn4, hnn⟩ : ∃ n : Nat, n ≤ 4 ∧ (if (if ((List.map V.int ns).length : Int) < 4 then ((List.map V.int ns).length : Int) else 4) > 2 then if ((List.map V.int ns).length : Int) < 4 then ((List.map V.int ns).length : Int) else 4 else 2) = (n : Int) := by
      refine ⟨(if (if ((List.map V.int ns).length : Int) < 4 then ((List.map V.int ns).length : Int) else 4) > 2 then if ((List.map V.int ns).length : Int) < 4 then ((List.map V.int ns).length : Int) else 4 else 2).toNat, ?_, ?_⟩ <;> (repeat' split) <;> omega
    refine ⟨_, hs, by rw [hnn]; omega, by rw [hnn]; omega, ?_⟩
    rw [hnn, Int.toNat_natCast]
    refine fg_range (fun i σ H2 => ∃ (o1 o2 o3 o4 o5 : Option V), σ = [some (.ref a), o1, o2, o3, o4, o5] ∧ Same H H2) ⟨none, none, none, none, none, rfl, Same.refl H⟩ ?_ ?_
    · rintro i σ H2 hi ⟨o1, o2, o3, o4, o5, rfl, s2⟩
      simp only [and_assoc, tSeq, tAsg, tOp, tUn, rI, rI0, rU, tVar, tC, gName, L2.start, tIfS, tTest, tB, tCB, tCons, tNil, tIf, tRet, tRetN, tLst, tTup, tNext, tDrop, tNot, tNotV, tAnd, tOr, tAndV, tOrV, tPar, tAug, ipI, rEq, rNe, gSub, rSetL, rIxL, rIxT, tBM, tBM0, rAppend, rPopAt, gTup, gCons, gNil, tCall, tSl, tPart, tNoPart, rSlL, rCat, rEqD, rNeD, rIn, scal, List.map_cons, List.map_nil, List.length_cons, List.length_nil, List.length_map, List.cons_append, List.nil_append, List.append_nil, List.replicate, List.getElem?_cons_zero, List.getElem?_cons_succ, List.set_cons_zero, List.set_cons_succ, Option.some.injEq, exists_eq_left', exists_eq_left, exists_eq_right, exists_and_left, exists_and_right, V.int.injEq, V.ref.injEq, V.str.injEq, V.bl.injEq, reduceCtorEq, false_and, and_false, exists_false, or_false, false_or, true_and, and_true, List.cons.injEq, decide_eq_true_eq, cxOf, if_true, if_false, Bool.false_eq_true, Nat.reduceAdd, Nat.reduceSub, Nat.zero_add, Nat.add_sub_cancel_left, Nat.add_sub_cancel, Nat.sub_self, sFld, tFld, tFor_eq, tLc_eq, iRng1, iRng2, iList, iTup, iEnum, rIsi, rIsiT, iSeq, tM0, tM1, tFmt, tJs, rJoin, rNewStrs, tNever, rLenL, rTupOf, spSeed]
      refine ⟨ns, i, by omega, by omega, s2.seq hs, hn, fun b0 b1 p np h0 h1 h2 => ⟨by decide, by decide, ?_⟩⟩
      have hb1 : Box (upd H2 p (.lst [.int b0, .int b1])) p := ⟨b0, b1, upd_same, h0, h1, h2⟩
      have s21 := same_upd (o := .lst [.int b0, .int b1]) np
      generalize upd H2 p (.lst [.int b0, .int b1]) = H1 at hb1 s21 ⊢
      refine fg_range (fun j σ H3 => ∃ (o3 o4 o5 : Option V), σ = [some (.ref a), some (.int (0 + ↑i)), some (.ref p), o3, o4, o5] ∧ Bx p H1 H3) ⟨_, _, _, rfl, .refl hb1⟩ ?_ ?_
      · rintro j σ H3 hj ⟨o3, o4, o5, rfl, B3⟩
        simp only [and_assoc, tSeq, tAsg, tOp, tUn, rI, rI0, rU, tVar, tC, gName, L2.start, tIfS, tTest, tB, tCB, tCons, tNil, tIf, tRet, tRetN, tLst, tTup, tNext, tDrop, tNot, tNotV, tAnd, tOr, tAndV, tOrV, tPar, tAug, ipI, rEq, rNe, gSub, rSetL, rIxL, rIxT, tBM, tBM0, rAppend, rPopAt, gTup, gCons, gNil, tCall, tSl, tPart, tNoPart, rSlL, rCat, rEqD, rNeD, rIn, scal, List.map_cons, List.map_nil, List.length_cons, List.length_nil, List.length_map, List.cons_append, List.nil_append, List.append_nil, List.replicate, List.getElem?_cons_zero, List.getElem?_cons_succ, List.set_cons_zero, List.set_cons_succ, Option.some.injEq, exists_eq_left', exists_eq_left, exists_eq_right, exists_and_left, exists_and_right, V.int.injEq, V.ref.injEq, V.str.injEq, V.bl.injEq, reduceCtorEq, false_and, and_false, exists_false, or_false, false_or, true_and, and_true, List.cons.injEq, decide_eq_true_eq, cxOf, if_true, if_false, Bool.false_eq_true, Nat.reduceAdd, Nat.reduceSub, Nat.zero_add, Nat.add_sub_cancel_left, Nat.add_sub_cancel, Nat.sub_self, sFld, tFld, tFor_eq, tLc_eq, iRng1, iRng2, iList, iTup, iEnum, rIsi, rIsiT, iSeq, tM0, tM1, tFmt, tJs, rJoin, rNewStrs, tNever, rLenL, rTupOf, spNames]
        refine ⟨5, rfl, B3.1, by decide, fun nms u H4 B4 nm nl nu eu => ?_⟩
        simp only [and_assoc, tSeq, tAsg, tOp, tUn, rI, rI0, rU, tVar, tC, gName, L2.start, tIfS, tTest, tB, tCB, tCons, tNil, tIf, tRet, tRetN, tLst, tTup, tNext, tDrop, tNot, tNotV, tAnd, tOr, tAndV, tOrV, tPar, tAug, ipI, rEq, rNe, gSub, rSetL, rIxL, rIxT, tBM, tBM0, rAppend, rPopAt, gTup, gCons, gNil, tCall, tSl, tPart, tNoPart, rSlL, rCat, rEqD, rNeD, rIn, scal, List.map_cons, List.map_nil, List.length_cons, List.length_nil, List.length_map, List.cons_append, List.nil_append, List.append_nil, List.replicate, List.getElem?_cons_zero, List.getElem?_cons_succ, List.set_cons_zero, List.set_cons_succ, Option.some.injEq, exists_eq_left', exists_eq_left, exists_eq_right, exists_and_left, exists_and_right, V.int.injEq, V.ref.injEq, V.str.injEq, V.bl.injEq, reduceCtorEq, false_and, and_false, exists_false, or_false, false_or, true_and, and_true, List.cons.injEq, decide_eq_true_eq, cxOf, if_true, if_false, Bool.false_eq_true, Nat.reduceAdd, Nat.reduceSub, Nat.zero_add, Nat.add_sub_cancel_left, Nat.add_sub_cancel, Nat.sub_self, sFld, tFld, tFor_eq, tLc_eq, iRng1, iRng2, iList, iTup, iEnum, rIsi, rIsiT, iSeq, tM0, tM1, tFmt, tJs, rJoin, rNewStrs, tNever, rLenL, rTupOf, spWill]
        have up : u ≠ p := fun z => by obtain ⟨_, _, e, _⟩ := B3.1; rw [z, e] at nu; cases nu
        refine ⟨B4.1, nms, sqL_of (by rw [hide_ne up]; exact eu), by omega, nm, fun shs vs r H5 B5 hwo nr er hd => ?_⟩
        have hw := hwo.wok
        have rp : r ≠ p := new_ne (Bx.ne0 B4.1) nr
        have hrL : SqL K (hide p H5) r vs := sqL_of (by rw [hide_ne rp]; exact er)
        have hA : AvAll K (hide p H5) vs (shs.map adSh) := by
          have := avA_of _ _ hd
          rw [adA_shs] at this
          exact this
        have smW : Sm (.lst (shs.map adSh)) := ⟨by rw [List.length_map]; have := hwo.l3; omega, sm_will hw⟩
        have smT : Sm (.tup (shs.map adSh)) := smW
        have wL : wordOf (.lst (shs.map adSh)) = .non := by
          unfold wordOf
          rw [show isWillA (.lst (shs.map adSh)) = true from will_ad hw]
          rfl
        have wT : wordOf (.tup (shs.map adSh)) = .non := wL
        refine go_heard (d := .lst (shs.map adSh)) (.lst (hide_le.seq hrL) (avA_mono hide_le _ _ hA)) (sm_ok _ smW) (fun _ => smW) fun H6 s6 => ?_
        rw [wL, if_neg (by simp)]
        refine ⟨vs, .inl ⟨s6.seq (hide_le.seq hrL), fun l nl => ?_⟩⟩
        have s7 := same_upd (o := .tup vs) nl
        refine go_heard (d := .tup (shs.map adSh)) (.tup (sqT_of upd_same) (avA_mono (hide_le.trans (s6.trans s7)) _ _ hA)) (sm_ok _ smT) (fun _ => smT) fun H7 s8 => ?_
        rw [wT, if_neg (by simp)]
        have B7 : Bx p H5 H7 := .of B5.1 ((s6.trans s7).trans s8)
        simp only [spBent]
        refine ⟨p, r, vs, shs, rfl, B7.1, B7.2.seq hrL, dpA_mono B7.2 _ _ hd, hw, fun v1 d1 H8 B8 hv1 g1 => ?_⟩
        have B58 := B7.trans B8
        refine ⟨p, r, vs, shs, rfl, B8.1, B58.2.seq hrL, dpA_mono B58.2 _ _ hd, hw, fun v2 d2 H9 B9 hv2 g2 => ?_⟩
        cases hv2 with
        | @lst a2 xs2 _ ha2 hxs2 =>
          refine ⟨a2, rfl, xs2, .inl ⟨hide_le.seq ha2, fun l2 nl2 => ?_⟩⟩
          have l2p : l2 ≠ p := new_ne (Bx.ne0 B9.1) nl2
          have s10 := same_upd (o := .tup xs2) nl2
          have e10 : upd H9 l2 (.tup xs2) l2 = some (.tup xs2) := upd_same
          have b10 := B9.1.same s10
          generalize upd H9 l2 (.tup xs2) = H10 at s10 e10 b10 ⊢
          have hv10 : Av K (hide p H10) (.ref l2) (.tup d2) := .tup (sqT_of (by rw [hide_ne l2p]; exact e10)) (avA_mono (hide_same s10) _ _ hxs2)
          have g10 : Sm (.tup d2) := g2
          simp only [spAny]
          refine ⟨p, rfl, b10, fun v3 d3 H11 B11 a3 hv3 => ?_⟩
          have hv3' : Av K (hide p H11) v3 d3 := av_mono (fun b o e => by
            obtain ⟨e1, e2⟩ := news_get e
            rw [hide_ne (new_ne (Bx.ne0 b10) e1)]
            exact e2) _ _ hv3
          have g3 : Sm d3 := any_sm a3
          have B911 : Bx p H9 H11 := (Bx.of B9.1 s10).trans B11
          have B511 : Bx p H5 H11 := (B58.trans B9).trans B911
          refine ⟨by decide, fun l3 nl3 => ⟨⟨_, sqT_of upd_same⟩, ?_⟩⟩
          have s12 := same_upd (o := .tup [v1, .ref l2, v3]) nl3
          have hv1' := av_mono (hide_same s12) _ _ (av_mono (B9.trans B911).2 _ _ hv1)
          have hv2' := av_mono (hide_same s12) _ _ (av_mono B11.2 _ _ hv10)
          have hv3'' := av_mono (hide_same s12) _ _ hv3'
          have e12 : upd H11 l3 (.tup [v1, .ref l2, v3]) l3 = some (.tup [v1, .ref l2, v3]) := upd_same
          have B12 : Bx p H5 (upd H11 l3 (.tup [v1, .ref l2, v3])) := B511.trans (.of B11.1 s12)
          generalize upd H11 l3 (.tup [v1, .ref l2, v3]) = H12 at s12 hv1' hv2' hv3'' e12 B12 ⊢
          have all : AvAll K (hide p H12) [v1, .ref l2, v3] [.lst d1, .tup d2, d3] := .cons hv1' (.cons hv2' (.cons hv3'' .nil))
          have allS : SmS [.lst d1, .tup d2, d3] := ⟨g1, g10, g3, trivial⟩
          refine fg_tup (xs := [v1, .ref l2, v3]) (fun m σ H' => ∃ o : Option V, σ = [some (.ref a), some (.int (0 + ↑i)), some (.ref p), some (.int (0 + ↑j)), some (.ref r), o] ∧ Same H12 H') ⟨_, rfl, Same.refl _⟩ ?_ ?_ ?_
          · rintro m σ H' hm ⟨o, rfl, s⟩
            exact Same.seqT s (sqT_of e12)
          · rintro m x σ H' hx ⟨o, rfl, s⟩
            obtain ⟨d, ed, hv⟩ := avA_get all hx
            have sd : Sm d := smS_get allS d (List.mem_of_getElem? ed)
            simp only [and_assoc, tSeq, tAsg, tOp, tUn, rI, rI0, rU, tVar, tC, gName, L2.start, tIfS, tTest, tB, tCB, tCons, tNil, tIf, tRet, tRetN, tLst, tTup, tNext, tDrop, tNot, tNotV, tAnd, tOr, tAndV, tOrV, tPar, tAug, ipI, rEq, rNe, gSub, rSetL, rIxL, rIxT, tBM, tBM0, rAppend, rPopAt, gTup, gCons, gNil, tCall, tSl, tPart, tNoPart, rSlL, rCat, rEqD, rNeD, rIn, scal, List.map_cons, List.map_nil, List.length_cons, List.length_nil, List.length_map, List.cons_append, List.nil_append, List.append_nil, List.replicate, List.getElem?_cons_zero, List.getElem?_cons_succ, List.set_cons_zero, List.set_cons_succ, Option.some.injEq, exists_eq_left', exists_eq_left, exists_eq_right, exists_and_left, exists_and_right, V.int.injEq, V.ref.injEq, V.str.injEq, V.bl.injEq, reduceCtorEq, false_and, and_false, exists_false, or_false, false_or, true_and, and_true, List.cons.injEq, decide_eq_true_eq, cxOf, if_true, if_false, Bool.false_eq_true, Nat.reduceAdd, Nat.reduceSub, Nat.zero_add, Nat.add_sub_cancel_left, Nat.add_sub_cancel, Nat.sub_self, sFld, tFld, tFor_eq, tLc_eq, iRng1, iRng2, iList, iTup, iEnum, rIsi, rIsiT, iSeq, tM0, tM1, tFmt, tJs, rJoin, rNewStrs, tNever, rLenL, rTupOf]
            refine go_heard (av_mono (hide_le.trans s) _ _ hv) (sm_ok _ sd) (fun _ => sd) fun H'2 s2' => ?_
            refine go_right (av_mono ((hide_le.trans s).trans s2') _ _ hv) (sm_ok _ sd) fun H'3 s3' => ?_
            have sT := s.trans (s2'.trans s3')
            cases e : isWillA d with
            | true =>
              have ew : wordOf d = .non := by unfold wordOf; rw [e]; rfl
              rw [ew]
              refine ⟨true, rfl, ?_⟩
              rw [if_pos rfl]
              exact ⟨rfl, by rw [if_neg (by simp)]; exact sT⟩
            | false =>
              have ew : wordOf d = .str "shares" := by unfold wordOf; rw [e]; rfl
              rw [ew]
              refine ⟨false, rfl, ?_⟩
              rw [if_neg (by simp)]
              exact ⟨rfl, by rw [if_neg (by simp)]; exact sT⟩
          · rintro σ H' ⟨o, rfl, s⟩
            exact ⟨⟨_, _, _, rfl⟩, (((B3.trans B4).trans B5).trans B12).trans (.of B12.1 s)⟩
      · rintro σ H3 ⟨o3, o4, o5, rfl, B3⟩
        simp only [and_assoc, tSeq, tAsg, tOp, tUn, rI, rI0, rU, tVar, tC, gName, L2.start, tIfS, tTest, tB, tCB, tCons, tNil, tIf, tRet, tRetN, tLst, tTup, tNext, tDrop, tNot, tNotV, tAnd, tOr, tAndV, tOrV, tPar, tAug, ipI, rEq, rNe, gSub, rSetL, rIxL, rIxT, tBM, tBM0, rAppend, rPopAt, gTup, gCons, gNil, tCall, tSl, tPart, tNoPart, rSlL, rCat, rEqD, rNeD, rIn, scal, List.map_cons, List.map_nil, List.length_cons, List.length_nil, List.length_map, List.cons_append, List.nil_append, List.append_nil, List.replicate, List.getElem?_cons_zero, List.getElem?_cons_succ, List.set_cons_zero, List.set_cons_succ, Option.some.injEq, exists_eq_left', exists_eq_left, exists_eq_right, exists_and_left, exists_and_right, V.int.injEq, V.ref.injEq, V.str.injEq, V.bl.injEq, reduceCtorEq, false_and, and_false, exists_false, or_false, false_or, true_and, and_true, List.cons.injEq, decide_eq_true_eq, cxOf, if_true, if_false, Bool.false_eq_true, Nat.reduceAdd, Nat.reduceSub, Nat.zero_add, Nat.add_sub_cancel_left, Nat.add_sub_cancel, Nat.sub_self, sFld, tFld, tFor_eq, tLc_eq, iRng1, iRng2, iList, iTup, iEnum, rIsi, rIsiT, iSeq, tM0, tM1, tFmt, tJs, rJoin, rNewStrs, tNever, rLenL, rTupOf]
        refine bd_use bCs (Bx.ne0 B3.1) fun v H4 s4 hv => ?_
        cases hv with
        | @tup a4 xs4 _ ha4 hxs4 =>
          have ha4' := Same.seqT hide_le ha4
          refine ⟨a4, rfl, ⟨xs4, ha4'⟩, ?_⟩
          refine fg_tup (xs := xs4) (fun m σ H' => ∃ o : Option V, σ = [some (.ref a), some (.int (0 + ↑i)), some (.ref p), o3, o4, o] ∧ Same H4 H') ⟨_, rfl, Same.refl _⟩ ?_ ?_ ?_
          · rintro m σ H' hm ⟨o, rfl, s⟩
            exact Same.seqT s ha4'
          · rintro m x σ H' hx ⟨o, rfl, s⟩
            obtain ⟨d, ed, hv⟩ := avA_get hxs4 hx
            have dm := List.mem_of_getElem? ed
            have bad := aCs_bad d dm
            have wb : wordOf d = .str "shares" := by unfold wordOf; rw [bad]; rfl
            simp only [and_assoc, tSeq, tAsg, tOp, tUn, rI, rI0, rU, tVar, tC, gName, L2.start, tIfS, tTest, tB, tCB, tCons, tNil, tIf, tRet, tRetN, tLst, tTup, tNext, tDrop, tNot, tNotV, tAnd, tOr, tAndV, tOrV, tPar, tAug, ipI, rEq, rNe, gSub, rSetL, rIxL, rIxT, tBM, tBM0, rAppend, rPopAt, gTup, gCons, gNil, tCall, tSl, tPart, tNoPart, rSlL, rCat, rEqD, rNeD, rIn, scal, List.map_cons, List.map_nil, List.length_cons, List.length_nil, List.length_map, List.cons_append, List.nil_append, List.append_nil, List.replicate, List.getElem?_cons_zero, List.getElem?_cons_succ, List.set_cons_zero, List.set_cons_succ, Option.some.injEq, exists_eq_left', exists_eq_left, exists_eq_right, exists_and_left, exists_and_right, V.int.injEq, V.ref.injEq, V.str.injEq, V.bl.injEq, reduceCtorEq, false_and, and_false, exists_false, or_false, false_or, true_and, and_true, List.cons.injEq, decide_eq_true_eq, cxOf, if_true, if_false, Bool.false_eq_true, Nat.reduceAdd, Nat.reduceSub, Nat.zero_add, Nat.add_sub_cancel_left, Nat.add_sub_cancel, Nat.sub_self, sFld, tFld, tFor_eq, tLc_eq, iRng1, iRng2, iList, iTup, iEnum, rIsi, rIsiT, iSeq, tM0, tM1, tFmt, tJs, rJoin, rNewStrs, tNever, rLenL, rTupOf]
            refine go_heard (av_mono (hide_le.trans s) _ _ hv) (aCs_ok Y.nb d dm) (fun z => by rw [bad] at z; cases z) fun H'2 s2' => ?_
            rw [wb]
            exact ⟨rfl, by rw [if_neg (by simp)]; exact s.trans s2'⟩
          · rintro σ H' ⟨o, rfl, s⟩
            refine ⟨⟨_, _, _, _, _, rfl⟩, s2.trans fun b u eb => ?_⟩
            have bp : b ≠ p := fun z => by rw [z, np] at eb; cases eb
            have e1 : hide p H1 b = some u := by rw [hide_ne bp]; exact s21 _ _ eb
            have e2 := B3.2 _ _ e1
            rw [hide_ne bp] at e2
            exact s _ _ (s4 _ _ e2)
    · rintro σ H2 ⟨o1, o2, o3, o4, o5, rfl, s2⟩
      simp only [and_assoc, tSeq, tAsg, tOp, tUn, rI, rI0, rU, tVar, tC, gName, L2.start, tIfS, tTest, tB, tCB, tCons, tNil, tIf, tRet, tRetN, tLst, tTup, tNext, tDrop, tNot, tNotV, tAnd, tOr, tAndV, tOrV, tPar, tAug, ipI, rEq, rNe, gSub, rSetL, rIxL, rIxT, tBM, tBM0, rAppend, rPopAt, gTup, gCons, gNil, tCall, tSl, tPart, tNoPart, rSlL, rCat, rEqD, rNeD, rIn, scal, List.map_cons, List.map_nil, List.length_cons, List.length_nil, List.length_map, List.cons_append, List.nil_append, List.append_nil, List.replicate, List.getElem?_cons_zero, List.getElem?_cons_succ, List.set_cons_zero, List.set_cons_succ, Option.some.injEq, exists_eq_left', exists_eq_left, exists_eq_right, exists_and_left, exists_and_right, V.int.injEq, V.ref.injEq, V.str.injEq, V.bl.injEq, reduceCtorEq, false_and, and_false, exists_false, or_false, false_or, true_and, and_true, List.cons.injEq, decide_eq_true_eq, cxOf, if_true, if_false, Bool.false_eq_true, Nat.reduceAdd, Nat.reduceSub, Nat.zero_add, Nat.add_sub_cancel_left, Nat.add_sub_cancel, Nat.sub_self, sFld, tFld, tFor_eq, tLc_eq, iRng1, iRng2, iList, iTup, iEnum, rIsi, rIsiT, iSeq, tM0, tM1, tFmt, tJs, rJoin, rNewStrs, tNever, rLenL, rTupOf]
      have st : ∀ x : Str, x.length ≤ 100 → Sm (.str x) := fun _ h => h
      have le : ∀ {n : Nat}, Nat.ble n 45 = true → n ≤ 45 := fun h => Nat.le_of_ble_eq_true h
      have w1 : wordOf (.lst [.tup [.int 1, .lst []]]) = .non := by
        unfold wordOf
        rw [show isWillA (.lst [.tup [.int 1, .lst []]]) = true by decide +kernel]
        rfl
      have w2 : wordOf (.lst [.tup [.int 1, .lst [.tup [.str "ann"]]]]) = .non := by
        unfold wordOf
        rw [show isWillA (.lst [.tup [.int 1, .lst [.tup [.str "ann"]]]]) = true by decide +kernel]
        rfl
      have g1 : Sm (.lst [.tup [.int 1, .lst []]]) := ⟨le rfl, ⟨le rfl, trivial, ⟨le rfl, trivial⟩, trivial⟩, trivial⟩
      have g2 : Sm (.lst [.tup [.int 1, .lst [.tup [.str "ann"]]]]) := ⟨le rfl, ⟨le rfl, trivial, ⟨le rfl, ⟨le rfl, st _ (by decide +kernel), trivial⟩, trivial⟩, trivial⟩, trivial⟩
      refine ⟨by decide, fun a1 n1 => ⟨by decide, fun a2 n2 => ⟨by decide, fun a3 n3 => ?_⟩⟩⟩
      have t2 := same_upd (o := .tup [.int 1, .ref a1]) n2
      have t3 := same_upd (o := .lst [.ref a2]) n3
      refine go_heard (d := .lst [.tup [.int 1, .lst []]]) (.lst (sqL_of upd_same) (.cons (.tup (sqT_of (t3 _ _ upd_same)) (.cons (.int 1) (.cons (.lst (sqL_of ((t2.trans t3) _ _ upd_same)) .nil) .nil))) .nil)) (sm_ok _ g1) (fun _ => g1) fun H5 s5 => ?_
      rw [w1, if_pos rfl]
      refine ⟨by decide, fun b1 m1 => ⟨by decide, fun b2 m2 => ⟨by decide, fun b3 m3 => ⟨by decide, fun b4 m4 => ?_⟩⟩⟩⟩
      have u2 := same_upd (o := .lst [.ref b1]) m2
      have u3 := same_upd (o := .tup [.int 1, .ref b2]) m3
      have u4 := same_upd (o := .lst [.ref b3]) m4
      refine go_heard (d := .lst [.tup [.int 1, .lst [.tup [.str "ann"]]]]) (.lst (sqL_of upd_same) (.cons (.tup (sqT_of (u4 _ _ upd_same)) (.cons (.int 1) (.cons (.lst (sqL_of ((u3.trans u4) _ _ upd_same)) (.cons (.tup (sqT_of (((u2.trans u3).trans u4) _ _ upd_same)) (.cons (.str _) .nil)) .nil)) .nil))) .nil)) (sm_ok _ g2) (fun _ => g2) fun H6 s6 => ?_
      rw [w2]
      exact q _

end
end He

namespace He
open PySem PySem.Spec PyProof.Rows L2
section
variable {P : Program} {w : World} {K : PySem.W.Frag} {mg : Str → Option Value} {base : Heap}
end
theorem kit_tyn {K : PySem.W.Frag} {a : Addr} {T : String} (m : PySem.W.kitMeta T = true) (e : PySem.W.subIn K (.ref a) (.type T) = some false) : PySem.W.kitOne K (.ref a) (.type T) = some false := by
  unfold PySem.W.kitOne
  have z : ¬ ((Value.ref a == Value.type T) = true) := fun z => nomatch (beq_iff_eq.mp z)
  rw [if_neg z]
  show (if PySem.W.kitMeta T = true then PySem.W.subIn K (.ref a) (.type T) else none) = some false
  rw [if_pos m]
  exact e
theorem kit_cls {K : PySem.W.Frag} {a b : Addr} {r : Bool} (i : PySem.W.isClsIn K b = true) (t : PySem.W.typeIn K (.ref b) = some (.type "type")) (e : PySem.W.subIn K (.ref a) (.ref b) = some r) : PySem.W.kitCls K (.ref a) (.ref b) = some r := by
  have i' : (PySem.W.clsIn K b).isSome = true := i
  show (if ((PySem.W.clsIn K b).isSome && PySem.W.typeIn K (.ref b) == some (.type "type")) = true then PySem.W.subIn K (.ref a) (.ref b) else none) = some r
  rw [i', t, if_pos (by rfl)]
  exact e
theorem kit_yes {K : PySem.W.Frag} {a b : Addr} (i : PySem.W.isClsIn K b = true) (t : PySem.W.typeIn K (.ref b) = some (.type "type")) (e : PySem.W.subIn K (.ref a) (.ref b) = some true) : PySem.W.kitOne K (.ref a) (.ref b) = some true := by
  unfold PySem.W.kitOne
  split
  · rfl
  · exact kit_cls i t e
theorem kit_no {K : PySem.W.Frag} {a b : Addr} (h : PySem.W.subIn K (.ref a) (.ref a) = some true) (i : PySem.W.isClsIn K b = true) (t : PySem.W.typeIn K (.ref b) = some (.type "type")) (e : PySem.W.subIn K (.ref a) (.ref b) = some false) : PySem.W.kitOne K (.ref a) (.ref b) = some false := by
  unfold PySem.W.kitOne
  split
  · rename_i z
    have z' := Value.ref.inj (beq_iff_eq.mp z)
    subst z'
    rw [h] at e
    cases e
  · exact kit_cls i t e
set_option maxHeartbeats 0 in
theorem all_mk {l : PySem.W.OpenLaw} {w : World} {K : PySem.W.Frag} {h : Heap} {mg : Str → Option Value} {fa cHeirError cInvalidWill cInvalidFamily cInvalidText cWill f0 f1 f2 f3 f4 f13 f14 f15 f16 f17 f18 f19 f20 f21 f22 f23 f24 f25 f26 f27 f28 f29 f30 f31 f32 f33 f34 f8 f11 f12 f9 rP f5 : Addr} {rRest : List Value} {nmI qI : Str} {NI : Addr} {bsI : List Value} {snI : List Str} {subI : List Value} {abI : Bool} {colI : Option Bool} {ddI : Option Addr} {k0I k1I k2I k3I k5I : Option Value} (X : K.In h) (G : h.Ns mainGlobals mg) (hfa : mg "law" = some (.ref fa))
    {od0 an0 od1 an1 od2 an2 od3 an3 od4 an4 od13 an13 od14 an14 od15 an15 od16 an16 od17 an17 od18 an18 od19 an19 od20 an20 od21 an21 od22 an22 od23 an23 od24 an24 od25 an25 od26 an26 od27 an27 od28 an28 od29 an29 od30 an30 od31 an31 od32 an32 od33 an33 od34 an34 od8 an8 od11 an11 od12 an12 od9 an9 od5 an5 : Option Addr} {sl0 sl1 sl2 sl3 sl4 sl13 sl14 sl15 sl16 sl17 sl18 sl19 sl20 sl21 sl22 sl23 sl24 sl25 sl26 sl27 sl28 sl29 sl30 sl31 sl32 sl33 sl34 sl8 sl11 sl12 sl9 sl5 : Array (Option Value)} {oc0 kV0 dc0 pm0 cd0 ct0 oc1 kV1 dc1 pm1 cd1 ct1 oc2 kV2 dc2 pm2 cd2 ct2 oc3 kV3 dc3 pm3 cd3 ct3 oc4 kV4 dc4 pm4 cd4 ct4 oc13 kV13 dc13 pm13 cd13 ct13 oc14 kV14 dc14 pm14 cd14 ct14 oc15 kV15 dc15 pm15 cd15 ct15 oc16 kV16 dc16 pm16 cd16 ct16 oc17 kV17 dc17 pm17 cd17 ct17 oc18 kV18 dc18 pm18 cd18 ct18 oc19 kV19 dc19 pm19 cd19 ct19 oc20 kV20 dc20 pm20 cd20 ct20 oc21 kV21 dc21 pm21 cd21 ct21 oc22 kV22 dc22 pm22 cd22 ct22 oc23 kV23 dc23 pm23 cd23 ct23 oc24 kV24 dc24 pm24 cd24 ct24 oc25 kV25 dc25 pm25 cd25 ct25 oc26 kV26 dc26 pm26 cd26 ct26 oc27 kV27 dc27 pm27 cd27 ct27 oc28 kV28 dc28 pm28 cd28 ct28 oc29 kV29 dc29 pm29 cd29 ct29 oc30 kV30 dc30 pm30 cd30 ct30 oc31 kV31 dc31 pm31 cd31 ct31 oc32 kV32 dc32 pm32 cd32 ct32 oc33 kV33 dc33 pm33 cd33 ct33 oc34 kV34 dc34 pm34 cd34 ct34 oc8 kV8 dc8 pm8 cd8 ct8 oc11 kV11 dc11 pm11 cd11 ct11 oc12 kV12 dc12 pm12 cd12 ct12 oc9 kV9 dc9 pm9 cd9 ct9 oc5 kV5 dc5 pm5 cd5 ct5 : Value} {t_CROWN t_LONGEST_NAME t_WEIGHT_DIGITS : Tok}
    (gHeirError : PySem.W.nsIn K mainGlobals "HeirError" = some (some (.ref cHeirError)))
    (gInvalidWill : PySem.W.nsIn K mainGlobals "InvalidWill" = some (some (.ref cInvalidWill)))
    (gInvalidFamily : PySem.W.nsIn K mainGlobals "InvalidFamily" = some (some (.ref cInvalidFamily)))
    (gInvalidText : PySem.W.nsIn K mainGlobals "InvalidText" = some (some (.ref cInvalidText)))
    (gWill : PySem.W.nsIn K mainGlobals "Will" = some (some (.ref cWill)))
    (a0 : PySem.W.nsIn K mainGlobals "is_integer" = some (some (.ref f0)))
    (l0 : K.lookup f0 = some ⟨oc0, od0, .func (PySem.W.fnOf "is_integer" "is_integer" (defArgs sDIsInteger) (defBody sDIsInteger) (defScope sDIsInteger) .none kV0 dc0 pm0 an0 cd0 ct0), sl0⟩)
    (c0 : PySem.W.codeIn K cd0 "is_integer" = true)
    (k0 : PySem.W.keepIn K (.ref f0) = true)
    (a1 : PySem.W.nsIn K mainGlobals "is_name" = some (some (.ref f1)))
    (l1 : K.lookup f1 = some ⟨oc1, od1, .func (PySem.W.fnOf "is_name" "is_name" (defArgs sDIsName) (defBody sDIsName) (defScope sDIsName) .none kV1 dc1 pm1 an1 cd1 ct1), sl1⟩)
    (c1 : PySem.W.codeIn K cd1 "is_name" = true)
    (k1 : PySem.W.keepIn K (.ref f1) = true)
    (a2 : PySem.W.nsIn K mainGlobals "is_sequence" = some (some (.ref f2)))
    (l2 : K.lookup f2 = some ⟨oc2, od2, .func (PySem.W.fnOf "is_sequence" "is_sequence" (defArgs sDIsSequence) (defBody sDIsSequence) (defScope sDIsSequence) .none kV2 dc2 pm2 an2 cd2 ct2), sl2⟩)
    (c2 : PySem.W.codeIn K cd2 "is_sequence" = true)
    (k2 : PySem.W.keepIn K (.ref f2) = true)
    (a3 : PySem.W.nsIn K mainGlobals "is_pair" = some (some (.ref f3)))
    (l3 : K.lookup f3 = some ⟨oc3, od3, .func (PySem.W.fnOf "is_pair" "is_pair" (defArgs sDIsPair) (defBody sDIsPair) (defScope sDIsPair) .none kV3 dc3 pm3 an3 cd3 ct3), sl3⟩)
    (c3 : PySem.W.codeIn K cd3 "is_pair" = true)
    (k3 : PySem.W.keepIn K (.ref f3) = true)
    (a4 : PySem.W.nsIn K mainGlobals "read_number" = some (some (.ref f4)))
    (l4 : K.lookup f4 = some ⟨oc4, od4, .func (PySem.W.fnOf "read_number" "read_number" (defArgs sDReadNumber) (defBody sDReadNumber) (defScope sDReadNumber) .none kV4 dc4 pm4 an4 cd4 ct4), sl4⟩)
    (c4 : PySem.W.codeIn K cd4 "read_number" = true)
    (k4 : PySem.W.keepIn K (.ref f4) = true)
    (a13 : PySem.W.nsIn K mainGlobals "_are_shares" = some (some (.ref f13)))
    (l13 : K.lookup f13 = some ⟨oc13, od13, .func (PySem.W.fnOf "_are_shares" "_are_shares" (defArgs sDAreShares) (defBody sDAreShares) (defScope sDAreShares) .none kV13 dc13 pm13 an13 cd13 ct13), sl13⟩)
    (c13 : PySem.W.codeIn K cd13 "_are_shares" = true)
    (k13 : PySem.W.keepIn K (.ref f13) = true)
    (a14 : PySem.W.nsIn K mainGlobals "_is_share" = some (some (.ref f14)))
    (l14 : K.lookup f14 = some ⟨oc14, od14, .func (PySem.W.fnOf "_is_share" "_is_share" (defArgs sDIsShare) (defBody sDIsShare) (defScope sDIsShare) .none kV14 dc14 pm14 an14 cd14 ct14), sl14⟩)
    (c14 : PySem.W.codeIn K cd14 "_is_share" = true)
    (k14 : PySem.W.keepIn K (.ref f14) = true)
    (a15 : PySem.W.nsIn K mainGlobals "_is_group" = some (some (.ref f15)))
    (l15 : K.lookup f15 = some ⟨oc15, od15, .func (PySem.W.fnOf "_is_group" "_is_group" (defArgs sDIsGroup) (defBody sDIsGroup) (defScope sDIsGroup) .none kV15 dc15 pm15 an15 cd15 ct15), sl15⟩)
    (c15 : PySem.W.codeIn K cd15 "_is_group" = true)
    (k15 : PySem.W.keepIn K (.ref f15) = true)
    (a16 : PySem.W.nsIn K mainGlobals "_lots" = some (some (.ref f16)))
    (l16 : K.lookup f16 = some ⟨oc16, od16, .func (PySem.W.fnOf "_lots" "_lots" (defArgs sDLots) (defBody sDLots) (defScope sDLots) .none kV16 dc16 pm16 an16 cd16 ct16), sl16⟩)
    (c16 : PySem.W.codeIn K cd16 "_lots" = true)
    (k16 : PySem.W.keepIn K (.ref f16) = true)
    (a17 : PySem.W.nsIn K mainGlobals "_share_text" = some (some (.ref f17)))
    (l17 : K.lookup f17 = some ⟨oc17, od17, .func (PySem.W.fnOf "_share_text" "_share_text" (defArgs sDShareText) (defBody sDShareText) (defScope sDShareText) .none kV17 dc17 pm17 an17 cd17 ct17), sl17⟩)
    (c17 : PySem.W.codeIn K cd17 "_share_text" = true)
    (k17 : PySem.W.keepIn K (.ref f17) = true)
    (a18 : PySem.W.nsIn K mainGlobals "_read_share" = some (some (.ref f18)))
    (l18 : K.lookup f18 = some ⟨oc18, od18, .func (PySem.W.fnOf "_read_share" "_read_share" (defArgs sDReadShare) (defBody sDReadShare) (defScope sDReadShare) .none kV18 dc18 pm18 an18 cd18 ct18), sl18⟩)
    (c18 : PySem.W.codeIn K cd18 "_read_share" = true)
    (k18 : PySem.W.keepIn K (.ref f18) = true)
    (a19 : PySem.W.nsIn K mainGlobals "_law_seed" = some (some (.ref f19)))
    (l19 : K.lookup f19 = some ⟨oc19, od19, .func (PySem.W.fnOf "_law_seed" "_law_seed" (defArgs sDLawSeed) (defBody sDLawSeed) (defScope sDLawSeed) .none kV19 dc19 pm19 an19 cd19 ct19), sl19⟩)
    (c19 : PySem.W.codeIn K cd19 "_law_seed" = true)
    (k19 : PySem.W.keepIn K (.ref f19) = true)
    (a20 : PySem.W.nsIn K mainGlobals "_law_choose" = some (some (.ref f20)))
    (l20 : K.lookup f20 = some ⟨oc20, od20, .func (PySem.W.fnOf "_law_choose" "_law_choose" (defArgs sDLawChoose) (defBody sDLawChoose) (defScope sDLawChoose) .none kV20 dc20 pm20 an20 cd20 ct20), sl20⟩)
    (c20 : PySem.W.codeIn K cd20 "_law_choose" = true)
    (k20 : PySem.W.keepIn K (.ref f20) = true)
    (a21 : PySem.W.nsIn K mainGlobals "_law_one_of" = some (some (.ref f21)))
    (l21 : K.lookup f21 = some ⟨oc21, od21, .func (PySem.W.fnOf "_law_one_of" "_law_one_of" (defArgs sDLawOneOf) (defBody sDLawOneOf) (defScope sDLawOneOf) .none kV21 dc21 pm21 an21 cd21 ct21), sl21⟩)
    (c21 : PySem.W.codeIn K cd21 "_law_one_of" = true)
    (k21 : PySem.W.keepIn K (.ref f21) = true)
    (a22 : PySem.W.nsIn K mainGlobals "_law_mixed" = some (some (.ref f22)))
    (l22 : K.lookup f22 = some ⟨oc22, od22, .func (PySem.W.fnOf "_law_mixed" "_law_mixed" (defArgs sDLawMixed) (defBody sDLawMixed) (defScope sDLawMixed) .none kV22 dc22 pm22 an22 cd22 ct22), sl22⟩)
    (c22 : PySem.W.codeIn K cd22 "_law_mixed" = true)
    (k22 : PySem.W.keepIn K (.ref f22) = true)
    (a23 : PySem.W.nsIn K mainGlobals "_law_names" = some (some (.ref f23)))
    (l23 : K.lookup f23 = some ⟨oc23, od23, .func (PySem.W.fnOf "_law_names" "_law_names" (defArgs sDLawNames) (defBody sDLawNames) (defScope sDLawNames) .none kV23 dc23 pm23 an23 cd23 ct23), sl23⟩)
    (c23 : PySem.W.codeIn K cd23 "_law_names" = true)
    (k23 : PySem.W.keepIn K (.ref f23) = true)
    (a24 : PySem.W.nsIn K mainGlobals "_law_group" = some (some (.ref f24)))
    (l24 : K.lookup f24 = some ⟨oc24, od24, .func (PySem.W.fnOf "_law_group" "_law_group" (defArgs sDLawGroup) (defBody sDLawGroup) (defScope sDLawGroup) .none kV24 dc24 pm24 an24 cd24 ct24), sl24⟩)
    (c24 : PySem.W.codeIn K cd24 "_law_group" = true)
    (k24 : PySem.W.keepIn K (.ref f24) = true)
    (a25 : PySem.W.nsIn K mainGlobals "_law_will" = some (some (.ref f25)))
    (l25 : K.lookup f25 = some ⟨oc25, od25, .func (PySem.W.fnOf "_law_will" "_law_will" (defArgs sDLawWill) (defBody sDLawWill) (defScope sDLawWill) .none kV25 dc25 pm25 an25 cd25 ct25), sl25⟩)
    (c25 : PySem.W.codeIn K cd25 "_law_will" = true)
    (k25 : PySem.W.keepIn K (.ref f25) = true)
    (a26 : PySem.W.nsIn K mainGlobals "_law_leaf" = some (some (.ref f26)))
    (l26 : K.lookup f26 = some ⟨oc26, od26, .func (PySem.W.fnOf "_law_leaf" "_law_leaf" (defArgs sDLawLeaf) (defBody sDLawLeaf) (defScope sDLawLeaf) .none kV26 dc26 pm26 an26 cd26 ct26), sl26⟩)
    (c26 : PySem.W.codeIn K cd26 "_law_leaf" = true)
    (k26 : PySem.W.keepIn K (.ref f26) = true)
    (a27 : PySem.W.nsIn K mainGlobals "_law_any" = some (some (.ref f27)))
    (l27 : K.lookup f27 = some ⟨oc27, od27, .func (PySem.W.fnOf "_law_any" "_law_any" (defArgs sDLawAny) (defBody sDLawAny) (defScope sDLawAny) .none kV27 dc27 pm27 an27 cd27 ct27), sl27⟩)
    (c27 : PySem.W.codeIn K cd27 "_law_any" = true)
    (k27 : PySem.W.keepIn K (.ref f27) = true)
    (a28 : PySem.W.nsIn K mainGlobals "_law_is_title" = some (some (.ref f28)))
    (l28 : K.lookup f28 = some ⟨oc28, od28, .func (PySem.W.fnOf "_law_is_title" "_law_is_title" (defArgs sDLawIsTitle) (defBody sDLawIsTitle) (defScope sDLawIsTitle) .none kV28 dc28 pm28 an28 cd28 ct28), sl28⟩)
    (c28 : PySem.W.codeIn K cd28 "_law_is_title" = true)
    (k28 : PySem.W.keepIn K (.ref f28) = true)
    (a29 : PySem.W.nsIn K mainGlobals "_law_is_group" = some (some (.ref f29)))
    (l29 : K.lookup f29 = some ⟨oc29, od29, .func (PySem.W.fnOf "_law_is_group" "_law_is_group" (defArgs sDLawIsGroup) (defBody sDLawIsGroup) (defScope sDLawIsGroup) .none kV29 dc29 pm29 an29 cd29 ct29), sl29⟩)
    (c29 : PySem.W.codeIn K cd29 "_law_is_group" = true)
    (k29 : PySem.W.keepIn K (.ref f29) = true)
    (a30 : PySem.W.nsIn K mainGlobals "_law_is_share" = some (some (.ref f30)))
    (l30 : K.lookup f30 = some ⟨oc30, od30, .func (PySem.W.fnOf "_law_is_share" "_law_is_share" (defArgs sDLawIsShare) (defBody sDLawIsShare) (defScope sDLawIsShare) .none kV30 dc30 pm30 an30 cd30 ct30), sl30⟩)
    (c30 : PySem.W.codeIn K cd30 "_law_is_share" = true)
    (k30 : PySem.W.keepIn K (.ref f30) = true)
    (a31 : PySem.W.nsIn K mainGlobals "_law_is_right" = some (some (.ref f31)))
    (l31 : K.lookup f31 = some ⟨oc31, od31, .func (PySem.W.fnOf "_law_is_right" "_law_is_right" (defArgs sDLawIsRight) (defBody sDLawIsRight) (defScope sDLawIsRight) .none kV31 dc31 pm31 an31 cd31 ct31), sl31⟩)
    (c31 : PySem.W.codeIn K cd31 "_law_is_right" = true)
    (k31 : PySem.W.keepIn K (.ref f31) = true)
    (a32 : PySem.W.nsIn K mainGlobals "_law_heard" = some (some (.ref f32)))
    (l32 : K.lookup f32 = some ⟨oc32, od32, .func (PySem.W.fnOf "_law_heard" "_law_heard" (defArgs sDLawHeard) (defBody sDLawHeard) (defScope sDLawHeard) .none kV32 dc32 pm32 an32 cd32 ct32), sl32⟩)
    (c32 : PySem.W.codeIn K cd32 "_law_heard" = true)
    (k32 : PySem.W.keepIn K (.ref f32) = true)
    (a33 : PySem.W.nsIn K mainGlobals "_law_bent" = some (some (.ref f33)))
    (l33 : K.lookup f33 = some ⟨oc33, od33, .func (PySem.W.fnOf "_law_bent" "_law_bent" (defArgs sDLawBent) (defBody sDLawBent) (defScope sDLawBent) .none kV33 dc33 pm33 an33 cd33 ct33), sl33⟩)
    (c33 : PySem.W.codeIn K cd33 "_law_bent" = true)
    (k33 : PySem.W.keepIn K (.ref f33) = true)
    (a34 : PySem.W.nsIn K mainGlobals "law" = some (some (.ref f34)))
    (l34 : K.lookup f34 = some ⟨oc34, od34, .func (PySem.W.fnOf "law" "law" (defArgs sDLaw) (defBody sDLaw) (defScope sDLaw) .none kV34 dc34 pm34 an34 cd34 ct34), sl34⟩)
    (c34 : PySem.W.codeIn K cd34 "law" = true)
    (k34 : PySem.W.keepIn K (.ref f34) = true)
    (z_abs : PySem.W.nsIn K mainGlobals "abs" = some none)
    (z_all : PySem.W.nsIn K mainGlobals "all" = some none)
    (z_bool : PySem.W.nsIn K mainGlobals "bool" = some none)
    (z_classmethod : PySem.W.nsIn K mainGlobals "classmethod" = some none)
    (z_enumerate : PySem.W.nsIn K mainGlobals "enumerate" = some none)
    (z_int : PySem.W.nsIn K mainGlobals "int" = some none)
    (z_isinstance : PySem.W.nsIn K mainGlobals "isinstance" = some none)
    (z_len : PySem.W.nsIn K mainGlobals "len" = some none)
    (z_list : PySem.W.nsIn K mainGlobals "list" = some none)
    (z_max : PySem.W.nsIn K mainGlobals "max" = some none)
    (z_min : PySem.W.nsIn K mainGlobals "min" = some none)
    (z_range : PySem.W.nsIn K mainGlobals "range" = some none)
    (z_set : PySem.W.nsIn K mainGlobals "set" = some none)
    (z_sorted : PySem.W.nsIn K mainGlobals "sorted" = some none)
    (z_str : PySem.W.nsIn K mainGlobals "str" = some none)
    (z_tuple : PySem.W.nsIn K mainGlobals "tuple" = some none)
    (q_CROWN : PySem.W.nsIn K mainGlobals "CROWN" = some (some (.str "crown" t_CROWN)))
    (q_LONGEST_NAME : PySem.W.nsIn K mainGlobals "LONGEST_NAME" = some (some (.int 5 t_LONGEST_NAME)))
    (q_WEIGHT_DIGITS : PySem.W.nsIn K mainGlobals "WEIGHT_DIGITS" = some (some (.int 6 t_WEIGHT_DIGITS)))
    (a8 : PySem.W.findIn K (.ref cWill) "__init__" = some (some (.ref f8)))
    (i8 : PySem.W.isFn K (.ref f8) = true)
    (l8 : K.lookup f8 = some ⟨oc8, od8, .func (PySem.W.fnOf "__init__" "Will.__init__" (defArgs sDWillInit) (defBody sDWillInit) (defScope sDWillInit) .none kV8 dc8 pm8 an8 cd8 ct8), sl8⟩)
    (c8 : PySem.W.codeIn K cd8 "Will.__init__" = true)
    (k8 : PySem.W.keepIn K (.ref f8) = true)
    (a11 : PySem.W.findIn K (.ref cWill) "__eq__" = some (some (.ref f11)))
    (i11 : PySem.W.isFn K (.ref f11) = true)
    (l11 : K.lookup f11 = some ⟨oc11, od11, .func (PySem.W.fnOf "__eq__" "Will.__eq__" (defArgs sDWillEq) (defBody sDWillEq) (defScope sDWillEq) .none kV11 dc11 pm11 an11 cd11 ct11), sl11⟩)
    (c11 : PySem.W.codeIn K cd11 "Will.__eq__" = true)
    (k11 : PySem.W.keepIn K (.ref f11) = true)
    (a12 : PySem.W.findIn K (.ref cWill) "__str__" = some (some (.ref f12)))
    (i12 : PySem.W.isFn K (.ref f12) = true)
    (l12 : K.lookup f12 = some ⟨oc12, od12, .func (PySem.W.fnOf "__str__" "Will.__str__" (defArgs sDWillStr) (defBody sDWillStr) (defScope sDWillStr) .none kV12 dc12 pm12 an12 cd12 ct12), sl12⟩)
    (c12 : PySem.W.codeIn K cd12 "Will.__str__" = true)
    (k12 : PySem.W.keepIn K (.ref f12) = true)
    (rAt : PySem.W.findCls K (.ref cWill) (.type "type") "read" = some (.get (.builtin "classmethod.__get__") (.ref rP) .none (.ref cWill)))
    (rRc : PySem.W.recIn K rP "classmethod" = some (.ref f9 :: rRest))
    (rFi : PySem.W.fnIn K f9 = true)
    (l9 : K.lookup f9 = some ⟨oc9, od9, .func (PySem.W.fnOf "read" "Will.read" (defArgs sDWillRead) (defBody sDWillRead) (defScope sDWillRead) .none kV9 dc9 pm9 an9 cd9 ct9), sl9⟩)
    (c9 : PySem.W.codeIn K cd9 "Will.read" = true)
    (k9 : PySem.W.keepIn K (.ref f9) = true)
    (rRd : PySem.W.readsIn K cWill (.type "type") = true)
    (rGa : PySem.W.specialIn K (.ref cWill) "__getattribute__" = some (some (.builtin "type.__getattribute__")))
    (pg : PySem.W.plainGet K cWill Str.empty = true)
    (hd : PySem.W.hasDictIn K cWill = true)
    (po : PySem.W.plainOver K cWill = true)
    (sa : PySem.W.findIn K (.ref cWill) "__setattr__" = some (some (.builtin "object.__setattr__")))
    (nS : PySem.W.findIn K (.ref cWill) "shares" = some none)
    (mk : PySem.W.makesIn K cWill = true)
    (kc : PySem.W.keepIn K (.ref cWill) = true)
    (oNe : PySem.W.findIn K (.ref cWill) "__ne__" = some (some (.builtin "object.__ne__")))
    (oOb : PySem.W.mroIn K cWill (.type "object") = some true)
    (kCl : PySem.W.findIn K (.ref cWill) "__class__" = some (some (.builtin "object.__class__")))
    (kGt : PySem.W.specialIn K (.builtin "object.__class__") "__get__" = some (some (.builtin "getset_descriptor.__get__")))
    (kTk : PySem.W.takesIn K (.builtin "object.__class__") = some true)
    (xL : K.lookup cInvalidWill = some (excClassObj nmI qI cInvalidWill NI bsI [.ref cHeirError, .type "ValueError", .type "Exception", .type "BaseException", .type "object"] true snI subI abI colI ddI k0I k1I k2I k3I k5I "ValueError.__new__"))
    (xsa : PySem.W.findIn K (.ref cInvalidWill) "__setattr__" = some (some (.builtin "object.__setattr__")))
    (xga : PySem.W.findIn K (.ref cInvalidWill) "__getattribute__" = some (some (.builtin "BaseException.__getattribute__")))
    (xgg : PySem.W.findIn K (.ref cInvalidWill) "__getattr__" = some none)
    (xno : PySem.W.findIn K (.ref cInvalidWill) "word" = some none)
    (xi : PySem.W.findIn K (.ref cInvalidWill) "__init__" = some (some (.ref f5)))
    (xt : PySem.W.typeIn K (.ref f5) = some (.type "function"))
    (l5 : K.lookup f5 = some ⟨oc5, od5, .func (PySem.W.fnOf "__init__" "InvalidWill.__init__" (defArgs sDInvalidWillInit) (defBody sDInvalidWillInit) (defScope sDInvalidWillInit) .none kV5 dc5 pm5 an5 cd5 ct5), sl5⟩)
    (c5 : PySem.W.codeIn K cd5 "InvalidWill.__init__" = true)
    (k5 : PySem.W.keepIn K (.ref f5) = true)
    (xkC : PySem.W.keepIn K (.ref cInvalidWill) = true)
    (xeC : PySem.W.subIn K (.ref cInvalidWill) (.type "BaseException") = some true)
    (xtC : PySem.W.typeIn K (.ref cInvalidWill) = some (.type "type"))
    (xhC : PySem.W.hasDictIn K cInvalidWill = true)
    (xsC : PySem.W.subIn K (.ref cInvalidWill) (.ref cInvalidWill) = some true)
    (xcl : PySem.W.findIn K (.ref cInvalidWill) "__class__" = some (some (.builtin "object.__class__")))
    (xmo : PySem.W.mroIn K cInvalidWill (.type "object") = some true)
    (xb1 : PySem.W.isClsIn K cHeirError = true)
    (xy1 : PySem.W.typeIn K (.ref cHeirError) = some (.type "type"))
    (xs1 : PySem.W.subIn K (.ref cInvalidWill) (.ref cHeirError) = some true)
    (xb2 : PySem.W.isClsIn K cInvalidFamily = true)
    (xy2 : PySem.W.typeIn K (.ref cInvalidFamily) = some (.type "type"))
    (xs2 : PySem.W.subIn K (.ref cInvalidWill) (.ref cInvalidFamily) = some false)
    (nb_int : PySem.W.subIn K (.ref cWill) (.type "int") = some false)
    (nb_str : PySem.W.subIn K (.ref cWill) (.type "str") = some false)
    (nb_list : PySem.W.subIn K (.ref cWill) (.type "list") = some false)
    (nb_tuple : PySem.W.subIn K (.ref cWill) (.type "tuple") = some false)
    (nb_bool : PySem.W.subIn K (.ref cWill) (.type "bool") = some false)
    : ∃ fd : FuncData, (∀ (s : Shared) (v : Value), BindsTo s fd ⟨[v], []⟩ [("_law_script", v)]) ∧ ∀ base : Heap, K.In base → base.Ns mainGlobals mg → FnOk l.prog w K mg base CX0 16 fa fd ["_law_script"] (spLaw K) := by
  have e := hfa.symm.trans (PySem.W.mg_of X G a34)
  cases e
  have F0 := fun_mk (st := sDIsInteger) l0 c0 k0
  have b0 := F0.binds (ps := ["value"]) fun _ _ _ _ _ _ us hl => match us, hl with | [_], _ => rfl
  have F1 := fun_mk (st := sDIsName) l1 c1 k1
  have b1 := F1.binds (ps := ["value"]) fun _ _ _ _ _ _ us hl => match us, hl with | [_], _ => rfl
  have F2 := fun_mk (st := sDIsSequence) l2 c2 k2
  have b2 := F2.binds (ps := ["value"]) fun _ _ _ _ _ _ us hl => match us, hl with | [_], _ => rfl
  have F3 := fun_mk (st := sDIsPair) l3 c3 k3
  have b3 := F3.binds (ps := ["value"]) fun _ _ _ _ _ _ us hl => match us, hl with | [_], _ => rfl
  have F4 := fun_mk (st := sDReadNumber) l4 c4 k4
  have b4 := F4.binds (ps := ["word", "digits"]) fun _ _ _ _ _ _ us hl => match us, hl with | [_, _], _ => rfl
  have F13 := fun_mk (st := sDAreShares) l13 c13 k13
  have b13 := F13.binds (ps := ["value"]) fun _ _ _ _ _ _ us hl => match us, hl with | [_], _ => rfl
  have F14 := fun_mk (st := sDIsShare) l14 c14 k14
  have b14 := F14.binds (ps := ["value"]) fun _ _ _ _ _ _ us hl => match us, hl with | [_], _ => rfl
  have F15 := fun_mk (st := sDIsGroup) l15 c15 k15
  have b15 := F15.binds (ps := ["value"]) fun _ _ _ _ _ _ us hl => match us, hl with | [_], _ => rfl
  have F16 := fun_mk (st := sDLots) l16 c16 k16
  have b16 := F16.binds (ps := ["groups"]) fun _ _ _ _ _ _ us hl => match us, hl with | [_], _ => rfl
  have F17 := fun_mk (st := sDShareText) l17 c17 k17
  have b17 := F17.binds (ps := ["weight", "groups"]) fun _ _ _ _ _ _ us hl => match us, hl with | [_, _], _ => rfl
  have F18 := fun_mk (st := sDReadShare) l18 c18 k18
  have b18 := F18.binds (ps := ["part"]) fun _ _ _ _ _ _ us hl => match us, hl with | [_], _ => rfl
  have F19 := fun_mk (st := sDLawSeed) l19 c19 k19
  have b19 := F19.binds (ps := ["_law_script", "_law_k"]) fun _ _ _ _ _ _ us hl => match us, hl with | [_, _], _ => rfl
  have F20 := fun_mk (st := sDLawChoose) l20 c20 k20
  have b20 := F20.binds (ps := ["_law_box", "_law_many"]) fun _ _ _ _ _ _ us hl => match us, hl with | [_, _], _ => rfl
  have F21 := fun_mk (st := sDLawOneOf) l21 c21 k21
  have b21 := F21.binds (ps := ["_law_box", "_law_some"]) fun _ _ _ _ _ _ us hl => match us, hl with | [_, _], _ => rfl
  have F22 := fun_mk (st := sDLawMixed) l22 c22 k22
  have b22 := F22.binds (ps := ["_law_box", "_law_some"]) fun _ _ _ _ _ _ us hl => match us, hl with | [_, _], _ => rfl
  have F23 := fun_mk (st := sDLawNames) l23 c23 k23
  have b23 := F23.binds (ps := ["_law_box", "_law_many"]) fun _ _ _ _ _ _ us hl => match us, hl with | [_, _], _ => rfl
  have F24 := fun_mk (st := sDLawGroup) l24 c24 k24
  have b24 := F24.binds (ps := ["_law_box", "_law_some"]) fun _ _ _ _ _ _ us hl => match us, hl with | [_, _], _ => rfl
  have F25 := fun_mk (st := sDLawWill) l25 c25 k25
  have b25 := F25.binds (ps := ["_law_box", "_law_others"]) fun _ _ _ _ _ _ us hl => match us, hl with | [_, _], _ => rfl
  have F26 := fun_mk (st := sDLawLeaf) l26 c26 k26
  have b26 := F26.binds (ps := ["_law_box"]) fun _ _ _ _ _ _ us hl => match us, hl with | [_], _ => rfl
  have F27 := fun_mk (st := sDLawAny) l27 c27 k27
  have b27 := F27.binds (ps := ["_law_box", "_law_deep"]) fun _ _ _ _ _ _ us hl => match us, hl with | [_, _], _ => rfl
  have F28 := fun_mk (st := sDLawIsTitle) l28 c28 k28
  have b28 := F28.binds (ps := ["_law_value"]) fun _ _ _ _ _ _ us hl => match us, hl with | [_], _ => rfl
  have F29 := fun_mk (st := sDLawIsGroup) l29 c29 k29
  have b29 := F29.binds (ps := ["_law_value"]) fun _ _ _ _ _ _ us hl => match us, hl with | [_], _ => rfl
  have F30 := fun_mk (st := sDLawIsShare) l30 c30 k30
  have b30 := F30.binds (ps := ["_law_value"]) fun _ _ _ _ _ _ us hl => match us, hl with | [_], _ => rfl
  have F31 := fun_mk (st := sDLawIsRight) l31 c31 k31
  have b31 := F31.binds (ps := ["_law_value"]) fun _ _ _ _ _ _ us hl => match us, hl with | [_], _ => rfl
  have F32 := fun_mk (st := sDLawHeard) l32 c32 k32
  have b32 := F32.binds (ps := ["_law_value"]) fun _ _ _ _ _ _ us hl => match us, hl with | [_], _ => rfl
  have F33 := fun_mk (st := sDLawBent) l33 c33 k33
  have b33 := F33.binds (ps := ["_law_box", "_law_will_here"]) fun _ _ _ _ _ _ us hl => match us, hl with | [_, _], _ => rfl
  have F34 := fun_mk (st := sDLaw) l34 c34 k34
  have b34 := F34.binds (ps := ["_law_script"]) fun _ _ _ _ _ _ us hl => match us, hl with | [_], _ => rfl
  have F8 := fun_mk (st := sDWillInit) l8 c8 k8
  have b8 := F8.binds (ps := ["self", "shares"]) fun _ _ _ _ _ _ us hl => match us, hl with | [_, _], _ => rfl
  have F11 := fun_mk (st := sDWillEq) l11 c11 k11
  have b11 := F11.binds (ps := ["self", "other"]) fun _ _ _ _ _ _ us hl => match us, hl with | [_, _], _ => rfl
  have F12 := fun_mk (st := sDWillStr) l12 c12 k12
  have b12 := F12.binds (ps := ["self"]) fun _ _ _ _ _ _ us hl => match us, hl with | [_], _ => rfl
  have F9 := fun_mk (st := sDWillRead) l9 c9 k9
  have b9 := F9.binds (ps := ["cls", "text"]) fun _ _ _ _ _ _ us hl => match us, hl with | [_, _], _ => rfl
  have F5 := fun_mk (st := sDInvalidWillInit) l5 c5 k5
  have b5 := F5.binds (ps := ["self", "word"]) fun _ _ _ _ _ _ us hl => match us, hl with | [_, _], _ => rfl
  exact ⟨PySem.W.fnOf "law" "law" (defArgs sDLaw) (defBody sDLaw) (defScope sDLaw) .none kV34 dc34 pm34 an34 cd34 ct34, fun s v => .of_eq rfl, fun base _ _ => ok_law (K := K) (mg := mg) ⟨⟨⟨⟨cHeirError, (PySem.W.mg_of X G gHeirError), cInvalidWill, (PySem.W.mg_of X G gInvalidWill), cInvalidFamily, (PySem.W.mg_of X G gInvalidFamily), cInvalidText, (PySem.W.mg_of X G gInvalidText), cWill, (PySem.W.mg_of X G gWill), ⟨f0, _, F0, b0, PySem.W.mg_of X G a0⟩, ⟨f1, _, F1, b1, PySem.W.mg_of X G a1⟩, ⟨f2, _, F2, b2, PySem.W.mg_of X G a2⟩, ⟨f3, _, F3, b3, PySem.W.mg_of X G a3⟩, ⟨f4, _, F4, b4, PySem.W.mg_of X G a4⟩, ⟨f13, _, F13, b13, PySem.W.mg_of X G a13⟩, ⟨f14, _, F14, b14, PySem.W.mg_of X G a14⟩, ⟨f15, _, F15, b15, PySem.W.mg_of X G a15⟩, ⟨f16, _, F16, b16, PySem.W.mg_of X G a16⟩, ⟨f17, _, F17, b17, PySem.W.mg_of X G a17⟩, ⟨f18, _, F18, b18, PySem.W.mg_of X G a18⟩, ⟨f19, _, F19, b19, PySem.W.mg_of X G a19⟩, ⟨f20, _, F20, b20, PySem.W.mg_of X G a20⟩, ⟨f21, _, F21, b21, PySem.W.mg_of X G a21⟩, ⟨f22, _, F22, b22, PySem.W.mg_of X G a22⟩, ⟨f23, _, F23, b23, PySem.W.mg_of X G a23⟩, ⟨f24, _, F24, b24, PySem.W.mg_of X G a24⟩, ⟨f25, _, F25, b25, PySem.W.mg_of X G a25⟩, ⟨f26, _, F26, b26, PySem.W.mg_of X G a26⟩, ⟨f27, _, F27, b27, PySem.W.mg_of X G a27⟩, ⟨f28, _, F28, b28, PySem.W.mg_of X G a28⟩, ⟨f29, _, F29, b29, PySem.W.mg_of X G a29⟩, ⟨f30, _, F30, b30, PySem.W.mg_of X G a30⟩, ⟨f31, _, F31, b31, PySem.W.mg_of X G a31⟩, ⟨f32, _, F32, b32, PySem.W.mg_of X G a32⟩, ⟨f33, _, F33, b33, PySem.W.mg_of X G a33⟩, ⟨fa, _, F34, b34, PySem.W.mg_of X G a34⟩, (PySem.W.mg_none_of X G z_abs), (PySem.W.mg_none_of X G z_all), (PySem.W.mg_none_of X G z_bool), (PySem.W.mg_none_of X G z_classmethod), (PySem.W.mg_none_of X G z_enumerate), (PySem.W.mg_none_of X G z_int), (PySem.W.mg_none_of X G z_isinstance), (PySem.W.mg_none_of X G z_len), (PySem.W.mg_none_of X G z_list), (PySem.W.mg_none_of X G z_max), (PySem.W.mg_none_of X G z_min), (PySem.W.mg_none_of X G z_range), (PySem.W.mg_none_of X G z_set), (PySem.W.mg_none_of X G z_sorted), (PySem.W.mg_none_of X G z_str), (PySem.W.mg_none_of X G z_tuple), ⟨_, PySem.W.mg_of X G q_CROWN⟩, ⟨_, PySem.W.mg_of X G q_LONGEST_NAME⟩, ⟨_, PySem.W.mg_of X G q_WEIGHT_DIGITS⟩⟩, ⟨pg, hd, po, sa⟩, nS, f8, _, F8, b8, ⟨mk, a8, i8, kc⟩, f11, _, F11, b11, f12, _, F12, b12, ⟨oNe, oOb, a11, i11, a12, i12⟩, rP, (.type "type"), f9, _, F9, b9, ⟨rRd, rGa⟩, ⟨rAt, ⟨_, rRc⟩, rFi⟩, (fun e => .ins e ⟨pg, hd, po, sa⟩ kCl kGt kTk oOb), (if_pos (beq_iff_eq.mpr rfl))⟩, ⟨⟨nmI, qI, NI, bsI, _, snI, subI, abI, colI, ddI, k0I, k1I, k2I, k3I, k5I, xL, by first | rfl | decide⟩, xsa, xeC, xtC, xkC⟩, f5, _, F5, b5, xi, xt, xno, ⟨xga, xgg, xeC, xhC⟩, PySem.W.exm_ref xeC xhC xtC xsC, ⟨xga, xgg, xeC, xhC, xcl, kGt, kTk, xmo⟩, (kit_yes xb1 xy1 xs1), (kit_no xsC xb2 xy2 xs2)⟩, ⟨kit_tyn (by decide +kernel) nb_int, kit_tyn (by decide +kernel) nb_str, kit_tyn (by decide +kernel) nb_list, kit_tyn (by decide +kernel) nb_tuple, kit_tyn (by decide +kernel) nb_bool⟩⟩⟩
end He
open PySem PySem.W PyProof.Rows
set_option maxHeartbeats 0 in
theorem PySem.Challenge.cw_heirorders_k03_wills_refused_holds : PySem.Challenge.rw_heirorders_k03_wills_refused.Holds := by
  w_on; o_law; k_head; (case hw => w_witness2)
  k_fill
  refine L2.walk_of (l := PySem.Challenge.rw_heirorders_k03_wills_refused) (n := 63) (k := 16) (x := "_law_script") (CX := fun _ => L2.CX0) (sp := fun w => He.spLaw _) rfl (by decide) rfl ⟨rfl, by decide, by decide⟩ (fun w h Y => PySem.W.kIn_of Y) ?F (fun _ _ a ns hl _ hS => ⟨a, ns, rfl, hS, hl, fun _ => rfl⟩) (fun _ _ _ _ _ h => h)
  case F =>
    intro w mg fa h KX G hmg
    refine' He.all_mk KX G hmg ?gHeirError ?gInvalidWill ?gInvalidFamily ?gInvalidText ?gWill ?a0 ?l0 ?c0 ?k0 ?a1 ?l1 ?c1 ?k1 ?a2 ?l2 ?c2 ?k2 ?a3 ?l3 ?c3 ?k3 ?a4 ?l4 ?c4 ?k4 ?a13 ?l13 ?c13 ?k13 ?a14 ?l14 ?c14 ?k14 ?a15 ?l15 ?c15 ?k15 ?a16 ?l16 ?c16 ?k16 ?a17 ?l17 ?c17 ?k17 ?a18 ?l18 ?c18 ?k18 ?a19 ?l19 ?c19 ?k19 ?a20 ?l20 ?c20 ?k20 ?a21 ?l21 ?c21 ?k21 ?a22 ?l22 ?c22 ?k22 ?a23 ?l23 ?c23 ?k23 ?a24 ?l24 ?c24 ?k24 ?a25 ?l25 ?c25 ?k25 ?a26 ?l26 ?c26 ?k26 ?a27 ?l27 ?c27 ?k27 ?a28 ?l28 ?c28 ?k28 ?a29 ?l29 ?c29 ?k29 ?a30 ?l30 ?c30 ?k30 ?a31 ?l31 ?c31 ?k31 ?a32 ?l32 ?c32 ?k32 ?a33 ?l33 ?c33 ?k33 ?a34 ?l34 ?c34 ?k34 ?z_abs ?z_all ?z_bool ?z_classmethod ?z_enumerate ?z_int ?z_isinstance ?z_len ?z_list ?z_max ?z_min ?z_range ?z_set ?z_sorted ?z_str ?z_tuple ?q_CROWN ?q_LONGEST_NAME ?q_WEIGHT_DIGITS ?a8 ?i8 ?l8 ?c8 ?k8 ?a11 ?i11 ?l11 ?c11 ?k11 ?a12 ?i12 ?l12 ?c12 ?k12 ?rAt ?rRc ?rFi ?l9 ?c9 ?k9 ?rRd ?rGa ?pg ?hd ?po ?sa ?nS ?mk ?kc ?oNe ?oOb ?kCl ?kGt ?kTk ?xL ?xsa ?xga ?xgg ?xno ?xi ?xt ?l5 ?c5 ?k5 ?xkC ?xeC ?xtC ?xhC ?xsC ?xcl ?xmo ?xb1 ?xy1 ?xs1 ?xb2 ?xy2 ?xs2 ?nb_int ?nb_str ?nb_list ?nb_tuple ?nb_bool
    (case gHeirError => k_is)
    (case gInvalidWill => k_is)
    (case gInvalidFamily => k_is)
    (case gInvalidText => k_is)
    (case gWill => k_is)
    (case a0 => k_is)
    (case l0 => k_is)
    (case c0 => k_is)
    (case k0 => k_is)
    (case a1 => k_is)
    (case l1 => k_is)
    (case c1 => k_is)
    (case k1 => k_is)
    (case a2 => k_is)
    (case l2 => k_is)
    (case c2 => k_is)
    (case k2 => k_is)
    (case a3 => k_is)
    (case l3 => k_is)
    (case c3 => k_is)
    (case k3 => k_is)
    (case a4 => k_is)
    (case l4 => k_is)
    (case c4 => k_is)
    (case k4 => k_is)
    (case a13 => k_is)
    (case l13 => k_is)
    (case c13 => k_is)
    (case k13 => k_is)
    (case a14 => k_is)
    (case l14 => k_is)
    (case c14 => k_is)
    (case k14 => k_is)
    (case a15 => k_is)
    (case l15 => k_is)
    (case c15 => k_is)
    (case k15 => k_is)
    (case a16 => k_is)
    (case l16 => k_is)
    (case c16 => k_is)
    (case k16 => k_is)
    (case a17 => k_is)
    (case l17 => k_is)
    (case c17 => k_is)
    (case k17 => k_is)
    (case a18 => k_is)
    (case l18 => k_is)
    (case c18 => k_is)
    (case k18 => k_is)
    (case a19 => k_is)
    (case l19 => k_is)
    (case c19 => k_is)
    (case k19 => k_is)
    (case a20 => k_is)
    (case l20 => k_is)
    (case c20 => k_is)
    (case k20 => k_is)
    (case a21 => k_is)
    (case l21 => k_is)
    (case c21 => k_is)
    (case k21 => k_is)
    (case a22 => k_is)
    (case l22 => k_is)
    (case c22 => k_is)
    (case k22 => k_is)
    (case a23 => k_is)
    (case l23 => k_is)
    (case c23 => k_is)
    (case k23 => k_is)
    (case a24 => k_is)
    (case l24 => k_is)
    (case c24 => k_is)
    (case k24 => k_is)
    (case a25 => k_is)
    (case l25 => k_is)
    (case c25 => k_is)
    (case k25 => k_is)
    (case a26 => k_is)
    (case l26 => k_is)
    (case c26 => k_is)
    (case k26 => k_is)
    (case a27 => k_is)
    (case l27 => k_is)
    (case c27 => k_is)
    (case k27 => k_is)
    (case a28 => k_is)
    (case l28 => k_is)
    (case c28 => k_is)
    (case k28 => k_is)
    (case a29 => k_is)
    (case l29 => k_is)
    (case c29 => k_is)
    (case k29 => k_is)
    (case a30 => k_is)
    (case l30 => k_is)
    (case c30 => k_is)
    (case k30 => k_is)
    (case a31 => k_is)
    (case l31 => k_is)
    (case c31 => k_is)
    (case k31 => k_is)
    (case a32 => k_is)
    (case l32 => k_is)
    (case c32 => k_is)
    (case k32 => k_is)
    (case a33 => k_is)
    (case l33 => k_is)
    (case c33 => k_is)
    (case k33 => k_is)
    (case a34 => k_is)
    (case l34 => k_is)
    (case c34 => k_is)
    (case k34 => k_is)
    (case z_abs => k_is)
    (case z_all => k_is)
    (case z_bool => k_is)
    (case z_classmethod => k_is)
    (case z_enumerate => k_is)
    (case z_int => k_is)
    (case z_isinstance => k_is)
    (case z_len => k_is)
    (case z_list => k_is)
    (case z_max => k_is)
    (case z_min => k_is)
    (case z_range => k_is)
    (case z_set => k_is)
    (case z_sorted => k_is)
    (case z_str => k_is)
    (case z_tuple => k_is)
    (case q_CROWN => k_is)
    (case q_LONGEST_NAME => k_is)
    (case q_WEIGHT_DIGITS => k_is)
    (case a8 => k_is)
    (case i8 => k_is)
    (case l8 => k_is)
    (case c8 => k_is)
    (case k8 => k_is)
    (case a11 => k_is)
    (case i11 => k_is)
    (case l11 => k_is)
    (case c11 => k_is)
    (case k11 => k_is)
    (case a12 => k_is)
    (case i12 => k_is)
    (case l12 => k_is)
    (case c12 => k_is)
    (case k12 => k_is)
    (case rAt => k_is)
    (case rRc => k_is)
    (case rFi => k_is)
    (case l9 => k_is)
    (case c9 => k_is)
    (case k9 => k_is)
    (case rRd => k_is)
    (case rGa => k_is)
    (case pg => k_is)
    (case hd => k_is)
    (case po => k_is)
    (case sa => k_is)
    (case nS => k_is)
    (case mk => k_is)
    (case kc => k_is)
    (case oNe => k_is)
    (case oOb => k_is)
    (case kCl => k_is)
    (case kGt => k_is)
    (case kTk => k_is)
    (case xL => k_is)
    (case xsa => k_is)
    (case xga => k_is)
    (case xgg => k_is)
    (case xno => k_is)
    (case xi => k_is)
    (case xt => k_is)
    (case l5 => k_is)
    (case c5 => k_is)
    (case k5 => k_is)
    (case xkC => k_is)
    (case xeC => k_is)
    (case xtC => k_is)
    (case xhC => k_is)
    (case xsC => k_is)
    (case xcl => k_is)
    (case xmo => k_is)
    (case xb1 => k_is)
    (case xy1 => k_is)
    (case xs1 => k_is)
    (case xb2 => k_is)
    (case xy2 => k_is)
    (case xs2 => k_is)
    (case nb_int => k_is)
    (case nb_str => k_is)
    (case nb_list => k_is)
    (case nb_tuple => k_is)
    (case nb_bool => k_is)
#print axioms PySem.Challenge.cw_heirorders_k03_wills_refused_holds
