import PyProof.Rows.All
import Wide.All
import OpenK.AllK
import Wide.FinOn
import HandS.ForMost
import HandS.StrMore
import HandS.IsInst
import HandS.Codes
import HandS.Strs
import HandS.More
import KE.KCallOwn
import HandS.ClsMeth
import HandS.FStr
import KE.IntTextLaws
import HandS.Walk
import HandS.CallLocal
import HandS.RaiseMore
import HandS.Exc
import HandS.ExcInit
import HandS.ExcField
import HandS.ExcOwn
import HandS.ExcIs
import HandS.WordsExc
import HandS.Text
import KE.KExcIs
import PySem.Challenge.RW_heirorders_k05_texts_of_no_will
set_option Elab.async false
set_option linter.all false
set_option maxRecDepth 100000
set_option maxHeartbeats 4000000
namespace He
open PySem PySem.Spec PyProof.Rows L2
def topS (i : Nat) : Stmt := PySem.Challenge.pw_heirorders_k05_texts_of_no_will.main.body.getD i (.Pass ⟨0, 0, 0, 0⟩)
abbrev sDIsInteger : Stmt := topS 4
abbrev sDIsName : Stmt := topS 5
abbrev sDIsSequence : Stmt := topS 6
abbrev sDIsPair : Stmt := topS 7
abbrev sDReadNumber : Stmt := topS 8
abbrev sDInvalidWillInit : Stmt := inClass (topS 11) 0
abbrev sDInvalidTextInit : Stmt := inClass (topS 12) 0
abbrev sDWillInit : Stmt := inClass (topS 15) 0
abbrev sDWillRead : Stmt := inClass (topS 15) 1
abbrev sDWillLen : Stmt := inClass (topS 15) 4
abbrev sDWillEq : Stmt := inClass (topS 15) 5
abbrev sDWillStr : Stmt := inClass (topS 15) 6
abbrev sDAreShares : Stmt := topS 16
abbrev sDIsShare : Stmt := topS 17
abbrev sDIsGroup : Stmt := topS 18
abbrev sDLots : Stmt := topS 19
abbrev sDShareText : Stmt := topS 20
abbrev sDReadShare : Stmt := topS 21
abbrev sDLawSeed : Stmt := topS 23
abbrev sDLawChoose : Stmt := topS 24
abbrev sDLawOneOf : Stmt := topS 25
abbrev sDLawMixed : Stmt := topS 26
abbrev sDLawNames : Stmt := topS 27
abbrev sDLawGroup : Stmt := topS 28
abbrev sDLawWill : Stmt := topS 29
abbrev sDLawWillText : Stmt := topS 30
abbrev sDLawIsTitle : Stmt := topS 31
abbrev sDLawIsPart : Stmt := topS 32
abbrev sDLawDue : Stmt := topS 33
abbrev sDLawIsWide : Stmt := topS 34
abbrev sDLawHeard : Stmt := topS 35
abbrev sDLawBent : Stmt := topS 36
abbrev sDLaw : Stmt := topS 37
theorem scDIsInteger : FnScope ["value"] ["value"] (defScope sDIsInteger) := ⟨rfl, rfl, rfl, by decide +kernel, rfl, by decide +kernel, by decide +kernel⟩
theorem scDIsName : FnScope ["value"] ["value"] (defScope sDIsName) := ⟨rfl, rfl, rfl, by decide +kernel, rfl, by decide +kernel, by decide +kernel⟩
theorem scDIsSequence : FnScope ["value"] ["value"] (defScope sDIsSequence) := ⟨rfl, rfl, rfl, by decide +kernel, rfl, by decide +kernel, by decide +kernel⟩
theorem scDIsPair : FnScope ["value"] ["value"] (defScope sDIsPair) := ⟨rfl, rfl, rfl, by decide +kernel, rfl, by decide +kernel, by decide +kernel⟩
theorem scDReadNumber : FnScope ["word", "digits"] ["word", "digits"] (defScope sDReadNumber) := ⟨rfl, rfl, rfl, by decide +kernel, rfl, by decide +kernel, by decide +kernel⟩
theorem scDInvalidWillInit : FnScope ["self", "word"] ["self", "word"] (defScope sDInvalidWillInit) := ⟨rfl, rfl, rfl, by decide +kernel, rfl, by decide +kernel, by decide +kernel⟩
theorem scDInvalidTextInit : FnScope ["self", "at"] ["self", "at"] (defScope sDInvalidTextInit) := ⟨rfl, rfl, rfl, by decide +kernel, rfl, by decide +kernel, by decide +kernel⟩
theorem scDWillInit : FnScope ["self", "shares", "weight", "groups"] ["self", "shares"] (defScope sDWillInit) := ⟨rfl, rfl, rfl, by decide +kernel, rfl, by decide +kernel, by decide +kernel⟩
theorem scDWillRead : FnScope ["cls", "text", "shares", "at", "part", "share"] ["cls", "text"] (defScope sDWillRead) := ⟨rfl, rfl, rfl, by decide +kernel, rfl, by decide +kernel, by decide +kernel⟩
theorem scDWillLen : FnScope ["self"] ["self"] (defScope sDWillLen) := ⟨rfl, rfl, rfl, by decide +kernel, rfl, by decide +kernel, by decide +kernel⟩
theorem scDWillEq : FnScope ["self", "other"] ["self", "other"] (defScope sDWillEq) := ⟨rfl, rfl, rfl, by decide +kernel, rfl, by decide +kernel, by decide +kernel⟩
theorem scDWillStr : FnScope ["self", "weight", "groups"] ["self"] (defScope sDWillStr) := ⟨rfl, rfl, rfl, by decide +kernel, rfl, by decide +kernel, by decide +kernel⟩
theorem scDAreShares : FnScope ["value", "share"] ["value"] (defScope sDAreShares) := ⟨rfl, rfl, rfl, by decide +kernel, rfl, by decide +kernel, by decide +kernel⟩
theorem scDIsShare : FnScope ["value", "weight", "groups", "group"] ["value"] (defScope sDIsShare) := ⟨rfl, rfl, rfl, by decide +kernel, rfl, by decide +kernel, by decide +kernel⟩
theorem scDIsGroup : FnScope ["value", "name"] ["value"] (defScope sDIsGroup) := ⟨rfl, rfl, rfl, by decide +kernel, rfl, by decide +kernel, by decide +kernel⟩
theorem scDLots : FnScope ["groups", "group"] ["groups"] (defScope sDLots) := ⟨rfl, rfl, rfl, by decide +kernel, rfl, by decide +kernel, by decide +kernel⟩
theorem scDShareText : FnScope ["weight", "groups", "told", "group"] ["weight", "groups"] (defScope sDShareText) := ⟨rfl, rfl, rfl, by decide +kernel, rfl, by decide +kernel, by decide +kernel⟩
theorem scDReadShare : FnScope ["part", "word", "space", "told", "weight", "group"] ["part"] (defScope sDReadShare) := ⟨rfl, rfl, rfl, by decide +kernel, rfl, by decide +kernel, by decide +kernel⟩
theorem scDLawSeed : FnScope ["_law_script", "_law_k", "_law_cell"] ["_law_script", "_law_k"] (defScope sDLawSeed) := ⟨rfl, rfl, rfl, by decide +kernel, rfl, by decide +kernel, by decide +kernel⟩
theorem scDLawChoose : FnScope ["_law_box", "_law_many", "_law_digit", "_law_raw"] ["_law_box", "_law_many"] (defScope sDLawChoose) := ⟨rfl, rfl, rfl, by decide +kernel, rfl, by decide +kernel, by decide +kernel⟩
theorem scDLawOneOf : FnScope ["_law_box", "_law_some"] ["_law_box", "_law_some"] (defScope sDLawOneOf) := ⟨rfl, rfl, rfl, by decide +kernel, rfl, by decide +kernel, by decide +kernel⟩
theorem scDLawMixed : FnScope ["_law_box", "_law_some", "_law_left", "_law_found"] ["_law_box", "_law_some"] (defScope sDLawMixed) := ⟨rfl, rfl, rfl, by decide +kernel, rfl, by decide +kernel, by decide +kernel⟩
theorem scDLawNames : FnScope ["_law_box", "_law_many", "_law_pools"] ["_law_box", "_law_many"] (defScope sDLawNames) := ⟨rfl, rfl, rfl, by decide +kernel, rfl, by decide +kernel, by decide +kernel⟩
theorem scDLawGroup : FnScope ["_law_box", "_law_some"] ["_law_box", "_law_some"] (defScope sDLawGroup) := ⟨rfl, rfl, rfl, by decide +kernel, rfl, by decide +kernel, by decide +kernel⟩
theorem scDLawWill : FnScope ["_law_box", "_law_others", "_law_found", "_law_share", "_law_groups", "_law_turn"] ["_law_box", "_law_others"] (defScope sDLawWill) := ⟨rfl, rfl, rfl, by decide +kernel, rfl, by decide +kernel, by decide +kernel⟩
theorem scDLawWillText : FnScope ["_law_will_here", "_law_parts", "_law_weight", "_law_groups", "_law_texts", "_law_name", "_law_group_here"] ["_law_will_here"] (defScope sDLawWillText) := ⟨rfl, rfl, rfl, by decide +kernel, rfl, by decide +kernel, by decide +kernel⟩
theorem scDLawIsTitle : FnScope ["_law_word", "_law_letter"] ["_law_word"] (defScope sDLawIsTitle) := ⟨rfl, rfl, rfl, by decide +kernel, rfl, by decide +kernel, by decide +kernel⟩
theorem scDLawIsPart : FnScope ["_law_part", "_law_head", "_law_sign", "_law_text", "_law_names_here", "_law_wrong", "_law_spot", "_law_name"] ["_law_part"] (defScope sDLawIsPart) := ⟨rfl, rfl, rfl, by decide +kernel, rfl, by decide +kernel, by decide +kernel⟩
theorem scDLawDue : FnScope ["_law_text", "_law_wrong", "_law_spot", "_law_part"] ["_law_text"] (defScope sDLawDue) := ⟨rfl, rfl, rfl, by decide +kernel, rfl, by decide +kernel, by decide +kernel⟩
theorem scDLawIsWide : FnScope ["_law_text", "_law_parts", "_law_part", "_law_groups", "_law_one"] ["_law_text"] (defScope sDLawIsWide) := ⟨rfl, rfl, rfl, by decide +kernel, rfl, by decide +kernel, by decide +kernel⟩
theorem scDLawHeard : FnScope ["_law_text", "_law_found", "e"] ["_law_text"] (defScope sDLawHeard) := ⟨rfl, rfl, rfl, by decide +kernel, rfl, by decide +kernel, by decide +kernel⟩
theorem scDLawBent : FnScope ["_law_box", "_law_text", "_law_spot", "_law_form", "_law_some"] ["_law_box", "_law_text"] (defScope sDLawBent) := ⟨rfl, rfl, rfl, by decide +kernel, rfl, by decide +kernel, by decide +kernel⟩
theorem scDLaw : FnScope ["_law_script", "_law_k", "_law_box", "_law_turn", "_law_text", "_law_more", "_law_some"] ["_law_script"] (defScope sDLaw) := ⟨rfl, rfl, rfl, by decide +kernel, rfl, by decide +kernel, by decide +kernel⟩
/-- a def as the top leaves it: at f, with its data fd -/
structure Dn (K : PySem.W.Frag) (mg : Str → Option Value) (x qual : Str) (st : Stmt) (ps : List Str) where
  f : Addr
  fd : FuncData
  F : Fun K x qual st f fd
  b : Binds K fd ps []
  g : mg x = some (.ref f)
/-- a method of the class at C -/
structure Dm (K : PySem.W.Frag) (C : Addr) (x qual : Str) (st : Stmt) (ps : List Str) where
  f : Addr
  fd : FuncData
  F : Fun K x qual st f fd
  b : Binds K fd ps []
  m : Meth K C x f
/-- what the top has written -/
structure TxtG (K : PySem.W.Frag) (mg : Str → Option Value) where
  cHeirError : Addr
  gcHeirError : mg "HeirError" = some (.ref cHeirError)
  cInvalidWill : Addr
  gcInvalidWill : mg "InvalidWill" = some (.ref cInvalidWill)
  cInvalidText : Addr
  gcInvalidText : mg "InvalidText" = some (.ref cInvalidText)
  cWill : Addr
  gcWill : mg "Will" = some (.ref cWill)
  dIsInteger : Dn K mg "is_integer" "is_integer" sDIsInteger ["value"]
  dIsName : Dn K mg "is_name" "is_name" sDIsName ["value"]
  dIsSequence : Dn K mg "is_sequence" "is_sequence" sDIsSequence ["value"]
  dIsPair : Dn K mg "is_pair" "is_pair" sDIsPair ["value"]
  dReadNumber : Dn K mg "read_number" "read_number" sDReadNumber ["word", "digits"]
  dAreShares : Dn K mg "_are_shares" "_are_shares" sDAreShares ["value"]
  dIsShare : Dn K mg "_is_share" "_is_share" sDIsShare ["value"]
  dIsGroup : Dn K mg "_is_group" "_is_group" sDIsGroup ["value"]
  dLots : Dn K mg "_lots" "_lots" sDLots ["groups"]
  dShareText : Dn K mg "_share_text" "_share_text" sDShareText ["weight", "groups"]
  dReadShare : Dn K mg "_read_share" "_read_share" sDReadShare ["part"]
  dLawSeed : Dn K mg "_law_seed" "_law_seed" sDLawSeed ["_law_script", "_law_k"]
  dLawChoose : Dn K mg "_law_choose" "_law_choose" sDLawChoose ["_law_box", "_law_many"]
  dLawOneOf : Dn K mg "_law_one_of" "_law_one_of" sDLawOneOf ["_law_box", "_law_some"]
  dLawMixed : Dn K mg "_law_mixed" "_law_mixed" sDLawMixed ["_law_box", "_law_some"]
  dLawNames : Dn K mg "_law_names" "_law_names" sDLawNames ["_law_box", "_law_many"]
  dLawGroup : Dn K mg "_law_group" "_law_group" sDLawGroup ["_law_box", "_law_some"]
  dLawWill : Dn K mg "_law_will" "_law_will" sDLawWill ["_law_box", "_law_others"]
  dLawWillText : Dn K mg "_law_will_text" "_law_will_text" sDLawWillText ["_law_will_here"]
  dLawIsTitle : Dn K mg "_law_is_title" "_law_is_title" sDLawIsTitle ["_law_word"]
  dLawIsPart : Dn K mg "_law_is_part" "_law_is_part" sDLawIsPart ["_law_part"]
  dLawDue : Dn K mg "_law_due" "_law_due" sDLawDue ["_law_text"]
  dLawIsWide : Dn K mg "_law_is_wide" "_law_is_wide" sDLawIsWide ["_law_text"]
  dLawHeard : Dn K mg "_law_heard" "_law_heard" sDLawHeard ["_law_text"]
  dLawBent : Dn K mg "_law_bent" "_law_bent" sDLawBent ["_law_box", "_law_text"]
  dLaw : Dn K mg "law" "law" sDLaw ["_law_script"]
  z_abs : mg "abs" = none
  z_all : mg "all" = none
  z_bool : mg "bool" = none
  z_classmethod : mg "classmethod" = none
  z_enumerate : mg "enumerate" = none
  z_int : mg "int" = none
  z_isinstance : mg "isinstance" = none
  z_len : mg "len" = none
  z_list : mg "list" = none
  z_max : mg "max" = none
  z_min : mg "min" = none
  z_range : mg "range" = none
  z_repr : mg "repr" = none
  z_set : mg "set" = none
  z_sorted : mg "sorted" = none
  z_str : mg "str" = none
  z_tuple : mg "tuple" = none
  k_CROWN : ∃ t, mg "CROWN" = some (.str "crown" t)
  k_LONGEST_NAME : ∃ t, mg "LONGEST_NAME" = some (.int 5 t)
  k_WEIGHT_DIGITS : ∃ t, mg "WEIGHT_DIGITS" = some (.int 6 t)
end He

namespace He
open PySem PySem.Spec PyProof.Rows L2
/-! ### heaps where one address is left out -/
def hide (p : Addr) (H : Hp) : Hp := fun b => if b = p then none else H b
theorem hide_ne {p b : Addr} {H : Hp} (h : b ≠ p) : hide p H b = H b := if_neg h
theorem hide_self {p : Addr} {H : Hp} : hide p H p = none := if_pos rfl
theorem hide_le {p : Addr} {H : Hp} : Same (hide p H) H := fun b o e => by
  unfold hide at e
  split at e
  · cases e
  · exact e
theorem hide_same {p : Addr} {H H' : Hp} (h : Same H H') : Same (hide p H) (hide p H') := fun b o e => by
  unfold hide at e ⊢
  split at e
  · cases e
  · rename_i q
    rw [if_neg q]
    exact h b o e
theorem hide_upd {p : Addr} {H : Hp} {o : HO} : Same (hide p H) (hide p (upd H p o)) := fun b u e => by
  have hb : b ≠ p := fun z => by rw [z, hide_self] at e; cases e
  rw [hide_ne hb] at e ⊢
  rw [upd_ne hb]
  exact e
/-- the draws' state: a large number or nought, and a small one -/
def Box (H : Hp) (p : Addr) : Prop := ∃ b0 b1 : Int, H p = some (.lst [.int b0, .int b1]) ∧ 0 ≤ b0 ∧ 0 < b1 ∧ b1 ≤ 2147483629
/-- what a helper that draws leaves: the box, and all else -/
def Bx (p : Addr) (H H' : Hp) : Prop := Box H' p ∧ Same (hide p H) (hide p H')
theorem Box.same {H H' : Hp} {p : Addr} (h : Box H p) (s : Same H H') : Box H' p := by
  obtain ⟨b0, b1, e, r⟩ := h
  exact ⟨b0, b1, s _ _ e, r⟩
theorem Bx.of {H H' : Hp} {p : Addr} (h : Box H p) (s : Same H H') : Bx p H H' := ⟨h.same s, hide_same s⟩
theorem Bx.refl {H : Hp} {p : Addr} (h : Box H p) : Bx p H H := .of h (Same.refl H)
theorem Bx.trans {H H1 H2 : Hp} {p : Addr} (a : Bx p H H1) (b : Bx p H1 H2) : Bx p H H2 := ⟨b.1, a.2.trans b.2⟩
theorem Bx.ne0 {H : Hp} {p : Addr} (h : Box H p) : H p ≠ none := by
  obtain ⟨_, _, e, _⟩ := h
  rw [e]
  exact fun z => nomatch z
theorem same_upd {H : Hp} {p : Addr} {o : HO} (h : H p = none) : Same H (upd H p o) := fun b x e => by
  rw [upd_ne (ne_of_none e h)]
  exact e
theorem sqL_of {K : PySem.W.Frag} {H : Hp} {a : Addr} {xs : List V} (h : H a = some (.lst xs)) : SqL K H a xs := .inl (.inl h)
theorem sqT_of {K : PySem.W.Frag} {H : Hp} {a : Addr} {xs : List V} (h : H a = some (.tup xs)) : SqT K H a xs := .inl (.inl h)
theorem Same.seqT {K : PySem.W.Frag} {H H' : Hp} {a : Addr} {xs : List V} (e : Same H H') (h : SqT K H a xs) : SqT K H' a xs := by
  rcases h with (h | ⟨o, h⟩) | h
  · exact .inl (.inl (e _ _ h))
  · exact .inl (.inr ⟨o, e _ _ h⟩)
  · exact .inr h
end He

namespace He
open PySem PySem.Spec PyProof.Rows L2
section
variable {P : Program} {w : World} {K : PySem.W.Frag} {mg : Str → Option Value} {base : Heap}

theorem callR_imp {X : Cx} {f : Value} {r r' : List V → Hp → VK → Prop} (h : CallR X f r) (i : ∀ xs H Q, r' xs H Q → r xs H Q) : CallR X f r' := fun pins s σ H xs us Q I rv q => h pins s σ H xs us Q I rv (i _ _ _ q)
/-- int(n) of an int -/
theorem call_intI {X : Cx} : CallR X (.type "int") (fun xs H Q => ∃ i, xs = [.int i] ∧ Q (.int i) H) := callR_imp call_int1 fun _ _ _ h => .inl h
/-- len of a list that is read, of a tuple -/
theorem call_lenL {X : Cx} : CallR X (.builtin "len") (fun xs H Q => ∃ p ys, xs = [.ref p] ∧ SqL X.K H p ys ∧ Q (.int ys.length) H) := callR_imp call_len_seq fun _ _ _ ⟨p, ys, e, h, q⟩ => ⟨p, ys, e, .inl h, q⟩
theorem absI (i : Int) : 0 ≤ (if i < 0 then -i else i) := by split <;> omega
theorem cpow18 : CPow 10 18 := ⟨by decide, by decide, by decide⟩
theorem atI_map {ns : List Int} {k : Nat} (h : k < ns.length) : atI (ns.map V.int) (k : Int) = some (V.int ns[k]) := atI_nat (by rw [List.getElem?_map, List.getElem?_eq_getElem h] <;> rfl)
def spSeed (K : PySem.W.Frag) : Sp := fun vs H Q _ => ∃ (a : Addr) (ns : List Int) (k : Nat), vs = [.ref a, .int k] ∧ k ≤ 3 ∧ SqL K H a (ns.map V.int) ∧ ns.length ≤ 63 ∧
  ∀ b0 b1 p, H p = none → 0 ≤ b0 → 0 < b1 → b1 ≤ 2147483629 → Q (.ref p) (upd H p (.lst [.int b0, .int b1]))
theorem ok_seed (T : TxtG K mg) : FnOk P w K mg base CX0 1 T.dLawSeed.f T.dLawSeed.fd ["_law_script", "_law_k"] (spSeed K) := by
  refine T.dLawSeed.F.ok scDLawSeed (fun vs H Q E h => ?_) (fun cdv A outer s H vs Q E hr h => ?_)
  · obtain ⟨a, ns, k, rfl, _⟩ := h
    rfl
  · obtain ⟨a, ns, k, rfl, hk, hS, hn, q⟩ := h
    refine ⟨_, (pss_cons (ps_set (i := 2) scDLawSeed.nd rfl (.inl rfl) (pe_op op_add (pe_op op_mul pe_int (pv 1)) pe_int))
      (pss_cons (ps_if (pt_cmpR op_lt (pv 1) (pe_callB call_len_seq (by rfl) T.z_len (by decide +kernel) (pa_cons (pv 0) pa_nil)) (nomark _))
      (pss_one (ps_set (i := 2) scDLawSeed.nd rfl (.inl rfl) (pe_callB call_abs (by rfl) T.z_abs (by decide +kernel) (pa_cons (pe_ix ix_list (pv 0) (pv 1) (fun _ _ => rfl)) pa_nil))))
      (pss_one (ps_if (pt_cmpR op_gt (pe_callB call_len_seq (by rfl) T.z_len (by decide +kernel) (pa_cons (pv 0) pa_nil)) pe_int (nomark _))
      (pss_one (ps_set (i := 2) scDLawSeed.nd rfl (.inl rfl) (pe_op op_add (pv 2) (pe_op op_mul (pe_op op_mod (pe_callTy call_int1 (by rfl) T.z_int (by decide +kernel) (pa_cons (pe_callB call_abs (by rfl) T.z_abs (by decide +kernel) (pa_cons (pe_ix ix_list (pv 0) (pe_op op_mod (pe_callTy call_int1 (by rfl) T.z_int (by decide +kernel) (pa_cons (pv 1) pa_nil)) (pe_callB call_len_seq (by rfl) T.z_len (by decide +kernel) (pa_cons (pv 0) pa_nil))) (fun _ _ => rfl)) pa_nil)) pa_nil)) pe_int) pe_int))))
      pss_nil)))
      (pss_one (ps_ret (pe_lst (pa_cons (pe_ifExp (pt_cmpR op_ge (pv 2) (pe_op op_pow pe_int pe_int) (nomark _)) (pv 2) pe_int) (pa_cons (pe_op op_add (pe_op op_mod (pe_callTy call_int1 (by rfl) T.z_int (by decide +kernel) (pa_cons (pe_op op_add (pe_op op_mul (pe_op op_mod (pe_callTy call_int1 (by rfl) T.z_int (by decide +kernel) (pa_cons (pv 2) pa_nil)) pe_int) pe_int) (pe_op op_mul pe_int (pv 1))) pa_nil)) pe_int) pe_int) pa_nil))))))), ?_⟩
    simp only [tSeq, tAsg, tOp, tUn, rI, rI0, rU, tVar, tC, gName, L2.start, tIfS, tTest, tB, tCB, tCons, tNil, tIf, tRet, tRetN, tLst, tTup, tNext, tDrop, tNot, tNotV, tAnd, tOr, tAndV, tOrV, tPar, tAug, ipI, rEq, rNe, gSub, rSetL, rIxL, rIxT, tBM, tBM0, rAppend, rPopAt, gTup, gCons, gNil, tCall, tSl, tPart, tNoPart, rSlL, rCat, rEqD, rNeD, rIn, scal, List.map_cons, List.map_nil, List.length_cons, List.length_nil, List.length_map, List.cons_append, List.nil_append, List.append_nil, List.replicate, List.getElem?_cons_zero, List.getElem?_cons_succ, List.set_cons_zero, List.set_cons_succ, Option.some.injEq, exists_eq_left', exists_eq_left, exists_eq_right, exists_and_left, exists_and_right, V.int.injEq, V.ref.injEq, V.str.injEq, V.bl.injEq, reduceCtorEq, false_and, and_false, exists_false, or_false, false_or, true_and, and_true, List.cons.injEq, decide_eq_true_eq, cxOf, if_true, if_false, Bool.false_eq_true, Nat.reduceAdd, Nat.reduceSub, Nat.zero_add, Nat.add_sub_cancel_left, Nat.add_sub_cancel, Nat.sub_self]
    have fin : ∀ c : Int, 0 ≤ c → ∀ p, H p = none → Q (.ref p) (upd H p (.lst [.int c, .int ((c % 2147483629 * 48271 + 35023 * (k : Int)) % 2147483629 + 1)])) := fun c hc p hp => q _ _ p hp hc (by omega) (by omega)
    have fin0 : ∀ c : Int, 0 ≤ c → ∀ p, H p = none → Q (.ref p) (upd H p (.lst [.int 0, .int ((c % 2147483629 * 48271 + 35023 * (k : Int)) % 2147483629 + 1)])) := fun c hc p hp => q _ _ p hp (by decide) (by omega) (by omega)
    refine ⟨.inl ⟨by decide, by decide⟩, _, .inl hS, ?_⟩
    rw [List.length_map]
    by_cases h1 : k < ns.length
    · rw [if_pos (by omega)]
      refine ⟨_, hS, _, atI_map h1, _, rfl, cpow18, ?_⟩
      have ha := absI ns[k]
      generalize (if ns[k] < 0 then -ns[k] else ns[k]) = c at ha ⊢
      split
      · exact ⟨by decide, .inl (by omega), .inl (by omega), by decide, by decide, fin c ha⟩
      · exact ⟨by decide, .inl (by omega), .inl (by omega), by decide, by decide, fin0 c ha⟩
    · rw [if_neg (by omega)]
      refine ⟨_, .inl hS, ?_⟩
      rw [List.length_map]
      by_cases h2 : 0 < ns.length
      · rw [if_pos (by omega)]
        have hm : ((k : Int) % (ns.length : Int)) = ((k % ns.length : Nat) : Int) := by omega
        have hlt : k % ns.length < ns.length := Nat.mod_lt _ h2
        refine ⟨_, .inl hS, by rw [List.length_map]; omega, _, hS, _, by rw [List.length_map, hm]; exact atI_map hlt, _, rfl, by decide, .inl (by omega), cpow18, ?_⟩
        have ha := absI ns[k % ns.length]
        generalize (if ns[k % ns.length] < 0 then -ns[k % ns.length] else ns[k % ns.length]) = c at ha ⊢
        have hc : 0 ≤ 8231 * (k : Int) + 97 + c % 2147483629 * 40093 := by omega
        generalize 8231 * (k : Int) + 97 + c % 2147483629 * 40093 = d at hc ⊢
        split
        · exact ⟨by decide, .inl (by omega), .inl (by omega), by decide, by decide, fin d hc⟩
        · exact ⟨by decide, .inl (by omega), .inl (by omega), by decide, by decide, fin0 d hc⟩
      · rw [if_neg (by omega)]
        have hc : 0 ≤ 8231 * (k : Int) + 97 := by omega
        refine ⟨cpow18, ?_⟩
        split
        · exact ⟨by decide, .inl (by omega), .inl (by omega), by decide, by decide, fin _ hc⟩
        · exact ⟨by decide, .inl (by omega), .inl (by omega), by decide, by decide, fin0 _ hc⟩
/-- choose: a number below many, the box turned -/
def spChoose (K : PySem.W.Frag) : Sp := fun vs H Q _ => ∃ (p : Addr) (m : Int), vs = [.ref p, .int m] ∧ Box H p ∧ 0 < m ∧ m ≤ 1000000 ∧
  ∀ r H', Bx p H H' → 0 ≤ r → r < m → Q (.int r) H'
theorem ok_choose (T : TxtG K mg) : FnOk P w K mg base CX0 1 T.dLawChoose.f T.dLawChoose.fd ["_law_box", "_law_many"] (spChoose K) := by
  refine T.dLawChoose.F.ok scDLawChoose (fun vs H Q E h => ?_) (fun cdv A outer s H vs Q E hr h => ?_)
  · obtain ⟨p, m, rfl, _⟩ := h
    rfl
  · obtain ⟨p, m, rfl, ⟨b0, b1, hp, h0, h1, h2⟩, m0, m1, q⟩ := h
    refine ⟨_, (pss_cons (ps_if (pt_cmpR op_gt (pe_ix ix_list (pv 0) pe_int (fun _ _ => rfl)) pe_int (nomark _))
      (pss_cons (ps_set (i := 2) scDLawChoose.nd rfl (.inl rfl) (pe_op op_mod (pe_callTy call_intI (by rfl) T.z_int (by decide +kernel) (pa_cons (pe_ix ix_list (pv 0) pe_int (fun _ _ => rfl)) pa_nil)) (pv 1)))
      (pss_cons (ps_asg (pe_op op_fdiv (pe_ix ix_list (pv 0) pe_int (fun _ _ => rfl)) (pv 1)) (pg_sub (pv 0) pe_int set_list))
      (pss_one (ps_ret (pv 2)))))
      pss_nil)
      (pss_cons (ps_set (i := 3) scDLawChoose.nd rfl (.inl rfl) (pe_op op_mod (pe_callTy call_intI (by rfl) T.z_int (by decide +kernel) (pa_cons (pe_op op_add (pe_op op_mul (pe_ix ix_list (pv 0) pe_int (fun _ _ => rfl)) pe_int) pe_int) pa_nil)) pe_int))
      (pss_cons (ps_asg (pe_op op_add (pe_op op_mod (pe_callTy call_intI (by rfl) T.z_int (by decide +kernel) (pa_cons (pe_op op_add (pe_op op_mul (pv 3) pe_int) pe_int) pa_nil)) pe_int) pe_int) (pg_sub (pv 0) pe_int set_list))
      (pss_one (ps_ret (pe_op op_mod (pe_callTy call_intI (by rfl) T.z_int (by decide +kernel) (pa_cons (pe_op op_fdiv (pe_op op_add (pe_op op_mul (pv 3) pe_int) (pe_ix ix_list (pv 0) pe_int (fun _ _ => rfl))) pe_int) pa_nil)) (pv 1))))))), ?_⟩
    simp only [and_assoc, tSeq, tAsg, tOp, tUn, rI, rI0, rU, tVar, tC, gName, L2.start, tIfS, tTest, tB, tCB, tCons, tNil, tIf, tRet, tRetN, tLst, tTup, tNext, tDrop, tNot, tNotV, tAnd, tOr, tAndV, tOrV, tPar, tAug, ipI, rEq, rNe, gSub, rSetL, rIxL, rIxT, tBM, tBM0, rAppend, rPopAt, gTup, gCons, gNil, tCall, tSl, tPart, tNoPart, rSlL, rCat, rEqD, rNeD, rIn, scal, List.map_cons, List.map_nil, List.length_cons, List.length_nil, List.length_map, List.cons_append, List.nil_append, List.append_nil, List.replicate, List.getElem?_cons_zero, List.getElem?_cons_succ, List.set_cons_zero, List.set_cons_succ, Option.some.injEq, exists_eq_left', exists_eq_left, exists_eq_right, exists_and_left, exists_and_right, V.int.injEq, V.ref.injEq, V.str.injEq, V.bl.injEq, reduceCtorEq, false_and, and_false, exists_false, or_false, false_or, true_and, and_true, List.cons.injEq, decide_eq_true_eq, cxOf, if_true, if_false, Bool.false_eq_true, Nat.reduceAdd, Nat.reduceSub, Nat.zero_add, Nat.add_sub_cancel_left, Nat.add_sub_cancel, Nat.sub_self]
    have hq : SqL K H p [.int b0, .int b1] := sqL_of hp
    have a0 : atI [V.int b0, V.int b1] 0 = some (.int b0) := rfl
    have a1 : atI [V.int b0, V.int b1] 1 = some (.int b1) := rfl
    refine ⟨_, hq, _, a0, _, rfl, ?_⟩
    by_cases z : 0 < b0
    · rw [if_pos z]
      refine ⟨_, hq, _, a0, _, rfl, m0, _, hq, _, a0, _, rfl, ⟨m0, by omega⟩, _, hp, 0, rfl, ?_⟩
      exact q _ _ ⟨⟨b0 / m, b1, upd_same, Int.ediv_nonneg h0 (by omega), h1, h2⟩, hide_upd⟩ (Int.emod_nonneg _ (by omega)) (Int.emod_lt_of_pos _ m0)
    · rw [if_neg z]
      refine ⟨_, hq, _, a1, _, rfl, .inr (by decide), by decide, .inr (by decide), by decide, _, hp, 1, rfl, .inr (by decide), _, sqL_of upd_same, _, rfl, _, rfl, ⟨by decide, by decide⟩, m0, ?_⟩
      exact q _ _ ⟨⟨b0, _, upd_same, h0, by omega, by omega⟩, hide_upd⟩ (Int.emod_nonneg _ (by omega)) (Int.emod_lt_of_pos _ m0)
/-- one of several things -/
def spOneOf (K : PySem.W.Frag) : Sp := fun vs H Q _ => ∃ (p a : Addr) (xs : List V), vs = [.ref p, .ref a] ∧ Box H p ∧ SqL K (hide p H) a xs ∧ 0 < xs.length ∧ xs.length ≤ 1000 ∧
  ∀ (i : Nat) v H', Bx p H H' → xs[i]? = some v → Q v H'
theorem ok_oneof (T : TxtG K mg) : FnOk P w K mg base CX0 2 T.dLawOneOf.f T.dLawOneOf.fd ["_law_box", "_law_some"] (spOneOf K) := by
  refine T.dLawOneOf.F.ok scDLawOneOf (fun vs H Q E h => ?_) (fun cdv A outer s H vs Q E hr h => ?_)
  · obtain ⟨p, a, xs, rfl, _⟩ := h
    rfl
  · obtain ⟨p, a, xs, rfl, hb, hS, h0, h1, q⟩ := h
    refine ⟨_, (pss_one (ps_ret (pe_ix ix_list (pv 1) (pe_call (ok_choose T) (hr.mono (by decide)) (by rfl) T.dLawChoose.g T.dLawChoose.F.kp T.dLawChoose.b .nil pass0 (pa_cons (pv 0) (pa_cons (pe_callB call_lenL (by rfl) T.z_len (by decide +kernel) (pa_cons (pv 1) pa_nil)) pa_nil))) (fun _ _ => rfl)))), ?_⟩
    simp only [and_assoc, tSeq, tAsg, tOp, tUn, rI, rI0, rU, tVar, tC, gName, L2.start, tIfS, tTest, tB, tCB, tCons, tNil, tIf, tRet, tRetN, tLst, tTup, tNext, tDrop, tNot, tNotV, tAnd, tOr, tAndV, tOrV, tPar, tAug, ipI, rEq, rNe, gSub, rSetL, rIxL, rIxT, tBM, tBM0, rAppend, rPopAt, gTup, gCons, gNil, tCall, tSl, tPart, tNoPart, rSlL, rCat, rEqD, rNeD, rIn, scal, List.map_cons, List.map_nil, List.length_cons, List.length_nil, List.length_map, List.cons_append, List.nil_append, List.append_nil, List.replicate, List.getElem?_cons_zero, List.getElem?_cons_succ, List.set_cons_zero, List.set_cons_succ, Option.some.injEq, exists_eq_left', exists_eq_left, exists_eq_right, exists_and_left, exists_and_right, V.int.injEq, V.ref.injEq, V.str.injEq, V.bl.injEq, reduceCtorEq, false_and, and_false, exists_false, or_false, false_or, true_and, and_true, List.cons.injEq, decide_eq_true_eq, cxOf, if_true, if_false, Bool.false_eq_true, Nat.reduceAdd, Nat.reduceSub, Nat.zero_add, Nat.add_sub_cancel_left, Nat.add_sub_cancel, Nat.sub_self, spChoose]
    have s0 : SqL K H a xs := hide_le.seq hS
    refine ⟨_, s0, hb, by omega, by omega, fun r H' B r0 r1 => ?_⟩
    have s1 : SqL K H' a xs := hide_le.seq (B.2.seq hS)
    obtain ⟨j, rfl⟩ : ∃ j : Nat, r = (j : Int) := ⟨r.toNat, by omega⟩
    have hj : j < xs.length := by omega
    exact ⟨_, s1, _, atI_nat (List.getElem?_eq_getElem hj), q j _ _ B (List.getElem?_eq_getElem hj)⟩

end
end He

namespace He
open PySem PySem.Spec PyProof.Rows L2
section
variable {P : Program} {w : World} {K : PySem.W.Frag} {mg : Str → Option Value} {base : Heap}

theorem Bx.get {p b : Addr} {H H' : Hp} {o : HO} (B : Bx p H H') (hb : b ≠ p) (e : H b = some o) : H' b = some o := by
  have h := B.2 b o (by rw [hide_ne hb]; exact e)
  rwa [hide_ne hb] at h
/-- an object that H does not know may change -/
theorem Bx.mut {p l : Addr} {H H' : Hp} {o : HO} (B : Bx p H H') (nl : H l = none) (lp : l ≠ p) : Bx p H (upd H' l o) := by
  obtain ⟨⟨b0, b1, e, r⟩, s⟩ := B
  refine ⟨⟨b0, b1, by rw [upd_ne lp.symm]; exact e, r⟩, fun b u hb => ?_⟩
  have hbp : b ≠ p := fun z => by rw [z, hide_self] at hb; cases hb
  have h1 := s b u hb
  rw [hide_ne hbp] at hb h1 ⊢
  rw [upd_ne (ne_of_none hb nl)]
  exact h1

/-- a list beside an empty one -/
def rNeNil (K : PySem.W.Frag) : R2 := fun x y H Q => ∃ l e xs, x = .ref l ∧ y = .ref e ∧ SqL K H l xs ∧ SqL K H e [] ∧ Q (.bl (!xs.isEmpty)) H
theorem op_neNil {X : Cx} (hu : X.A.units + 64 < cLine) : OpR X (compareOp .NotEq) (rNeNil X.K) := by
  intro pins s σ H x y v u Q I rx ry h
  obtain ⟨l, e, xs, rfl, rfl, hl, he, q⟩ := h
  cases rx
  cases ry
  obtain ⟨its, r1, p1, _⟩ := I.list hl
  obtain ⟨its2, r2, p2, _⟩ := I.list he
  cases r2
  have hu' : X.A.units < cLine := by omega
  cases r1 with
  | nil => exact SeqAt.RcNeAt.lists (e := fun _ => true) p1.isList p2.isList rfl hu' (fun j h1 => absurd h1 (by simp)) X.prog X.w X.xe _ ⟨.bl false, H, I, rfl, q⟩
  | cons a b => exact SeqAt.RcNeAt.lists_lengths p1.isList p2.isList (by simp) hu' X.prog X.w X.xe _ ⟨.bl true, H, I, rfl, q⟩
def lenAt (H : Hp) (l : Addr) : Nat := match H l with
  | some (.lst xs) => xs.length
  | _ => 0
theorem lenAt_of {H : Hp} {l : Addr} {xs : List V} (h : H l = some (.lst xs)) : lenAt H l = xs.length := by
  unfold lenAt
  rw [h]
theorem erase_perm : ∀ (xs : List V) (k : Nat) (y : V), xs[k]? = some y → (y :: xs.eraseIdx k).Perm xs
  | [], k, y, h => by simp at h
  | x :: xs, 0, y, h => by
    have e : x = y := Option.some.inj h
    rw [e]
    exact List.Perm.refl _
  | x :: xs, k + 1, y, h => (List.Perm.swap x y _).trans ((erase_perm xs k y h).cons x)
theorem perm_pop {xs fs zs : List V} {k : Nat} {y : V} (hy : xs[k]? = some y) (h : (fs ++ xs).Perm zs) : ((fs ++ [y]) ++ xs.eraseIdx k).Perm zs := by
  refine List.Perm.trans ?_ h
  rw [List.append_assoc]
  exact List.Perm.append_left fs (erase_perm xs k y hy)
/-- in some order -/
def spMixed (K : PySem.W.Frag) : Sp := fun vs H Q _ => ∃ (p a : Addr) (zs : List V), vs = [.ref p, .ref a] ∧ Box H p ∧ SqL K (hide p H) a zs ∧ zs.length ≤ 1000 ∧
  ∀ (ys : List V) (r : Addr) (H' : Hp), Bx p H H' → ys.Perm zs → H r = none → H' r = some (.lst ys) → Q (.ref r) H'
theorem ok_mixed (T : TxtG K mg) : FnOk P w K mg base CX0 2 T.dLawMixed.f T.dLawMixed.fd ["_law_box", "_law_some"] (spMixed K) := by
  refine T.dLawMixed.F.ok scDLawMixed (fun vs H Q E h => ?_) (fun cdv A outer s H vs Q E hr h => ?_)
  · obtain ⟨p, a, zs, rfl, _⟩ := h
    rfl
  · obtain ⟨p, a, zs, rfl, hb, hS, h1, q⟩ := h
    refine ⟨_, (pss_cons (ps_par (i := 2) (j := 3) (by rfl) scDLawMixed.nd rfl rfl (by decide) rfl rfl (pa_cons (pe_callTy call_list_of (by rfl) T.z_list (by decide +kernel) (pa_cons (pv 1) pa_nil)) (pa_cons (pe_lst pa_nil) pa_nil)) (by rfl))
      (pss_cons (ps_while PassesOwn.never (pt_cmpR (op_neNil hr.units) (pv 2) (pe_lst pa_nil) (nomark _))
      (pss_one (ps_expr (pe_bm PySem.F.plainAttrs_list PySem.F.slot_list_append PySem.F.type_list_append mt_append (pv 3) (pa_cons (pe_bm PySem.F.plainAttrs_list PySem.F.slot_list_pop PySem.F.type_list_pop mt_popAt (pv 2) (pa_cons (pe_call (ok_choose T) (hr.mono (by decide)) (by rfl) T.dLawChoose.g T.dLawChoose.F.kp T.dLawChoose.b .nil pass0 (pa_cons (pv 0) (pa_cons (pe_callB call_lenL (by rfl) T.z_len (by decide +kernel) (pa_cons (pv 2) pa_nil)) pa_nil))) pa_nil)) pa_nil)))))
      (pss_one (ps_ret (pv 3))))), ?_⟩
    simp only [and_assoc, tSeq, tAsg, tOp, tUn, rI, rI0, rU, tVar, tC, gName, L2.start, tIfS, tTest, tB, tCB, tCons, tNil, tIf, tRet, tRetN, tLst, tTup, tNext, tDrop, tNot, tNotV, tAnd, tOr, tAndV, tOrV, tPar, tAug, ipI, rEq, rNe, gSub, rSetL, rIxL, rIxT, tBM, tBM0, rAppend, rPopAt, gTup, gCons, gNil, tCall, tSl, tPart, tNoPart, rSlL, rCat, rEqD, rNeD, rIn, scal, List.map_cons, List.map_nil, List.length_cons, List.length_nil, List.length_map, List.cons_append, List.nil_append, List.append_nil, List.replicate, List.getElem?_cons_zero, List.getElem?_cons_succ, List.set_cons_zero, List.set_cons_succ, Option.some.injEq, exists_eq_left', exists_eq_left, exists_eq_right, exists_and_left, exists_and_right, V.int.injEq, V.ref.injEq, V.str.injEq, V.bl.injEq, reduceCtorEq, false_and, and_false, exists_false, or_false, false_or, true_and, and_true, List.cons.injEq, decide_eq_true_eq, cxOf, if_true, if_false, Bool.false_eq_true, Nat.reduceAdd, Nat.reduceSub, Nat.zero_add, Nat.add_sub_cancel_left, Nat.add_sub_cancel, Nat.sub_self, spChoose]
    refine ⟨zs, .inl (hide_le.seq hS), fun l nl => ⟨by decide, fun f nf => ?_⟩⟩
    obtain ⟨b0, b1, eb, _⟩ := id hb
    have lp : l ≠ p := fun z => by rw [z, eb] at nl; cases nl
    have fl : f ≠ l := fun z => by rw [z, upd_same] at nf; cases nf
    have nf0 : H f = none := by rw [upd_ne fl] at nf; exact nf
    have fp : f ≠ p := fun z => by rw [z, eb] at nf0; cases nf0
    have s1 : Same H (upd (upd H l (.lst zs)) f (.lst [])) := (same_upd nl).trans (same_upd nf)
    refine while_by (fun σ H1 => ∃ ls fs : List V, σ = [some (.ref p), some (.ref a), some (.ref l), some (.ref f)] ∧ Bx p H H1 ∧ H1 l = some (.lst ls) ∧ H1 f = some (.lst fs) ∧ (fs ++ ls).Perm zs)
      (fun _ H1 => lenAt H1 l) ⟨zs, [], rfl, Bx.of hb s1, by rw [upd_ne fl.symm, upd_same], upd_same, List.Perm.refl _⟩ ?_ ?_
    · rintro σ H1 ⟨ls, fs, rfl, B, el, ef, pm⟩
      simp only [and_assoc, tSeq, tAsg, tOp, tUn, rI, rI0, rU, tVar, tC, gName, L2.start, tIfS, tTest, tB, tCB, tCons, tNil, tIf, tRet, tRetN, tLst, tTup, tNext, tDrop, tNot, tNotV, tAnd, tOr, tAndV, tOrV, tPar, tAug, ipI, rEq, rNe, gSub, rSetL, rIxL, rIxT, tBM, tBM0, rAppend, rPopAt, gTup, gCons, gNil, tCall, tSl, tPart, tNoPart, rSlL, rCat, rEqD, rNeD, rIn, scal, List.map_cons, List.map_nil, List.length_cons, List.length_nil, List.length_map, List.cons_append, List.nil_append, List.append_nil, List.replicate, List.getElem?_cons_zero, List.getElem?_cons_succ, List.set_cons_zero, List.set_cons_succ, Option.some.injEq, exists_eq_left', exists_eq_left, exists_eq_right, exists_and_left, exists_and_right, V.int.injEq, V.ref.injEq, V.str.injEq, V.bl.injEq, reduceCtorEq, false_and, and_false, exists_false, or_false, false_or, true_and, and_true, List.cons.injEq, decide_eq_true_eq, cxOf, if_true, if_false, Bool.false_eq_true, Nat.reduceAdd, Nat.reduceSub, Nat.zero_add, Nat.add_sub_cancel_left, Nat.add_sub_cancel, Nat.sub_self, spChoose, rNeNil]
      refine ⟨by decide, fun e ne => ⟨ls, sqL_of (same_upd ne _ _ el), sqL_of upd_same, ?_⟩⟩
      have B2 : Bx p H (upd H1 e (.lst [])) := B.trans (.of B.1 (same_upd ne))
      have el2 := same_upd (o := .lst []) ne _ _ el
      have ef2 := same_upd (o := .lst []) ne _ _ ef
      have hlen : ls.length ≤ 1000 := by have := pm.length_eq; rw [List.length_append] at this; omega
      have hlen2 : fs.length ≤ 1000 := by have := pm.length_eq; rw [List.length_append] at this; omega
      cases ls with
      | nil =>
        simp only [and_assoc, tSeq, tAsg, tOp, tUn, rI, rI0, rU, tVar, tC, gName, L2.start, tIfS, tTest, tB, tCB, tCons, tNil, tIf, tRet, tRetN, tLst, tTup, tNext, tDrop, tNot, tNotV, tAnd, tOr, tAndV, tOrV, tPar, tAug, ipI, rEq, rNe, gSub, rSetL, rIxL, rIxT, tBM, tBM0, rAppend, rPopAt, gTup, gCons, gNil, tCall, tSl, tPart, tNoPart, rSlL, rCat, rEqD, rNeD, rIn, scal, List.map_cons, List.map_nil, List.length_cons, List.length_nil, List.length_map, List.cons_append, List.nil_append, List.append_nil, List.replicate, List.getElem?_cons_zero, List.getElem?_cons_succ, List.set_cons_zero, List.set_cons_succ, Option.some.injEq, exists_eq_left', exists_eq_left, exists_eq_right, exists_and_left, exists_and_right, V.int.injEq, V.ref.injEq, V.str.injEq, V.bl.injEq, reduceCtorEq, false_and, and_false, exists_false, or_false, false_or, true_and, and_true, List.cons.injEq, decide_eq_true_eq, cxOf, if_true, if_false, Bool.false_eq_true, Nat.reduceAdd, Nat.reduceSub, Nat.zero_add, Nat.add_sub_cancel_left, Nat.add_sub_cancel, Nat.sub_self, List.isEmpty_nil, Bool.not_true]
        have e2 := B2
        refine q fs f _ B2 (by simpa using pm) nf0 ef2
      | cons y ys =>
        simp only [and_assoc, tSeq, tAsg, tOp, tUn, rI, rI0, rU, tVar, tC, gName, L2.start, tIfS, tTest, tB, tCB, tCons, tNil, tIf, tRet, tRetN, tLst, tTup, tNext, tDrop, tNot, tNotV, tAnd, tOr, tAndV, tOrV, tPar, tAug, ipI, rEq, rNe, gSub, rSetL, rIxL, rIxT, tBM, tBM0, rAppend, rPopAt, gTup, gCons, gNil, tCall, tSl, tPart, tNoPart, rSlL, rCat, rEqD, rNeD, rIn, scal, List.map_cons, List.map_nil, List.length_cons, List.length_nil, List.length_map, List.cons_append, List.nil_append, List.append_nil, List.replicate, List.getElem?_cons_zero, List.getElem?_cons_succ, List.set_cons_zero, List.set_cons_succ, Option.some.injEq, exists_eq_left', exists_eq_left, exists_eq_right, exists_and_left, exists_and_right, V.int.injEq, V.ref.injEq, V.str.injEq, V.bl.injEq, reduceCtorEq, false_and, and_false, exists_false, or_false, false_or, true_and, and_true, List.cons.injEq, decide_eq_true_eq, cxOf, if_true, if_false, Bool.false_eq_true, Nat.reduceAdd, Nat.reduceSub, Nat.zero_add, Nat.add_sub_cancel_left, Nat.add_sub_cancel, Nat.sub_self, List.isEmpty_cons, Bool.not_false]
        refine ⟨.inl ⟨rfl, _, sqL_of ef2⟩, .inl ⟨rfl, _, sqL_of el2⟩, _, sqL_of el2, B2.1, by rw [List.length_cons]; omega, by omega, fun r H3 B3 r0 r1 => ?_⟩
        have el3 := B3.get lp el2
        have ef3 := B3.get fp ef2
        obtain ⟨j, rfl⟩ : ∃ j : Nat, r = (j : Int) := ⟨r.toNat, by omega⟩
        have hj : j < (y :: ys).length := by omega
        refine ⟨_, el3, by omega, by omega, j, ?_, _, List.getElem?_eq_getElem hj, fs, by rw [upd_ne fl]; exact ef3, small1000 hlen2, ((B2.trans B3).mut nl lp).mut nf0 fp, ?_, ?_⟩
        · have := seqIndex_of (k := (j : Int)) (n := (y :: ys).length) (by omega) (by omega)
          rw [this, Int.toNat_natCast]
        · exact ⟨_, by rw [upd_ne fl.symm, upd_same], _, upd_same, perm_pop (List.getElem?_eq_getElem hj) pm⟩
        · rw [lenAt_of el, lenAt_of (xs := (y :: ys).eraseIdx j) (by rw [upd_ne fl.symm, upd_same]), List.length_eraseIdx, if_pos hj]
          exact Nat.sub_lt (by rw [List.length_cons]; omega) (by decide)
    · intro σ H1 Q1 Q2 hQ h
      simp only [and_assoc, tSeq, tAsg, tOp, tUn, rI, rI0, rU, tVar, tC, gName, L2.start, tIfS, tTest, tB, tCB, tCons, tNil, tIf, tRet, tRetN, tLst, tTup, tNext, tDrop, tNot, tNotV, tAnd, tOr, tAndV, tOrV, tPar, tAug, ipI, rEq, rNe, gSub, rSetL, rIxL, rIxT, tBM, tBM0, rAppend, rPopAt, gTup, gCons, gNil, tCall, tSl, tPart, tNoPart, rSlL, rCat, rEqD, rNeD, rIn, scal, List.map_cons, List.map_nil, List.length_cons, List.length_nil, List.length_map, List.cons_append, List.nil_append, List.append_nil, List.replicate, List.getElem?_cons_zero, List.getElem?_cons_succ, List.set_cons_zero, List.set_cons_succ, Option.some.injEq, exists_eq_left', exists_eq_left, exists_eq_right, exists_and_left, exists_and_right, V.int.injEq, V.ref.injEq, V.str.injEq, V.bl.injEq, reduceCtorEq, false_and, and_false, exists_false, or_false, false_or, true_and, and_true, List.cons.injEq, decide_eq_true_eq, cxOf, if_true, if_false, Bool.false_eq_true, Nat.reduceAdd, Nat.reduceSub, Nat.zero_add, Nat.add_sub_cancel_left, Nat.add_sub_cancel, Nat.sub_self, rNeNil] at h ⊢
      obtain ⟨v, hv, hz, k⟩ := h
      exact ⟨v, hv, hz, fun e he => let ⟨l, e1, x, a, b, c⟩ := k e he; ⟨l, e1, x, a, b, hQ _ _ c⟩⟩

end
end He

namespace He
open PySem PySem.Spec PyProof.Rows L2
section
variable {P : Program} {w : World} {K : PySem.W.Frag} {mg : Str → Option Value} {base : Heap}

theorem Bx.new {p b : Addr} {H H' : Hp} (B : Bx p H H') (h : H' b = none) : H b = none := by
  cases e : H b with
  | none => rfl
  | some o =>
    have hb : b ≠ p := fun z => by
      obtain ⟨_, _, e2, _⟩ := B.1
      rw [z, e2] at h
      cases h
    rw [B.get hb e] at h
    cases h
theorem Bx.ne {p b : Addr} {H H' : Hp} (B : Bx p H H') (hb : Box H p) (h : H' b = none) : b ≠ p := fun z => by
  obtain ⟨_, _, e2, _⟩ := B.1
  rw [z, e2] at h
  cases h

mutual
theorem dp_mono {K : PySem.W.Frag} {H H' : Hp} (s : Same H H') : ∀ (d : PyData) (v : V), Dp K H v d → Dp K H' v d
  | .none, _, h => by cases h; exact .non
  | .bool b, _, h => by cases h; exact .bl b
  | .int i, _, h => by cases h; exact .int i
  | .str x, _, h => by cases h; exact .str x
  | .list ds, _, h => by
    cases h with
    | lst hs ha => exact .lst (s.seq hs) (dpA_mono s ds _ ha)
  | .tuple ds, _, h => by
    cases h with
    | tup hs ha => exact .tup (Same.seqT s hs) (dpA_mono s ds _ ha)
  | .dict _, _, h => by cases h
theorem dpA_mono {K : PySem.W.Frag} {H H' : Hp} (s : Same H H') : ∀ (ds : List PyData) (vs : List V), DpAll K H vs ds → DpAll K H' vs ds
  | [], _, h => by cases h; exact .nil
  | d :: ds, _, h => by
    cases h with
    | cons a b => exact .cons (dp_mono s d _ a) (dpA_mono s ds _ b)
end
theorem dpA_append {K : PySem.W.Frag} {H : Hp} : ∀ {vs ws : List V} {ds es : List PyData}, DpAll K H vs ds → DpAll K H ws es → DpAll K H (vs ++ ws) (ds ++ es)
  | [], _, _, _, .nil, h => h
  | _ :: _, _, _, _, .cons a b, h => .cons a (dpA_append b h)
theorem dpA_len {K : PySem.W.Frag} {H : Hp} : ∀ {vs : List V} {ds : List PyData}, DpAll K H vs ds → vs.length = ds.length
  | [], _, .nil => rfl
  | _ :: _, _, .cons _ b => congrArg (· + 1) (dpA_len b)
theorem dpA_strs {K : PySem.W.Frag} {H : Hp} : ∀ zs : List Str, DpAll K H (zs.map V.str) (zs.map PyData.str)
  | [] => .nil
  | z :: zs => .cons (.str z) (dpA_strs zs)
theorem dpA_strs_inv {K : PySem.W.Frag} {H : Hp} : ∀ {zs : List Str} {vs : List V}, DpAll K H vs (zs.map PyData.str) → vs = zs.map V.str
  | [], _, h => by cases h; rfl
  | z :: zs, _, h => by
    cases h with
    | cons a b =>
      cases a
      rw [dpA_strs_inv b]
      rfl
theorem dpA_get {K : PySem.W.Frag} {H : Hp} : ∀ {vs : List V} {ds : List PyData} {i : Nat} {v : V}, DpAll K H vs ds → vs[i]? = some v → ∃ d, ds[i]? = some d ∧ Dp K H v d
  | _, _, i, _, .nil, e => by simp at e
  | _, _, 0, _, .cons a _, e => by
    cases (Option.some.inj e)
    exact ⟨_, rfl, a⟩
  | _, _, i + 1, _, .cons _ b, e => dpA_get (i := i) b e
/-! ### names, groups, shares -/
def nameB (x : Str) : Bool := decide (1 ≤ x.cps.size) && decide (x.cps.size ≤ 5) && x.cps.all (fun c => decide (97 ≤ c) && decide (c ≤ 122)) && decide (x ≠ "crown")
abbrev Sh := Int × List (List Str)
structure GrpOk (g : List Str) : Prop where
  ne : g ≠ []
  nd : g.Nodup
  nm : ∀ n ∈ g, nameB n = true
structure ShOk (s : Sh) : Prop where
  w1 : 1 ≤ s.1
  gs : ∀ g ∈ s.2, GrpOk g
structure ShSmall (s : Sh) : Prop where
  w : s.1 ≤ 999999
  l : s.2.length ≤ 3
  g : ∀ g ∈ s.2, g.length ≤ 3
def dGrp (g : List Str) : PyData := .list (g.map PyData.str)
def dSh (s : Sh) : PyData := .tuple [.int s.1, .list (s.2.map dGrp)]
def dWill (shs : List Sh) : PyData := .list (shs.map dSh)
/-! ### pools of names -/
def pools : List (List Str) := [["ann", "bob", "cid", "dan", "eve", "fay", "gus", "hal", "ida"], ["a", "aa", "ab", "b", "ba", "c", "d", "e", "f"], ["first", "will", "crow", "zoe", "x", "y", "z", "yy", "own"]]
structure Names (ns : List Str) : Prop where
  nd : ns.Nodup
  nm : ∀ n ∈ ns, nameB n = true
theorem pools_ok : ∀ ns ∈ pools, ns.Nodup ∧ (ns.all nameB) = true ∧ ns.length = 9 := by
  decide +kernel
theorem perm_str {ys : List V} {zs : List Str} (h : ys.Perm (zs.map V.str)) : ∃ xs : List Str, ys = xs.map V.str ∧ xs.Perm zs := by
  let un : V → Str := fun v => match v with | .str x => x | _ => Str.empty
  have hu : ∀ l : List Str, (l.map V.str).map un = l := fun l => by
    rw [List.map_map]
    exact (List.map_congr_left fun x _ => rfl).trans (List.map_id l)
  refine ⟨ys.map un, ?_, ?_⟩
  · rw [List.map_map]
    refine ((List.map_congr_left fun x hx => ?_).trans (List.map_id ys)).symm
    obtain ⟨z, _, rfl⟩ := List.mem_map.mp (h.mem_iff.mp hx)
    rfl
  · have := h.map un
    rwa [hu] at this
theorem cut_to (xs : List V) (m : Nat) : cutV xs none (some (m : Int)) = xs.take m := by
  unfold cutV
  rw [HT.sIx_none, HT.sIx_nat, List.drop_zero, Nat.sub_zero]
  by_cases h : m ≤ xs.length
  · rw [Nat.min_eq_left h]
  · rw [Nat.min_eq_right (by omega), List.take_of_length_le (Nat.le_refl _), List.take_of_length_le (by omega)]
/-- so many names of a pool, in some order -/
def spNames (K : PySem.W.Frag) : Sp := fun vs H Q _ => ∃ (p : Addr) (m : Nat), vs = [.ref p, .int (m : Int)] ∧ Box H p ∧ m ≤ 9 ∧
  ∀ (ns : List Str) (r : Addr) (H' : Hp), Bx p H H' → Names ns → ns.length = m → H r = none → H' r = some (.lst (ns.map V.str)) → Q (.ref r) H'
theorem ok_names (T : TxtG K mg) : FnOk P w K mg base CX0 3 T.dLawNames.f T.dLawNames.fd ["_law_box", "_law_many"] (spNames K) := by
  refine T.dLawNames.F.ok scDLawNames (fun vs H Q E h => ?_) (fun cdv A outer s H vs Q E hr h => ?_)
  · obtain ⟨p, m, rfl, _⟩ := h
    rfl
  · obtain ⟨p, m, rfl, hb, hm, q⟩ := h
    refine ⟨_, (pss_cons (ps_set (i := 2) scDLawNames.nd rfl (.inl rfl) (pe_lst (pa_cons (pe_lst (pa_cons pe_str (pa_cons pe_str (pa_cons pe_str (pa_cons pe_str (pa_cons pe_str (pa_cons pe_str (pa_cons pe_str (pa_cons pe_str (pa_cons pe_str pa_nil)))))))))) pa_nil)))
      (pss_cons (ps_expr (pe_bm PySem.F.plainAttrs_list PySem.F.slot_list_append PySem.F.type_list_append mt_append (pv 2) (pa_cons (pe_lst (pa_cons pe_str (pa_cons pe_str (pa_cons pe_str (pa_cons pe_str (pa_cons pe_str (pa_cons pe_str (pa_cons pe_str (pa_cons pe_str (pa_cons pe_str pa_nil)))))))))) pa_nil)))
      (pss_cons (ps_expr (pe_bm PySem.F.plainAttrs_list PySem.F.slot_list_append PySem.F.type_list_append mt_append (pv 2) (pa_cons (pe_lst (pa_cons pe_str (pa_cons pe_str (pa_cons pe_str (pa_cons pe_str (pa_cons pe_str (pa_cons pe_str (pa_cons pe_str (pa_cons pe_str (pa_cons pe_str pa_nil)))))))))) pa_nil)))
      (pss_one (ps_ret (pe_slice sl_list (pe_call (ok_mixed T) (hr.mono (by decide)) (by rfl) T.dLawMixed.g T.dLawMixed.F.kp T.dLawMixed.b .nil pass0 (pa_cons (pv 0) (pa_cons (pe_call (ok_oneof T) (hr.mono (by decide)) (by rfl) T.dLawOneOf.g T.dLawOneOf.F.kp T.dLawOneOf.b .nil pass0 (pa_cons (pv 0) (pa_cons (pv 2) pa_nil))) pa_nil))) po_none (po_some (pv 1)))))))), ?_⟩
    simp only [and_assoc, tSeq, tAsg, tOp, tUn, rI, rI0, rU, tVar, tC, gName, L2.start, tIfS, tTest, tB, tCB, tCons, tNil, tIf, tRet, tRetN, tLst, tTup, tNext, tDrop, tNot, tNotV, tAnd, tOr, tAndV, tOrV, tPar, tAug, ipI, rEq, rNe, gSub, rSetL, rIxL, rIxT, tBM, tBM0, rAppend, rPopAt, gTup, gCons, gNil, tCall, tSl, tPart, tNoPart, rSlL, rCat, rEqD, rNeD, rIn, scal, List.map_cons, List.map_nil, List.length_cons, List.length_nil, List.length_map, List.cons_append, List.nil_append, List.append_nil, List.replicate, List.getElem?_cons_zero, List.getElem?_cons_succ, List.set_cons_zero, List.set_cons_succ, Option.some.injEq, exists_eq_left', exists_eq_left, exists_eq_right, exists_and_left, exists_and_right, V.int.injEq, V.ref.injEq, V.str.injEq, V.bl.injEq, reduceCtorEq, false_and, and_false, exists_false, or_false, false_or, true_and, and_true, List.cons.injEq, decide_eq_true_eq, cxOf, if_true, if_false, Bool.false_eq_true, Nat.reduceAdd, Nat.reduceSub, Nat.zero_add, Nat.add_sub_cancel_left, Nat.add_sub_cancel, Nat.sub_self, spMixed, spOneOf]
    obtain ⟨b0, b1, eb, _⟩ := id hb
    refine ⟨by decide, fun a na => ⟨by decide, fun b nb => ?_⟩⟩
    generalize h1 : upd H a _ = H1 at nb ⊢
    have s1 : Same H H1 := h1 ▸ same_upd na
    have f1 : H1 a = some (.lst ((pools.getD 0 []).map V.str)) := h1 ▸ upd_same
    generalize h2 : upd H1 b _ = H2 at ⊢
    have s2 : Same H1 H2 := h2 ▸ same_upd nb
    have f2 : H2 b = some (.lst [.ref a]) := h2 ▸ upd_same
    refine ⟨.inl ⟨rfl, _, sqL_of f2⟩, by decide, fun c nc => ?_⟩
    generalize h3 : upd H2 c _ = H3 at ⊢
    have s3 : Same H2 H3 := h3 ▸ same_upd nc
    have f3 : H3 c = some (.lst ((pools.getD 1 []).map V.str)) := h3 ▸ upd_same
    have g3 := s3 _ _ f2
    refine ⟨_, g3, (by decide : 1 < sizeLine), .inl ⟨rfl, _, sqL_of upd_same⟩, by decide, fun d nd => ?_⟩
    have nb0 : H b = none := s1.free nb
    have nc0 : H c = none := (s1.trans s2).free nc
    have bp : b ≠ p := fun z => by rw [z, eb] at nb0; cases nb0
    have ba : a ≠ b := fun z => by rw [z, nb] at f1; cases f1
    have bc : c ≠ b := fun z => by rw [z, f2] at nc; cases nc
    have ap : a ≠ p := fun z => by rw [z, eb] at na; cases na
    have cp : c ≠ p := fun z => by rw [z, eb] at nc0; cases nc0
    have B3 : Bx p H H3 := .of hb ((s1.trans s2).trans s3)
    generalize h4 : upd H3 b _ = H4 at nd ⊢
    have B4 : Bx p H H4 := h4 ▸ B3.mut nb0 bp
    have fa4 : H4 a = some (.lst ((pools.getD 0 []).map V.str)) := h4 ▸ (upd_ne ba).trans (s3 _ _ (s2 _ _ f1))
    have fc4 : H4 c = some (.lst ((pools.getD 1 []).map V.str)) := h4 ▸ (upd_ne bc).trans f3
    have fb4 : H4 b = some (.lst ([.ref a] ++ [.ref c])) := h4 ▸ upd_same
    generalize h5 : upd H4 d _ = H5 at ⊢
    have s5 : Same H4 H5 := h5 ▸ same_upd nd
    have fd5 : H5 d = some (.lst ((pools.getD 2 []).map V.str)) := h5 ▸ upd_same
    have db : d ≠ b := fun z => by rw [z, fb4] at nd; cases nd
    have dp : d ≠ p := fun z => by
      obtain ⟨_, _, e4, _⟩ := B4.1
      rw [z, e4] at nd; cases nd
    refine ⟨_, s5 _ _ fb4, (by decide : 2 < sizeLine), ?_⟩
    have B5 : Bx p H H5 := B4.trans (.of B4.1 s5)
    generalize h6 : upd H5 b _ = H6 at ⊢
    have B6 : Bx p H H6 := h6 ▸ B5.mut nb0 bp
    have fa6 : hide p H6 a = some (.lst ((pools.getD 0 []).map V.str)) := by rw [hide_ne ap]; exact h6 ▸ (upd_ne ba).trans (s5 _ _ fa4)
    have fc6 : hide p H6 c = some (.lst ((pools.getD 1 []).map V.str)) := by rw [hide_ne cp]; exact h6 ▸ (upd_ne bc).trans (s5 _ _ fc4)
    have fd6 : hide p H6 d = some (.lst ((pools.getD 2 []).map V.str)) := by rw [hide_ne dp]; exact h6 ▸ (upd_ne db).trans fd5
    have fb6 : hide p H6 b = some (.lst ([.ref a] ++ [.ref c] ++ [.ref d])) := by rw [hide_ne bp]; exact h6 ▸ upd_same
    refine ⟨B6.1, _, sqL_of fb6, (by decide : 0 < 3), (by decide : 3 ≤ 1000), fun i v H7 B7 hi => ?_⟩
    obtain ⟨a', pl, rfl, hp, f7⟩ : ∃ a' pl, v = .ref a' ∧ pl ∈ pools ∧ hide p H7 a' = some (.lst (pl.map V.str)) := by
      match i, hi with
      | 0, hi => exact ⟨a, _, (Option.some.inj hi).symm, by decide, B7.2 _ _ fa6⟩
      | 1, hi => exact ⟨c, _, (Option.some.inj hi).symm, by decide, B7.2 _ _ fc6⟩
      | 2, hi => exact ⟨d, _, (Option.some.inj hi).symm, by decide, B7.2 _ _ fd6⟩
      | i + 3, hi => exact absurd hi (by simp)
    obtain ⟨n1, n2, n3⟩ := pools_ok pl hp
    refine ⟨a', rfl, B7.1, pl.map V.str, sqL_of f7, by rw [List.length_map, n3]; decide, fun ys r H8 B8 pm nr er => ⟨_, sqL_of er, fun t nt => ?_⟩⟩
    obtain ⟨xs, rfl, pm2⟩ := perm_str pm
    have B80 := (B6.trans B7).trans B8
    have nt0 : H t = none := B80.new nt
    refine q (xs.take m) t _ (B80.mut nt0 (B80.ne hb nt)) ⟨(pm2.nodup_iff.mpr n1).sublist (List.take_sublist _ _), fun n hn => ?_⟩ ?_ nt0 ?_
    · exact List.all_eq_true.mp n2 n (pm2.mem_iff.mp (List.mem_of_mem_take hn))
    · rw [List.length_take, pm2.length_eq, n3]
      omega
    · rw [upd_same, cut_to, List.map_take]
/-- one to three of them, in some order -/
def spGroup (K : PySem.W.Frag) : Sp := fun vs H Q _ => ∃ (p a : Addr) (ns : List Str), vs = [.ref p, .ref a] ∧ Box H p ∧ SqL K (hide p H) a (ns.map V.str) ∧ ns.length ≤ 1000 ∧ ns ≠ [] ∧
  ∀ (xs : List Str) (n : Nat) (r : Addr) (H' : Hp), Bx p H H' → xs.Perm ns → 1 ≤ n → n ≤ 3 → H r = none → H' r = some (.lst ((xs.take n).map V.str)) → Q (.ref r) H'
theorem ok_group (T : TxtG K mg) : FnOk P w K mg base CX0 3 T.dLawGroup.f T.dLawGroup.fd ["_law_box", "_law_some"] (spGroup K) := by
  refine T.dLawGroup.F.ok scDLawGroup (fun vs H Q E h => ?_) (fun cdv A outer s H vs Q E hr h => ?_)
  · obtain ⟨p, a, ns, rfl, _⟩ := h
    rfl
  · obtain ⟨p, a, ns, rfl, hb, hS, hl, h0, q⟩ := h
    refine ⟨_, (pss_one (ps_ret (pe_slice sl_list (pe_call (ok_mixed T) (hr.mono (by decide)) (by rfl) T.dLawMixed.g T.dLawMixed.F.kp T.dLawMixed.b .nil pass0 (pa_cons (pv 0) (pa_cons (pv 1) pa_nil))) po_none (po_some (pe_op op_add pe_int (pe_call (ok_choose T) (hr.mono (by decide)) (by rfl) T.dLawChoose.g T.dLawChoose.F.kp T.dLawChoose.b .nil pass0 (pa_cons (pv 0) (pa_cons pe_int pa_nil)))))))), ?_⟩
    simp only [and_assoc, tSeq, tAsg, tOp, tUn, rI, rI0, rU, tVar, tC, gName, L2.start, tIfS, tTest, tB, tCB, tCons, tNil, tIf, tRet, tRetN, tLst, tTup, tNext, tDrop, tNot, tNotV, tAnd, tOr, tAndV, tOrV, tPar, tAug, ipI, rEq, rNe, gSub, rSetL, rIxL, rIxT, tBM, tBM0, rAppend, rPopAt, gTup, gCons, gNil, tCall, tSl, tPart, tNoPart, rSlL, rCat, rEqD, rNeD, rIn, scal, List.map_cons, List.map_nil, List.length_cons, List.length_nil, List.length_map, List.cons_append, List.nil_append, List.append_nil, List.replicate, List.getElem?_cons_zero, List.getElem?_cons_succ, List.set_cons_zero, List.set_cons_succ, Option.some.injEq, exists_eq_left', exists_eq_left, exists_eq_right, exists_and_left, exists_and_right, V.int.injEq, V.ref.injEq, V.str.injEq, V.bl.injEq, reduceCtorEq, false_and, and_false, exists_false, or_false, false_or, true_and, and_true, List.cons.injEq, decide_eq_true_eq, cxOf, if_true, if_false, Bool.false_eq_true, Nat.reduceAdd, Nat.reduceSub, Nat.zero_add, Nat.add_sub_cancel_left, Nat.add_sub_cancel, Nat.sub_self, spMixed, spChoose]
    refine ⟨hb, _, hS, by rw [List.length_map]; exact hl, fun ys r H1 B pm nr er => ⟨B.1, by decide, by decide, fun k H2 B2 k0 k1 => ?_⟩⟩
    obtain ⟨xs, rfl, pm2⟩ := perm_str pm
    have rp : r ≠ p := fun z => by
      obtain ⟨_, _, e2, _⟩ := hb
      rw [z, e2] at nr
      cases nr
    refine ⟨_, sqL_of (B2.get rp er), fun t nt => ?_⟩
    obtain ⟨n, hn⟩ : ∃ n : Nat, 1 + k = (n : Int) := ⟨(1 + k).toNat, by omega⟩
    have B3 := B.trans B2
    have nt0 := B3.new nt
    refine q xs n t _ (B3.mut nt0 (B3.ne hb nt)) pm2 (by omega) (by omega) nt0 ?_
    rw [upd_same, hn, cut_to, List.map_take]

end
end He

namespace He
open PySem PySem.Spec PyProof.Rows L2
section
variable {P : Program} {w : World} {K : PySem.W.Frag} {mg : Str → Option Value} {base : Heap}

/-! ### loops and comprehensions, the walked thing apart -/
def ForGoes (J : It) (g : TG) (tb : TS) (D : Ends) (σ : L2.St) (H1 : Hp) : Prop := ∃ W : Nat → Nat → L2.St → Hp → Prop, (∃ m, W 0 m σ H1) ∧ ∀ i m σ H, W i m σ H →
  (J.stop i H ∧ D.nx σ H) ∨ (J.go i H ∧ ∃ N : L2.St → Hp → Prop, (∀ σ' H', N σ' H' → ∃ m', m' < m ∧ W (i + 1) m' σ' H') ∧ ∀ x H', J.yld i H x H' → g x σ H' fun σ2 H2 => tb { D with nx := N, ct := N, bk := D.nx } σ2 H2)
theorem tFor_eq (wi : TI) (g : TG) (tb : TS) (D : Ends) (σ : L2.St) (H : Hp) : tFor wi g tb D σ H = wi σ H (fun J H1 => ForGoes J g tb D σ H1) := rfl
theorem fg_range {lo : Int} {n : Nat} {g : TG} {tb : TS} {D : Ends} {σ : L2.St} {H : Hp} (Pv : Nat → L2.St → Hp → Prop) (h0 : Pv 0 σ H)
    (hs : ∀ i σ H, i < n → Pv i σ H → g (.int (lo + i)) σ H fun σ2 H2 => tb { D with nx := Pv (i + 1), ct := Pv (i + 1), bk := D.nx } σ2 H2) (hd : ∀ σ H, Pv n σ H → D.nx σ H) : ForGoes (Itr lo n) g tb D σ H := for_range Pv h0 hs hd
theorem fg_list {a : Addr} {xs : List V} {g : TG} {tb : TS} {D : Ends} {σ : L2.St} {H : Hp} (Pv : Nat → L2.St → Hp → Prop) (h0 : Pv 0 σ H) (hl : ∀ i σ H, i ≤ xs.length → Pv i σ H → SqL K H a xs)
    (hs : ∀ i x σ H, xs[i]? = some x → Pv i σ H → g x σ H fun σ2 H2 => tb { D with nx := Pv (i + 1), ct := Pv (i + 1), bk := D.nx } σ2 H2) (hd : ∀ σ H, Pv xs.length σ H → D.nx σ H) : ForGoes (Itl K a) g tb D σ H := for_list Pv h0 hl hs hd
theorem fg_tup {a : Addr} {xs : List V} {g : TG} {tb : TS} {D : Ends} {σ : L2.St} {H : Hp} (Pv : Nat → L2.St → Hp → Prop) (h0 : Pv 0 σ H) (hl : ∀ i σ H, i ≤ xs.length → Pv i σ H → SqT K H a xs)
    (hs : ∀ i x σ H, xs[i]? = some x → Pv i σ H → g x σ H fun σ2 H2 => tb { D with nx := Pv (i + 1), ct := Pv (i + 1), bk := D.nx } σ2 H2) (hd : ∀ σ H, Pv xs.length σ H → D.nx σ H) : ForGoes (Itt K a) g tb D σ H := for_tup Pv h0 hl hs hd
def LcGoes (J : It) (g : TG) (tt : TT) (te : TE) (vs : List Nat) (σ : L2.St) (H1 : Hp) (D : Addr) (Q : Hp → Prop) : Prop := ∃ W : Nat → Nat → Hp → Prop, (∃ m, W 0 m (upd H1 D (.lst []))) ∧ ∀ i m H, W i m H →
  (J.stop i H ∧ Q H) ∨ (J.go i H ∧ ∃ Nx : Hp → Prop, (∀ H', Nx H' → ∃ m', m' < m ∧ W (i + 1) m' H') ∧ ∀ x H', J.yld i H x H' → g x (wipe σ vs) H' fun σ2 H2 => wipe σ2 vs = wipe σ vs ∧ tt σ2 H2 fun b H3 =>
    if b = true then te σ2 H3 fun y H4 => ∃ acc, H4 D = some (.lst acc) ∧ acc.length < sizeLine ∧ Nx (upd H4 D (.lst (acc ++ [y]))) else Nx H3)
theorem tLc_eq (wi : TI) (g : TG) (tt : TT) (te : TE) (vs : List Nat) (σ : L2.St) (H : Hp) (Q : VK) : tLc wi g tt te vs σ H Q = wi σ H (fun J H1 => ∀ D, H1 D = none → LcGoes J g tt te vs σ H1 D (fun H => Q (.ref D) H)) := rfl
theorem lg_range {lo : Int} {n : Nat} {g : TG} {tt : TT} {te : TE} {vs : List Nat} {σ : L2.St} {H1 : Hp} {D : Addr} {Qd : Hp → Prop} (Pv : Nat → Hp → Prop) (h0 : Pv 0 (upd H1 D (.lst [])))
    (hs : ∀ i H, i < n → Pv i H → g (.int (lo + i)) (wipe σ vs) H fun σ2 H2 => wipe σ2 vs = wipe σ vs ∧ tt σ2 H2 fun b H3 =>
      if b = true then te σ2 H3 fun y H4 => ∃ acc, H4 D = some (.lst acc) ∧ acc.length < sizeLine ∧ Pv (i + 1) (upd H4 D (.lst (acc ++ [y]))) else Pv (i + 1) H3) (hd : ∀ H, Pv n H → Qd H) : LcGoes (Itr lo n) g tt te vs σ H1 D Qd := lc_range Pv h0 hs hd
theorem lg_list {a : Addr} {xs : List V} {g : TG} {tt : TT} {te : TE} {vs : List Nat} {σ : L2.St} {H1 : Hp} {D : Addr} {Qd : Hp → Prop} (Pv : Nat → Hp → Prop) (h0 : Pv 0 (upd H1 D (.lst []))) (hl : ∀ i H, i ≤ xs.length → Pv i H → SqL K H a xs)
    (hs : ∀ i x H, xs[i]? = some x → Pv i H → g x (wipe σ vs) H fun σ2 H2 => wipe σ2 vs = wipe σ vs ∧ tt σ2 H2 fun b H3 =>
      if b = true then te σ2 H3 fun y H4 => ∃ acc, H4 D = some (.lst acc) ∧ acc.length < sizeLine ∧ Pv (i + 1) (upd H4 D (.lst (acc ++ [y]))) else Pv (i + 1) H3) (hd : ∀ H, Pv xs.length H → Qd H) : LcGoes (Itl K a) g tt te vs σ H1 D Qd := lc_list Pv h0 hl hs hd
theorem lg_tup {a : Addr} {xs : List V} {g : TG} {tt : TT} {te : TE} {vs : List Nat} {σ : L2.St} {H1 : Hp} {D : Addr} {Qd : Hp → Prop} (Pv : Nat → Hp → Prop) (h0 : Pv 0 (upd H1 D (.lst []))) (hl : ∀ i H, i ≤ xs.length → Pv i H → SqT K H a xs)
    (hs : ∀ i x H, xs[i]? = some x → Pv i H → g x (wipe σ vs) H fun σ2 H2 => wipe σ2 vs = wipe σ vs ∧ tt σ2 H2 fun b H3 =>
      if b = true then te σ2 H3 fun y H4 => ∃ acc, H4 D = some (.lst acc) ∧ acc.length < sizeLine ∧ Pv (i + 1) (upd H4 D (.lst (acc ++ [y]))) else Pv (i + 1) H3) (hd : ∀ H, Pv xs.length H → Qd H) : LcGoes (Itt K a) g tt te vs σ H1 D Qd := lc_tup Pv h0 hl hs hd
/-! ### a will, drawn -/
structure WillOk (ns : List Str) (shs : List Sh) : Prop where
  ne : shs ≠ []
  l3 : shs.length ≤ 3
  ok : ∀ s ∈ shs, ShOk s ∧ ShSmall s ∧ ∀ g ∈ s.2, ∀ n ∈ g, n ∈ ns
theorem hide_mut {p f : Addr} {H : Hp} {o : HO} : Same (hide f (hide p H)) (hide f (hide p (upd H f o))) := fun b u e => by
  have hb : b ≠ f := fun z => by rw [z, hide_self] at e; cases e
  rw [hide_ne hb] at e ⊢
  by_cases hp : b = p
  · rw [hp, hide_self] at e
    cases e
  · rw [hide_ne hp] at e ⊢
    rw [upd_ne hb]
    exact e
theorem hide_mut3 {p f d : Addr} {H : Hp} {o : HO} : Same (hide d (hide f (hide p H))) (hide d (hide f (hide p (upd H d o)))) := fun b u e => by
  have hb : b ≠ d := fun z => by rw [z, hide_self] at e; cases e
  rw [hide_ne hb] at e ⊢
  unfold hide at e ⊢
  rw [upd_ne hb]
  exact e
def spWill (K : PySem.W.Frag) : Sp := fun vs H Q _ => ∃ (p a : Addr) (ns : List Str), vs = [.ref p, .ref a] ∧ Box H p ∧ SqL K (hide p H) a (ns.map V.str) ∧ ns.length ≤ 9 ∧ Names ns ∧
  ∀ (shs : List Sh) (vs : List V) (r : Addr) (H' : Hp), Bx p H H' → WillOk ns shs → H r = none → H' r = some (.lst vs) → DpAll K (hide p H') vs (shs.map dSh) → Q (.ref r) H'
theorem ok_will (T : TxtG K mg) : FnOk P w K mg base CX0 4 T.dLawWill.f T.dLawWill.fd ["_law_box", "_law_others"] (spWill K) := by
  refine T.dLawWill.F.ok scDLawWill (fun vs H Q E h => ?_) (fun cdv A outer s H vs Q E hr h => ?_)
  · obtain ⟨p, a, ns, rfl, _⟩ := h
    rfl
  · obtain ⟨p, a, ns, rfl, hb, hS, hl, hN, q⟩ := h
    refine ⟨_, (pss_cons (ps_set (i := 2) scDLawWill.nd rfl (.inl rfl) (pe_lst pa_nil))
      (pss_cons (ps_for PassesOwn.never rfl (pi_range1 (by rfl) T.z_range (pa_cons (pe_op op_add pe_int (pe_call (ok_choose T) (hr.mono (by decide)) (by rfl) T.dLawChoose.g T.dLawChoose.F.kp T.dLawChoose.b .nil pass0 (pa_cons (pv 0) (pa_cons pe_int pa_nil)))) pa_nil)) (pg_name (i := 3) scDLawWill.nd rfl (.inl rfl))
      (pss_cons (ps_set (i := 4) scDLawWill.nd rfl (.inl rfl) (pe_ifExp (pt_cmpR (op_neNil hr.units) (pv 1) (pe_lst pa_nil) (nomark _)) (pe_lc (own := [("_law_turn", 5)]) (g := (gName 5)) (tt := tYes) rfl scDLawWill.nd (pi_range1 (by rfl) T.z_range (pa_cons (pe_call (ok_choose T) (hr.mono (by decide)) (by rfl) T.dLawChoose.g T.dLawChoose.F.kp T.dLawChoose.b .nil pass0 (pa_cons (pv 0) (pa_cons pe_int pa_nil))) pa_nil)) (blkOk_by (N := ["_law_box", "_law_others", "_law_found", "_law_share", "_law_groups", "_law_turn"]) (sc := defScope sDLawWill) (by decide +kernel)) (fun _ _ _ _ _ => (pg_name (i := 5) scDLawWill.nd rfl (.inl rfl))) (fun _ _ _ _ _ => pts_nil) (fun _ _ _ _ _ => (pe_call (ok_group T) (hr.mono (by decide)) (by rfl) T.dLawGroup.g T.dLawGroup.F.kp T.dLawGroup.b .nil pass0 (pa_cons (pv 0) (pa_cons (pv 1) pa_nil))))) (pe_lst pa_nil)))
      (pss_one (ps_expr (pe_bm PySem.F.plainAttrs_list PySem.F.slot_list_append PySem.F.type_list_append mt_append (pv 2) (pa_cons (pe_tup (pa_cons (pe_op op_add pe_int (pe_call (ok_choose T) (hr.mono (by decide)) (by rfl) T.dLawChoose.g T.dLawChoose.F.kp T.dLawChoose.b .nil pass0 (pa_cons (pv 0) (pa_cons pe_int pa_nil)))) (pa_cons (pv 4) pa_nil))) pa_nil))))))
      (pss_one (ps_ret (pv 2))))), ?_⟩
    simp only [and_assoc, tSeq, tAsg, tOp, tUn, rI, rI0, rU, tVar, tC, gName, L2.start, tIfS, tTest, tB, tCB, tCons, tNil, tIf, tRet, tRetN, tLst, tTup, tNext, tDrop, tNot, tNotV, tAnd, tOr, tAndV, tOrV, tPar, tAug, ipI, rEq, rNe, gSub, rSetL, rIxL, rIxT, tBM, tBM0, rAppend, rPopAt, gTup, gCons, gNil, tCall, tSl, tPart, tNoPart, rSlL, rCat, rEqD, rNeD, rIn, scal, List.map_cons, List.map_nil, List.length_cons, List.length_nil, List.length_map, List.cons_append, List.nil_append, List.append_nil, List.replicate, List.getElem?_cons_zero, List.getElem?_cons_succ, List.set_cons_zero, List.set_cons_succ, Option.some.injEq, exists_eq_left', exists_eq_left, exists_eq_right, exists_and_left, exists_and_right, V.int.injEq, V.ref.injEq, V.str.injEq, V.bl.injEq, reduceCtorEq, false_and, and_false, exists_false, or_false, false_or, true_and, and_true, List.cons.injEq, decide_eq_true_eq, cxOf, if_true, if_false, Bool.false_eq_true, Nat.reduceAdd, Nat.reduceSub, Nat.zero_add, Nat.add_sub_cancel_left, Nat.add_sub_cancel, Nat.sub_self, tFor_eq, tLc_eq, iRng1, iRng2, iList, iTup, iEnum, List.map_cons, List.map_nil, spChoose, spGroup, rNeNil]
    obtain ⟨b0, b1, eb, _⟩ := id hb
    refine ⟨by decide, fun f nf => ⟨hb.same (same_upd nf), by decide, by decide, fun k H1 B1 k0 k1 => ⟨by omega, by omega, ?_⟩⟩⟩
    obtain ⟨n, hn⟩ : ∃ n : Nat, 1 + k = (n : Int) := ⟨(1 + k).toNat, by omega⟩
    have fp : f ≠ p := fun z => by rw [z, eb] at nf; cases nf
    have B01 : Bx p H H1 := (Bx.of hb (same_upd nf)).trans B1
    have f1 : H1 f = some (.lst []) := B1.get fp upd_same
    rw [hn, Int.toNat_natCast]
    refine fg_range (fun i σ H2 => ∃ (g t z : Option V) (shs : List Sh) (vs : List V), σ = [some (.ref p), some (.ref a), some (.ref f), g, t, z] ∧ Bx p H H2 ∧ H2 f = some (.lst vs) ∧ shs.length = i ∧ (∀ s ∈ shs, ShOk s ∧ ShSmall s ∧ ∀ g ∈ s.2, ∀ n ∈ g, n ∈ ns) ∧
      DpAll K (hide f (hide p H2)) vs (shs.map dSh)) ⟨none, none, none, [], [], rfl, B01, f1, rfl, fun _ h => (nomatch h), .nil⟩ ?_ ?_
    · rintro i σ H2 hi ⟨g, t, z, shs, vs, rfl, B, ef, hl2, hok, hd⟩
      simp only [and_assoc, tSeq, tAsg, tOp, tUn, rI, rI0, rU, tVar, tC, gName, L2.start, tIfS, tTest, tB, tCB, tCons, tNil, tIf, tRet, tRetN, tLst, tTup, tNext, tDrop, tNot, tNotV, tAnd, tOr, tAndV, tOrV, tPar, tAug, ipI, rEq, rNe, gSub, rSetL, rIxL, rIxT, tBM, tBM0, rAppend, rPopAt, gTup, gCons, gNil, tCall, tSl, tPart, tNoPart, rSlL, rCat, rEqD, rNeD, rIn, scal, List.map_cons, List.map_nil, List.length_cons, List.length_nil, List.length_map, List.cons_append, List.nil_append, List.append_nil, List.replicate, List.getElem?_cons_zero, List.getElem?_cons_succ, List.set_cons_zero, List.set_cons_succ, Option.some.injEq, exists_eq_left', exists_eq_left, exists_eq_right, exists_and_left, exists_and_right, V.int.injEq, V.ref.injEq, V.str.injEq, V.bl.injEq, reduceCtorEq, false_and, and_false, exists_false, or_false, false_or, true_and, and_true, List.cons.injEq, decide_eq_true_eq, cxOf, if_true, if_false, Bool.false_eq_true, Nat.reduceAdd, Nat.reduceSub, Nat.zero_add, Nat.add_sub_cancel_left, Nat.add_sub_cancel, Nat.sub_self, tFor_eq, tLc_eq, iRng1, iRng2, iList, iTup, iEnum, List.map_cons, List.map_nil, spChoose, spGroup, rNeNil]
      have hS2 : SqL K (hide p H2) a (ns.map V.str) := B.2.seq hS
      refine ⟨by decide, fun e ne => ⟨ns.map V.str, (same_upd ne).seq (hide_le.seq hS2), sqL_of upd_same, ?_⟩⟩
      generalize h3 : upd H2 e _ = H3 at ⊢
      have s3 : Same H2 H3 := h3 ▸ same_upd ne
      have B3 : Bx p H H3 := B.trans (.of B.1 s3)
      have ef3 : H3 f = some (.lst vs) := s3 _ _ ef
      have hd3 : DpAll K (hide f (hide p H3)) vs (shs.map dSh) := dpA_mono (hide_same (hide_same s3)) _ _ hd
      have nf3 : ∀ {g : Addr}, H3 g = none → g ≠ f := fun h z => by rw [z, ef3] at h; cases h
      have fin : ∀ (gs : List (List Str)) (D : Addr) (gv : List V) (H4 : Hp), Bx p H3 H4 → gs.length ≤ 3 → (∀ g ∈ gs, GrpOk g ∧ g.length ≤ 3 ∧ ∀ n ∈ g, n ∈ ns) → H3 D = none → H4 D = some (.lst gv) → DpAll K (hide f (hide p H4)) gv (gs.map dGrp) →
          tyV K "list" (.ref f) H4 ∧ Box H4 p ∧ (0 : Int) < 4 ∧ (4 : Int) ≤ 1000000 ∧ ∀ (r : Int) (H' : Hp), Bx p H4 H' → 0 ≤ r → r < 4 → 2 ≤ sizeLine ∧ ∀ (u : Addr), H' u = none →
            ∃ x, upd H' u (.tup [.int (1 + r), .ref D]) f = some (.lst x) ∧ x.length < sizeLine ∧ Bx p H (upd (upd H' u (.tup [.int (1 + r), .ref D])) f (.lst (x ++ [.ref u]))) ∧
              ∃ (x_1 : List Sh) (x_2 : List V), upd (upd H' u (.tup [.int (1 + r), .ref D])) f (.lst (x ++ [.ref u])) f = some (.lst x_2) ∧ x_1.length = i + 1 ∧
                (∀ s : Sh, s ∈ x_1 → ShOk s ∧ ShSmall s ∧ ∀ g : List Str, g ∈ s.snd → ∀ n : Str, n ∈ g → n ∈ ns) ∧
                DpAll K (hide f (hide p (upd (upd H' u (.tup [.int (1 + r), .ref D])) f (.lst (x ++ [.ref u]))))) x_2 (x_1.map dSh) := by
        intro gs D gv H4 B4 hg3 hgo nD eD hgv
        refine ⟨.inl ⟨rfl, _, sqL_of (B4.get fp ef3)⟩, B4.1, by decide, by decide, fun r H5 B5 r0 r1 => ⟨by decide, fun u nu => ?_⟩⟩
        have Dp' : D ≠ p := B3.ne hb nD
        have Df : D ≠ f := nf3 nD
        have ef5 := B5.get fp (B4.get fp ef3)
        have su := same_upd (o := .tup [.int (1 + r), .ref D]) nu
        have uf : u ≠ f := fun z => by rw [z, ef5] at nu; cases nu
        have up : u ≠ p := fun z => by obtain ⟨_, _, e, _⟩ := B5.1; rw [z, e] at nu; cases nu
        have eu : upd H5 u (.tup [.int (1 + r), .ref D]) u = some (.tup [.int (1 + r), .ref D]) := upd_same
        generalize h6 : upd H5 u (.tup [.int (1 + r), .ref D]) = H6 at su eu ⊢
        have B36 : Bx p H3 H6 := (B4.trans B5).trans (.of B5.1 su)
        have B6 : Bx p H H6 := B3.trans B36
        have hvs : vs.length = i := by rw [dpA_len hd, List.length_map]; exact hl2
        refine ⟨vs, su _ _ ef5, small1000 (by omega), B6.mut nf fp, shs ++ [(1 + r, gs)], vs ++ [.ref u], upd_same, by rw [List.length_append, hl2]; rfl, fun s hs => ?_, ?_⟩
        · rcases List.mem_append.mp hs with h | h
          · exact hok s h
          · obtain rfl := List.mem_singleton.mp h
            exact ⟨⟨by show 1 ≤ 1 + r; omega, fun g hg => (hgo g hg).1⟩, ⟨by show 1 + r ≤ 999999; omega, by show gs.length ≤ 3; omega, fun g hg => (hgo g hg).2.1⟩, fun g hg => (hgo g hg).2.2⟩
        · rw [List.map_append]
          have m6 : Same (hide f (hide p H3)) (hide f (hide p H6)) := hide_same B36.2
          have m46 : Same (hide f (hide p H4)) (hide f (hide p H6)) := hide_same (B5.trans (.of B5.1 su)).2
          have eD6 : hide f (hide p H6) D = some (.lst gv) := by
            refine m46 _ _ ?_
            rw [hide_ne Df, hide_ne Dp']
            exact eD
          have eu6 : hide f (hide p H6) u = some (.tup [.int (1 + r), .ref D]) := by rw [hide_ne uf, hide_ne up]; exact eu
          refine dpA_append (dpA_mono hide_mut _ _ (dpA_mono m6 _ _ hd3)) (.cons (dp_mono hide_mut _ _ ?_) .nil)
          exact .tup (sqT_of eu6) (.cons (.int _) (.cons (.lst (sqL_of eD6) (dpA_mono m46 _ _ hgv)) .nil))
      by_cases hne : ns = []
      · rw [show (List.map V.str ns).isEmpty = true by rw [hne]; rfl]
        simp only [and_assoc, tSeq, tAsg, tOp, tUn, rI, rI0, rU, tVar, tC, gName, L2.start, tIfS, tTest, tB, tCB, tCons, tNil, tIf, tRet, tRetN, tLst, tTup, tNext, tDrop, tNot, tNotV, tAnd, tOr, tAndV, tOrV, tPar, tAug, ipI, rEq, rNe, gSub, rSetL, rIxL, rIxT, tBM, tBM0, rAppend, rPopAt, gTup, gCons, gNil, tCall, tSl, tPart, tNoPart, rSlL, rCat, rEqD, rNeD, rIn, scal, List.map_cons, List.map_nil, List.length_cons, List.length_nil, List.length_map, List.cons_append, List.nil_append, List.append_nil, List.replicate, List.getElem?_cons_zero, List.getElem?_cons_succ, List.set_cons_zero, List.set_cons_succ, Option.some.injEq, exists_eq_left', exists_eq_left, exists_eq_right, exists_and_left, exists_and_right, V.int.injEq, V.ref.injEq, V.str.injEq, V.bl.injEq, reduceCtorEq, false_and, and_false, exists_false, or_false, false_or, true_and, and_true, List.cons.injEq, decide_eq_true_eq, cxOf, if_true, if_false, Bool.false_eq_true, Nat.reduceAdd, Nat.reduceSub, Nat.zero_add, Nat.add_sub_cancel_left, Nat.add_sub_cancel, Nat.sub_self, tFor_eq, tLc_eq, iRng1, iRng2, iList, iTup, iEnum, List.map_cons, List.map_nil, Bool.not_true]
        refine ⟨by decide, fun D nD => ?_⟩
        exact fin [] D [] _ (.of B3.1 (same_upd nD)) (by decide) (fun _ h => nomatch h) nD upd_same .nil
      · have hie : ns.isEmpty = false := by cases ns with | nil => exact absurd rfl hne | cons _ _ => rfl
        rw [List.isEmpty_map, hie]
        simp only [and_assoc, tSeq, tAsg, tOp, tUn, rI, rI0, rU, tVar, tC, gName, L2.start, tIfS, tTest, tB, tCB, tCons, tNil, tIf, tRet, tRetN, tLst, tTup, tNext, tDrop, tNot, tNotV, tAnd, tOr, tAndV, tOrV, tPar, tAug, ipI, rEq, rNe, gSub, rSetL, rIxL, rIxT, tBM, tBM0, rAppend, rPopAt, gTup, gCons, gNil, tCall, tSl, tPart, tNoPart, rSlL, rCat, rEqD, rNeD, rIn, scal, List.map_cons, List.map_nil, List.length_cons, List.length_nil, List.length_map, List.cons_append, List.nil_append, List.append_nil, List.replicate, List.getElem?_cons_zero, List.getElem?_cons_succ, List.set_cons_zero, List.set_cons_succ, Option.some.injEq, exists_eq_left', exists_eq_left, exists_eq_right, exists_and_left, exists_and_right, V.int.injEq, V.ref.injEq, V.str.injEq, V.bl.injEq, reduceCtorEq, false_and, and_false, exists_false, or_false, false_or, true_and, and_true, List.cons.injEq, decide_eq_true_eq, cxOf, if_true, if_false, Bool.false_eq_true, Nat.reduceAdd, Nat.reduceSub, Nat.zero_add, Nat.add_sub_cancel_left, Nat.add_sub_cancel, Nat.sub_self, tFor_eq, tLc_eq, iRng1, iRng2, iList, iTup, iEnum, List.map_cons, List.map_nil, Bool.not_false]
        refine ⟨B3.1, by decide, by decide, fun r H4 B4 r0 r1 => ⟨by omega, by omega, fun D nD => ?_⟩⟩
        have nD3 : H3 D = none := B4.new nD
        have Dp' : D ≠ p := B3.ne hb nD3
        have Df : D ≠ f := nf3 nD3
        refine lg_range (fun j H5 => ∃ (gs : List (List Str)) (gv : List V), Bx p H3 H5 ∧ gs.length = j ∧ (∀ g ∈ gs, GrpOk g ∧ g.length ≤ 3 ∧ ∀ n ∈ g, n ∈ ns) ∧ H5 D = some (.lst gv) ∧ DpAll K (hide D (hide f (hide p H5))) gv (gs.map dGrp))
          ⟨[], [], B4.trans (.of B4.1 (same_upd nD)), rfl, fun _ h => (nomatch h), upd_same, .nil⟩ ?_ ?_
        · rintro j H5 hj ⟨gs, gv, B5, hgl, hgo, eD, hgv⟩
          simp only [and_assoc, tSeq, tAsg, tOp, tUn, rI, rI0, rU, tVar, tC, gName, L2.start, tIfS, tTest, tB, tCB, tCons, tNil, tIf, tRet, tRetN, tLst, tTup, tNext, tDrop, tNot, tNotV, tAnd, tOr, tAndV, tOrV, tPar, tAug, ipI, rEq, rNe, gSub, rSetL, rIxL, rIxT, tBM, tBM0, rAppend, rPopAt, gTup, gCons, gNil, tCall, tSl, tPart, tNoPart, rSlL, rCat, rEqD, rNeD, rIn, scal, List.map_cons, List.map_nil, List.length_cons, List.length_nil, List.length_map, List.cons_append, List.nil_append, List.append_nil, List.replicate, List.getElem?_cons_zero, List.getElem?_cons_succ, List.set_cons_zero, List.set_cons_succ, Option.some.injEq, exists_eq_left', exists_eq_left, exists_eq_right, exists_and_left, exists_and_right, V.int.injEq, V.ref.injEq, V.str.injEq, V.bl.injEq, reduceCtorEq, false_and, and_false, exists_false, or_false, false_or, true_and, and_true, List.cons.injEq, decide_eq_true_eq, cxOf, if_true, if_false, Bool.false_eq_true, Nat.reduceAdd, Nat.reduceSub, Nat.zero_add, Nat.add_sub_cancel_left, Nat.add_sub_cancel, Nat.sub_self, tFor_eq, tLc_eq, iRng1, iRng2, iList, iTup, iEnum, List.map_cons, List.map_nil, wipe, tYes, spGroup]
          have B05 : Bx p H H5 := B3.trans B5
          refine ⟨B5.1, ns, B05.2.seq hS, by omega, hne, fun xs m u H6 B6 pm m1 m3 nu eu => ?_⟩
          have eD6 := B6.get Dp' eD
          have B36 := B5.trans B6
          have uD : u ≠ D := fun z => by rw [z, eD] at nu; cases nu
          have uf : u ≠ f := fun z => by rw [z, B5.get fp ef3] at nu; cases nu
          have up : u ≠ p := fun z => by obtain ⟨_, _, e, _⟩ := B5.1; rw [z, e] at nu; cases nu
          have hgv6 : DpAll K (hide D (hide f (hide p H6))) gv (gs.map dGrp) := dpA_mono (hide_same (hide_same B6.2)) _ _ hgv
          have hgl2 : gv.length = j := by rw [dpA_len hgv, List.length_map]; exact hgl
          have eu6 : hide D (hide f (hide p H6)) u = some (.lst ((xs.take m).map V.str)) := by rw [hide_ne uD, hide_ne uf, hide_ne up]; exact eu
          refine ⟨gv, eD6, small1000 (by omega), B36.mut nD3 Dp', gs ++ [xs.take m], by rw [List.length_append, hgl]; rfl, fun g hg => ?_, gv ++ [.ref u], upd_same, ?_⟩
          · rcases List.mem_append.mp hg with h | h
            · exact hgo g h
            · obtain rfl := List.mem_singleton.mp h
              have hx0 : xs ≠ [] := fun z => hne (by rw [z] at pm; exact pm.nil_eq.symm)
              have sub : ∀ n ∈ xs.take m, n ∈ ns := fun n hn => pm.mem_iff.mp (List.mem_of_mem_take hn)
              refine ⟨⟨fun z => ?_, (pm.nodup_iff.mpr hN.nd).sublist (List.take_sublist _ _), fun n hn => hN.nm n (sub n hn)⟩, ?_, sub⟩
              · rcases List.take_eq_nil_iff.mp z with h1 | h1
                · omega
                · exact hx0 h1
              · rw [List.length_take]; omega
          · rw [List.map_append]
            have md : Same (hide D (hide f (hide p H6))) (hide D (hide f (hide p (upd H6 D (.lst (gv ++ [.ref u])))))) := hide_mut3
            exact dpA_append (dpA_mono md _ _ hgv6) (.cons (dp_mono md _ _ (.lst (sqL_of eu6) (dpA_strs _))) .nil)
        · rintro H5 ⟨gs, gv, B5, hgl, hgo, eD, hgv⟩
          exact fin gs D gv H5 B5 (by omega) hgo nD3 eD (dpA_mono hide_le _ _ hgv)
    · rintro σ H2 ⟨g, t, z, shs, vs, rfl, B, ef, hl2, hok, hd⟩
      simp only [and_assoc, tSeq, tAsg, tOp, tUn, rI, rI0, rU, tVar, tC, gName, L2.start, tIfS, tTest, tB, tCB, tCons, tNil, tIf, tRet, tRetN, tLst, tTup, tNext, tDrop, tNot, tNotV, tAnd, tOr, tAndV, tOrV, tPar, tAug, ipI, rEq, rNe, gSub, rSetL, rIxL, rIxT, tBM, tBM0, rAppend, rPopAt, gTup, gCons, gNil, tCall, tSl, tPart, tNoPart, rSlL, rCat, rEqD, rNeD, rIn, scal, List.map_cons, List.map_nil, List.length_cons, List.length_nil, List.length_map, List.cons_append, List.nil_append, List.append_nil, List.replicate, List.getElem?_cons_zero, List.getElem?_cons_succ, List.set_cons_zero, List.set_cons_succ, Option.some.injEq, exists_eq_left', exists_eq_left, exists_eq_right, exists_and_left, exists_and_right, V.int.injEq, V.ref.injEq, V.str.injEq, V.bl.injEq, reduceCtorEq, false_and, and_false, exists_false, or_false, false_or, true_and, and_true, List.cons.injEq, decide_eq_true_eq, cxOf, if_true, if_false, Bool.false_eq_true, Nat.reduceAdd, Nat.reduceSub, Nat.zero_add, Nat.add_sub_cancel_left, Nat.add_sub_cancel, Nat.sub_self, tFor_eq, tLc_eq, iRng1, iRng2, iList, iTup, iEnum, List.map_cons, List.map_nil]
      have hle : Same (hide f (hide p H2)) (hide p H2) := hide_le
      exact q shs vs f H2 B ⟨fun z => by rw [z] at hl2; simp at hl2; omega, by omega, hok⟩ nf ef (dpA_mono hle _ _ hd)

end
end He

namespace He
open PySem PySem.Spec PyProof.Rows L2
theorem tab_alpha : ((List.range 128).all fun c => Unicode.isAlpha c == ((decide (65 ≤ c) && decide (c ≤ 90)) || (decide (97 ≤ c) && decide (c ≤ 122)))) = true := by decide +kernel
theorem tab_lower : ((List.range 128).all fun c => Unicode.isLower c == (decide (97 ≤ c) && decide (c ≤ 122))) = true := by decide +kernel
theorem tab_upper : ((List.range 128).all fun c => (Unicode.isUpper c || Unicode.isTitle c) == (decide (65 ≤ c) && decide (c ≤ 90))) = true := by decide +kernel
theorem at_tab {f g : Nat → Bool} (h : ((List.range 128).all fun c => f c == g c) = true) {c : Nat} (hc : c < 128) : f c = g c := eq_of_beq (List.all_eq_true.mp h c (List.mem_range.mpr hc))
theorem lower_eq (l : List Nat) : (l.all (fun c => decide (c < 128)) && ((decide (l.length > 0) && l.all Unicode.isAlpha) && (l.any Unicode.isLower && !l.any fun c => Unicode.isUpper c || Unicode.isTitle c))) = (decide (1 ≤ l.length) && l.all fun c => decide (97 ≤ c) && decide (c ≤ 122)) := by
  rw [Bool.eq_iff_iff]
  simp only [Bool.and_eq_true, List.all_eq_true, decide_eq_true_eq, List.any_eq_true, Bool.not_eq_true', List.any_eq_false]
  constructor
  · rintro ⟨h1, ⟨h2, h3⟩, h4, h5⟩
    refine ⟨h2, fun c hc => ?_⟩
    have a := at_tab tab_alpha (h1 c hc)
    have u := at_tab tab_upper (h1 c hc)
    have nu := h5 c hc
    rw [h3 c hc] at a
    rw [Bool.not_eq_true] at nu
    rw [nu] at u
    simp at a u
    omega
  · rintro ⟨h1, h2⟩
    have lt : ∀ c ∈ l, c < 128 := fun c hc => by have := h2 c hc; omega
    refine ⟨lt, ⟨h1, fun c hc => ?_⟩, ?_, fun c hc => ?_⟩
    · rw [at_tab tab_alpha (lt c hc)]
      have := h2 c hc
      simp
      omega
    · obtain ⟨c, hc⟩ := List.exists_mem_of_length_pos h1
      refine ⟨c, hc, ?_⟩
      rw [at_tab tab_lower (lt c hc)]
      have := h2 c hc
      simp
      omega
    · have u := at_tab tab_upper (lt c hc)
      have := h2 c hc
      rw [u]
      simp
      omega
/-- what the program asks of a name is what a name is -/
theorem name_eq (x : Str) : (decide (x.length ≤ 5) && decide (x ≠ "crown") && (Txt.isascii x && (Txt.isalpha x && Txt.islower x))) = nameB x := by
  have h := lower_eq x.cps.toList
  have e1 : Txt.isascii x = x.cps.toList.all (fun c => decide (c < 128)) := by unfold Txt.isascii; rw [Array.all_toList]
  have e2 : Txt.isalpha x = (decide (x.cps.toList.length > 0) && x.cps.toList.all Unicode.isAlpha) := by unfold Txt.isalpha; rw [Array.all_toList, Array.length_toList]; rfl
  have e3 : Txt.islower x = (x.cps.toList.any Unicode.isLower && !x.cps.toList.any fun c => Unicode.isUpper c || Unicode.isTitle c) := by unfold Txt.islower; rw [Array.any_toList, Array.any_toList]
  rw [e1, e2, e3, h]
  unfold nameB
  rw [Array.all_toList, Array.length_toList]
  show (decide (x.cps.size ≤ 5) && _ && _) = _
  cases decide (x.cps.size ≤ 5) <;> cases decide (x ≠ "crown") <;> cases decide (1 ≤ x.cps.size) <;> simp
end He

namespace He
open PySem PySem.Spec PyProof.Rows L2
section
variable {P : Program} {w : World} {K : PySem.W.Frag} {mg : Str → Option Value} {base : Heap}

/-! ### any value at all: data, and instances of the program's own classes -/
inductive AD where
  | non | bl (b : Bool) | int (i : Int) | str (x : Str) | lst (ds : List AD) | tup (ds : List AD) | ins (C : Addr)
mutual
inductive Av (K : PySem.W.Frag) (H : Hp) : V → AD → Prop
  | non : Av K H .non .non
  | bl (b : Bool) : Av K H (.bl b) (.bl b)
  | int (i : Int) : Av K H (.int i) (.int i)
  | str (x : Str) : Av K H (.str x) (.str x)
  | lst {a : Addr} {xs : List V} {ds : List AD} : SqL K H a xs → AvAll K H xs ds → Av K H (.ref a) (.lst ds)
  | tup {a : Addr} {xs : List V} {ds : List AD} : SqT K H a xs → AvAll K H xs ds → Av K H (.ref a) (.tup ds)
  | ins {a C dx : Addr} {fs : List (Str × V)} : H a = some (.ins C dx fs) → TyOf K H (.ref a) (.ref C) → Av K H (.ref a) (.ins C)
inductive AvAll (K : PySem.W.Frag) (H : Hp) : List V → List AD → Prop
  | nil : AvAll K H [] []
  | cons {v : V} {vs : List V} {d : AD} {ds : List AD} : Av K H v d → AvAll K H vs ds → AvAll K H (v :: vs) (d :: ds)
end
theorem tyOf_mono {H H' : Hp} (s : Same H H') {v : V} {t : Value} (h : TyOf K H v t) : TyOf K H' v t := by
  cases h with
  | non => exact .non
  | bl b => exact .bl b
  | int i => exact .int i
  | str x => exact .str x
  | flt x => exact .flt x
  | lst e => exact .lst (s _ _ e)
  | frz e => exact .frz (s _ _ e)
  | tup e => exact .tup (s _ _ e)
  | dK e => exact .dK (s _ _ e)
  | dT e => exact .dT (s _ _ e)
  | ins e cl ha hn htk hm => exact .ins (s _ _ e) cl ha hn htk hm
mutual
theorem av_mono {K : PySem.W.Frag} {H H' : Hp} (s : Same H H') : ∀ (d : AD) (v : V), Av K H v d → Av K H' v d
  | .non, _, h => by cases h; exact .non
  | .bl b, _, h => by cases h; exact .bl b
  | .int i, _, h => by cases h; exact .int i
  | .str x, _, h => by cases h; exact .str x
  | .lst ds, _, h => by
    cases h with
    | lst hs ha => exact .lst (s.seq hs) (avA_mono s ds _ ha)
  | .tup ds, _, h => by
    cases h with
    | tup hs ha => exact .tup (Same.seqT s hs) (avA_mono s ds _ ha)
  | .ins C, _, h => by
    cases h with
    | ins e t => exact .ins (s _ _ e) (tyOf_mono s t)
theorem avA_mono {K : PySem.W.Frag} {H H' : Hp} (s : Same H H') : ∀ (ds : List AD) (vs : List V), AvAll K H vs ds → AvAll K H' vs ds
  | [], _, h => by cases h; exact .nil
  | d :: ds, _, h => by
    cases h with
    | cons a b => exact .cons (av_mono s d _ a) (avA_mono s ds _ b)
end
theorem avA_len {H : Hp} : ∀ {vs : List V} {ds : List AD}, AvAll K H vs ds → vs.length = ds.length
  | [], _, .nil => rfl
  | _ :: _, _, .cons _ b => congrArg (· + 1) (avA_len b)
theorem avA_get {H : Hp} : ∀ {vs : List V} {ds : List AD} {i : Nat} {v : V}, AvAll K H vs ds → vs[i]? = some v → ∃ d, ds[i]? = some d ∧ Av K H v d
  | _, _, i, _, .nil, e => by simp at e
  | _, _, 0, _, .cons a _, e => by
    cases (Option.some.inj e)
    exact ⟨_, rfl, a⟩
  | _, _, i + 1, _, .cons _ b, e => avA_get (i := i) b e
mutual
/-- plain data as any value -/
def ad : PyData → AD
  | .none => .non
  | .bool b => .bl b
  | .int i => .int i
  | .str x => .str x
  | .list ds => .lst (adA ds)
  | .tuple ds => .tup (adA ds)
  | .dict _ => .non
def adA : List PyData → List AD
  | [] => []
  | d :: ds => ad d :: adA ds
end
theorem adA_map (ds : List PyData) : adA ds = ds.map ad := by
  induction ds with
  | nil => rfl
  | cons d ds ih => show ad d :: adA ds = _; rw [ih]; rfl
mutual
theorem av_of {K : PySem.W.Frag} {H : Hp} : ∀ (d : PyData) (v : V), Dp K H v d → Av K H v (ad d)
  | .none, _, h => by cases h; exact .non
  | .bool b, _, h => by cases h; exact .bl b
  | .int i, _, h => by cases h; exact .int i
  | .str x, _, h => by cases h; exact .str x
  | .list ds, _, h => by
    cases h with
    | lst hs ha => exact .lst hs (avA_of ds _ ha)
  | .tuple ds, _, h => by
    cases h with
    | tup hs ha => exact .tup hs (avA_of ds _ ha)
  | .dict _, _, h => by cases h
theorem avA_of {K : PySem.W.Frag} {H : Hp} : ∀ (ds : List PyData) (vs : List V), DpAll K H vs ds → AvAll K H vs (adA ds)
  | [], _, h => by cases h; exact .nil
  | d :: ds, _, h => by
    cases h with
    | cons a b => exact .cons (av_of d _ a) (avA_of ds _ b)
end
/-! ### isinstance of any value -/
def tyA : AD → Value
  | .non => .type "NoneType"
  | .bl _ => .type "bool"
  | .int _ => .type "int"
  | .str _ => .type "str"
  | .lst _ => .type "list"
  | .tup _ => .type "tuple"
  | .ins C => .ref C
theorem av_ty {H : Hp} {v : V} {d : AD} (h : Av K H v d) : TyX K H v (tyA d) := by
  cases h with
  | non => exact .base .non
  | bl b => exact .base (.bl b)
  | int i => exact .base (.int i)
  | str x => exact .base (.str x)
  | lst hs ha =>
    rcases hs with (h | ⟨o, h⟩) | ⟨o, its, n, h, c, _⟩
    · exact .base (.lst h)
    · exact .base (.frz h)
    · exact .kList h c
  | tup hs ha =>
    rcases hs with (h | ⟨o, h⟩) | ⟨o, its, n, h, c, _⟩
    · exact .base (.tup h)
    · exact .fTuple h
    · exact .kTuple h c
  | ins e t => exact .base t
/-- of an own class of the program nothing built in -/
structure NoBuilt (K : PySem.W.Frag) (C : Addr) : Prop where
  i : PySem.W.kitOne K (.ref C) (.type "int") = some false
  s : PySem.W.kitOne K (.ref C) (.type "str") = some false
  l : PySem.W.kitOne K (.ref C) (.type "list") = some false
  t : PySem.W.kitOne K (.ref C) (.type "tuple") = some false
mutual
/-- each instance is of such a class -/
def AdOk (K : PySem.W.Frag) : AD → Prop
  | .ins C => NoBuilt K C
  | .lst ds => ds.length < 4000 ∧ AdOkA K ds
  | .tup ds => ds.length < 4000 ∧ AdOkA K ds
  | .str x => x.length ≤ sizeLine
  | _ => True
def AdOkA (K : PySem.W.Frag) : List AD → Prop
  | [] => True
  | d :: ds => AdOk K d ∧ AdOkA K ds
end
def isStrA : AD → Bool | .str _ => true | _ => false
def isIntT : AD → Bool | .int _ => true | .bl _ => true | _ => false
def isBoolA : AD → Bool | .bl _ => true | _ => false
def isIntA : AD → Bool | .int _ => true | _ => false
def isLstA : AD → Bool | .lst _ => true | _ => false
def isTupA : AD → Bool | .tup _ => true | _ => false
def isSeqA : AD → Bool | .lst _ => true | .tup _ => true | _ => false
def isPairA : AD → Bool | .tup [_, _] => true | _ => false
theorem kit_int : ∀ {d : AD}, AdOk K d → PySem.W.kitOne K (tyA d) (.type "int") = some (isIntT d)
  | .non, _ => (kit_ty (by decide +kernel) : PySem.W.kitOne K (.type "NoneType") (.type "int") = some false)
  | .bl _, _ => (kit_ty (by decide +kernel) : PySem.W.kitOne K (.type "bool") (.type "int") = some true)
  | .int _, _ => (kit_ty (by decide +kernel) : PySem.W.kitOne K (.type "int") (.type "int") = some true)
  | .str _, _ => (kit_ty (by decide +kernel) : PySem.W.kitOne K (.type "str") (.type "int") = some false)
  | .lst _, _ => (kit_ty (by decide +kernel) : PySem.W.kitOne K (.type "list") (.type "int") = some false)
  | .tup _, _ => (kit_ty (by decide +kernel) : PySem.W.kitOne K (.type "tuple") (.type "int") = some false)
  | .ins _, h => NoBuilt.i h
theorem kit_str : ∀ {d : AD}, AdOk K d → PySem.W.kitOne K (tyA d) (.type "str") = some (isStrA d)
  | .non, _ => (kit_ty (by decide +kernel) : PySem.W.kitOne K (.type "NoneType") (.type "str") = some false)
  | .bl _, _ => (kit_ty (by decide +kernel) : PySem.W.kitOne K (.type "bool") (.type "str") = some false)
  | .int _, _ => (kit_ty (by decide +kernel) : PySem.W.kitOne K (.type "int") (.type "str") = some false)
  | .str _, _ => (kit_ty (by decide +kernel) : PySem.W.kitOne K (.type "str") (.type "str") = some true)
  | .lst _, _ => (kit_ty (by decide +kernel) : PySem.W.kitOne K (.type "list") (.type "str") = some false)
  | .tup _, _ => (kit_ty (by decide +kernel) : PySem.W.kitOne K (.type "tuple") (.type "str") = some false)
  | .ins _, h => NoBuilt.s h
theorem kit_lst : ∀ {d : AD}, AdOk K d → PySem.W.kitOne K (tyA d) (.type "list") = some (isLstA d)
  | .non, _ => (kit_ty (by decide +kernel) : PySem.W.kitOne K (.type "NoneType") (.type "list") = some false)
  | .bl _, _ => (kit_ty (by decide +kernel) : PySem.W.kitOne K (.type "bool") (.type "list") = some false)
  | .int _, _ => (kit_ty (by decide +kernel) : PySem.W.kitOne K (.type "int") (.type "list") = some false)
  | .str _, _ => (kit_ty (by decide +kernel) : PySem.W.kitOne K (.type "str") (.type "list") = some false)
  | .lst _, _ => (kit_ty (by decide +kernel) : PySem.W.kitOne K (.type "list") (.type "list") = some true)
  | .tup _, _ => (kit_ty (by decide +kernel) : PySem.W.kitOne K (.type "tuple") (.type "list") = some false)
  | .ins _, h => NoBuilt.l h
theorem kit_tup : ∀ {d : AD}, AdOk K d → PySem.W.kitOne K (tyA d) (.type "tuple") = some (isTupA d)
  | .non, _ => (kit_ty (by decide +kernel) : PySem.W.kitOne K (.type "NoneType") (.type "tuple") = some false)
  | .bl _, _ => (kit_ty (by decide +kernel) : PySem.W.kitOne K (.type "bool") (.type "tuple") = some false)
  | .int _, _ => (kit_ty (by decide +kernel) : PySem.W.kitOne K (.type "int") (.type "tuple") = some false)
  | .str _, _ => (kit_ty (by decide +kernel) : PySem.W.kitOne K (.type "str") (.type "tuple") = some false)
  | .lst _, _ => (kit_ty (by decide +kernel) : PySem.W.kitOne K (.type "list") (.type "tuple") = some false)
  | .tup _, _ => (kit_ty (by decide +kernel) : PySem.W.kitOne K (.type "tuple") (.type "tuple") = some true)
  | .ins _, h => NoBuilt.t h
theorem kit_seq {d : AD} (h : AdOk K d) : PySem.W.kitAny K (tyA d) [.type "list", .type "tuple"] = some (isSeqA d) := by
  refine kitAny_cons (kit_lst h) (fun e => kitAny_cons (kit_tup h) (fun e2 => ?_) (fun e2 => ?_)) (fun e => ?_)
  · rw [kitAny_nil]
    cases d <;> first | rfl | (exact nomatch (show true = false from e)) | (exact nomatch (show true = false from e2))
  · cases d <;> first | rfl | (exact nomatch (show false = true from e2))
  · cases d <;> first | rfl | (exact nomatch (show false = true from e))
/-- a test of any value -/
def spIs (K : PySem.W.Frag) (f : AD → Bool) : Sp := fun vs H Q _ => ∃ (v : V) (d : AD), vs = [v] ∧ Av K H v d ∧ AdOk K d ∧ ∀ H', Same H H' → Q (.bl (f d)) H'
theorem ok_isint (T : TxtG K mg) : FnOk P w K mg base CX0 1 T.dIsInteger.f T.dIsInteger.fd ["value"] (spIs K isIntA) := by
  refine T.dIsInteger.F.ok scDIsInteger (fun vs H Q E h => ?_) (fun cdv A outer s H vs Q E hr h => ?_)
  · obtain ⟨v, d, rfl, _⟩ := h
    rfl
  · obtain ⟨v, d, rfl, hv, hd, q⟩ := h
    refine ⟨_, (pss_one (ps_ret (pe_and (pe_callB call_isi (by rfl) T.z_isinstance (by decide +kernel) (pa_cons (pv 0) (pa_cons (pe_bltn (v := .ty "int") (u := .type "int") (by rfl) T.z_int (by decide +kernel) rfl) pa_nil))) (pe_one (pe_not (pe_callB call_isi (by rfl) T.z_isinstance (by decide +kernel) (pa_cons (pv 0) (pa_cons (pe_bltn (v := .ty "bool") (u := .type "bool") (by rfl) T.z_bool (by decide +kernel) rfl) pa_nil)))))))), ?_⟩
    simp only [and_assoc, tSeq, tAsg, tOp, tUn, rI, rI0, rU, tVar, tC, gName, L2.start, tIfS, tTest, tB, tCB, tCons, tNil, tIf, tRet, tRetN, tLst, tTup, tNext, tDrop, tNot, tNotV, tAnd, tOr, tAndV, tOrV, tPar, tAug, ipI, rEq, rNe, gSub, rSetL, rIxL, rIxT, tBM, tBM0, rAppend, rPopAt, gTup, gCons, gNil, tCall, tSl, tPart, tNoPart, rSlL, rCat, rEqD, rNeD, rIn, scal, List.map_cons, List.map_nil, List.length_cons, List.length_nil, List.length_map, List.cons_append, List.nil_append, List.append_nil, List.replicate, List.getElem?_cons_zero, List.getElem?_cons_succ, List.set_cons_zero, List.set_cons_succ, Option.some.injEq, exists_eq_left', exists_eq_left, exists_eq_right, exists_and_left, exists_and_right, V.int.injEq, V.ref.injEq, V.str.injEq, V.bl.injEq, reduceCtorEq, false_and, and_false, exists_false, or_false, false_or, true_and, and_true, List.cons.injEq, decide_eq_true_eq, cxOf, if_true, if_false, Bool.false_eq_true, Nat.reduceAdd, Nat.reduceSub, Nat.zero_add, Nat.add_sub_cancel_left, Nat.add_sub_cancel, Nat.sub_self, tFor_eq, tLc_eq, iRng1, iRng2, iList, iTup, iEnum, rIsi, rIsiT]
    refine ⟨_, _, .ty "int", av_ty hv, _, kit_int hd, ?_⟩
    have kb : PySem.W.kitOne K (tyA d) (.type "bool") = some (isBoolA d) ∨ isIntT d = false := by
      cases d with
      | bl b => exact .inl (kit_ty (by decide +kernel) : PySem.W.kitOne K (.type "bool") (.type "bool") = some true)
      | int i => exact .inl (kit_ty (by decide +kernel) : PySem.W.kitOne K (.type "int") (.type "bool") = some false)
      | non => exact .inr rfl
      | str x => exact .inr rfl
      | lst x => exact .inr rfl
      | tup x => exact .inr rfl
      | ins x => exact .inr rfl
    have q0 := q H (Same.refl H)
    cases e : isIntT d with
    | false =>
      simp only [and_assoc, tSeq, tAsg, tOp, tUn, rI, rI0, rU, tVar, tC, gName, L2.start, tIfS, tTest, tB, tCB, tCons, tNil, tIf, tRet, tRetN, tLst, tTup, tNext, tDrop, tNot, tNotV, tAnd, tOr, tAndV, tOrV, tPar, tAug, ipI, rEq, rNe, gSub, rSetL, rIxL, rIxT, tBM, tBM0, rAppend, rPopAt, gTup, gCons, gNil, tCall, tSl, tPart, tNoPart, rSlL, rCat, rEqD, rNeD, rIn, scal, List.map_cons, List.map_nil, List.length_cons, List.length_nil, List.length_map, List.cons_append, List.nil_append, List.append_nil, List.replicate, List.getElem?_cons_zero, List.getElem?_cons_succ, List.set_cons_zero, List.set_cons_succ, Option.some.injEq, exists_eq_left', exists_eq_left, exists_eq_right, exists_and_left, exists_and_right, V.int.injEq, V.ref.injEq, V.str.injEq, V.bl.injEq, reduceCtorEq, false_and, and_false, exists_false, or_false, false_or, true_and, and_true, List.cons.injEq, decide_eq_true_eq, cxOf, if_true, if_false, Bool.false_eq_true, Nat.reduceAdd, Nat.reduceSub, Nat.zero_add, Nat.add_sub_cancel_left, Nat.add_sub_cancel, Nat.sub_self, tFor_eq, tLc_eq, iRng1, iRng2, iList, iTup, iEnum, rIsi, rIsiT]
      have e2 : isIntA d = false := by cases d <;> first | rfl | (exact nomatch (show true = false from e))
      rw [e2] at q0
      exact q0
    | true =>
      simp only [and_assoc, tSeq, tAsg, tOp, tUn, rI, rI0, rU, tVar, tC, gName, L2.start, tIfS, tTest, tB, tCB, tCons, tNil, tIf, tRet, tRetN, tLst, tTup, tNext, tDrop, tNot, tNotV, tAnd, tOr, tAndV, tOrV, tPar, tAug, ipI, rEq, rNe, gSub, rSetL, rIxL, rIxT, tBM, tBM0, rAppend, rPopAt, gTup, gCons, gNil, tCall, tSl, tPart, tNoPart, rSlL, rCat, rEqD, rNeD, rIn, scal, List.map_cons, List.map_nil, List.length_cons, List.length_nil, List.length_map, List.cons_append, List.nil_append, List.append_nil, List.replicate, List.getElem?_cons_zero, List.getElem?_cons_succ, List.set_cons_zero, List.set_cons_succ, Option.some.injEq, exists_eq_left', exists_eq_left, exists_eq_right, exists_and_left, exists_and_right, V.int.injEq, V.ref.injEq, V.str.injEq, V.bl.injEq, reduceCtorEq, false_and, and_false, exists_false, or_false, false_or, true_and, and_true, List.cons.injEq, decide_eq_true_eq, cxOf, if_true, if_false, Bool.false_eq_true, Nat.reduceAdd, Nat.reduceSub, Nat.zero_add, Nat.add_sub_cancel_left, Nat.add_sub_cancel, Nat.sub_self, tFor_eq, tLc_eq, iRng1, iRng2, iList, iTup, iEnum, rIsi, rIsiT]
      rcases kb with kb | kb
      · refine ⟨_, _, .ty "bool", av_ty hv, _, kb, ?_⟩
        have e2 : isIntA d = !isBoolA d := by cases d <;> first | rfl | (exact nomatch (show false = true from e))
        rw [e2] at q0
        exact q0
      · rw [e] at kb
        cases kb
theorem ok_isseq (T : TxtG K mg) : FnOk P w K mg base CX0 1 T.dIsSequence.f T.dIsSequence.fd ["value"] (spIs K isSeqA) := by
  refine T.dIsSequence.F.ok scDIsSequence (fun vs H Q E h => ?_) (fun cdv A outer s H vs Q E hr h => ?_)
  · obtain ⟨v, d, rfl, _⟩ := h
    rfl
  · obtain ⟨v, d, rfl, hv, hd, q⟩ := h
    refine ⟨_, (pss_one (ps_ret (pe_callB call_isiT (by rfl) T.z_isinstance (by decide +kernel) (pa_cons (pv 0) (pa_cons (pe_tup (pa_cons (pe_bltn (v := .ty "list") (u := .type "list") (by rfl) T.z_list (by decide +kernel) rfl) (pa_cons (pe_bltn (v := .ty "tuple") (u := .type "tuple") (by rfl) T.z_tuple (by decide +kernel) rfl) pa_nil))) pa_nil))))), ?_⟩
    simp only [and_assoc, tSeq, tAsg, tOp, tUn, rI, rI0, rU, tVar, tC, gName, L2.start, tIfS, tTest, tB, tCB, tCons, tNil, tIf, tRet, tRetN, tLst, tTup, tNext, tDrop, tNot, tNotV, tAnd, tOr, tAndV, tOrV, tPar, tAug, ipI, rEq, rNe, gSub, rSetL, rIxL, rIxT, tBM, tBM0, rAppend, rPopAt, gTup, gCons, gNil, tCall, tSl, tPart, tNoPart, rSlL, rCat, rEqD, rNeD, rIn, scal, List.map_cons, List.map_nil, List.length_cons, List.length_nil, List.length_map, List.cons_append, List.nil_append, List.append_nil, List.replicate, List.getElem?_cons_zero, List.getElem?_cons_succ, List.set_cons_zero, List.set_cons_succ, Option.some.injEq, exists_eq_left', exists_eq_left, exists_eq_right, exists_and_left, exists_and_right, V.int.injEq, V.ref.injEq, V.str.injEq, V.bl.injEq, reduceCtorEq, false_and, and_false, exists_false, or_false, false_or, true_and, and_true, List.cons.injEq, decide_eq_true_eq, cxOf, if_true, if_false, Bool.false_eq_true, Nat.reduceAdd, Nat.reduceSub, Nat.zero_add, Nat.add_sub_cancel_left, Nat.add_sub_cancel, Nat.sub_self, tFor_eq, tLc_eq, iRng1, iRng2, iList, iTup, iEnum, rIsi, rIsiT]
    refine ⟨by decide, fun t nt => ⟨_, upd_same, _, _, .cons (.ty "list") (.cons (.ty "tuple") .nil), av_ty (av_mono (same_upd nt) _ _ hv), _, kit_seq hd, ?_⟩⟩
    exact q _ (same_upd nt)
theorem ok_ispair (T : TxtG K mg) : FnOk P w K mg base CX0 1 T.dIsPair.f T.dIsPair.fd ["value"] (spIs K isPairA) := by
  refine T.dIsPair.F.ok scDIsPair (fun vs H Q E h => ?_) (fun cdv A outer s H vs Q E hr h => ?_)
  · obtain ⟨v, d, rfl, _⟩ := h
    rfl
  · obtain ⟨v, d, rfl, hv, hd, q⟩ := h
    refine ⟨_, (pss_one (ps_ret (pe_and (pe_callB call_isi (by rfl) T.z_isinstance (by decide +kernel) (pa_cons (pv 0) (pa_cons (pe_bltn (v := .ty "tuple") (u := .type "tuple") (by rfl) T.z_tuple (by decide +kernel) rfl) pa_nil))) (pe_one (pe_cmpR op_eq (pe_callB call_len_seq (by rfl) T.z_len (by decide +kernel) (pa_cons (pv 0) pa_nil)) pe_int (nomark _)))))), ?_⟩
    simp only [and_assoc, tSeq, tAsg, tOp, tUn, rI, rI0, rU, tVar, tC, gName, L2.start, tIfS, tTest, tB, tCB, tCons, tNil, tIf, tRet, tRetN, tLst, tTup, tNext, tDrop, tNot, tNotV, tAnd, tOr, tAndV, tOrV, tPar, tAug, ipI, rEq, rNe, gSub, rSetL, rIxL, rIxT, tBM, tBM0, rAppend, rPopAt, gTup, gCons, gNil, tCall, tSl, tPart, tNoPart, rSlL, rCat, rEqD, rNeD, rIn, scal, List.map_cons, List.map_nil, List.length_cons, List.length_nil, List.length_map, List.cons_append, List.nil_append, List.append_nil, List.replicate, List.getElem?_cons_zero, List.getElem?_cons_succ, List.set_cons_zero, List.set_cons_succ, Option.some.injEq, exists_eq_left', exists_eq_left, exists_eq_right, exists_and_left, exists_and_right, V.int.injEq, V.ref.injEq, V.str.injEq, V.bl.injEq, reduceCtorEq, false_and, and_false, exists_false, or_false, false_or, true_and, and_true, List.cons.injEq, decide_eq_true_eq, cxOf, if_true, if_false, Bool.false_eq_true, Nat.reduceAdd, Nat.reduceSub, Nat.zero_add, Nat.add_sub_cancel_left, Nat.add_sub_cancel, Nat.sub_self, tFor_eq, tLc_eq, iRng1, iRng2, iList, iTup, iEnum, rIsi, rIsiT]
    refine ⟨_, _, .ty "tuple", av_ty hv, _, kit_tup hd, ?_⟩
    have q0 := q H (Same.refl H)
    cases hv with
    | @tup a xs ds hs ha =>
      simp only [and_assoc, tSeq, tAsg, tOp, tUn, rI, rI0, rU, tVar, tC, gName, L2.start, tIfS, tTest, tB, tCB, tCons, tNil, tIf, tRet, tRetN, tLst, tTup, tNext, tDrop, tNot, tNotV, tAnd, tOr, tAndV, tOrV, tPar, tAug, ipI, rEq, rNe, gSub, rSetL, rIxL, rIxT, tBM, tBM0, rAppend, rPopAt, gTup, gCons, gNil, tCall, tSl, tPart, tNoPart, rSlL, rCat, rEqD, rNeD, rIn, scal, List.map_cons, List.map_nil, List.length_cons, List.length_nil, List.length_map, List.cons_append, List.nil_append, List.append_nil, List.replicate, List.getElem?_cons_zero, List.getElem?_cons_succ, List.set_cons_zero, List.set_cons_succ, Option.some.injEq, exists_eq_left', exists_eq_left, exists_eq_right, exists_and_left, exists_and_right, V.int.injEq, V.ref.injEq, V.str.injEq, V.bl.injEq, reduceCtorEq, false_and, and_false, exists_false, or_false, false_or, true_and, and_true, List.cons.injEq, decide_eq_true_eq, cxOf, if_true, if_false, Bool.false_eq_true, Nat.reduceAdd, Nat.reduceSub, Nat.zero_add, Nat.add_sub_cancel_left, Nat.add_sub_cancel, Nat.sub_self, tFor_eq, tLc_eq, iRng1, iRng2, iList, iTup, iEnum, rIsi, rIsiT, isTupA]
      refine ⟨xs, .inr hs, ?_⟩
      rw [avA_len ha]
      have e : isPairA (.tup ds) = decide ((ds.length : Int) = 2) := by
        match ds with
        | [] => rfl
        | [_] => rfl
        | [_, _] => rfl
        | _ :: _ :: _ :: r => exact (decide_eq_false (by simp only [List.length_cons]; omega)).symm
      rw [e] at q0
      exact q0
    | non => exact q0
    | bl b => exact q0
    | int i => exact q0
    | str x => exact q0
    | lst hs ha => exact q0
    | ins e t => exact q0
def isNameA : AD → Bool | .str x => nameB x | _ => false
theorem ok_isname (T : TxtG K mg) : FnOk P w K mg base CX0 1 T.dIsName.f T.dIsName.fd ["value"] (spIs K isNameA) := by
  refine T.dIsName.F.ok scDIsName (fun vs H Q E h => ?_) (fun cdv A outer s H vs Q E hr h => ?_)
  · obtain ⟨v, d, rfl, _⟩ := h
    rfl
  · obtain ⟨v, d, rfl, hv, hd, q⟩ := h
    refine ⟨_, (pss_cons (ps_if (PW.pt (pw_or (pt_not (pt_val (pe_callB call_isi (by rfl) T.z_isinstance (by decide +kernel) (pa_cons (pv 0) (pa_cons (pe_bltn (v := .ty "str") (u := .type "str") (by rfl) T.z_str (by decide +kernel) rfl) pa_nil))))) (pw_or (pt_cmpR op_gt (pe_callB call_len_str (by rfl) T.z_len (by decide +kernel) (pa_cons (pv 0) pa_nil)) (pe_glob (v := .int 5) (by rfl) T.k_LONGEST_NAME.choose_spec ⟨_, rfl⟩) (nomark _)) (pw_or1 (pt_cmpR op_eq (pv 0) (pe_glob (v := .str "crown") (by rfl) T.k_CROWN.choose_spec ⟨_, rfl⟩) (nomark _))))))
      (pss_one (ps_ret pe_bl))
      pss_nil)
      (pss_one (ps_ret (pe_and (pe_m0 PySem.F.slot_str_isascii PySem.F.type_str_isascii mt_isascii (pv 0)) (pe_and (pe_m0 PySem.F.slot_str_isalpha PySem.F.type_str_isalpha mt_isalpha (pv 0)) (pe_one (pe_m0 PySem.F.slot_str_islower PySem.F.type_str_islower mt_islower (pv 0)))))))), ?_⟩
    have q0 := q H (Same.refl H)
    simp only [and_assoc, tSeq, tAsg, tOp, tUn, rI, rI0, rU, tVar, tC, gName, L2.start, tIfS, tTest, tB, tCB, tCons, tNil, tIf, tRet, tRetN, tLst, tTup, tNext, tDrop, tNot, tNotV, tAnd, tOr, tAndV, tOrV, tPar, tAug, ipI, rEq, rNe, gSub, rSetL, rIxL, rIxT, tBM, tBM0, rAppend, rPopAt, gTup, gCons, gNil, tCall, tSl, tPart, tNoPart, rSlL, rCat, rEqD, rNeD, rIn, scal, List.map_cons, List.map_nil, List.length_cons, List.length_nil, List.length_map, List.cons_append, List.nil_append, List.append_nil, List.replicate, List.getElem?_cons_zero, List.getElem?_cons_succ, List.set_cons_zero, List.set_cons_succ, Option.some.injEq, exists_eq_left', exists_eq_left, exists_eq_right, exists_and_left, exists_and_right, V.int.injEq, V.ref.injEq, V.str.injEq, V.bl.injEq, reduceCtorEq, false_and, and_false, exists_false, or_false, false_or, true_and, and_true, List.cons.injEq, decide_eq_true_eq, cxOf, if_true, if_false, Bool.false_eq_true, Nat.reduceAdd, Nat.reduceSub, Nat.zero_add, Nat.add_sub_cancel_left, Nat.add_sub_cancel, Nat.sub_self, tFor_eq, tLc_eq, iRng1, iRng2, iList, iTup, iEnum, rIsi, rIsiT, tM0]
    refine ⟨_, _, .ty "str", av_ty hv, _, kit_str hd, ?_⟩
    cases hv with
    | str x =>
      simp only [and_assoc, tSeq, tAsg, tOp, tUn, rI, rI0, rU, tVar, tC, gName, L2.start, tIfS, tTest, tB, tCB, tCons, tNil, tIf, tRet, tRetN, tLst, tTup, tNext, tDrop, tNot, tNotV, tAnd, tOr, tAndV, tOrV, tPar, tAug, ipI, rEq, rNe, gSub, rSetL, rIxL, rIxT, tBM, tBM0, rAppend, rPopAt, gTup, gCons, gNil, tCall, tSl, tPart, tNoPart, rSlL, rCat, rEqD, rNeD, rIn, scal, List.map_cons, List.map_nil, List.length_cons, List.length_nil, List.length_map, List.cons_append, List.nil_append, List.append_nil, List.replicate, List.getElem?_cons_zero, List.getElem?_cons_succ, List.set_cons_zero, List.set_cons_succ, Option.some.injEq, exists_eq_left', exists_eq_left, exists_eq_right, exists_and_left, exists_and_right, V.int.injEq, V.ref.injEq, V.str.injEq, V.bl.injEq, reduceCtorEq, false_and, and_false, exists_false, or_false, false_or, true_and, and_true, List.cons.injEq, decide_eq_true_eq, cxOf, if_true, if_false, Bool.false_eq_true, Nat.reduceAdd, Nat.reduceSub, Nat.zero_add, Nat.add_sub_cancel_left, Nat.add_sub_cancel, Nat.sub_self, tFor_eq, tLc_eq, iRng1, iRng2, iList, iTup, iEnum, rIsi, rIsiT, isStrA, Bool.not_true]
      refine ⟨hd, ?_⟩
      have e := name_eq x
      have q0 : Q (.bl (nameB x)) H := q0
      rw [← e] at q0
      by_cases h5 : (5 : Int) < (x.length : Int)
      · rw [if_pos h5]
        rw [decide_eq_false (show ¬ x.length ≤ 5 by omega)] at q0
        exact q0
      · rw [if_neg h5]
        rw [decide_eq_true (show x.length ≤ 5 by omega)] at q0
        by_cases hc : x = Str.ofString "crown"
        · rw [if_pos hc]
          rw [decide_eq_false (show ¬ x ≠ Str.ofString "crown" from fun z => z hc)] at q0
          exact q0
        · rw [if_neg hc]
          rw [decide_eq_true (show x ≠ Str.ofString "crown" from hc)] at q0
          refine ⟨⟨x, rfl⟩, ?_⟩
          cases ea : Txt.isascii x with
          | false =>
            rw [ea] at q0
            exact q0
          | true =>
            rw [ea] at q0
            simp only [and_assoc, tSeq, tAsg, tOp, tUn, rI, rI0, rU, tVar, tC, gName, L2.start, tIfS, tTest, tB, tCB, tCons, tNil, tIf, tRet, tRetN, tLst, tTup, tNext, tDrop, tNot, tNotV, tAnd, tOr, tAndV, tOrV, tPar, tAug, ipI, rEq, rNe, gSub, rSetL, rIxL, rIxT, tBM, tBM0, rAppend, rPopAt, gTup, gCons, gNil, tCall, tSl, tPart, tNoPart, rSlL, rCat, rEqD, rNeD, rIn, scal, List.map_cons, List.map_nil, List.length_cons, List.length_nil, List.length_map, List.cons_append, List.nil_append, List.append_nil, List.replicate, List.getElem?_cons_zero, List.getElem?_cons_succ, List.set_cons_zero, List.set_cons_succ, Option.some.injEq, exists_eq_left', exists_eq_left, exists_eq_right, exists_and_left, exists_and_right, V.int.injEq, V.ref.injEq, V.str.injEq, V.bl.injEq, reduceCtorEq, false_and, and_false, exists_false, or_false, false_or, true_and, and_true, List.cons.injEq, decide_eq_true_eq, cxOf, if_true, if_false, Bool.false_eq_true, Nat.reduceAdd, Nat.reduceSub, Nat.zero_add, Nat.add_sub_cancel_left, Nat.add_sub_cancel, Nat.sub_self, tFor_eq, tLc_eq, iRng1, iRng2, iList, iTup, iEnum, rIsi, rIsiT]
            refine ⟨⟨x, rfl⟩, ?_⟩
            cases eb : Txt.isalpha x with
            | false =>
              rw [eb] at q0
              exact q0
            | true =>
              rw [eb] at q0
              simp only [and_assoc, tSeq, tAsg, tOp, tUn, rI, rI0, rU, tVar, tC, gName, L2.start, tIfS, tTest, tB, tCB, tCons, tNil, tIf, tRet, tRetN, tLst, tTup, tNext, tDrop, tNot, tNotV, tAnd, tOr, tAndV, tOrV, tPar, tAug, ipI, rEq, rNe, gSub, rSetL, rIxL, rIxT, tBM, tBM0, rAppend, rPopAt, gTup, gCons, gNil, tCall, tSl, tPart, tNoPart, rSlL, rCat, rEqD, rNeD, rIn, scal, List.map_cons, List.map_nil, List.length_cons, List.length_nil, List.length_map, List.cons_append, List.nil_append, List.append_nil, List.replicate, List.getElem?_cons_zero, List.getElem?_cons_succ, List.set_cons_zero, List.set_cons_succ, Option.some.injEq, exists_eq_left', exists_eq_left, exists_eq_right, exists_and_left, exists_and_right, V.int.injEq, V.ref.injEq, V.str.injEq, V.bl.injEq, reduceCtorEq, false_and, and_false, exists_false, or_false, false_or, true_and, and_true, List.cons.injEq, decide_eq_true_eq, cxOf, if_true, if_false, Bool.false_eq_true, Nat.reduceAdd, Nat.reduceSub, Nat.zero_add, Nat.add_sub_cancel_left, Nat.add_sub_cancel, Nat.sub_self, tFor_eq, tLc_eq, iRng1, iRng2, iList, iTup, iEnum, rIsi, rIsiT]
              exact ⟨⟨x, rfl⟩, q0⟩
    | non => exact q0
    | bl b => exact q0
    | int i => exact q0
    | lst hs ha => exact q0
    | tup hs ha => exact q0
    | ins e t => exact q0

end
end He

/-! set(xs) of any number of texts, with repetitions -/
namespace He
namespace SetT
open PySem PySem.Spec PyProof.Rows
def put1 (acc : List Str) (x : Str) : List Str := if acc.any (· == x) then acc else acc ++ [x]
/-- each once -/
def once (xs : List Str) : List Str := xs.foldl put1 []
theorem put1_any (acc : List Str) (x k : Str) : (put1 acc x).any (· == k) = (acc.any (· == k) || decide (k = x)) := by
  unfold put1
  by_cases h : acc.any (· == x) = true
  · rw [if_pos h]
    by_cases e : k = x
    · rw [e, h, decide_eq_true rfl]
      rfl
    · rw [decide_eq_false e, Bool.or_false]
  · rw [if_neg h, List.any_append]
    congr 1
    by_cases e : k = x
    · rw [e, decide_eq_true rfl]
      simp
    · rw [decide_eq_false e]
      simp only [List.any_cons, List.any_nil, Bool.or_false]
      exact beq_eq_false_iff_ne.mpr fun z => e z.symm
theorem put1_len (acc : List Str) (x : Str) : (put1 acc x).length = if acc.any (· == x) then acc.length else acc.length + 1 := by
  unfold put1
  split <;> simp
theorem once_snoc (xs : List Str) (x : Str) : once (xs ++ [x]) = put1 (once xs) x := by
  unfold once
  rw [List.foldl_append]
  rfl
theorem fold_len : ∀ (xs acc : List Str), (xs.foldl put1 acc).length ≤ acc.length + xs.length
  | [], acc => Nat.le_refl _
  | x :: xs, acc => by
    have h := fold_len xs (put1 acc x)
    have h2 := put1_len acc x
    show (xs.foldl put1 (put1 acc x)).length ≤ acc.length + (xs.length + 1)
    split at h2 <;> omega
theorem fold_eq : ∀ (xs acc : List Str), (xs.foldl put1 acc).length = acc.length + xs.length ↔ (xs.Nodup ∧ ∀ x ∈ xs, acc.any (· == x) = false)
  | [], acc => by simp
  | x :: xs, acc => by
    have h := fold_eq xs (put1 acc x)
    have hl := fold_len xs (put1 acc x)
    have h2 := put1_len acc x
    show (xs.foldl put1 (put1 acc x)).length = acc.length + (xs.length + 1) ↔ _
    cases e : acc.any (· == x) with
    | true =>
      rw [e, if_pos rfl] at h2
      constructor
      · intro z
        omega
      · rintro ⟨_, z⟩
        have := z x List.mem_cons_self
        rw [e] at this
        cases this
    | false =>
      rw [e, if_neg (by simp)] at h2
      have e3 : ((xs.foldl put1 (put1 acc x)).length = acc.length + (xs.length + 1)) ↔ ((xs.foldl put1 (put1 acc x)).length = (put1 acc x).length + xs.length) := by
        rw [h2]
        omega
      rw [e3, h, List.nodup_cons]
      constructor
      · rintro ⟨nd, z⟩
        refine ⟨⟨fun m => ?_, nd⟩, fun y hy => ?_⟩
        · have := z x m
          rw [put1_any] at this
          simp at this
        · rcases List.mem_cons.mp hy with rfl | hy
          · exact e
          · have := z y hy
            rw [put1_any, Bool.or_eq_false_iff] at this
            exact this.1
      · rintro ⟨⟨nm, nd⟩, z⟩
        refine ⟨nd, fun y hy => ?_⟩
        rw [put1_any, z y (List.mem_cons_of_mem _ hy)]
        simp only [Bool.false_or]
        exact decide_eq_false fun q => nm (q ▸ hy)
theorem once_len (xs : List Str) : (once xs).length = xs.length ↔ xs.Nodup := by
  have h := fold_eq xs []
  simp only [List.length_nil, Nat.zero_add, List.any_nil, implies_true, and_true] at h
  exact h
theorem once_le (xs : List Str) : (once xs).length ≤ xs.length := by
  have h := fold_len xs []
  simp only [List.length_nil, Nat.zero_add] at h
  exact h
/-! ### the loop of the set's making -/
section
variable {pr : Program} {wd : World} {A : Around} {R : Result → Shared → Prop} {it : Addr} {fp wr : List Addr} {G : Array GenState → Array GenState → Prop} {n : Nat} {Y : Nat → Value → Prop} {St : Nat → Shared → Prop}
/-- at z the first i texts, each once -/
def Holds (pr : Program) (wd : World) (h : Heap) (z : Addr) (xs : List Str) (i : Nat) : Prop := h.SetOf (PySem.strKind pr wd) z (fun k => (once (xs.take i)).any (· == k)) (once (xs.take i)).length
theorem Holds.at' {h h' : Heap} {z : Addr} {xs : List Str} {i : Nat} (q : Holds pr wd h z xs i) (k : ∀ o, h.get? z = some o → h'.get? z = some o) : Holds pr wd h' z xs i := by
  obtain ⟨ob, es, ep, tb, e, r⟩ := q
  exact ⟨ob, es, ep, tb, k _ e, r⟩
theorem turns (W : WalksS pr wd A.in1 it fp wr G n Y St) (z : Addr) (hz : z ∉ fp) (xs : List Str) (hx : xs.length = n) (hn : n + 1 < scanBound) (val : ∀ (i : Nat) v, Y i v → ∃ t x, xs[i]? = some x ∧ v = .str x t) :
    ∀ (m i : Nat) (s : Shared), n - i = m → i ≤ n → St i s → Holds pr wd s.heap z xs i →
      (∀ s', Moved (z :: wr) G s s' → Holds pr wd s'.heap z xs n → R (.ok (.ret .none)) s') →
      codeAny (model pr wd) A (.builtin "set.update.loop" ⟨[.ref z, .ref it], []⟩) R s := by
  have nw : z ∉ wr := fun q => hz (W.sub _ q)
  have up : ∀ b ∈ wr, b ∈ z :: wr := fun b q => List.mem_cons_of_mem _ q
  intro m
  induction m with
  | zero =>
    intro i s e le st hd fin
    obtain rfl : i = n := by omega
    refine codeAny_builtin PyProof.Rows.F.entry_set_update_loop (by
      rw [Around.under_plainId PyProof.Rows.F.plain_set_update_loop _]
      show wpAny _ A.in1 (pyNext (.ref it) >>= _) _ _ s
      exact wpAny_bind (W.done s _ _ st fun s2 mv => (show wpAny _ A.in1 (ret Value.none) _ _ s2 from wpAny_pure (fin s2 (mv.mono up) (hd.at' fun o q => mv.heap z o nw q)))))
  | succ m ih =>
    intro i s e le st hd fin
    have lt : i < n := by omega
    refine codeAny_builtin PyProof.Rows.F.entry_set_update_loop (by
      rw [Around.under_plainId PyProof.Rows.F.plain_set_update_loop _]
      show wpAny _ A.in1 (pyNext (.ref it) >>= _) _ _ s
      refine wpAny_bind (W.item i s _ _ lt st fun v s2 hY st2 mv => ?_)
      obtain ⟨t, x, ex, rfl⟩ := val i v hY
      have hd2 : Holds pr wd s2.heap z xs i := hd.at' fun o q => mv.heap z o nw q
      show wpAny _ A.in1 (holding [Value.str x t] (setAdd z (.str x t)) >>= _) _ _ s2
      refine wpAny_bind (wpAny_holding ?_)
      unfold setAdd
      refine wpAny_holding (wpAny_bind ((PySem.strKind pr wd).pyHash (k := x) (strKind_is _ _ _ _) ?_))
      have room : (once (xs.take i)).length + 1 < scanBound := by
        have := once_le (xs.take i)
        rw [List.length_take] at this
        omega
      refine wpAny_setAddHashed_of (knd := PySem.strKind pr wd) (k := x) (s := { s2 with toks := s2.toks + 1 }) (strKind_is _ _ _ _) rfl hd2 room fun h3 sb q3 => ?_
      have hd3 : Holds pr wd h3 z xs (i + 1) := by
        have ek : xs.take (i + 1) = xs.take i ++ [x] := by rw [List.take_add_one, ex]; rfl
        unfold Holds
        rw [ek, once_snoc]
        exact SetOf_congr q3 (fun k => (put1_any _ x k).symm) (put1_len _ x).symm
      refine wpAny_pure ⟨plainId_quiet PyProof.Rows.F.plain_set_update_loop _, ih (i + 1) _ (by omega) lt (W.frame _ s2 _ _ st2 (Nat.le_succ _) fun b hb o q => ?_) hd3 fun s4 mv4 hd4 => ?_⟩
      · rw [sb.2 b fun y : b = z => hz (y ▸ hb)]
        exact q
      · refine fin s4 (Moved.trans W.gtrans ((mv.mono up).then_heap (Nat.le_succ _) fun b o hb q => ?_) mv4) hd4
        rw [sb.2 b fun y : b = z => hb (y ▸ List.mem_cons_self)]
        exact q)
end
abbrev empty (led : Bool) : Obj := { cls := .type "set", dict := none, data := .set #[] 0 (.fresh 0 0 led) }
section
variable {pr : Program} {wd : World} {A : Around} {E : Value → Shared → Prop} {s : Shared}
set_option maxHeartbeats 4000000 in
theorem call_set_list {l : Addr} {its : Array Value} {xs : List Str} {Q : Value → Shared → Prop} (hh : A.handled = none) (hl : s.heap.IsList l its) (hx : xs.length = its.size) (hn : xs.length + 1 < scanBound)
    (val : ∀ (i : Nat) (v : Value), its[i]? = some v → ∃ t x, xs[i]? = some x ∧ v = .str x t)
    (q : ∀ (h' : Heap) (tk : Nat), Holds pr wd h' s.heap.objs.size xs xs.length → (∀ b o, b < s.heap.objs.size → s.heap.get? b = some o → h'.get? b = some o) → Q (.ref s.heap.objs.size) { s with heap := h', toks := tk }) :
    wpAny (model pr wd) A (call (.type "set") [.ref l]) Q E s := by
  obtain ⟨mc, ml, mro⟩ := PySem.F.called_set.mro
  have made := PySem.F.called_set.made
  have subt := PySem.F.called_set.sub
  refine wpAny_call (codeAny_of_tree (show wpAny _ _ (callAny (.type "set") _) _ _ _ from wpAny_pure ⟨Code.quiet_builtin _ (by decide +kernel), codeAny_builtin PySem.F.entry_type_call ?_⟩))
  rw [Around.under_plain (weight_type_call_type "set" [.ref l] []) rfl]
  have notT := PySem.F.called_set.notType
  have canC := PySem.F.called_set.canCreate
  have tcall := PySem.F.typeCall_set_1 (.ref l)
  repeat (any_goals (first | assumption | wp_step))
  refine codeAny_mono (code_set_new_1 (.ref l) (E := E) (Q₁ := fun ob s1 => ∃ led : Bool, ob = .ref s.heap.objs.size ∧ s1 = { s with heap := s.heap.push (empty led) }) fun led => ⟨led, rfl, rfl⟩) fun r s1 hr => ?_
  cases r with
  | error e => exact hr
  | ok fl =>
    cases fl with
    | next => exact hr.elim
    | brk => exact hr.elim
    | cont => exact hr.elim
    | ret ob =>
      obtain ⟨led, rfl, rfl⟩ := hr
      have atz : (s.heap.push (empty led)).get? s.heap.objs.size = some (empty led) := Heap.get?_push_size _ rfl
      have isz : Shared.TypeIs { s with heap := s.heap.push (empty led) } (.ref s.heap.objs.size) "set" := ⟨_, atz, rfl⟩
      have ilook := PySem.F.called_set.init.lookup
      have ibind := PySem.F.called_set.init.bind (.ref s.heap.objs.size)
      repeat (any_goals (first | assumption | wp_step))
      refine codeAny_mono (codeAny_call_builtin (R := wants (fun r s2 => r = .none ∧ ∃ h' tk, s2 = { s with heap := h', toks := tk } ∧ Holds pr wd h' s.heap.objs.size xs xs.length ∧ (∀ b o, b < s.heap.objs.size → s.heap.get? b = some o → h'.get? b = some o)) E)
        PySem.F.called_set.init.plain PySem.F.entry_set_init (check_set_init_1 isz ?_)) fun r2 s2 hr2 => ?_
      · obtain ⟨⟨oc, od, dt, osl⟩, gl, gc, nl, gd⟩ := hl
        simp only at gc gd
        subst gc gd
        have gl2 : (s.heap.push (empty led)).get? l = some { cls := .type "list", dict := od, data := .seq its nl, slots := osl } := Heap.get?_push_of_some _ gl
        have su1 := PySem.F.sub_list_set
        have su2 := PySem.F.sub_list_frozenset
        have nodict : (Value.type "list" == Value.type "dict") = false := by decide
        have isl : (s.heap.push (empty led)).IsList l its := ⟨_, gl2, rfl, nl, rfl⟩
        unfold Builtin.«set.__init__» noKeywords Builtin.Frozenset.updateFrom
        generalize hPI : pyIter = PI
        wp_walk
        subst hPI
        have llt : l < s.heap.objs.size := Heap.lt_size gl
        have nohd : A.in1.in1.in1.handled = none := by simp [hh]
        have psz : (s.heap.push (empty led)).objs.size = s.heap.objs.size + 1 := Heap.size_push _ _
        have nel : l ≠ (s.heap.push (empty led)).objs.size := by
          rw [psz]
          exact Nat.ne_of_lt (Nat.lt_succ_of_lt llt)
        have nez : s.heap.objs.size ∉ [(s.heap.push (empty led)).objs.size, l] := by
          rw [psz]
          simp only [List.mem_cons, List.not_mem_nil, or_false, not_or]
          exact ⟨Nat.ne_of_lt (Nat.lt_succ_self _), Nat.ne_of_gt llt⟩
        refine wpAny_pyIter_list isl (wpAny_bind (wpAny_runValue (turns ((Walks.list nohd _ l nel its).toS) s.heap.objs.size nez xs hx (by omega) val (its.size - 0) 0 _ (by omega) (Nat.zero_le _) ⟨⟨_, Heap.get?_push_size _ rfl, rfl, rfl⟩, isl.push _⟩ ?_ ?_)))
        · exact (setObjOf_fresh (knd := PySem.strKind pr wd) led).setOf (Heap.get?_push_of_some _ atz) (by unfold scanBound; omega)
        · rintro ⟨h', g', d', tk', os'⟩ mv hd
          obtain rfl : g' = s.gens := mv.gens
          obtain rfl : d' = s.drawn := mv.drawn
          obtain rfl : os' = s.os := mv.os
          refine (show wpAny _ _ _ _ _ _ from wpAny_pure (show wpAny _ _ (ret Value.none) _ _ _ from wpAny_pure ⟨rfl, h', tk', rfl, hx ▸ hd, fun b o hb e => ?_⟩))
          refine mv.heap b o ?_ (Heap.get?_push_of_some _ (Heap.get?_push_of_some _ e))
          rw [psz]
          simp only [List.mem_cons, List.not_mem_nil, or_false, not_or]
          exact ⟨Nat.ne_of_lt hb, Nat.ne_of_lt (Nat.lt_succ_of_lt hb)⟩
      · cases r2 with
        | error e => exact hr2
        | ok f2 =>
          cases f2 with
          | next => exact hr2.elim
          | brk => exact hr2.elim
          | cont => exact hr2.elim
          | ret v2 =>
            obtain ⟨rfl, h', tk, rfl, hd, kp⟩ := hr2
            repeat (any_goals (first | assumption | wp_step))
            exact q _ _ hd kp
end
section
variable {pr : Program} {wd : World} {A : Around} {E : Value → Shared → Prop} {s : Shared}
set_option maxHeartbeats 4000000 in
theorem call_set_tuple {l : Addr} {its : Array Value} {xs : List Str} {Q : Value → Shared → Prop} (hh : A.handled = none) (hl : s.heap.IsTuple l its) (hx : xs.length = its.size) (hn : xs.length + 1 < scanBound)
    (val : ∀ (i : Nat) (v : Value), its[i]? = some v → ∃ t x, xs[i]? = some x ∧ v = .str x t)
    (q : ∀ (h' : Heap) (tk : Nat), Holds pr wd h' s.heap.objs.size xs xs.length → (∀ b o, b < s.heap.objs.size → s.heap.get? b = some o → h'.get? b = some o) → Q (.ref s.heap.objs.size) { s with heap := h', toks := tk }) :
    wpAny (model pr wd) A (call (.type "set") [.ref l]) Q E s := by
  obtain ⟨mc, ml, mro⟩ := PySem.F.called_set.mro
  have made := PySem.F.called_set.made
  have subt := PySem.F.called_set.sub
  refine wpAny_call (codeAny_of_tree (show wpAny _ _ (callAny (.type "set") _) _ _ _ from wpAny_pure ⟨Code.quiet_builtin _ (by decide +kernel), codeAny_builtin PySem.F.entry_type_call ?_⟩))
  rw [Around.under_plain (weight_type_call_type "set" [.ref l] []) rfl]
  have notT := PySem.F.called_set.notType
  have canC := PySem.F.called_set.canCreate
  have tcall := PySem.F.typeCall_set_1 (.ref l)
  repeat (any_goals (first | assumption | wp_step))
  refine codeAny_mono (code_set_new_1 (.ref l) (E := E) (Q₁ := fun ob s1 => ∃ led : Bool, ob = .ref s.heap.objs.size ∧ s1 = { s with heap := s.heap.push (empty led) }) fun led => ⟨led, rfl, rfl⟩) fun r s1 hr => ?_
  cases r with
  | error e => exact hr
  | ok fl =>
    cases fl with
    | next => exact hr.elim
    | brk => exact hr.elim
    | cont => exact hr.elim
    | ret ob =>
      obtain ⟨led, rfl, rfl⟩ := hr
      have atz : (s.heap.push (empty led)).get? s.heap.objs.size = some (empty led) := Heap.get?_push_size _ rfl
      have isz : Shared.TypeIs { s with heap := s.heap.push (empty led) } (.ref s.heap.objs.size) "set" := ⟨_, atz, rfl⟩
      have ilook := PySem.F.called_set.init.lookup
      have ibind := PySem.F.called_set.init.bind (.ref s.heap.objs.size)
      repeat (any_goals (first | assumption | wp_step))
      refine codeAny_mono (codeAny_call_builtin (R := wants (fun r s2 => r = .none ∧ ∃ h' tk, s2 = { s with heap := h', toks := tk } ∧ Holds pr wd h' s.heap.objs.size xs xs.length ∧ (∀ b o, b < s.heap.objs.size → s.heap.get? b = some o → h'.get? b = some o)) E)
        PySem.F.called_set.init.plain PySem.F.entry_set_init (check_set_init_1 isz ?_)) fun r2 s2 hr2 => ?_
      · obtain ⟨⟨oc, od, dt, osl⟩, gl, gc, nl, gd⟩ := hl
        simp only at gc gd
        subst gc gd
        have gl2 : (s.heap.push (empty led)).get? l = some { cls := .type "tuple", dict := od, data := .seq its nl, slots := osl } := Heap.get?_push_of_some _ gl
        have su1 := PySem.F.sub_tuple_set
        have su2 := PySem.F.sub_tuple_frozenset
        have nodict : (Value.type "tuple" == Value.type "dict") = false := by decide
        have isl : (s.heap.push (empty led)).IsTuple l its := ⟨_, gl2, rfl, nl, rfl⟩
        unfold Builtin.«set.__init__» noKeywords Builtin.Frozenset.updateFrom
        generalize hPI : pyIter = PI
        wp_walk
        subst hPI
        have llt : l < s.heap.objs.size := Heap.lt_size gl
        have nohd : A.in1.in1.in1.handled = none := by simp [hh]
        have psz : (s.heap.push (empty led)).objs.size = s.heap.objs.size + 1 := Heap.size_push _ _
        have nel : l ≠ (s.heap.push (empty led)).objs.size := by
          rw [psz]
          exact Nat.ne_of_lt (Nat.lt_succ_of_lt llt)
        have nez : s.heap.objs.size ∉ [(s.heap.push (empty led)).objs.size, l] := by
          rw [psz]
          simp only [List.mem_cons, List.not_mem_nil, or_false, not_or]
          exact ⟨Nat.ne_of_lt (Nat.lt_succ_self _), Nat.ne_of_gt llt⟩
        refine wpAny_pyIter_tuple isl (wpAny_bind (wpAny_runValue (turns ((Walks.tuple nohd _ l nel its).toS) s.heap.objs.size nez xs hx (by omega) val (its.size - 0) 0 _ (by omega) (Nat.zero_le _) ⟨⟨_, Heap.get?_push_size _ rfl, rfl, rfl⟩, isl.push _⟩ ?_ ?_)))
        · exact (setObjOf_fresh (knd := PySem.strKind pr wd) led).setOf (Heap.get?_push_of_some _ atz) (by unfold scanBound; omega)
        · rintro ⟨h', g', d', tk', os'⟩ mv hd
          obtain rfl : g' = s.gens := mv.gens
          obtain rfl : d' = s.drawn := mv.drawn
          obtain rfl : os' = s.os := mv.os
          refine (show wpAny _ _ _ _ _ _ from wpAny_pure (show wpAny _ _ (ret Value.none) _ _ _ from wpAny_pure ⟨rfl, h', tk', rfl, hx ▸ hd, fun b o hb e => ?_⟩))
          refine mv.heap b o ?_ (Heap.get?_push_of_some _ (Heap.get?_push_of_some _ e))
          rw [psz]
          simp only [List.mem_cons, List.not_mem_nil, or_false, not_or]
          exact ⟨Nat.ne_of_lt hb, Nat.ne_of_lt (Nat.lt_succ_of_lt hb)⟩
      · cases r2 with
        | error e => exact hr2
        | ok f2 =>
          cases f2 with
          | next => exact hr2.elim
          | brk => exact hr2.elim
          | cont => exact hr2.elim
          | ret v2 =>
            obtain ⟨rfl, h', tk, rfl, hd, kp⟩ := hr2
            repeat (any_goals (first | assumption | wp_step))
            exact q _ _ hd kp
end
end SetT
end He

namespace He
open PySem PySem.Spec PyProof.Rows L2
section
variable {P : Program} {w : World} {K : PySem.W.Frag} {mg : Str → Option Value} {base : Heap}

/-! ### a list or a tuple, walked -/
def SeqIt (K : PySem.W.Frag) (H : Hp) (a : Addr) (xs : List V) (J : It) : Prop := (J = Itl K a ∧ SqL K H a xs) ∨ (J = Itt K a ∧ SqT K H a xs)
def Sq (K : PySem.W.Frag) (H : Hp) (a : Addr) (xs : List V) : Prop := SqL K H a xs ∨ SqT K H a xs
theorem Sq.it {H : Hp} {a : Addr} {xs : List V} (h : Sq K H a xs) : ∃ J, SeqIt K H a xs J := by
  rcases h with h | h
  · exact ⟨_, .inl ⟨rfl, h⟩⟩
  · exact ⟨_, .inr ⟨rfl, h⟩⟩
theorem Sq.mono {H H' : Hp} {a : Addr} {xs : List V} (s : Same H H') (h : Sq K H a xs) : Sq K H' a xs := by
  rcases h with h | h
  · exact .inl (s.seq h)
  · exact .inr (Same.seqT s h)
def iSeq (K : PySem.W.Frag) (tl : TE) : TI := fun σ H R => tl σ H fun x H1 => ∃ a xs J, x = .ref a ∧ SeqIt K H1 a xs J ∧ R J H1
theorem pi_seq {X : Cx} {tg : Expr} {l : Expr} {tl : TE} (hl : PE X l tl) : PI X tg l (iSeq X.K tl) := by
  refine ⟨fun pins s σ H R I h => thn (hl.run pins s σ H _ I h) fun v s1 ⟨x, H1, I1, r1, q1⟩ => ?_⟩
  obtain ⟨a, xs, J, rfl, hJ, q⟩ := q1
  cases r1
  have fin : ∀ b ∈ [s1.heap.objs.size], FpOk X pins H1 b := fun b hb => by
    obtain rfl := List.mem_singleton.mp hb
    exact I1.fpOk (Nat.le_refl _) (I1.hok.fresh (Nat.le_refl _))
  rcases hJ with ⟨rfl, hq⟩ | ⟨rfl, hq⟩
  · obtain ⟨its, rv, pl, _⟩ := I1.list hq
    exact wpAny_pyIter_list pl.isList ⟨_, [_], _, _, H1, rfl, I1.kept (t' := s1.toks) fun b o e => Heap.get?_push_of_some _ e, turn_list a _, ⟨_, Heap.get?_push_size _ rfl, rfl, rfl⟩, fin, q⟩
  · obtain ⟨its, rv, pl, _⟩ := I1.tuple hq
    exact wpAny_pyIter_tuple (show s1.heap.IsTuple a its.toArray from pl) ⟨_, [_], _, _, H1, rfl, I1.kept (t' := s1.toks) fun b o e => Heap.get?_push_of_some _ e, turn_tuple a _, ⟨_, Heap.get?_push_size _ rfl, rfl, rfl⟩, fin, q⟩
/-- a comprehension whose turns only make new things: the i-th value with Y i of it -/
theorem lg_pure {H1 : Hp} {a D : Addr} {xs : List V} {J : It} {g : TG} {te : TE} {vs : List Nat} {σ : L2.St} {Qd : Hp → Prop} (Y : Nat → V → Hp → Prop) (hJ : SeqIt K H1 a xs J) (hn : xs.length < sizeLine) (nD : H1 D = none)
    (mono : ∀ i y H H', Same H H' → Y i y H → Y i y H')
    (turn : ∀ (i : Nat) (x : V) (H : Hp) (Φ : V → Hp → Prop), xs[i]? = some x → Same H1 H → H D ≠ none → (∀ y H3, Same H H3 → Y i y (hide D H3) → Φ y H3) → g x (wipe σ vs) H fun σ2 H2 => wipe σ2 vs = wipe σ vs ∧ te σ2 H2 Φ)
    (done : ∀ (ys : List V) (H : Hp), Same H1 H → H D = some (.lst ys) → ys.length = xs.length → (∀ (i : Nat) (y : V), ys[i]? = some y → Y i y (hide D H)) → Qd H) : LcGoes J g tYes te vs σ H1 D Qd := by
  have hsame : ∀ {H : Hp} {o : HO}, Same H1 H → Same H1 (upd H D o) := fun s b o e => by
    rw [upd_ne (ne_of_none e nD)]
    exact s b o e
  have hD : ∀ {H : Hp} {o : HO}, Same (hide D H) (hide D (upd H D o)) := hide_upd
  let Pv : Nat → Hp → Prop := fun i H => ∃ ys, Same H1 H ∧ H D = some (.lst ys) ∧ ys.length = i ∧ ∀ (j : Nat) (y : V), ys[j]? = some y → Y j y (hide D H)
  have p0 : Pv 0 (upd H1 D (.lst [])) := ⟨[], hsame (Same.refl H1), upd_same, rfl, fun j y e => nomatch e⟩
  have ps : ∀ i x H, xs[i]? = some x → Pv i H → g x (wipe σ vs) H fun σ2 H2 => wipe σ2 vs = wipe σ vs ∧ tYes σ2 H2 fun b H3 =>
      if b = true then te σ2 H3 fun y H4 => ∃ acc, H4 D = some (.lst acc) ∧ acc.length < sizeLine ∧ Pv (i + 1) (upd H4 D (.lst (acc ++ [y]))) else Pv (i + 1) H3 := by
    rintro i x H hx ⟨ys, s1, eD, hl, hY⟩
    have hi : i < xs.length := (List.getElem?_eq_some_iff.mp hx).1
    have t := turn i x H (fun y H4 => ∃ acc, H4 D = some (.lst acc) ∧ acc.length < sizeLine ∧ Pv (i + 1) (upd H4 D (.lst (acc ++ [y])))) hx s1 (by rw [eD]; exact fun z => nomatch z) fun y H3 s3 hy => by
      refine ⟨ys, s3 _ _ eD, by omega, ys ++ [y], hsame (s1.trans s3), upd_same, by rw [List.length_append, hl]; rfl, fun j z e => ?_⟩
      refine mono j z _ _ hD ?_
      by_cases hj : j < ys.length
      · rw [List.getElem?_append_left hj] at e
        exact mono j z _ _ (hide_same s3) (hY j z e)
      · rw [List.getElem?_append_right (by omega)] at e
        have hj0 : j - ys.length = 0 := by
          rcases Nat.eq_zero_or_pos (j - ys.length) with h | h
          · exact h
          · rw [List.getElem?_eq_none (by simp; omega)] at e
            cases e
        rw [hj0] at e
        obtain rfl : y = z := Option.some.inj e
        have : j = i := by omega
        rw [this]
        exact hy
    exact t
  have pd : ∀ H, Pv xs.length H → Qd H := fun H ⟨ys, s1, eD, hl, hY⟩ => done ys H s1 eD hl hY
  rcases hJ with ⟨rfl, hq⟩ | ⟨rfl, hq⟩
  · exact lg_list Pv p0 (fun i H _ ⟨ys, s1, _⟩ => s1.seq hq) ps pd
  · exact lg_tup Pv p0 (fun i H _ ⟨ys, s1, _⟩ => Same.seqT s1 hq) ps pd
/-! ### len(set(texts)) -/
def tLenSetT (K : PySem.W.Frag) (ta : TE) : TE := fun σ H Q => ta σ H fun x H1 => ∃ l, ∃ xs : List Str, x = .ref l ∧ Sq K H1 l (xs.map V.str) ∧ xs.length < 4000 ∧ Q (.int ((SetT.once xs).length : Nat)) H1
theorem vals_str {xs : List Str} {us : List Value} (r : Vals (xs.map V.str) us) (i : Nat) (v : Value) (h : us[i]? = some v) : ∃ t x, xs[i]? = some x ∧ v = .str x t := by
  have hl := r.length
  rw [List.length_map] at hl
  have hi : i < us.length := (List.getElem?_eq_some_iff.mp h).1
  obtain ⟨u, e, t, ru⟩ := r.get (i := i) (x := .str (xs[i]'(by omega))) (by rw [List.getElem?_map, List.getElem?_eq_getElem (by omega)]; rfl)
  rw [h] at e
  cases e
  exact ⟨t, _, List.getElem?_eq_getElem (by omega), ru⟩
theorem pe_lenSetT {X : Cx} {a : Expr} {ta : TE} {p p2 q pos : Pos} (hc : X.calm = true) (hg : Gl X "len") (hm : X.mg "len" = none) (hg2 : Gl X "set") (hm2 : X.mg "set" = none) (ha : PE X a ta)
    (na : starEach [a] X.env = (false, eval a X.env) :: starEach [] X.env := by rfl) : PE X (.Call (.Name "len" p) [.Call (.Name "set" p2) [a] [] q] [] pos) (tLenSetT X.K ta) := by
  refine ⟨fun pins s σ H Q I h => Call_ (ld_blt I hg hm PySem.boot_len (PyProof.Rows.callWith_builtin1 (PyProof.Rows.args_cons ?_ rfl) rfl rfl))⟩
  refine Call_ (ld_blt I hg2 hm2 (show bootBuiltins "set" = some (.type "set") by decide +kernel) (PyProof.Rows.callWith_type1 (PyProof.Rows.args_cons (thn (ha.run pins s σ H _ I h) fun v s1 ⟨x, H1, I1, r1, q1⟩ => PyProof.Rows.args_nil ?_) na) na rfl))
  obtain ⟨l, xs, rfl, hq, hn, q1⟩ := q1
  cases r1
  have rest : ∀ (h' : Heap) (tk : Nat), SetT.Holds X.prog X.w h' s1.heap.objs.size xs xs.length → (∀ b o, b < s1.heap.objs.size → s1.heap.get? b = some o → h'.get? b = some o) →
      wpAny (model X.prog X.w) X.A (spliced (backTo pos (starEach [] X.env))) (fun vs s2 => wpAny (model X.prog X.w) X.A (call (.builtin "len") (Value.ref s1.heap.objs.size :: vs)) (EP X pins σ Q) X.xe s2) X.xe { s1 with heap := h', toks := tk } := by
    intro h' tk hd kp
    refine PyProof.Rows.args_nil ?_
    obtain ⟨ob, es, ep, tb, eo, ex, ed, _, _, _, hf, hz⟩ := hd
    rw [List.take_length] at hz
    have I2 : Inv X pins σ H1 { s1 with heap := h', toks := tk } := I1.kept fun b o e => kp b o (Heap.lt_size e) e
    have := SetT.once_le xs
    exact call_len_set eo ex ed hf (by omega) ⟨.int ((SetT.once xs).length : Nat), H1, I2.tok _, ⟨_, by rw [hz]⟩, q1⟩
  have hb : xs.length + 1 < scanBound := by unfold scanBound; omega
  rcases hq with hq | hq
  · obtain ⟨its, r, pl, _⟩ := I1.list hq
    exact SetT.call_set_list (I1.ok.hd hc) pl.isList (by rw [List.size_toArray, ← r.length, List.length_map]) hb (fun i v e => vals_str r i v (by simpa using e)) rest
  · obtain ⟨its, r, pl, _⟩ := I1.tuple hq
    exact SetT.call_set_tuple (I1.ok.hd hc) pl (by rw [List.size_toArray, ← r.length, List.length_map]) hb (fun i v e => vals_str r i v (by simpa using e)) rest

end
end He

namespace He
open PySem PySem.Spec PyProof.Rows L2
section
variable {P : Program} {w : World} {K : PySem.W.Frag} {mg : Str → Option Value} {base : Heap}

theorem adOkA_get {K : PySem.W.Frag} : ∀ {ds : List AD} {i : Nat} {d : AD}, AdOkA K ds → ds[i]? = some d → AdOk K d
  | [], i, d, _, e => by simp at e
  | _ :: _, 0, d, h, e => by
    cases Option.some.inj e
    exact h.1
  | _ :: ds, i + 1, d, h, e => adOkA_get (i := i) h.2 e
theorem avA_get2 {H : Hp} : ∀ {vs : List V} {ds : List AD} {i : Nat} {d : AD}, AvAll K H vs ds → ds[i]? = some d → ∃ v, vs[i]? = some v ∧ Av K H v d
  | _, _, i, _, .nil, e => by simp at e
  | _, _, 0, _, .cons a _, e => by
    cases (Option.some.inj e)
    exact ⟨_, rfl, a⟩
  | _, _, i + 1, _, .cons _ b, e => avA_get2 (i := i) b e
/-- a sequence's items -/
def itemsA : AD → Option (List AD) | .lst ds => some ds | .tup ds => some ds | _ => none
theorem av_items {H : Hp} {v : V} {d : AD} {ds : List AD} (h : Av K H v d) (e : itemsA d = some ds) : ∃ a xs, v = .ref a ∧ Sq K H a xs ∧ AvAll K H xs ds := by
  cases h with
  | lst hs ha => cases (Option.some.inj e); exact ⟨_, _, rfl, .inl hs, ha⟩
  | tup hs ha => cases (Option.some.inj e); exact ⟨_, _, rfl, .inr hs, ha⟩
  | non => cases e
  | bl b => cases e
  | int i => cases e
  | str x => cases e
  | ins a b => cases e
theorem ok_items {d : AD} {ds : List AD} (h : AdOk K d) (e : itemsA d = some ds) : ds.length < 4000 ∧ AdOkA K ds := by
  cases d <;> first | (cases (Option.some.inj e); exact h) | cases e
theorem seq_items (d : AD) : isSeqA d = (itemsA d).isSome := by cases d <;> rfl
/-- the texts, if all are -/
def strsA : List AD → Option (List Str)
  | [] => some []
  | .str x :: r => (strsA r).map (x :: ·)
  | _ :: _ => none
def grpA (d : AD) : Option (List Str) := match itemsA d with
  | some ds => if ds.isEmpty then none else if ds.all isNameA then (match strsA ds with | some xs => if xs.Nodup then some xs else none | none => none) else none
  | none => none
def isGrpA (d : AD) : Bool := (grpA d).isSome
theorem names_strs : ∀ {ds : List AD}, ds.all isNameA = true → ∃ xs, strsA ds = some xs ∧ ∀ x ∈ xs, nameB x = true
  | [], _ => ⟨[], rfl, fun _ h => nomatch h⟩
  | d :: r, h => by
    rw [List.all_cons, Bool.and_eq_true] at h
    obtain ⟨xs, e, hn⟩ := names_strs h.2
    cases d with
    | str x =>
      refine ⟨x :: xs, ?_, fun y hy => ?_⟩
      · show (strsA r).map (x :: ·) = _
        rw [e]
        rfl
      · rcases List.mem_cons.mp hy with rfl | hy
        · exact h.1
        · exact hn y hy
    | _ => exact nomatch h.1
theorem av_strs {H : Hp} : ∀ {vs : List V} {ds : List AD} {xs : List Str}, AvAll K H vs ds → strsA ds = some xs → vs = xs.map V.str
  | _, _, _, .nil, e => by cases (Option.some.inj e); rfl
  | v :: vs, d :: ds, xs, .cons a b, e => by
    cases a with
    | str x =>
      cases h : strsA ds with
      | none => rw [show strsA (.str x :: ds) = (strsA ds).map (x :: ·) from rfl, h] at e; cases e
      | some ys =>
        rw [show strsA (.str x :: ds) = (strsA ds).map (x :: ·) from rfl, h] at e
        cases (Option.some.inj e)
        rw [av_strs b h]
        rfl
    | _ => cases e
theorem bl_list {f : AD → Bool} {ds : List AD} {ys : List V} (hl : ys.length = ds.length) (h : ∀ (i : Nat) (y : V), ys[i]? = some y → ∃ d, ds[i]? = some d ∧ y = .bl (f d)) : ys = (ds.map f).map V.bl := by
  refine List.ext_getElem? fun i => ?_
  rw [List.getElem?_map, List.getElem?_map]
  cases e : ys[i]? with
  | none =>
    rw [List.getElem?_eq_none (by have := List.getElem?_eq_none_iff.mp e; omega)]
    rfl
  | some y =>
    obtain ⟨d, e2, rfl⟩ := h i y e
    rw [e2]
    rfl
/-- [f(x) for x in xs], f a test of any value -/
theorem lg_is {H1 : Hp} {a D : Addr} {xs : List V} {ds : List AD} {J : It} {i : Nat} {σ : L2.St} {Qd : Hp → Prop} {f : AD → Bool} (hJ : SeqIt K H1 a xs J) (hv : AvAll K H1 xs ds) (ho : AdOkA K ds) (hn : ds.length < 4000) (hi : i < σ.length) (nD : H1 D = none)
    (done : ∀ H : Hp, Same H1 H → H D = some (.lst ((ds.map f).map V.bl)) → Qd H) : LcGoes J (gName i) tYes (tCall (spIs K f) [] E0 (tCons (tVar i) tNil)) [i] σ H1 D Qd := by
  have hl := avA_len hv
  refine lg_pure (fun j y _ => ∃ d, ds[j]? = some d ∧ y = .bl (f d)) hJ (Nat.lt_of_lt_of_le (by omega : xs.length < 4000) (by decide)) nD (fun _ _ _ _ _ h => h) (fun j x H Φ hx s1 _ hΦ => ?_) (fun ys H s1 eD hl2 hY => ?_)
  · show wipe ((wipe σ [i]).set i (some x)) [i] = wipe σ [i] ∧ _
    refine ⟨by show ((σ.set i none).set i (some x)).set i none = σ.set i none; rw [List.set_set, List.set_set], ?_⟩
    obtain ⟨d, hd, hx2⟩ := avA_get hv hx
    refine ⟨x, ?_, ?_⟩
    · show ((σ.set i none).set i (some x))[i]? = _
      rw [List.set_set, List.getElem?_set_self hi]
    · exact ⟨x, d, rfl, av_mono s1 d x hx2, adOkA_get ho hd, fun H2 s2 => hΦ _ _ s2 ⟨d, hd, rfl⟩⟩
  · refine done H s1 ?_
    rw [eD, bl_list (f := f) (by rw [hl2, hl]) hY]
theorem ok_isgroup (T : TxtG K mg) : FnOk P w K mg base CX0 2 T.dIsGroup.f T.dIsGroup.fd ["value"] (spIs K isGrpA) := by
  refine T.dIsGroup.F.ok scDIsGroup (fun vs H Q E h => ?_) (fun cdv A outer s H vs Q E hr h => ?_)
  · obtain ⟨v, d, rfl, _⟩ := h
    rfl
  · obtain ⟨v, d, rfl, hv, hd, q⟩ := h
    refine ⟨_, (pss_cons (ps_if (PW.pt (pw_or (pt_not (pt_val (pe_call (ok_isseq T) (hr.mono (by decide)) (by rfl) T.dIsSequence.g T.dIsSequence.F.kp T.dIsSequence.b .nil pass0 (pa_cons (pv 0) pa_nil)))) (pw_or1 (pt_cmpR op_eq (pe_callB call_len_seq (by rfl) T.z_len (show bootBuiltins "len" = some (.builtin "len") by decide +kernel) (pa_cons (pv 0) pa_nil)) pe_int (nomark _)))))
      (pss_one (ps_ret pe_bl))
      pss_nil)
      (pss_one (ps_ret (pe_and (pe_callB (cr_all rfl) (by rfl) T.z_all (show bootBuiltins "all" = some (.builtin "all") by decide +kernel) (pa_cons (pe_lc (own := [("name", 1)]) (g := (gName 1)) (tt := tYes) rfl scDIsGroup.nd (pi_seq (pv 0)) (blkOk_by (N := ["value", "name"]) (sc := defScope sDIsGroup) (by decide +kernel)) (fun _ _ _ _ _ => (pg_name (i := 1) scDIsGroup.nd rfl (.inl rfl))) (fun _ _ _ _ _ => pts_nil) (fun _ _ _ _ _ => (pe_call (ok_isname T) (hr.mono (by decide)) (by rfl) T.dIsName.g T.dIsName.F.kp T.dIsName.b .nil pass0 (pa_cons (pv 1) pa_nil)))) pa_nil)) (pe_one (pe_cmpR op_eq (pe_lenSetT rfl (by rfl) T.z_len (by rfl) T.z_set (pv 0)) (pe_callB call_len_seq (by rfl) T.z_len (show bootBuiltins "len" = some (.builtin "len") by decide +kernel) (pa_cons (pv 0) pa_nil)) (nomark _))))))), ?_⟩
    simp only [and_assoc, tSeq, tAsg, tOp, tUn, rI, rI0, rU, tVar, tC, gName, L2.start, tIfS, tTest, tB, tCB, tCons, tNil, tIf, tRet, tRetN, tLst, tTup, tNext, tDrop, tNot, tNotV, tAnd, tOr, tAndV, tOrV, tPar, tAug, ipI, rEq, rNe, gSub, rSetL, rIxL, rIxT, tBM, tBM0, rAppend, rPopAt, gTup, gCons, gNil, tCall, tSl, tPart, tNoPart, rSlL, rCat, rEqD, rNeD, rIn, scal, List.map_cons, List.map_nil, List.length_cons, List.length_nil, List.length_map, List.cons_append, List.nil_append, List.append_nil, List.replicate, List.getElem?_cons_zero, List.getElem?_cons_succ, List.set_cons_zero, List.set_cons_succ, Option.some.injEq, exists_eq_left', exists_eq_left, exists_eq_right, exists_and_left, exists_and_right, V.int.injEq, V.ref.injEq, V.str.injEq, V.bl.injEq, reduceCtorEq, false_and, and_false, exists_false, or_false, false_or, true_and, and_true, List.cons.injEq, decide_eq_true_eq, cxOf, if_true, if_false, Bool.false_eq_true, Nat.reduceAdd, Nat.reduceSub, Nat.zero_add, Nat.add_sub_cancel_left, Nat.add_sub_cancel, Nat.sub_self, tFor_eq, tLc_eq, iRng1, iRng2, iList, iTup, iEnum, rIsi, rIsiT, spIs, tLenSetT, rAll, iSeq]
    refine ⟨d, hv, hd, fun H1 s1 => ?_⟩
    rw [seq_items]
    cases ei : itemsA d with
    | none =>
      simp only [and_assoc, tSeq, tAsg, tOp, tUn, rI, rI0, rU, tVar, tC, gName, L2.start, tIfS, tTest, tB, tCB, tCons, tNil, tIf, tRet, tRetN, tLst, tTup, tNext, tDrop, tNot, tNotV, tAnd, tOr, tAndV, tOrV, tPar, tAug, ipI, rEq, rNe, gSub, rSetL, rIxL, rIxT, tBM, tBM0, rAppend, rPopAt, gTup, gCons, gNil, tCall, tSl, tPart, tNoPart, rSlL, rCat, rEqD, rNeD, rIn, scal, List.map_cons, List.map_nil, List.length_cons, List.length_nil, List.length_map, List.cons_append, List.nil_append, List.append_nil, List.replicate, List.getElem?_cons_zero, List.getElem?_cons_succ, List.set_cons_zero, List.set_cons_succ, Option.some.injEq, exists_eq_left', exists_eq_left, exists_eq_right, exists_and_left, exists_and_right, V.int.injEq, V.ref.injEq, V.str.injEq, V.bl.injEq, reduceCtorEq, false_and, and_false, exists_false, or_false, false_or, true_and, and_true, List.cons.injEq, decide_eq_true_eq, cxOf, if_true, if_false, Bool.false_eq_true, Nat.reduceAdd, Nat.reduceSub, Nat.zero_add, Nat.add_sub_cancel_left, Nat.add_sub_cancel, Nat.sub_self, tFor_eq, tLc_eq, iRng1, iRng2, iList, iTup, iEnum, rIsi, rIsiT, Option.isSome_none, Bool.not_false]
      have e : isGrpA d = false := by unfold isGrpA grpA; rw [ei]; rfl
      rw [← e]
      exact q _ s1
    | some ds =>
      simp only [and_assoc, tSeq, tAsg, tOp, tUn, rI, rI0, rU, tVar, tC, gName, L2.start, tIfS, tTest, tB, tCB, tCons, tNil, tIf, tRet, tRetN, tLst, tTup, tNext, tDrop, tNot, tNotV, tAnd, tOr, tAndV, tOrV, tPar, tAug, ipI, rEq, rNe, gSub, rSetL, rIxL, rIxT, tBM, tBM0, rAppend, rPopAt, gTup, gCons, gNil, tCall, tSl, tPart, tNoPart, rSlL, rCat, rEqD, rNeD, rIn, scal, List.map_cons, List.map_nil, List.length_cons, List.length_nil, List.length_map, List.cons_append, List.nil_append, List.append_nil, List.replicate, List.getElem?_cons_zero, List.getElem?_cons_succ, List.set_cons_zero, List.set_cons_succ, Option.some.injEq, exists_eq_left', exists_eq_left, exists_eq_right, exists_and_left, exists_and_right, V.int.injEq, V.ref.injEq, V.str.injEq, V.bl.injEq, reduceCtorEq, false_and, and_false, exists_false, or_false, false_or, true_and, and_true, List.cons.injEq, decide_eq_true_eq, cxOf, if_true, if_false, Bool.false_eq_true, Nat.reduceAdd, Nat.reduceSub, Nat.zero_add, Nat.add_sub_cancel_left, Nat.add_sub_cancel, Nat.sub_self, tFor_eq, tLc_eq, iRng1, iRng2, iList, iTup, iEnum, rIsi, rIsiT, Option.isSome_some, Bool.not_true]
      obtain ⟨a, xs, rfl, hs, ha⟩ := av_items hv ei
      obtain ⟨hn, ho⟩ := ok_items hd ei
      have hl := avA_len ha
      refine ⟨a, rfl, xs, hs.mono s1, ?_⟩
      by_cases h0 : ds = []
      · rw [if_pos (by rw [hl, h0]; rfl)]
        have e : isGrpA d = false := by unfold isGrpA grpA; rw [ei, h0]; rfl
        rw [← e]
        exact q _ s1
      · have hpos : 0 < ds.length := List.length_pos_iff.mpr h0
        rw [if_neg (by omega)]
        obtain ⟨J, hJ⟩ := (hs.mono s1).it
        refine ⟨a, rfl, xs, J, hJ, fun D nD => lg_is hJ (avA_mono s1 _ _ ha) ho hn (by decide : 1 < 2) nD fun H2 s2 eD => ⟨_, sqL_of eD, ?_⟩⟩
        have ea : (ds.map isNameA).all id = ds.all isNameA := by rw [List.all_map]; rfl
        rw [ea]
        have hie : ds.isEmpty = false := by cases ds with | nil => exact absurd rfl h0 | cons _ _ => rfl
        cases hall : ds.all isNameA with
        | false =>
          simp only [and_assoc, tSeq, tAsg, tOp, tUn, rI, rI0, rU, tVar, tC, gName, L2.start, tIfS, tTest, tB, tCB, tCons, tNil, tIf, tRet, tRetN, tLst, tTup, tNext, tDrop, tNot, tNotV, tAnd, tOr, tAndV, tOrV, tPar, tAug, ipI, rEq, rNe, gSub, rSetL, rIxL, rIxT, tBM, tBM0, rAppend, rPopAt, gTup, gCons, gNil, tCall, tSl, tPart, tNoPart, rSlL, rCat, rEqD, rNeD, rIn, scal, List.map_cons, List.map_nil, List.length_cons, List.length_nil, List.length_map, List.cons_append, List.nil_append, List.append_nil, List.replicate, List.getElem?_cons_zero, List.getElem?_cons_succ, List.set_cons_zero, List.set_cons_succ, Option.some.injEq, exists_eq_left', exists_eq_left, exists_eq_right, exists_and_left, exists_and_right, V.int.injEq, V.ref.injEq, V.str.injEq, V.bl.injEq, reduceCtorEq, false_and, and_false, exists_false, or_false, false_or, true_and, and_true, List.cons.injEq, decide_eq_true_eq, cxOf, if_true, if_false, Bool.false_eq_true, Nat.reduceAdd, Nat.reduceSub, Nat.zero_add, Nat.add_sub_cancel_left, Nat.add_sub_cancel, Nat.sub_self, tFor_eq, tLc_eq, iRng1, iRng2, iList, iTup, iEnum, rIsi, rIsiT]
          have e : isGrpA d = false := by unfold isGrpA grpA; rw [ei]; simp only [hie, hall]; rfl
          rw [← e]
          exact q _ (s1.trans s2)
        | true =>
          simp only [and_assoc, tSeq, tAsg, tOp, tUn, rI, rI0, rU, tVar, tC, gName, L2.start, tIfS, tTest, tB, tCB, tCons, tNil, tIf, tRet, tRetN, tLst, tTup, tNext, tDrop, tNot, tNotV, tAnd, tOr, tAndV, tOrV, tPar, tAug, ipI, rEq, rNe, gSub, rSetL, rIxL, rIxT, tBM, tBM0, rAppend, rPopAt, gTup, gCons, gNil, tCall, tSl, tPart, tNoPart, rSlL, rCat, rEqD, rNeD, rIn, scal, List.map_cons, List.map_nil, List.length_cons, List.length_nil, List.length_map, List.cons_append, List.nil_append, List.append_nil, List.replicate, List.getElem?_cons_zero, List.getElem?_cons_succ, List.set_cons_zero, List.set_cons_succ, Option.some.injEq, exists_eq_left', exists_eq_left, exists_eq_right, exists_and_left, exists_and_right, V.int.injEq, V.ref.injEq, V.str.injEq, V.bl.injEq, reduceCtorEq, false_and, and_false, exists_false, or_false, false_or, true_and, and_true, List.cons.injEq, decide_eq_true_eq, cxOf, if_true, if_false, Bool.false_eq_true, Nat.reduceAdd, Nat.reduceSub, Nat.zero_add, Nat.add_sub_cancel_left, Nat.add_sub_cancel, Nat.sub_self, tFor_eq, tLc_eq, iRng1, iRng2, iList, iTup, iEnum, rIsi, rIsiT]
          obtain ⟨ns, en, _⟩ := names_strs hall
          have ex : xs = ns.map V.str := av_strs ha en
          have hnl : ns.length = ds.length := by rw [← hl, ex, List.length_map]
          have hs2 : Sq K H2 a xs := hs.mono (s1.trans s2)
          refine ⟨ns, by rw [← ex]; exact hs2, by omega, xs, hs2, ?_⟩
          have e : isGrpA d = decide (((SetT.once ns).length : Int) = (xs.length : Int)) := by
            have hiff := SetT.once_len ns
            unfold isGrpA grpA
            rw [ei]
            simp only [hie, hall, en]
            rw [show xs.length = ns.length by omega]
            by_cases hnd : ns.Nodup
            · rw [decide_eq_true (by rw [hiff.mpr hnd])]
              simp [hnd]
            · rw [decide_eq_false (fun z => hnd (hiff.mp (by omega)))]
              simp [hnd]
          rw [← e]
          exact q _ (s1.trans s2)

end
end He

namespace He
open PySem PySem.Spec PyProof.Rows L2
section
variable {P : Program} {w : World} {K : PySem.W.Frag} {mg : Str → Option Value} {base : Heap}

def isGrpsA (g : AD) : Bool := match itemsA g with | some gs => gs.all isGrpA | none => false
def wOkA : AD → Bool
  | .int n => decide (1 ≤ n)
  | _ => false
def isShA : AD → Bool
  | .tup [w, g] => wOkA w && isGrpsA g
  | _ => false
def isWillA (d : AD) : Bool := match itemsA d with | some ds => !ds.isEmpty && ds.all isShA | none => false
theorem pair_tup {d : AD} (h : isPairA d = true) : ∃ w g, d = .tup [w, g] := by
  match d, h with
  | .tup [w, g], _ => exact ⟨w, g, rfl⟩
theorem int_of {d : AD} (h : isIntA d = true) : ∃ n, d = .int n := by
  cases d with
  | int n => exact ⟨n, rfl⟩
  | _ => exact nomatch h
theorem ok_isshare (T : TxtG K mg) : FnOk P w K mg base CX0 3 T.dIsShare.f T.dIsShare.fd ["value"] (spIs K isShA) := by
  refine T.dIsShare.F.ok scDIsShare (fun vs H Q E h => ?_) (fun cdv A outer s H vs Q E hr h => ?_)
  · obtain ⟨v, d, rfl, _⟩ := h
    rfl
  · obtain ⟨v, d, rfl, hv, hd, q⟩ := h
    refine ⟨_, (pss_cons (ps_if (pt_not (pt_val (pe_call (ok_ispair T) (hr.mono (by decide)) (by rfl) T.dIsPair.g T.dIsPair.F.kp T.dIsPair.b .nil pass0 (pa_cons (pv 0) pa_nil))))
      (pss_one (ps_ret pe_bl))
      pss_nil)
      (pss_cons (ps_asg (pv 0) (pg_tup (n := 2) rfl (pgs_cons (pg_name (i := 1) scDIsShare.nd rfl (.inl rfl)) (pgs_cons (pg_name (i := 2) scDIsShare.nd rfl (.inl rfl)) pgs_nil))))
      (pss_cons (ps_if (PW.pt (pw_or (pt_not (pt_val (pe_call (ok_isint T) (hr.mono (by decide)) (by rfl) T.dIsInteger.g T.dIsInteger.F.kp T.dIsInteger.b .nil pass0 (pa_cons (pv 1) pa_nil)))) (pw_or (pt_cmpR op_lt (pv 1) pe_int (nomark _)) (pw_or1 (pt_not (pt_val (pe_call (ok_isseq T) (hr.mono (by decide)) (by rfl) T.dIsSequence.g T.dIsSequence.F.kp T.dIsSequence.b .nil pass0 (pa_cons (pv 2) pa_nil))))))))
      (pss_one (ps_ret pe_bl))
      pss_nil)
      (pss_one (ps_ret (pe_callB (cr_all rfl) (by rfl) T.z_all (show bootBuiltins "all" = some (.builtin "all") by decide +kernel) (pa_cons (pe_lc (own := [("group", 3)]) (g := (gName 3)) (tt := tYes) rfl scDIsShare.nd (pi_seq (pv 2)) (blkOk_by (N := ["value", "weight", "groups", "group"]) (sc := defScope sDIsShare) (by decide +kernel)) (fun _ _ _ _ _ => (pg_name (i := 3) scDIsShare.nd rfl (.inl rfl))) (fun _ _ _ _ _ => pts_nil) (fun _ _ _ _ _ => (pe_call (ok_isgroup T) (hr.mono (by decide)) (by rfl) T.dIsGroup.g T.dIsGroup.F.kp T.dIsGroup.b .nil pass0 (pa_cons (pv 3) pa_nil)))) pa_nil))))))), ?_⟩
    simp only [and_assoc, tSeq, tAsg, tOp, tUn, rI, rI0, rU, tVar, tC, gName, L2.start, tIfS, tTest, tB, tCB, tCons, tNil, tIf, tRet, tRetN, tLst, tTup, tNext, tDrop, tNot, tNotV, tAnd, tOr, tAndV, tOrV, tPar, tAug, ipI, rEq, rNe, gSub, rSetL, rIxL, rIxT, tBM, tBM0, rAppend, rPopAt, gTup, gCons, gNil, tCall, tSl, tPart, tNoPart, rSlL, rCat, rEqD, rNeD, rIn, scal, List.map_cons, List.map_nil, List.length_cons, List.length_nil, List.length_map, List.cons_append, List.nil_append, List.append_nil, List.replicate, List.getElem?_cons_zero, List.getElem?_cons_succ, List.set_cons_zero, List.set_cons_succ, Option.some.injEq, exists_eq_left', exists_eq_left, exists_eq_right, exists_and_left, exists_and_right, V.int.injEq, V.ref.injEq, V.str.injEq, V.bl.injEq, reduceCtorEq, false_and, and_false, exists_false, or_false, false_or, true_and, and_true, List.cons.injEq, decide_eq_true_eq, cxOf, if_true, if_false, Bool.false_eq_true, Nat.reduceAdd, Nat.reduceSub, Nat.zero_add, Nat.add_sub_cancel_left, Nat.add_sub_cancel, Nat.sub_self, tFor_eq, tLc_eq, iRng1, iRng2, iList, iTup, iEnum, rIsi, rIsiT, spIs, tLenSetT, rAll, iSeq]
    refine ⟨d, hv, hd, fun H1 s1 => ?_⟩
    cases hp : isPairA d with
    | false =>
      simp only [and_assoc, tSeq, tAsg, tOp, tUn, rI, rI0, rU, tVar, tC, gName, L2.start, tIfS, tTest, tB, tCB, tCons, tNil, tIf, tRet, tRetN, tLst, tTup, tNext, tDrop, tNot, tNotV, tAnd, tOr, tAndV, tOrV, tPar, tAug, ipI, rEq, rNe, gSub, rSetL, rIxL, rIxT, tBM, tBM0, rAppend, rPopAt, gTup, gCons, gNil, tCall, tSl, tPart, tNoPart, rSlL, rCat, rEqD, rNeD, rIn, scal, List.map_cons, List.map_nil, List.length_cons, List.length_nil, List.length_map, List.cons_append, List.nil_append, List.append_nil, List.replicate, List.getElem?_cons_zero, List.getElem?_cons_succ, List.set_cons_zero, List.set_cons_succ, Option.some.injEq, exists_eq_left', exists_eq_left, exists_eq_right, exists_and_left, exists_and_right, V.int.injEq, V.ref.injEq, V.str.injEq, V.bl.injEq, reduceCtorEq, false_and, and_false, exists_false, or_false, false_or, true_and, and_true, List.cons.injEq, decide_eq_true_eq, cxOf, if_true, if_false, Bool.false_eq_true, Nat.reduceAdd, Nat.reduceSub, Nat.zero_add, Nat.add_sub_cancel_left, Nat.add_sub_cancel, Nat.sub_self, tFor_eq, tLc_eq, iRng1, iRng2, iList, iTup, iEnum, rIsi, rIsiT, Bool.not_false]
      have e : isShA d = false := by
        match d, hp with
        | .tup [], _ => rfl
        | .tup [_], _ => rfl
        | .tup (_ :: _ :: _ :: _), _ => rfl
        | .non, _ => rfl
        | .bl _, _ => rfl
        | .int _, _ => rfl
        | .str _, _ => rfl
        | .lst _, _ => rfl
        | .ins _, _ => rfl
      rw [← e]
      exact q _ s1
    | true =>
      obtain ⟨wd, gd, rfl⟩ := pair_tup hp
      obtain ⟨a, xs, rfl, hs, ha⟩ : ∃ a xs, v = .ref a ∧ SqT K H a xs ∧ AvAll K H xs [wd, gd] := by
        cases hv with
        | tup hs' ha' => exact ⟨_, _, rfl, hs', ha'⟩
      obtain ⟨hn, ho⟩ := ok_items hd rfl
      simp only [and_assoc, tSeq, tAsg, tOp, tUn, rI, rI0, rU, tVar, tC, gName, L2.start, tIfS, tTest, tB, tCB, tCons, tNil, tIf, tRet, tRetN, tLst, tTup, tNext, tDrop, tNot, tNotV, tAnd, tOr, tAndV, tOrV, tPar, tAug, ipI, rEq, rNe, gSub, rSetL, rIxL, rIxT, tBM, tBM0, rAppend, rPopAt, gTup, gCons, gNil, tCall, tSl, tPart, tNoPart, rSlL, rCat, rEqD, rNeD, rIn, scal, List.map_cons, List.map_nil, List.length_cons, List.length_nil, List.length_map, List.cons_append, List.nil_append, List.append_nil, List.replicate, List.getElem?_cons_zero, List.getElem?_cons_succ, List.set_cons_zero, List.set_cons_succ, Option.some.injEq, exists_eq_left', exists_eq_left, exists_eq_right, exists_and_left, exists_and_right, V.int.injEq, V.ref.injEq, V.str.injEq, V.bl.injEq, reduceCtorEq, false_and, and_false, exists_false, or_false, false_or, true_and, and_true, List.cons.injEq, decide_eq_true_eq, cxOf, if_true, if_false, Bool.false_eq_true, Nat.reduceAdd, Nat.reduceSub, Nat.zero_add, Nat.add_sub_cancel_left, Nat.add_sub_cancel, Nat.sub_self, tFor_eq, tLc_eq, iRng1, iRng2, iList, iTup, iEnum, rIsi, rIsiT, Bool.not_true]
      have ha1 := avA_mono s1 _ _ ha
      cases ha1 with
      | @cons v1 _ _ _ w1 r1 =>
        cases r1 with
        | @cons v2 _ _ _ w2 r2 =>
          cases r2
          refine ⟨_, Same.seqT s1 hs, rfl, v1, _, rfl, v2, _, rfl, rfl, wd, w1, ho.1, fun H2 s2 => ?_⟩
          have w2' := av_mono s2 _ _ w2
          cases hi : isIntA wd with
          | false =>
            simp only [and_assoc, tSeq, tAsg, tOp, tUn, rI, rI0, rU, tVar, tC, gName, L2.start, tIfS, tTest, tB, tCB, tCons, tNil, tIf, tRet, tRetN, tLst, tTup, tNext, tDrop, tNot, tNotV, tAnd, tOr, tAndV, tOrV, tPar, tAug, ipI, rEq, rNe, gSub, rSetL, rIxL, rIxT, tBM, tBM0, rAppend, rPopAt, gTup, gCons, gNil, tCall, tSl, tPart, tNoPart, rSlL, rCat, rEqD, rNeD, rIn, scal, List.map_cons, List.map_nil, List.length_cons, List.length_nil, List.length_map, List.cons_append, List.nil_append, List.append_nil, List.replicate, List.getElem?_cons_zero, List.getElem?_cons_succ, List.set_cons_zero, List.set_cons_succ, Option.some.injEq, exists_eq_left', exists_eq_left, exists_eq_right, exists_and_left, exists_and_right, V.int.injEq, V.ref.injEq, V.str.injEq, V.bl.injEq, reduceCtorEq, false_and, and_false, exists_false, or_false, false_or, true_and, and_true, List.cons.injEq, decide_eq_true_eq, cxOf, if_true, if_false, Bool.false_eq_true, Nat.reduceAdd, Nat.reduceSub, Nat.zero_add, Nat.add_sub_cancel_left, Nat.add_sub_cancel, Nat.sub_self, tFor_eq, tLc_eq, iRng1, iRng2, iList, iTup, iEnum, rIsi, rIsiT, Bool.not_false]
            have e : isShA (.tup [wd, gd]) = false := by cases wd <;> first | rfl | (exact nomatch hi)
            rw [← e]
            exact q _ (s1.trans s2)
          | true =>
            obtain ⟨n, rfl⟩ := int_of hi
            cases w1
            simp only [and_assoc, tSeq, tAsg, tOp, tUn, rI, rI0, rU, tVar, tC, gName, L2.start, tIfS, tTest, tB, tCB, tCons, tNil, tIf, tRet, tRetN, tLst, tTup, tNext, tDrop, tNot, tNotV, tAnd, tOr, tAndV, tOrV, tPar, tAug, ipI, rEq, rNe, gSub, rSetL, rIxL, rIxT, tBM, tBM0, rAppend, rPopAt, gTup, gCons, gNil, tCall, tSl, tPart, tNoPart, rSlL, rCat, rEqD, rNeD, rIn, scal, List.map_cons, List.map_nil, List.length_cons, List.length_nil, List.length_map, List.cons_append, List.nil_append, List.append_nil, List.replicate, List.getElem?_cons_zero, List.getElem?_cons_succ, List.set_cons_zero, List.set_cons_succ, Option.some.injEq, exists_eq_left', exists_eq_left, exists_eq_right, exists_and_left, exists_and_right, V.int.injEq, V.ref.injEq, V.str.injEq, V.bl.injEq, reduceCtorEq, false_and, and_false, exists_false, or_false, false_or, true_and, and_true, List.cons.injEq, decide_eq_true_eq, cxOf, if_true, if_false, Bool.false_eq_true, Nat.reduceAdd, Nat.reduceSub, Nat.zero_add, Nat.add_sub_cancel_left, Nat.add_sub_cancel, Nat.sub_self, tFor_eq, tLc_eq, iRng1, iRng2, iList, iTup, iEnum, rIsi, rIsiT, Bool.not_true]
            by_cases h1 : n < 1
            · rw [if_pos h1]
              have e : isShA (.tup [.int n, gd]) = false := by
                show (decide (1 ≤ n) && isGrpsA gd) = false
                rw [decide_eq_false (by omega)]
                rfl
              rw [← e]
              exact q _ (s1.trans s2)
            · rw [if_neg h1]
              have e : isShA (.tup [.int n, gd]) = isGrpsA gd := by
                show (decide (1 ≤ n) && isGrpsA gd) = _
                rw [decide_eq_true (by omega)]
                rfl
              rw [e] at q
              refine ⟨gd, w2', ho.2.1, fun H3 s3 => ?_⟩
              rw [seq_items]
              cases ei : itemsA gd with
              | none =>
                simp only [and_assoc, tSeq, tAsg, tOp, tUn, rI, rI0, rU, tVar, tC, gName, L2.start, tIfS, tTest, tB, tCB, tCons, tNil, tIf, tRet, tRetN, tLst, tTup, tNext, tDrop, tNot, tNotV, tAnd, tOr, tAndV, tOrV, tPar, tAug, ipI, rEq, rNe, gSub, rSetL, rIxL, rIxT, tBM, tBM0, rAppend, rPopAt, gTup, gCons, gNil, tCall, tSl, tPart, tNoPart, rSlL, rCat, rEqD, rNeD, rIn, scal, List.map_cons, List.map_nil, List.length_cons, List.length_nil, List.length_map, List.cons_append, List.nil_append, List.append_nil, List.replicate, List.getElem?_cons_zero, List.getElem?_cons_succ, List.set_cons_zero, List.set_cons_succ, Option.some.injEq, exists_eq_left', exists_eq_left, exists_eq_right, exists_and_left, exists_and_right, V.int.injEq, V.ref.injEq, V.str.injEq, V.bl.injEq, reduceCtorEq, false_and, and_false, exists_false, or_false, false_or, true_and, and_true, List.cons.injEq, decide_eq_true_eq, cxOf, if_true, if_false, Bool.false_eq_true, Nat.reduceAdd, Nat.reduceSub, Nat.zero_add, Nat.add_sub_cancel_left, Nat.add_sub_cancel, Nat.sub_self, tFor_eq, tLc_eq, iRng1, iRng2, iList, iTup, iEnum, rIsi, rIsiT, Option.isSome_none, Bool.not_false]
                have e2 : isGrpsA gd = false := by unfold isGrpsA; rw [ei]
                rw [← e2]
                exact q _ ((s1.trans s2).trans s3)
              | some ds =>
                simp only [and_assoc, tSeq, tAsg, tOp, tUn, rI, rI0, rU, tVar, tC, gName, L2.start, tIfS, tTest, tB, tCB, tCons, tNil, tIf, tRet, tRetN, tLst, tTup, tNext, tDrop, tNot, tNotV, tAnd, tOr, tAndV, tOrV, tPar, tAug, ipI, rEq, rNe, gSub, rSetL, rIxL, rIxT, tBM, tBM0, rAppend, rPopAt, gTup, gCons, gNil, tCall, tSl, tPart, tNoPart, rSlL, rCat, rEqD, rNeD, rIn, scal, List.map_cons, List.map_nil, List.length_cons, List.length_nil, List.length_map, List.cons_append, List.nil_append, List.append_nil, List.replicate, List.getElem?_cons_zero, List.getElem?_cons_succ, List.set_cons_zero, List.set_cons_succ, Option.some.injEq, exists_eq_left', exists_eq_left, exists_eq_right, exists_and_left, exists_and_right, V.int.injEq, V.ref.injEq, V.str.injEq, V.bl.injEq, reduceCtorEq, false_and, and_false, exists_false, or_false, false_or, true_and, and_true, List.cons.injEq, decide_eq_true_eq, cxOf, if_true, if_false, Bool.false_eq_true, Nat.reduceAdd, Nat.reduceSub, Nat.zero_add, Nat.add_sub_cancel_left, Nat.add_sub_cancel, Nat.sub_self, tFor_eq, tLc_eq, iRng1, iRng2, iList, iTup, iEnum, rIsi, rIsiT, Option.isSome_some, Bool.not_true]
                obtain ⟨b, ys, rfl, hys, hay⟩ := av_items w2' ei
                obtain ⟨hn2, ho2⟩ := ok_items ho.2.1 ei
                obtain ⟨J, hJ⟩ := (hys.mono s3).it
                refine ⟨b, rfl, ys, J, hJ, fun D nD => lg_is hJ (avA_mono s3 _ _ hay) ho2 hn2 (by decide : 3 < 4) nD fun H4 s4 eD => ⟨_, sqL_of eD, ?_⟩⟩
                have e2 : (ds.map isGrpA).all id = isGrpsA gd := by unfold isGrpsA; rw [ei, List.all_map]; rfl
                rw [e2]
                exact q _ (((s1.trans s2).trans s3).trans s4)
theorem ok_areshares (T : TxtG K mg) : FnOk P w K mg base CX0 4 T.dAreShares.f T.dAreShares.fd ["value"] (spIs K isWillA) := by
  refine T.dAreShares.F.ok scDAreShares (fun vs H Q E h => ?_) (fun cdv A outer s H vs Q E hr h => ?_)
  · obtain ⟨v, d, rfl, _⟩ := h
    rfl
  · obtain ⟨v, d, rfl, hv, hd, q⟩ := h
    refine ⟨_, (pss_one (ps_ret (pe_and (pe_call (ok_isseq T) (hr.mono (by decide)) (by rfl) T.dIsSequence.g T.dIsSequence.F.kp T.dIsSequence.b .nil pass0 (pa_cons (pv 0) pa_nil)) (pe_and (pe_cmpR op_gt (pe_callB call_len_seq (by rfl) T.z_len (show bootBuiltins "len" = some (.builtin "len") by decide +kernel) (pa_cons (pv 0) pa_nil)) pe_int (nomark _)) (pe_one (pe_callB (cr_all rfl) (by rfl) T.z_all (show bootBuiltins "all" = some (.builtin "all") by decide +kernel) (pa_cons (pe_lc (own := [("share", 1)]) (g := (gName 1)) (tt := tYes) rfl scDAreShares.nd (pi_seq (pv 0)) (blkOk_by (N := ["value", "share"]) (sc := defScope sDAreShares) (by decide +kernel)) (fun _ _ _ _ _ => (pg_name (i := 1) scDAreShares.nd rfl (.inl rfl))) (fun _ _ _ _ _ => pts_nil) (fun _ _ _ _ _ => (pe_call (ok_isshare T) (hr.mono (by decide)) (by rfl) T.dIsShare.g T.dIsShare.F.kp T.dIsShare.b .nil pass0 (pa_cons (pv 1) pa_nil)))) pa_nil))))))), ?_⟩
    simp only [and_assoc, tSeq, tAsg, tOp, tUn, rI, rI0, rU, tVar, tC, gName, L2.start, tIfS, tTest, tB, tCB, tCons, tNil, tIf, tRet, tRetN, tLst, tTup, tNext, tDrop, tNot, tNotV, tAnd, tOr, tAndV, tOrV, tPar, tAug, ipI, rEq, rNe, gSub, rSetL, rIxL, rIxT, tBM, tBM0, rAppend, rPopAt, gTup, gCons, gNil, tCall, tSl, tPart, tNoPart, rSlL, rCat, rEqD, rNeD, rIn, scal, List.map_cons, List.map_nil, List.length_cons, List.length_nil, List.length_map, List.cons_append, List.nil_append, List.append_nil, List.replicate, List.getElem?_cons_zero, List.getElem?_cons_succ, List.set_cons_zero, List.set_cons_succ, Option.some.injEq, exists_eq_left', exists_eq_left, exists_eq_right, exists_and_left, exists_and_right, V.int.injEq, V.ref.injEq, V.str.injEq, V.bl.injEq, reduceCtorEq, false_and, and_false, exists_false, or_false, false_or, true_and, and_true, List.cons.injEq, decide_eq_true_eq, cxOf, if_true, if_false, Bool.false_eq_true, Nat.reduceAdd, Nat.reduceSub, Nat.zero_add, Nat.add_sub_cancel_left, Nat.add_sub_cancel, Nat.sub_self, tFor_eq, tLc_eq, iRng1, iRng2, iList, iTup, iEnum, rIsi, rIsiT, spIs, tLenSetT, rAll, iSeq]
    refine ⟨d, hv, hd, fun H1 s1 => ?_⟩
    rw [seq_items]
    cases ei : itemsA d with
    | none =>
      simp only [and_assoc, tSeq, tAsg, tOp, tUn, rI, rI0, rU, tVar, tC, gName, L2.start, tIfS, tTest, tB, tCB, tCons, tNil, tIf, tRet, tRetN, tLst, tTup, tNext, tDrop, tNot, tNotV, tAnd, tOr, tAndV, tOrV, tPar, tAug, ipI, rEq, rNe, gSub, rSetL, rIxL, rIxT, tBM, tBM0, rAppend, rPopAt, gTup, gCons, gNil, tCall, tSl, tPart, tNoPart, rSlL, rCat, rEqD, rNeD, rIn, scal, List.map_cons, List.map_nil, List.length_cons, List.length_nil, List.length_map, List.cons_append, List.nil_append, List.append_nil, List.replicate, List.getElem?_cons_zero, List.getElem?_cons_succ, List.set_cons_zero, List.set_cons_succ, Option.some.injEq, exists_eq_left', exists_eq_left, exists_eq_right, exists_and_left, exists_and_right, V.int.injEq, V.ref.injEq, V.str.injEq, V.bl.injEq, reduceCtorEq, false_and, and_false, exists_false, or_false, false_or, true_and, and_true, List.cons.injEq, decide_eq_true_eq, cxOf, if_true, if_false, Bool.false_eq_true, Nat.reduceAdd, Nat.reduceSub, Nat.zero_add, Nat.add_sub_cancel_left, Nat.add_sub_cancel, Nat.sub_self, tFor_eq, tLc_eq, iRng1, iRng2, iList, iTup, iEnum, rIsi, rIsiT, Option.isSome_none]
      have e : isWillA d = false := by unfold isWillA; rw [ei]
      rw [← e]
      exact q _ s1
    | some ds =>
      simp only [and_assoc, tSeq, tAsg, tOp, tUn, rI, rI0, rU, tVar, tC, gName, L2.start, tIfS, tTest, tB, tCB, tCons, tNil, tIf, tRet, tRetN, tLst, tTup, tNext, tDrop, tNot, tNotV, tAnd, tOr, tAndV, tOrV, tPar, tAug, ipI, rEq, rNe, gSub, rSetL, rIxL, rIxT, tBM, tBM0, rAppend, rPopAt, gTup, gCons, gNil, tCall, tSl, tPart, tNoPart, rSlL, rCat, rEqD, rNeD, rIn, scal, List.map_cons, List.map_nil, List.length_cons, List.length_nil, List.length_map, List.cons_append, List.nil_append, List.append_nil, List.replicate, List.getElem?_cons_zero, List.getElem?_cons_succ, List.set_cons_zero, List.set_cons_succ, Option.some.injEq, exists_eq_left', exists_eq_left, exists_eq_right, exists_and_left, exists_and_right, V.int.injEq, V.ref.injEq, V.str.injEq, V.bl.injEq, reduceCtorEq, false_and, and_false, exists_false, or_false, false_or, true_and, and_true, List.cons.injEq, decide_eq_true_eq, cxOf, if_true, if_false, Bool.false_eq_true, Nat.reduceAdd, Nat.reduceSub, Nat.zero_add, Nat.add_sub_cancel_left, Nat.add_sub_cancel, Nat.sub_self, tFor_eq, tLc_eq, iRng1, iRng2, iList, iTup, iEnum, rIsi, rIsiT, Option.isSome_some]
      obtain ⟨a, xs, rfl, hs, ha⟩ := av_items hv ei
      obtain ⟨hn, ho⟩ := ok_items hd ei
      have hl := avA_len ha
      refine ⟨a, rfl, xs, hs.mono s1, ?_⟩
      have e : isWillA d = (!ds.isEmpty && ds.all isShA) := by unfold isWillA; rw [ei]
      rw [e] at q
      by_cases h0 : ds = []
      · subst h0
        rw [if_neg (by rw [hl]; decide)]
        exact q _ s1
      · have hpos : 0 < ds.length := List.length_pos_iff.mpr h0
        have hie : ds.isEmpty = false := by cases ds with | nil => exact absurd rfl h0 | cons _ _ => rfl
        rw [if_pos (by omega)]
        obtain ⟨J, hJ⟩ := (hs.mono s1).it
        refine ⟨a, rfl, xs, J, hJ, fun D nD => lg_is hJ (avA_mono s1 _ _ ha) ho hn (by decide : 1 < 2) nD fun H2 s2 eD => ⟨_, sqL_of eD, ?_⟩⟩
        have e2 : (ds.map isShA).all id = (!ds.isEmpty && ds.all isShA) := by rw [hie, List.all_map]; rfl
        rw [e2]
        exact q _ (s1.trans s2)

end
end He

/-! the order of texts; a sorted list of texts is one -/
namespace He
open PySem PySem.Spec PyProof.Rows L2
def leC (a b : List Nat) : Prop := ltCps b a = false
theorem leC_refl : ∀ a : List Nat, leC a a
  | [] => rfl
  | x :: r => by
    have h : ltCps r r = false := leC_refl r
    show (decide (x < x) || (x == x && ltCps r r)) = false
    rw [h]
    simp
theorem leC_total : ∀ a b : List Nat, leC a b ∨ leC b a
  | [], b => .inl (by cases b <;> rfl)
  | _ :: _, [] => .inr rfl
  | x :: r, y :: t => by
    have e1 : leC (x :: r) (y :: t) ↔ (decide (y < x) || (y == x && ltCps t r)) = false := Iff.rfl
    have e2 : leC (y :: t) (x :: r) ↔ (decide (x < y) || (x == y && ltCps r t)) = false := Iff.rfl
    rw [e1, e2]
    rcases Nat.lt_trichotomy x y with h | h | h
    · exact .inl (by simp; omega)
    · subst h
      rcases leC_total r t with q | q
      · exact .inl (by rw [show ltCps t r = false from q]; simp)
      · exact .inr (by rw [show ltCps r t = false from q]; simp)
    · exact .inr (by simp; omega)
theorem leC_anti : ∀ {a b : List Nat}, leC a b → leC b a → a = b
  | [], [], _, _ => rfl
  | [], _ :: _, _, h => by cases (show true = false from h)
  | _ :: _, [], h, _ => by cases (show true = false from h)
  | x :: r, y :: t, h1, h2 => by
    have h1 : (decide (y < x) || (y == x && ltCps t r)) = false := h1
    have h2 : (decide (x < y) || (x == y && ltCps r t)) = false := h2
    rw [Bool.or_eq_false_iff] at h1 h2
    have e : x = y := by
      have a := of_decide_eq_false h1.1
      have b := of_decide_eq_false h2.1
      omega
    subst e
    have q1 : leC r t := (show ltCps t r = false by simpa using h1.2)
    have q2 : leC t r := (show ltCps r t = false by simpa using h2.2)
    rw [leC_anti q1 q2]
theorem leC_trans : ∀ {a b c : List Nat}, leC a b → leC b c → leC a c
  | [], _, c, _, _ => by cases c <;> rfl
  | _ :: _, [], _, h, _ => by cases (show true = false from h)
  | _ :: _, _ :: _, [], _, h => by cases (show true = false from h)
  | x :: r, y :: t, z :: u, h1, h2 => by
    have h1 : (decide (y < x) || (y == x && ltCps t r)) = false := h1
    have h2 : (decide (z < y) || (z == y && ltCps u t)) = false := h2
    rw [Bool.or_eq_false_iff] at h1 h2
    show (decide (z < x) || (z == x && ltCps u r)) = false
    have a := of_decide_eq_false h1.1
    have b := of_decide_eq_false h2.1
    rw [decide_eq_false (by omega : ¬ z < x), Bool.false_or]
    by_cases e : z = x
    · subst e
      have e2 : y = z := by omega
      subst e2
      have q1 : leC r t := (show ltCps t r = false by simpa using h1.2)
      have q2 : leC t u := (show ltCps u t = false by simpa using h2.2)
      have q3 : ltCps u r = false := leC_trans q1 q2
      rw [q3]
      simp
    · simp [e]
def leS (a b : Str) : Bool := !ltCps b.cps.toList a.cps.toList
theorem leS_iff {a b : Str} : leS a b = true ↔ leC a.cps.toList b.cps.toList := by unfold leS leC; simp
theorem leS_anti {a b : Str} (h1 : leS a b = true) (h2 : leS b a = true) : a = b := by
  have := leC_anti (leS_iff.mp h1) (leS_iff.mp h2)
  cases a; cases b
  exact congrArg Str.mk (Array.toList_inj.mp this)
/-- the texts ascending -/
def sortG (g : List Str) : List Str := g.mergeSort leS
theorem sortG_perm (g : List Str) : (sortG g).Perm g := List.mergeSort_perm g leS
theorem leS_trans (a b c : Str) (h1 : leS a b = true) (h2 : leS b c = true) : leS a c = true := leS_iff.mpr (leC_trans (leS_iff.mp h1) (leS_iff.mp h2))
theorem leS_total (a b : Str) : (leS a b || leS b a) = true := by
  rcases leC_total a.cps.toList b.cps.toList with h | h
  · rw [leS_iff.mpr h]; rfl
  · rw [leS_iff.mpr h, Bool.or_true]
theorem sortG_up (g : List Str) : (sortG g).Pairwise (fun a b => leS a b = true) := List.pairwise_mergeSort (leS_trans) (leS_total) g
theorem rising_up : ∀ (p : Str) (l : List Str), risingS p l = true → (p :: l).Pairwise (fun a b => leS a b = true)
  | p, [], _ => List.pairwise_singleton _ _
  | p, x :: r, h => by
    have h : (!ltCps x.cps.toList p.cps.toList && risingS x r) = true := h
    rw [Bool.and_eq_true] at h
    have ih := rising_up x r h.2
    have hpx : leS p x = true := h.1
    refine List.pairwise_cons.mpr ⟨fun y hy => ?_, ih⟩
    rcases List.mem_cons.mp hy with rfl | hy
    · exact hpx
    · exact leS_trans p x y hpx ((List.pairwise_cons.mp ih).1 y hy)
theorem sorted_up {l : List Str} (h : sortedS l = true) : l.Pairwise (fun a b => leS a b = true) := by
  cases l with
  | nil => exact List.Pairwise.nil
  | cons x r => exact rising_up x r h
theorem up_one : ∀ {a b : List Str}, a.Perm b → a.Pairwise (fun a b => leS a b = true) → b.Pairwise (fun a b => leS a b = true) → a = b
  | [], b, p, _, _ => p.nil_eq
  | x :: r, [], p, _, _ => by have := p.length_eq; simp at this
  | x :: r, y :: t, p, h1, h2 => by
    have e : x = y := by
      have hx : x ∈ y :: t := p.mem_iff.mp List.mem_cons_self
      have hy : y ∈ x :: r := p.mem_iff.mpr List.mem_cons_self
      rcases List.mem_cons.mp hx with q | q
      · exact q
      · rcases List.mem_cons.mp hy with q2 | q2
        · exact q2.symm
        · exact leS_anti ((List.pairwise_cons.mp h1).1 y q2) ((List.pairwise_cons.mp h2).1 x q)
    subst e
    rw [up_one (List.Perm.cons_inv p) (List.pairwise_cons.mp h1).2 (List.pairwise_cons.mp h2).2]
theorem sortG_of {ys g : List Str} (p : ys.Perm g) (h : sortedS ys = true) : ys = sortG g := up_one (p.trans (sortG_perm g).symm) (sorted_up h) (sortG_up g)
theorem sortG_perm_eq {a b : List Str} (p : a.Perm b) : sortG a = sortG b := up_one (((sortG_perm a).trans p).trans (sortG_perm b).symm) (sortG_up a) (sortG_up b)
theorem sortG_idem (g : List Str) : sortG (sortG g) = sortG g := sortG_perm_eq (sortG_perm g)
end He

/-! != by an own ==; str(x) by an own text -/
namespace He
namespace Own
open PySem PySem.W PySem.Calls PyProof.Rows
section
variable {pr : Program} {wd : World} {A : Around} {E : Value → Shared → Prop} {s : Shared} {K : PySem.W.Frag} {x C f L : Addr} {ox : Obj} {od : Option Obj} {h0 : Heap} {m : Str → Option Value} {b tb : Value}
theorem bound_builtin {M : Model} {nm : Str} {id : String} {args : List Value} {Q : Option Value → Shared → Prop} (X : K.In s.heap) (I : InstAt s.heap x ox C od) (at' : findIn K (.ref C) nm = some (some (.builtin id)))
    (bd : ∀ self, bindSpecial (.builtin id) self = pure (.builtin id, [self])) (go : wpAny M A (call (.builtin id) (.ref x :: args)) (fun v => Q (some v)) E s) : wpAny M A (callSpecialIfBound? (.ref x) nm args) Q E s := by
  simp only [callSpecialIfBound?, bindSpecialIfBound?]
  refine wpAny_holding (wpAny_bind (wpAny_bind (wpAny_bind (I.type.here ((looks_findIn X at').here ?_)))))
  have fin : wpAny M A (call (.builtin id) ([.ref x] ++ args) >>= fun v => pure (some v)) Q E s := wpAny_bind (wpAny_mono go (fun v s' q => wpAny_pure q) fun _ _ q => q)
  refine wpAny_bind (wpAny_askSetting (wpAny_ite ?_))
  split
  · exact wpAny_bind ((Looks.of_pure (bd _)).here (wpAny_pure (by exact fin)))
  · exact wpAny_tryCatch (wpAny_bind ((Looks.of_pure (bd _)).here (wpAny_pure (by exact fin))))
theorem not_eq {Q : Fin → Shared → Prop} (hu : A.units < cLine) (X : K.In s.heap) (I : InstAt s.heap x ox C od) (eqf : findIn K (.ref C) "__eq__" = some (some (.ref f))) (isf : isFn K (.ref f) = true)
    (go : wpAny (model pr wd) A (call (.ref f) [.ref x, b]) (fun v s' => ∃ r, v = .bool r ∧ Q (.done (.ret (.bool (!r)))) s') E s) : wpAny (model pr wd) A (Builtin.«object.__ne__» ⟨[.ref x, b], []⟩) Q E s := by
  unfold Builtin.«object.__ne__»
  refine wpAny_bind (m := slotArgs "__ne__" 1 _) (wpAny_pure ?_)
  refine wpAny_bind (m := cRoomFor _ _) (wpAny_cRoomFor hu ?_)
  refine wpAny_bind (m := callSpecialIfBound? (.ref x) (Str.ofString "__eq__") [b]) (ifBound_K X I eqf isf (wpAny_mono go (fun r s' q => ?_) fun _ _ q => q))
  obtain ⟨r, rfl, q⟩ := q
  exact wpAny_bind (wpAny_truthy_bool (wpAny_pure q))
theorem ne_K {Q : Value → Shared → Prop} (hu : A.units + 1 < cLine) (F : Fr h0 L s.heap m) (X0 : K.In h0) (I : InstAt s.heap x ox C od) (hb : Looks (model pr wd) s.heap (typeOf b) tb) (nf : notFirst K C tb = true)
    (nef : findIn K (.ref C) "__ne__" = some (some (.builtin "object.__ne__"))) (ob : mroIn K C (.type "object") = some true) (eqf : findIn K (.ref C) "__eq__" = some (some (.ref f))) (isf : isFn K (.ref f) = true)
    (go : wpAny (model pr wd) A.in1 (call (.ref f) [.ref x, b]) (fun v s' => ∃ r, v = .bool r ∧ Q (.bool (!r)) s') E s) : wpAny (model pr wd) A (richCompare .NotEq (.ref x) b) Q E s := by
  have X := X0.keeps F.keep
  have one : wpAny (model pr wd) A (tryCompare (.ref x) "__ne__" b) (fun r s' => ∃ v, r = some v ∧ Q v s') E s := by
    unfold tryCompare
    refine wpAny_bind (bound_builtin X I nef PySem.F.slot_object_ne.bind ?_)
    refine wpAny_call (codeAny_call_builtin PySem.F.slot_object_ne.plain PySem.F.cmpEntry_ne (check_slot (i := "object.__ne__") (owner := "object") (n := "__ne__") PySem.F.cmpKind_ne PySem.F.cmpSplit_ne (I.type.andThen (looks_mroIn X ob)) (PySem.F.cmpArgs_ne _ _) ?_))
    refine not_eq (A := A.in1) (by show A.units + 1 < cLine; exact hu) X I eqf isf (wpAny_mono go (fun v s' q => ?_) fun _ _ q => q)
    obtain ⟨r, rfl, q⟩ := q
    exact ⟨r, rfl, wpAny_pure ⟨_, rfl, q⟩⟩
  unfold richCompare
  simp only [oneThing_ref]
  refine wpAny_holding (wpAny_bind (wpAny_cRoomFor (by omega) ?_))
  refine wpAny_bind (I.type.here (wpAny_bind (hb.here ?_)))
  split
  · rename_i q
    have e : subIn K tb (.ref C) = some false := by
      rcases Bool.or_eq_true_iff.mp nf with e | e
      · rw [beq_iff_eq.mp e] at q; simp at q
      · exact beq_iff_eq.mp e
    refine wpAny_bind ((looks_subIn X e).here ?_)
    simp only [Bool.false_eq_true, if_false]
    refine wpAny_bind (wpAny_mono one (fun r s' z => ?_) fun _ _ e => e)
    obtain ⟨v, rfl, q⟩ := z
    exact wpAny_pure q
  · refine wpAny_bind (wpAny_pure ?_)
    simp only [Bool.false_eq_true, if_false]
    refine wpAny_bind (wpAny_mono one (fun r s' z => ?_) fun _ _ e => e)
    obtain ⟨v, rfl, q⟩ := z
    exact wpAny_pure q
end
end Own
end He

namespace He
open PySem PySem.Spec PyProof.Rows L2
/-- what the text says of a class with its own == and its own text -/
structure OwnCmp (K : PySem.W.Frag) (C fE fS : Addr) : Prop where
  ne : PySem.W.findIn K (.ref C) "__ne__" = some (some (.builtin "object.__ne__"))
  ob : PySem.W.mroIn K C (.type "object") = some true
  eq : PySem.W.findIn K (.ref C) "__eq__" = some (some (.ref fE))
  eqf : PySem.W.isFn K (.ref fE) = true
  str : PySem.W.findIn K (.ref C) "__str__" = some (some (.ref fS))
  strf : PySem.W.isFn K (.ref fS) = true
section
variable {X : Cx} {CX : CXT} {n : Nat} {C fE fS : Addr} {sp : Sp} {E : XK}
/-- what follows a call of a def from within a builtin -/
theorem run_in {pins : List (Addr × Obj)} {σ : L2.St} {H : Hp} {s : Shared} {A : Around} {f : Addr} {Q : VK} {us : List Value} {vs : List V} (F : FnR X.prog X.w X.K X.mg X.base CX n f sp) (hr : Room n A) (fr : A.frames = X.A.frames) (hx : Passes CX X E) (I : Inv X pins σ H s) (r : Vals vs us) (h : sp vs H Q E) :
    wpAny (model X.prog X.w) A (call (.ref f) us) (EP X pins σ Q) X.xe s := by
  have e := I.env0
  have e0 : Env0 X.prog X.w X.K X.mg X.base A X.stack s H := ⟨by rw [fr]; exact e.frames, e.mod, e.bs, e.bsz, e.funs, e.frf, e.hok, e.bare⟩
  refine wpAny_call (codeAny_mono (F A X.stack s H us vs Q E hr e0 r h) fun r s' hq => ?_)
  cases r with
  | error er => exact hx pins σ H s er s' I hq
  | ok fl =>
    cases fl with
    | ret u => exact I.after hq
    | next => exact False.elim hq
    | brk => exact False.elim hq
    | cont => exact False.elim hq
def rOwn (C : Addr) (sp : Sp) (E : XK) (neg : Bool) : R2 := fun x y H Q => ∃ a b dx dy fs gs, x = .ref a ∧ y = .ref b ∧ H a = some (.ins C dx fs) ∧ H b = some (.ins C dy gs) ∧ sp [.ref a, .ref b] H (fun v H' => ∃ r, v = .bl r ∧ Q (.bl (if neg then !r else r)) H') E
theorem op_neOwn (c : OwnCmp X.K C fE fS) (F : FnR X.prog X.w X.K X.mg X.base CX n fE sp) (hr : Room (n + 1) X.A) (hx : Passes CX X E) : OpR X (compareOp .NotEq) (rOwn C sp E true) := by
  intro pins s σ H x y v u Q I rx ry h
  obtain ⟨a, b, dx, dy, fs, gs, rfl, rfl, ha, hb, q⟩ := h
  cases rx
  cases ry
  obtain ⟨mA, J, _⟩ := ins_get I.hok ha
  obtain ⟨mB, J', _⟩ := ins_get I.hok hb
  obtain ⟨od, J, _⟩ := J.look
  obtain ⟨od', J', _⟩ := J'.look
  obtain ⟨m, hF⟩ := I.fr
  show wpAny (model X.prog X.w) X.A (richCompare .NotEq (.ref a) (.ref b)) _ _ _
  refine Own.ne_K (tb := .ref C) (by have := hr.un; omega) hF I.ok.mod.kin J J'.type (by simp [PySem.W.notFirst]) c.ne c.ob c.eq c.eqf ?_
  refine wpAny_mono (run_in F hr.in1 rfl (vs := [.ref a, .ref b]) hx I (.cons rfl (.cons rfl .nil)) q) (fun w s' hw => ?_) fun _ _ z => z
  obtain ⟨z, H', I', rz, r, rfl, q2⟩ := hw
  cases rz
  exact ⟨r, rfl, .bl (!r), H', I', rfl, q2⟩
theorem op_eqOwn (c : OwnCmp X.K C fE fS) (F : FnR X.prog X.w X.K X.mg X.base CX n fE sp) (hr : Room (n + 1) X.A) (hx : Passes CX X E) : OpR X (compareOp .Eq) (rOwn C sp E false) := by
  intro pins s σ H x y v u Q I rx ry h
  obtain ⟨a, b, dx, dy, fs, gs, rfl, rfl, ha, hb, q⟩ := h
  cases rx
  cases ry
  obtain ⟨mA, J, _⟩ := ins_get I.hok ha
  obtain ⟨mB, J', _⟩ := ins_get I.hok hb
  obtain ⟨od, J, _⟩ := J.look
  obtain ⟨od', J', _⟩ := J'.look
  obtain ⟨m, hF⟩ := I.fr
  show wpAny (model X.prog X.w) X.A (richCompare .Eq (.ref a) (.ref b)) _ _ _
  refine PySem.W.cmp_K (op := .Eq) (tb := .ref C) (by have := hr.un; omega) hF I.ok.mod.kin J J'.type (by simp [PySem.W.notFirst]) c.eq c.eqf ?_
  refine wpAny_mono (run_in F (hr.mono (Nat.le_succ n)) rfl (vs := [.ref a, .ref b]) hx I (.cons rfl (.cons rfl .nil)) q) (fun w s' hw => ?_) fun _ _ z => z
  obtain ⟨z, H', I', rz, r, rfl, q2⟩ := hw
  cases rz
  exact ⟨.bl r, H', I', rfl, q2⟩
/-- str(x), x of a class with its own text -/
theorem call_strOwn (c : OwnCmp X.K C fE fS) (F : FnR X.prog X.w X.K X.mg X.base CX n fS sp) (hr : Room (n + 2) X.A) (hx : Passes CX X E) :
    CallR X (.type "str") (fun xs H Q => ∃ a dx fs, xs = [.ref a] ∧ H a = some (.ins C dx fs) ∧ sp [.ref a] H (fun v H' => ∃ z, v = .str z ∧ Q (.str z) H') E) := by
  intro pins s σ H xs us Q I r h
  obtain ⟨a, dx, fs, rfl, ha, q⟩ := h
  obtain ⟨u, rfl, ru⟩ := vals1 r
  cases ru
  obtain ⟨mA, J, _⟩ := ins_get I.hok ha
  obtain ⟨od, J, _⟩ := J.look
  refine PySem.W.kso_call (by have := hr.un; show X.A.units + 1 + 1 < _; omega) I.kIn J c.str c.strf ?_
  refine wpAny_mono (run_in F hr.in1.in1 rfl (vs := [.ref a]) hx I (.cons rfl .nil) q) (fun w s' hw => ?_) fun _ _ z => z
  obtain ⟨z, H', I', rz, y, rfl, q2⟩ := hw
  obtain ⟨t, rfl⟩ := rz
  exact ⟨.str y, H', I', ⟨t, rfl⟩, q2⟩
end
end He

namespace He
open PySem PySem.Spec PyProof.Rows L2
section
variable {P : Program} {w : World} {K : PySem.W.Frag} {mg : Str → Option Value} {base : Heap}

/-! ### wills as lists of lists, and as the program keeps them -/
def adGrp (g : List Str) : AD := .lst (g.map AD.str)
def adSh (s : Sh) : AD := .tup [.int s.1, .lst (s.2.map adGrp)]
def adWill (shs : List Sh) : AD := .lst (shs.map adSh)
def nGrp (g : List Str) : PyData := .tuple ((sortG g).map PyData.str)
def nSh (s : Sh) : PyData := .tuple [.int s.1, .tuple (s.2.map nGrp)]
def nWill (shs : List Sh) : PyData := .tuple (shs.map nSh)
theorem adA_strs (g : List Str) : adA (g.map PyData.str) = g.map AD.str := by
  rw [adA_map, List.map_map]
  rfl
theorem ad_grp (g : List Str) : ad (dGrp g) = adGrp g := congrArg AD.lst (adA_strs g)
theorem ad_sh (s : Sh) : ad (dSh s) = adSh s := by
  show AD.tup [.int s.1, .lst (adA (s.2.map dGrp))] = _
  rw [adA_map, List.map_map]
  unfold adSh
  congr 4
  exact List.map_congr_left fun g _ => ad_grp g
theorem adA_shs (shs : List Sh) : adA (shs.map dSh) = shs.map adSh := by
  rw [adA_map, List.map_map]
  exact List.map_congr_left fun s _ => ad_sh s
theorem avA_strs {H : Hp} {vs : List V} {g : List Str} (h : AvAll K H vs (g.map AD.str)) : vs = g.map V.str := by
  have e : strsA (g.map AD.str) = some g := by
    clear h
    induction g with
    | nil => rfl
    | cons x g ih =>
      show (strsA (g.map AD.str)).map (x :: ·) = _
      rw [ih]
      rfl
  exact av_strs h e
theorem dp_list {H : Hp} {ys : List V} {ds : List PyData} (hl : ys.length = ds.length) (h : ∀ (i : Nat) (y : V), ys[i]? = some y → ∃ d, ds[i]? = some d ∧ Dp K H y d) : DpAll K H ys ds := by
  induction ys generalizing ds with
  | nil =>
    cases ds with
    | nil => exact .nil
    | cons _ _ => simp at hl
  | cons y ys ih =>
    cases ds with
    | nil => simp at hl
    | cons d ds =>
      obtain ⟨d', e, hd⟩ := h 0 y rfl
      cases Option.some.inj e
      exact .cons hd (ih (by simpa using hl) fun i z e => h (i + 1) z e)
def rTupOf (K : PySem.W.Frag) : List V → Hp → VK → Prop := fun xs H Q => ∃ p ys, xs = [.ref p] ∧ ((SqL K H p ys ∧ ∀ l, H l = none → Q (.ref l) (upd H l (.tup ys))) ∨ (SqT K H p ys ∧ Q (.ref p) H))
theorem cr_tup {X : Cx} : CallR X (.type "tuple") (rTupOf X.K) := call_tuple_of
def rLenL (K : PySem.W.Frag) : List V → Hp → VK → Prop := fun xs H Q => ∃ p ys, xs = [.ref p] ∧ SqL K H p ys ∧ Q (.int ys.length) H
/-- what has come since -/
def news (H H' : Hp) : Hp := fun b => match H b with
  | some _ => none
  | none => H' b
theorem news_at {H H' : Hp} {b : Addr} (h : H b = none) : news H H' b = H' b := by
  unfold news
  rw [h]
theorem news_get {H H' : Hp} {b : Addr} {o : HO} (h : news H H' b = some o) : H b = none ∧ H' b = some o := by
  unfold news at h
  split at h
  · cases h
  · rename_i e
    exact ⟨e, h⟩
theorem news_le {H H' : Hp} : Same (news H H') H' := fun b o e => (news_get e).2
theorem news_mono {H H1 H2 : Hp} (s : Same H1 H2) : Same (news H H1) (news H H2) := fun b o e => by
  obtain ⟨e1, e2⟩ := news_get e
  rw [news_at e1]
  exact s _ _ e2
theorem news_up {H0 H H' : Hp} (s : Same H0 H) : Same (news H H') (news H0 H') := fun b o e => by
  obtain ⟨e1, e2⟩ := news_get e
  rw [news_at (s.free e1)]
  exact e2
theorem news_hide {D : Addr} {H H' : Hp} (h : H D ≠ none) : Same (news H H') (news H (hide D H')) := fun b o e => by
  obtain ⟨e1, e2⟩ := news_get e
  have hb : b ≠ D := fun z => h (by rw [← z]; exact e1)
  rw [news_at e1, hide_ne hb]
  exact e2
theorem news_hide2 {D : Addr} {H H' : Hp} : Same (news H (hide D H')) (news H H') := news_mono hide_le
/-- groups, each sorted -/
def spLots (K : PySem.W.Frag) : Sp := fun vs H Q _ => ∃ (v : V) (gs : List (List Str)), vs = [v] ∧ Av K H v (.lst (gs.map adGrp)) ∧ gs.length < 1000 ∧ (∀ g ∈ gs, g.length < 64) ∧
  ∀ r H', Same H H' → Dp K (news H H') (.ref r) (.tuple (gs.map nGrp)) → Q (.ref r) H'
theorem ok_lots (T : TxtG K mg) : FnOk P w K mg base CX0 1 T.dLots.f T.dLots.fd ["groups"] (spLots K) := by
  refine T.dLots.F.ok scDLots (fun vs H Q E h => ?_) (fun cdv A outer s H vs Q E hr h => ?_)
  · obtain ⟨v, gs, rfl, _⟩ := h
    rfl
  · obtain ⟨v, gs, rfl, hv, hn, hg, q⟩ := h
    refine ⟨_, (pss_one (ps_ret (pe_callTy call_tuple_of (by rfl) T.z_tuple (show bootBuiltins "tuple" = some (.type "tuple") by decide +kernel) (pa_cons (pe_lc (own := [("group", 1)]) (g := (gName 1)) (tt := tYes) rfl scDLots.nd (pi_seq (pv 0)) (blkOk_by (N := ["groups", "group"]) (sc := defScope sDLots) (by decide +kernel)) (fun _ _ _ _ _ => (pg_name (i := 1) scDLots.nd rfl (.inl rfl))) (fun _ _ _ _ _ => pts_nil) (fun _ _ _ _ _ => (pe_callTy (show CallR _ (.type "tuple") (rTupOf K) from cr_tup) (by rfl) T.z_tuple (show bootBuiltins "tuple" = some (.type "tuple") by decide +kernel) (pa_cons (pe_callB (show CallR _ (.builtin "sorted") (rSortedS K) from cr_sortedS) (by rfl) T.z_sorted (show bootBuiltins "sorted" = some (.builtin "sorted") by decide +kernel) (pa_cons (pv 1) pa_nil)) pa_nil)))) pa_nil)))), ?_⟩
    simp only [and_assoc, tSeq, tAsg, tOp, tUn, rI, rI0, rU, tVar, tC, gName, L2.start, tIfS, tTest, tB, tCB, tCons, tNil, tIf, tRet, tRetN, tLst, tTup, tNext, tDrop, tNot, tNotV, tAnd, tOr, tAndV, tOrV, tPar, tAug, ipI, rEq, rNe, gSub, rSetL, rIxL, rIxT, tBM, tBM0, rAppend, rPopAt, gTup, gCons, gNil, tCall, tSl, tPart, tNoPart, rSlL, rCat, rEqD, rNeD, rIn, scal, List.map_cons, List.map_nil, List.length_cons, List.length_nil, List.length_map, List.cons_append, List.nil_append, List.append_nil, List.replicate, List.getElem?_cons_zero, List.getElem?_cons_succ, List.set_cons_zero, List.set_cons_succ, Option.some.injEq, exists_eq_left', exists_eq_left, exists_eq_right, exists_and_left, exists_and_right, V.int.injEq, V.ref.injEq, V.str.injEq, V.bl.injEq, reduceCtorEq, false_and, and_false, exists_false, or_false, false_or, true_and, and_true, List.cons.injEq, decide_eq_true_eq, cxOf, if_true, if_false, Bool.false_eq_true, Nat.reduceAdd, Nat.reduceSub, Nat.zero_add, Nat.add_sub_cancel_left, Nat.add_sub_cancel, Nat.sub_self, sFld, tFld, tFor_eq, tLc_eq, iRng1, iRng2, iList, iTup, iEnum, rIsi, rIsiT, iSeq]
    obtain ⟨a, xs, rfl, hs, ha⟩ := av_items hv rfl
    obtain ⟨J, hJ⟩ := hs.it
    have hxl : xs.length = gs.length := by rw [avA_len ha, List.length_map]
    obtain ⟨H0, hH0⟩ : ∃ H0, H0 = H := ⟨H, rfl⟩
    refine ⟨a, rfl, xs, J, hJ, fun D nD => ?_⟩
    refine lg_pure (fun i y H => ∃ g r, gs[i]? = some g ∧ y = .ref r ∧ H0 r = none ∧ H r = some (.tup ((sortG g).map V.str))) hJ (small1000 (by omega)) nD (fun i y H H' s h => let ⟨g, r, e1, e2, e3, e4⟩ := h; ⟨g, r, e1, e2, e3, s _ _ e4⟩) (fun i x H1 Φ hx s1 hD hΦ => ?_) (fun ys H1 s1 eD hl2 hY => ?_)
    · simp only [and_assoc, tSeq, tAsg, tOp, tUn, rI, rI0, rU, tVar, tC, gName, L2.start, tIfS, tTest, tB, tCB, tCons, tNil, tIf, tRet, tRetN, tLst, tTup, tNext, tDrop, tNot, tNotV, tAnd, tOr, tAndV, tOrV, tPar, tAug, ipI, rEq, rNe, gSub, rSetL, rIxL, rIxT, tBM, tBM0, rAppend, rPopAt, gTup, gCons, gNil, tCall, tSl, tPart, tNoPart, rSlL, rCat, rEqD, rNeD, rIn, scal, List.map_cons, List.map_nil, List.length_cons, List.length_nil, List.length_map, List.cons_append, List.nil_append, List.append_nil, List.replicate, List.getElem?_cons_zero, List.getElem?_cons_succ, List.set_cons_zero, List.set_cons_succ, Option.some.injEq, exists_eq_left', exists_eq_left, exists_eq_right, exists_and_left, exists_and_right, V.int.injEq, V.ref.injEq, V.str.injEq, V.bl.injEq, reduceCtorEq, false_and, and_false, exists_false, or_false, false_or, true_and, and_true, List.cons.injEq, decide_eq_true_eq, cxOf, if_true, if_false, Bool.false_eq_true, Nat.reduceAdd, Nat.reduceSub, Nat.zero_add, Nat.add_sub_cancel_left, Nat.add_sub_cancel, Nat.sub_self, sFld, tFld, tFor_eq, tLc_eq, iRng1, iRng2, iList, iTup, iEnum, rIsi, rIsiT, wipe, rSortedS]
      obtain ⟨d, ed, hx2⟩ := avA_get (avA_mono s1 _ _ ha) hx
      rw [List.getElem?_map] at ed
      obtain ⟨g, eg, rfl⟩ := Option.map_eq_some_iff.mp ed
      have hgm : g ∈ gs := List.mem_of_getElem? eg
      cases hx2 with
      | @lst b zs _ hb hzs =>
        have ez := avA_strs hzs
        subst ez
        refine ⟨b, rfl, g, hb, hg g hgm, fun ys p pm so np => ?_⟩
        simp only [and_assoc, tSeq, tAsg, tOp, tUn, rI, rI0, rU, tVar, tC, gName, L2.start, tIfS, tTest, tB, tCB, tCons, tNil, tIf, tRet, tRetN, tLst, tTup, tNext, tDrop, tNot, tNotV, tAnd, tOr, tAndV, tOrV, tPar, tAug, ipI, rEq, rNe, gSub, rSetL, rIxL, rIxT, tBM, tBM0, rAppend, rPopAt, gTup, gCons, gNil, tCall, tSl, tPart, tNoPart, rSlL, rCat, rEqD, rNeD, rIn, scal, List.map_cons, List.map_nil, List.length_cons, List.length_nil, List.length_map, List.cons_append, List.nil_append, List.append_nil, List.replicate, List.getElem?_cons_zero, List.getElem?_cons_succ, List.set_cons_zero, List.set_cons_succ, Option.some.injEq, exists_eq_left', exists_eq_left, exists_eq_right, exists_and_left, exists_and_right, V.int.injEq, V.ref.injEq, V.str.injEq, V.bl.injEq, reduceCtorEq, false_and, and_false, exists_false, or_false, false_or, true_and, and_true, List.cons.injEq, decide_eq_true_eq, cxOf, if_true, if_false, Bool.false_eq_true, Nat.reduceAdd, Nat.reduceSub, Nat.zero_add, Nat.add_sub_cancel_left, Nat.add_sub_cancel, Nat.sub_self, sFld, tFld, tFor_eq, tLc_eq, iRng1, iRng2, iList, iTup, iEnum, rIsi, rIsiT, rTupOf]
        have e := sortG_of pm so
        subst e
        refine ⟨_, .inl ⟨sqL_of upd_same, fun l nl => ?_⟩⟩
        have lD : l ≠ D := fun z => by
          rw [z] at nl
          by_cases h : D = p
          · rw [h, upd_same] at nl; cases nl
          · rw [upd_ne h] at nl; exact hD nl
        refine hΦ _ _ ((same_upd np).trans (same_upd nl)) ⟨g, l, eg, rfl, hH0 ▸ (s1.trans (same_upd np)).free nl, ?_⟩
        rw [hide_ne lD, upd_same]
    · refine ⟨ys, .inl ⟨sqL_of eD, fun l nl => ?_⟩⟩
      subst hH0
      have hds : DpAll K (news H0 H1) ys (gs.map nGrp) := dp_list (by rw [hl2, List.length_map]; exact hxl) fun i y e => by
        obtain ⟨g, r, eg, rfl, nr, er⟩ := hY i y e
        exact ⟨nGrp g, by rw [List.getElem?_map, eg]; rfl, .tup (sqT_of (by rw [news_at nr]; exact hide_le _ _ er)) (dpA_strs _)⟩
      exact q l _ (s1.trans (same_upd nl)) (.tup (sqT_of (by rw [news_at (s1.free nl), upd_same])) (dpA_mono (news_mono (same_upd nl)) _ _ hds))

end
end He

namespace He
open PySem PySem.Spec PyProof.Rows L2
section
variable {P : Program} {w : World} {K : PySem.W.Frag} {mg : Str → Option Value} {base : Heap}

/-! ### the class Will -/
structure TxtW (K : PySem.W.Frag) (mg : Str → Option Value) where
  t : TxtG K mg
  cl : Cls K t.cWill
  nS : NoAttr K t.cWill "shares"
  iF : Addr
  iD : FuncData
  iFn : Fun K "__init__" "Will.__init__" sDWillInit iF iD
  iB : Binds K iD ["self", "shares"] []
  iM : Mk K t.cWill iF
  eF : Addr
  eD : FuncData
  eFn : Fun K "__eq__" "Will.__eq__" sDWillEq eF eD
  eB : Binds K eD ["self", "other"] []
  sF : Addr
  sD : FuncData
  sFn : Fun K "__str__" "Will.__str__" sDWillStr sF sD
  sB : Binds K sD ["self"] []
  oc : OwnCmp K t.cWill eF sF
  rP : Addr
  rC : Value
  rF : Addr
  rD : FuncData
  rFn : Fun K "read" "Will.read" sDWillRead rF rD
  rB : Binds K rD ["cls", "text"] []
  rR : ClX.CRead K t.cWill rC
  rM : ClX.CMet K t.cWill rC "read" rP rF
  ty : ∀ {H : Hp} {a dx : Addr} {fs : List (Str × V)}, H a = some (.ins t.cWill dx fs) → TyOf K H (.ref a) (.ref t.cWill)
  is : PySem.W.kitOne K (.ref t.cWill) (.ref t.cWill) = some true
structure WOk (shs : List Sh) : Prop where
  ne : shs ≠ []
  l : shs.length ≤ 40
  ok : ∀ s ∈ shs, ShOk s ∧ s.2.length ≤ 40 ∧ ∀ g ∈ s.2, g.length ≤ 40
  w : ∀ s ∈ shs, s.1 ≤ 999999999
theorem WillOk.wok {ns : List Str} {shs : List Sh} (h : WillOk ns shs) : WOk shs := ⟨h.ne, by have := h.l3; omega, fun s hs => ⟨(h.ok s hs).1, by have := (h.ok s hs).2.1.l; omega, fun g hg => by have := (h.ok s hs).2.1.g g hg; omega⟩, fun s hs => by have := (h.ok s hs).2.1.w; omega⟩
theorem strsA_map (g : List Str) : strsA (g.map AD.str) = some g := by
  induction g with
  | nil => rfl
  | cons x g ih =>
    show (strsA (g.map AD.str)).map (x :: ·) = _
    rw [ih]
    rfl
theorem grp_ad {g : List Str} (h : GrpOk g) : isGrpA (adGrp g) = true := by
  unfold isGrpA grpA adGrp
  show Option.isSome (if (g.map AD.str).isEmpty then none else if (g.map AD.str).all isNameA then _ else none) = true
  rw [strsA_map]
  have h1 : (g.map AD.str).isEmpty = false := by
    cases g with
    | nil => exact absurd rfl h.ne
    | cons _ _ => rfl
  have h2 : (g.map AD.str).all isNameA = true := by
    rw [List.all_map]
    exact List.all_eq_true.mpr fun x hx => h.nm x hx
  rw [h1, h2]
  simp [h.nd]
theorem sh_ad {s : Sh} (h : ShOk s) : isShA (adSh s) = true := by
  show (decide (1 ≤ s.1) && isGrpsA (.lst (s.2.map adGrp))) = true
  rw [decide_eq_true h.w1]
  show (s.2.map adGrp).all isGrpA = true
  rw [List.all_map]
  exact List.all_eq_true.mpr fun g hg => grp_ad (h.gs g hg)
theorem will_ad {shs : List Sh} (h : WOk shs) : isWillA (adWill shs) = true := by
  show (!(shs.map adSh).isEmpty && (shs.map adSh).all isShA) = true
  have h1 : (shs.map adSh).isEmpty = false := by
    have := h.ne
    cases shs with
    | nil => exact absurd rfl this
    | cons _ _ => rfl
  rw [h1, List.all_map]
  exact List.all_eq_true.mpr fun s hs => sh_ad (h.ok s hs).1
theorem adOkA_of {ds : List AD} (h : ∀ d ∈ ds, AdOk K d) : AdOkA K ds := by
  induction ds with
  | nil => trivial
  | cons d ds ih => exact ⟨h d List.mem_cons_self, ih fun e he => h e (List.mem_cons_of_mem _ he)⟩
theorem name_len {x : Str} (h : nameB x = true) : x.length ≤ 5 := by
  unfold nameB at h
  simp only [Bool.and_eq_true, decide_eq_true_eq] at h
  exact h.1.1.2
theorem ok_grp {g : List Str} (h : GrpOk g) (hl : g.length ≤ 40) : AdOk K (adGrp g) := by
  refine ⟨by rw [List.length_map]; omega, adOkA_of fun d hd => ?_⟩
  obtain ⟨x, hx, rfl⟩ := List.mem_map.mp hd
  exact Nat.le_trans (name_len (h.nm x hx)) (by decide)
theorem adok_will {shs : List Sh} (h : WOk shs) : AdOk K (adWill shs) := by
  refine ⟨by rw [List.length_map]; have := h.l; omega, adOkA_of fun d hd => ?_⟩
  obtain ⟨s, hs, rfl⟩ := List.mem_map.mp hd
  obtain ⟨h1, h2, h3⟩ := h.ok s hs
  refine ⟨by show 2 < 4000; decide, trivial, ⟨by rw [List.length_map]; omega, adOkA_of fun e he => ?_⟩, trivial⟩
  obtain ⟨g, hg, rfl⟩ := List.mem_map.mp he
  exact ok_grp (h1.gs g hg) (h3 g hg)
/-- a will of the program at x -/
def WillAt (K : PySem.W.Frag) (C : Addr) (H : Hp) (x : Addr) (shs : List Sh) : Prop := ∃ dx t, H x = some (.ins C dx [("shares", .ref t)]) ∧ Dp K H (.ref t) (nWill shs)
theorem WillAt.mono {C : Addr} {H H' : Hp} {x : Addr} {shs : List Sh} (s : Same H H') (h : WillAt K C H x shs) : WillAt K C H' x shs := by
  obtain ⟨dx, t, e, d⟩ := h
  exact ⟨dx, t, s _ _ e, dp_mono s _ _ d⟩
def spWInit (K : PySem.W.Frag) (C : Addr) : Sp := fun vs H Q _ => ∃ (x dx : Addr) (v : V) (shs : List Sh), vs = [.ref x, v] ∧ H x = some (.ins C dx []) ∧ Av K H v (adWill shs) ∧ WOk shs ∧
  ∀ t H', (∀ b o, b ≠ x → H b = some o → H' b = some o) → H' x = some (.ins C dx [("shares", .ref t)]) → Dp K (news H H') (.ref t) (nWill shs) → Q .non H'
theorem ok_winit (W : TxtW K mg) : FnOk P w K mg base CX0 5 W.iF W.iD ["self", "shares"] (spWInit K W.t.cWill) := by
  refine W.iFn.ok scDWillInit (fun vs H Q E h => ?_) (fun cdv A outer s H vs Q E hr h => ?_)
  · obtain ⟨x, dx, v, shs, rfl, _⟩ := h
    rfl
  · obtain ⟨x, dx, v, shs, rfl, hx, hv, hw, q⟩ := h
    refine ⟨_, (pss_cons (ps_if (pt_not (pt_val (pe_call (ok_areshares W.t) (hr.mono (by decide)) (by rfl) W.t.dAreShares.g W.t.dAreShares.F.kp W.t.dAreShares.b .nil pass0 (pa_cons (pv 1) pa_nil))))
      (pss_one ps_never)
      pss_nil)
      (pss_one (ps_fld (pv 0) (pe_callTy call_tuple_of (by rfl) W.t.z_tuple (show bootBuiltins "tuple" = some (.type "tuple") by decide +kernel) (pa_cons (pe_lc (own := [("weight", 2), ("groups", 3)]) (g := (gTup K 2 (gCons (gName 2) (gCons (gName 3) gNil)))) (tt := tYes) rfl scDWillInit.nd (pi_seq (pv 1)) (blkOk_by (N := ["self", "shares", "weight", "groups"]) (sc := defScope sDWillInit) (by decide +kernel)) (fun _ _ _ _ _ => (pg_tup (n := 2) rfl (pgs_cons (pg_name (i := 2) scDWillInit.nd rfl (.inl rfl)) (pgs_cons (pg_name (i := 3) scDWillInit.nd rfl (.inl rfl)) pgs_nil)))) (fun _ _ _ _ _ => pts_nil) (fun _ _ _ _ _ => (pe_tup (pa_cons (pv 2) (pa_cons (pe_call (ok_lots W.t) (hr.mono (by decide)) (by rfl) W.t.dLots.g W.t.dLots.F.kp W.t.dLots.b .nil pass0 (pa_cons (pv 3) pa_nil)) pa_nil))))) pa_nil)) rfl))), ?_⟩
    simp only [and_assoc, tSeq, tAsg, tOp, tUn, rI, rI0, rU, tVar, tC, gName, L2.start, tIfS, tTest, tB, tCB, tCons, tNil, tIf, tRet, tRetN, tLst, tTup, tNext, tDrop, tNot, tNotV, tAnd, tOr, tAndV, tOrV, tPar, tAug, ipI, rEq, rNe, gSub, rSetL, rIxL, rIxT, tBM, tBM0, rAppend, rPopAt, gTup, gCons, gNil, tCall, tSl, tPart, tNoPart, rSlL, rCat, rEqD, rNeD, rIn, scal, List.map_cons, List.map_nil, List.length_cons, List.length_nil, List.length_map, List.cons_append, List.nil_append, List.append_nil, List.replicate, List.getElem?_cons_zero, List.getElem?_cons_succ, List.set_cons_zero, List.set_cons_succ, Option.some.injEq, exists_eq_left', exists_eq_left, exists_eq_right, exists_and_left, exists_and_right, V.int.injEq, V.ref.injEq, V.str.injEq, V.bl.injEq, reduceCtorEq, false_and, and_false, exists_false, or_false, false_or, true_and, and_true, List.cons.injEq, decide_eq_true_eq, cxOf, if_true, if_false, Bool.false_eq_true, Nat.reduceAdd, Nat.reduceSub, Nat.zero_add, Nat.add_sub_cancel_left, Nat.add_sub_cancel, Nat.sub_self, sFld, tFld, tFor_eq, tLc_eq, iRng1, iRng2, iList, iTup, iEnum, rIsi, rIsiT, iSeq, spIs, spLots]
    refine ⟨adWill shs, hv, adok_will hw, fun H1 s1 => ?_⟩
    rw [will_ad hw]
    simp only [and_assoc, tSeq, tAsg, tOp, tUn, rI, rI0, rU, tVar, tC, gName, L2.start, tIfS, tTest, tB, tCB, tCons, tNil, tIf, tRet, tRetN, tLst, tTup, tNext, tDrop, tNot, tNotV, tAnd, tOr, tAndV, tOrV, tPar, tAug, ipI, rEq, rNe, gSub, rSetL, rIxL, rIxT, tBM, tBM0, rAppend, rPopAt, gTup, gCons, gNil, tCall, tSl, tPart, tNoPart, rSlL, rCat, rEqD, rNeD, rIn, scal, List.map_cons, List.map_nil, List.length_cons, List.length_nil, List.length_map, List.cons_append, List.nil_append, List.append_nil, List.replicate, List.getElem?_cons_zero, List.getElem?_cons_succ, List.set_cons_zero, List.set_cons_succ, Option.some.injEq, exists_eq_left', exists_eq_left, exists_eq_right, exists_and_left, exists_and_right, V.int.injEq, V.ref.injEq, V.str.injEq, V.bl.injEq, reduceCtorEq, false_and, and_false, exists_false, or_false, false_or, true_and, and_true, List.cons.injEq, decide_eq_true_eq, cxOf, if_true, if_false, Bool.false_eq_true, Nat.reduceAdd, Nat.reduceSub, Nat.zero_add, Nat.add_sub_cancel_left, Nat.add_sub_cancel, Nat.sub_self, sFld, tFld, tFor_eq, tLc_eq, iRng1, iRng2, iList, iTup, iEnum, rIsi, rIsiT, iSeq, Bool.not_true]
    obtain ⟨a, xs, rfl, hs, ha⟩ := av_items hv rfl
    obtain ⟨J, hJ⟩ := (hs.mono s1).it
    have hxl : xs.length = shs.length := by rw [avA_len ha, List.length_map]
    have hlt := hw.l
    obtain ⟨H0, hH0⟩ : ∃ H0, H0 = H := ⟨H, rfl⟩
    refine ⟨a, rfl, xs, J, hJ, fun D nD => ?_⟩
    refine lg_pure (fun i y H => ∃ s, shs[i]? = some s ∧ Dp K (news H0 H) y (nSh s)) hJ (small1000 (by omega)) nD (fun i y H H' s h => let ⟨g, e1, e2⟩ := h; ⟨g, e1, dp_mono (news_mono s) _ _ e2⟩) (fun i x H2 Φ hx s2 hD hΦ => ?_) (fun ys H2 s2 eD hl2 hY => ?_)
    · simp only [and_assoc, tSeq, tAsg, tOp, tUn, rI, rI0, rU, tVar, tC, gName, L2.start, tIfS, tTest, tB, tCB, tCons, tNil, tIf, tRet, tRetN, tLst, tTup, tNext, tDrop, tNot, tNotV, tAnd, tOr, tAndV, tOrV, tPar, tAug, ipI, rEq, rNe, gSub, rSetL, rIxL, rIxT, tBM, tBM0, rAppend, rPopAt, gTup, gCons, gNil, tCall, tSl, tPart, tNoPart, rSlL, rCat, rEqD, rNeD, rIn, scal, List.map_cons, List.map_nil, List.length_cons, List.length_nil, List.length_map, List.cons_append, List.nil_append, List.append_nil, List.replicate, List.getElem?_cons_zero, List.getElem?_cons_succ, List.set_cons_zero, List.set_cons_succ, Option.some.injEq, exists_eq_left', exists_eq_left, exists_eq_right, exists_and_left, exists_and_right, V.int.injEq, V.ref.injEq, V.str.injEq, V.bl.injEq, reduceCtorEq, false_and, and_false, exists_false, or_false, false_or, true_and, and_true, List.cons.injEq, decide_eq_true_eq, cxOf, if_true, if_false, Bool.false_eq_true, Nat.reduceAdd, Nat.reduceSub, Nat.zero_add, Nat.add_sub_cancel_left, Nat.add_sub_cancel, Nat.sub_self, sFld, tFld, tFor_eq, tLc_eq, iRng1, iRng2, iList, iTup, iEnum, rIsi, rIsiT, iSeq, wipe, spLots]
      obtain ⟨d, ed, hx2⟩ := avA_get (avA_mono (s1.trans s2) _ _ ha) hx
      rw [List.getElem?_map] at ed
      obtain ⟨sh, eg, rfl⟩ := Option.map_eq_some_iff.mp ed
      obtain ⟨hok, h1, h2⟩ := hw.ok sh (List.mem_of_getElem? eg)
      cases hx2 with
      | @tup b zs _ hb hzs =>
        cases hzs with
        | cons w1 r1 =>
          cases w1
          cases r1 with
          | @cons v2 _ _ _ w2 r2 =>
            cases r2
            refine ⟨b, rfl, _, hb, rfl, _, _, rfl, v2, _, rfl, rfl, sh.2, w2, by omega, fun g hg => by have := h2 g hg; omega, fun r H3 s3 hr3 => ⟨by decide, fun p np => ?_⟩⟩
            have pD : p ≠ D := fun z => by
              cases e : H2 D with
              | none => exact hD e
              | some o => rw [z, s3 _ _ e] at np; cases np
            have s02 : Same H0 H2 := hH0 ▸ (s1.trans s2)
            refine hΦ _ _ (s3.trans (same_upd np)) ⟨sh, eg, ?_⟩
            have np0 : H0 p = none := s02.free (s3.free np)
            refine .tup (sqT_of (by rw [news_at np0, hide_ne pD, upd_same])) (.cons (.int _) (.cons ?_ .nil))
            exact dp_mono ((news_hide hD).trans ((news_up s02).trans (news_mono (hide_same (same_upd np))))) _ _ hr3
    · subst hH0
      have s02 : Same H0 H2 := s1.trans s2
      refine ⟨ys, .inl ⟨sqL_of eD, fun l nl => ?_⟩⟩
      have hds : DpAll K (news H0 H2) ys (shs.map nSh) := dp_list (by rw [hl2, List.length_map]; exact hxl) fun i y e => by
        obtain ⟨g, eg, er⟩ := hY i y e
        exact ⟨nSh g, by rw [List.getElem?_map, eg]; rfl, dp_mono news_hide2 _ _ er⟩
      have hx2 := same_upd (o := .tup ys) nl _ _ (s02 _ _ hx)
      have lx : l ≠ x := fun z => by rw [z, s02 _ _ hx] at nl; cases nl
      refine ⟨_, _, _, hx2, W.cl, W.nS, by show 0 < 1000; decide, q l _ (fun b o hb e => ?_) upd_same ?_⟩
      · rw [upd_ne hb]
        exact same_upd nl _ _ (s02 _ _ e)
      · have nl0 := s02.free nl
        refine .tup (sqT_of (by rw [news_at nl0, upd_ne lx, upd_same])) (dpA_mono (fun b o e => ?_) _ _ hds)
        obtain ⟨e1, e2⟩ := news_get e
        have bx : b ≠ x := fun z => by rw [z, hx] at e1; cases e1
        rw [news_at e1, upd_ne bx]
        exact same_upd nl _ _ e2

end
end He

namespace He
open PySem PySem.Spec PyProof.Rows L2
section
variable {P : Program} {w : World} {K : PySem.W.Frag} {mg : Str → Option Value} {base : Heap}

def rJoin (K : PySem.W.Frag) : V → List V → Hp → VK → Prop := fun x xs H Q => ∃ a p, ∃ ys : List Str, x = .str a ∧ xs = [.ref p] ∧ Sq K H p (ys.map V.str) ∧ (ys.map (·.length)).sum + ys.length * a.length ≤ 16777216 ∧ Q (.str (Txt.join a ys)) H
theorem pe_joinD {X : Cx} {o e : Expr} {to te : TE} {apos pos : Pos} (hK : X.K = K) (ho : PE X o to) (he : PE X e te) (hs : starEach [e] X.env = [(false, eval e X.env)] := by rfl) (hb : attributeBase o "join" X.env (eval o X.env) = eval o X.env := by rfl) (hl : (apos.endLine == pos.line) = true := by rfl) :
    PE X (.Call (.Attribute o "join" apos) [e] [] pos) (tM1 (rJoin K) to te) := by
  subst hK
  exact pe_join ho he hs hb hl
theorem canLay_strs : ∀ {g : List Str}, (∀ n ∈ g, nameB n = true) → PyData.canLayAll0 (g.map PyData.str) = true
  | [], _ => rfl
  | x :: g, h => by
    show (PyData.strOk x && PyData.canLayAll0 (g.map PyData.str)) = true
    rw [canLay_strs fun n hn => h n (List.mem_cons_of_mem _ hn), Bool.and_true]
    have hx := h x List.mem_cons_self
    unfold nameB at hx
    simp only [Bool.and_eq_true, decide_eq_true_eq] at hx
    have h2 := hx.1.2
    show x.cps.all (· < 0x110000) = true
    rw [Array.all_eq_true] at h2 ⊢
    intro i hi
    have := h2 i hi
    simp only [Bool.and_eq_true, decide_eq_true_eq] at this
    exact decide_eq_true (by omega)
theorem canLay_map {α : Type} {f : α → PyData} : ∀ {l : List α}, (∀ x ∈ l, PyData.canLay0 (f x) = true) → PyData.canLayAll0 (l.map f) = true
  | [], _ => rfl
  | x :: l, h => by
    show (PyData.canLay0 (f x) && PyData.canLayAll0 (l.map f)) = true
    rw [h x List.mem_cons_self, canLay_map fun y hy => h y (List.mem_cons_of_mem _ hy)]
    rfl
theorem depth_map {α : Type} {f : α → PyData} {n : Nat} : ∀ {l : List α}, (∀ x ∈ l, PyData.depth (f x) ≤ n) → PyData.depthAll (l.map f) ≤ n
  | [], _ => Nat.zero_le _
  | x :: l, h => by
    show max (PyData.depth (f x)) (PyData.depthAll (l.map f)) ≤ n
    exact Nat.max_le.mpr ⟨h x List.mem_cons_self, depth_map fun y hy => h y (List.mem_cons_of_mem _ hy)⟩
theorem depth_strs (g : List Str) : PyData.depthAll (g.map PyData.str) ≤ 0 := depth_map fun _ _ => Nat.le_refl _
theorem nm_sort {g : List Str} (h : ∀ n ∈ g, nameB n = true) : ∀ n ∈ sortG g, nameB n = true := fun n hn => h n ((sortG_perm g).mem_iff.mp hn)
theorem lay_nGrp {g : List Str} (h : GrpOk g) : PyData.canLay0 (nGrp g) = true ∧ PyData.depth (nGrp g) ≤ 1 := by
  refine ⟨canLay_strs (nm_sort h.nm), ?_⟩
  show PyData.depthAll _ + 1 ≤ 1
  have := depth_strs (sortG g)
  omega
theorem lay_nSh {s : Sh} (h : ShOk s) : PyData.canLay0 (nSh s) = true ∧ PyData.depth (nSh s) ≤ 3 := by
  have h1 : PyData.canLayAll0 (s.2.map nGrp) = true := canLay_map fun g hg => (lay_nGrp (h.gs g hg)).1
  have h2 : PyData.depthAll (s.2.map nGrp) ≤ 1 := depth_map fun g hg => (lay_nGrp (h.gs g hg)).2
  constructor
  · show (true && (PyData.canLayAll0 (s.2.map nGrp) && true)) = true
    rw [h1]
    rfl
  · show max 0 (max (PyData.depthAll (s.2.map nGrp) + 1) 0) + 1 ≤ 3
    omega
theorem lay_nWill {shs : List Sh} (h : WOk shs) : SeqAt.shaped (nWill shs) = true := by
  have h1 : PyData.canLayAll0 (shs.map nSh) = true := canLay_map fun s hs => (lay_nSh (h.ok s hs).1).1
  have h2 : PyData.depthAll (shs.map nSh) ≤ 3 := depth_map fun s hs => (lay_nSh (h.ok s hs).1).2
  show (PyData.canLay0 (nWill shs) && decide (PyData.depth (nWill shs) ≤ 64)) = true
  rw [show PyData.canLay0 (nWill shs) = true from h1, show PyData.depth (nWill shs) = PyData.depthAll (shs.map nSh) + 1 from rfl, decide_eq_true (by omega)]
  rfl
def spWEq (K : PySem.W.Frag) (C : Addr) : Sp := fun vs H Q _ => ∃ (a b : Addr) (s1 s2 : List Sh), vs = [.ref a, .ref b] ∧ WillAt K C H a s1 ∧ WillAt K C H b s2 ∧ WOk s1 ∧ WOk s2 ∧ Q (.bl (PyData.eqv (nWill s1) (nWill s2))) H
theorem ok_weq (W : TxtW K mg) : FnOk P w K mg base CX0 1 W.eF W.eD ["self", "other"] (spWEq K W.t.cWill) := by
  refine W.eFn.ok scDWillEq (fun vs H Q E h => ?_) (fun cdv A outer s H vs Q E hr h => ?_)
  · obtain ⟨a, b, s1, s2, rfl, _⟩ := h
    rfl
  · obtain ⟨a, b, s1, s2, rfl, h1, h2, w1, w2, q⟩ := h
    refine ⟨_, (pss_one (ps_ret (pe_and (pe_callB call_isi (by rfl) W.t.z_isinstance (show bootBuiltins "isinstance" = some (.builtin "isinstance") by decide +kernel) (pa_cons (pv 1) (pa_cons (pe_glob (v := .ref W.t.cWill) (by rfl) W.t.gcWill rfl) pa_nil))) (pe_one (pe_cmpR (op_eqD hr.units) (pe_fld (pv 0) rfl) (pe_fld (pv 1) rfl) (nomark _)))))), ?_⟩
    obtain ⟨dx, t1, e1, d1⟩ := h1
    obtain ⟨dy, t2, e2, d2⟩ := h2
    simp only [and_assoc, tSeq, tAsg, tOp, tUn, rI, rI0, rU, tVar, tC, gName, L2.start, tIfS, tTest, tB, tCB, tCons, tNil, tIf, tRet, tRetN, tLst, tTup, tNext, tDrop, tNot, tNotV, tAnd, tOr, tAndV, tOrV, tPar, tAug, ipI, rEq, rNe, gSub, rSetL, rIxL, rIxT, tBM, tBM0, rAppend, rPopAt, gTup, gCons, gNil, tCall, tSl, tPart, tNoPart, rSlL, rCat, rEqD, rNeD, rIn, scal, List.map_cons, List.map_nil, List.length_cons, List.length_nil, List.length_map, List.cons_append, List.nil_append, List.append_nil, List.replicate, List.getElem?_cons_zero, List.getElem?_cons_succ, List.set_cons_zero, List.set_cons_succ, Option.some.injEq, exists_eq_left', exists_eq_left, exists_eq_right, exists_and_left, exists_and_right, V.int.injEq, V.ref.injEq, V.str.injEq, V.bl.injEq, reduceCtorEq, false_and, and_false, exists_false, or_false, false_or, true_and, and_true, List.cons.injEq, decide_eq_true_eq, cxOf, if_true, if_false, Bool.false_eq_true, Nat.reduceAdd, Nat.reduceSub, Nat.zero_add, Nat.add_sub_cancel_left, Nat.add_sub_cancel, Nat.sub_self, sFld, tFld, tFor_eq, tLc_eq, iRng1, iRng2, iList, iTup, iEnum, rIsi, rIsiT, iSeq, tM0, tM1, tFmt, tJs, rJoin]
    refine ⟨_, _, .own _, .base (W.ty e2), _, W.is, ?_⟩
    simp only [and_assoc, tSeq, tAsg, tOp, tUn, rI, rI0, rU, tVar, tC, gName, L2.start, tIfS, tTest, tB, tCB, tCons, tNil, tIf, tRet, tRetN, tLst, tTup, tNext, tDrop, tNot, tNotV, tAnd, tOr, tAndV, tOrV, tPar, tAug, ipI, rEq, rNe, gSub, rSetL, rIxL, rIxT, tBM, tBM0, rAppend, rPopAt, gTup, gCons, gNil, tCall, tSl, tPart, tNoPart, rSlL, rCat, rEqD, rNeD, rIn, scal, List.map_cons, List.map_nil, List.length_cons, List.length_nil, List.length_map, List.cons_append, List.nil_append, List.append_nil, List.replicate, List.getElem?_cons_zero, List.getElem?_cons_succ, List.set_cons_zero, List.set_cons_succ, Option.some.injEq, exists_eq_left', exists_eq_left, exists_eq_right, exists_and_left, exists_and_right, V.int.injEq, V.ref.injEq, V.str.injEq, V.bl.injEq, reduceCtorEq, false_and, and_false, exists_false, or_false, false_or, true_and, and_true, List.cons.injEq, decide_eq_true_eq, cxOf, if_true, if_false, Bool.false_eq_true, Nat.reduceAdd, Nat.reduceSub, Nat.zero_add, Nat.add_sub_cancel_left, Nat.add_sub_cancel, Nat.sub_self, sFld, tFld, tFor_eq, tLc_eq, iRng1, iRng2, iList, iTup, iEnum, rIsi, rIsiT, iSeq, tM0, tM1, tFmt, tJs, rJoin]
    exact ⟨_, _, _, e1, W.cl, W.nS, _, rfl, _, _, _, e2, W.cl, W.nS, _, rfl, _, d1, _, d2, lay_nWill w1, lay_nWill w2, q⟩
/-! ### the texts -/
def grpT (g : List Str) : Str := Txt.join "+" g
def shareT (s : Sh) : Str := if s.2 = [] then (toString s.1 : Str) else ((Str.empty ++ (toString s.1 : Str)) ++ (" " : Str)) ++ Txt.join " > " (s.2.map grpT)
def willT (shs : List Sh) : Str := Txt.join " | " (shs.map shareT)
def nrmS (s : Sh) : Sh := (s.1, s.2.map sortG)
theorem join_len (sep : Str) (ys : List Str) : (Txt.join sep ys).length ≤ (ys.map (·.length)).sum + ys.length * sep.length := by
  have e : Txt.join sep ys = Str.join sep ys := StrLaws.glued_eq_join sep ys
  rw [e]
  exact StrLaws.join_length_le sep ys
theorem sum_le {B : Nat} : ∀ {ys : List Str}, (∀ y ∈ ys, y.length ≤ B) → (ys.map (·.length)).sum ≤ ys.length * B
  | [], _ => by simp
  | y :: ys, h => by
    have h1 := h y List.mem_cons_self
    have h2 := sum_le fun z hz => h z (List.mem_cons_of_mem y hz)
    rw [List.map_cons, List.sum_cons, List.length_cons, Nat.succ_mul]
    omega
theorem app_len (a b : Str) : (a ++ b).length = a.length + b.length := by
  show (a.cps ++ b.cps).size = a.cps.size + b.cps.size
  exact Array.size_append
theorem grpT_sum {g : List Str} (h : ∀ n ∈ g, nameB n = true) (hl : g.length ≤ 40) : (g.map (·.length)).sum + g.length * ("+" : Str).length ≤ 240 := by
  have h1 := sum_le (B := 5) fun n hn => name_len (h n hn)
  have h2 : ("+" : Str).length = 1 := by decide +kernel
  rw [h2]
  have h3 : g.length * 5 ≤ 40 * 5 := Nat.mul_le_mul_right _ hl
  omega
theorem grpT_len {g : List Str} (h : ∀ n ∈ g, nameB n = true) (hl : g.length ≤ 40) : (grpT g).length ≤ 240 := Nat.le_trans (join_len _ _) (grpT_sum h hl)
theorem told_sum {gs : List (List Str)} (h : ∀ g ∈ gs, (∀ n ∈ g, nameB n = true) ∧ g.length ≤ 40) (hl : gs.length ≤ 40) : ((gs.map grpT).map (·.length)).sum + (gs.map grpT).length * (" > " : Str).length ≤ 9720 := by
  have h1 := sum_le (B := 240) (ys := gs.map grpT) fun y hy => by
    obtain ⟨g, hg, rfl⟩ := List.mem_map.mp hy
    exact grpT_len (h g hg).1 (h g hg).2
  have h2 : (" > " : Str).length = 3 := by decide +kernel
  rw [h2]
  rw [List.length_map] at h1 ⊢
  have h3 : gs.length * 240 ≤ 40 * 240 := Nat.mul_le_mul_right _ hl
  omega
theorem w_len {w : Int} (h0 : 1 ≤ w) (h1 : w ≤ 999999999) : (Str.ofString (toString w)).length ≤ 9 ∧ w.natAbs.log2 < 1920 := by
  constructor
  · exact PyProof.Rows.toString_length_le (by omega) (by decide) (by show w < 1000000000; omega)
  · exact PyProof.Rows.shown_abs (N := 1000000000) (by split <;> omega) (by decide +kernel)
def spShareT (K : PySem.W.Frag) : Sp := fun vs H Q _ => ∃ (a : Addr) (s : Sh), vs = [.int s.1, .ref a] ∧ Dp K H (.ref a) (.tuple (s.2.map nGrp)) ∧ ShOk s ∧ s.2.length ≤ 40 ∧ (∀ g ∈ s.2, g.length ≤ 40) ∧ s.1 ≤ 999999999 ∧ ∀ H', Same H H' → Q (.str (shareT (nrmS s))) H'
theorem ok_sharetext (T : TxtG K mg) : FnOk P w K mg base CX0 1 T.dShareText.f T.dShareText.fd ["weight", "groups"] (spShareT K) := by
  refine T.dShareText.F.ok scDShareText (fun vs H Q E h => ?_) (fun cdv A outer s H vs Q E hr h => ?_)
  · obtain ⟨a, s, rfl, _⟩ := h
    rfl
  · obtain ⟨a, s, rfl, hd, ho, hl, hg, hw, q⟩ := h
    refine ⟨_, (pss_cons (ps_if (pt_not (pt_truth (pv 1) (by intro _; rfl)))
      (pss_one (ps_ret (pe_callTy call_str_int (by rfl) T.z_str (show bootBuiltins "str" = some (.type "str") by decide +kernel) (pa_cons (pv 0) pa_nil))))
      pss_nil)
      (pss_cons (ps_set (i := 2) scDShareText.nd rfl (.inl rfl) (pe_joinD (K := K) rfl pe_str (pe_lc (own := [("group", 3)]) (g := (gName 3)) (tt := tYes) rfl scDShareText.nd (pi_seq (pv 1)) (blkOk_by (N := ["weight", "groups", "told", "group"]) (sc := defScope sDShareText) (by decide +kernel)) (fun _ _ _ _ _ => (pg_name (i := 3) scDShareText.nd rfl (.inl rfl))) (fun _ _ _ _ _ => pts_nil) (fun _ _ _ _ _ => (pe_joinD (K := K) rfl pe_str (pv 3))))))
      (pss_one (ps_ret (pe_joined (.cons (pe_fmt (pv 0)) (.cons pe_str (.cons (pe_fmt (pv 2)) .nil)))))))), ?_⟩
    simp only [and_assoc, tSeq, tAsg, tOp, tUn, rI, rI0, rU, tVar, tC, gName, L2.start, tIfS, tTest, tB, tCB, tCons, tNil, tIf, tRet, tRetN, tLst, tTup, tNext, tDrop, tNot, tNotV, tAnd, tOr, tAndV, tOrV, tPar, tAug, ipI, rEq, rNe, gSub, rSetL, rIxL, rIxT, tBM, tBM0, rAppend, rPopAt, gTup, gCons, gNil, tCall, tSl, tPart, tNoPart, rSlL, rCat, rEqD, rNeD, rIn, scal, List.map_cons, List.map_nil, List.length_cons, List.length_nil, List.length_map, List.cons_append, List.nil_append, List.append_nil, List.replicate, List.getElem?_cons_zero, List.getElem?_cons_succ, List.set_cons_zero, List.set_cons_succ, Option.some.injEq, exists_eq_left', exists_eq_left, exists_eq_right, exists_and_left, exists_and_right, V.int.injEq, V.ref.injEq, V.str.injEq, V.bl.injEq, reduceCtorEq, false_and, and_false, exists_false, or_false, false_or, true_and, and_true, List.cons.injEq, decide_eq_true_eq, cxOf, if_true, if_false, Bool.false_eq_true, Nat.reduceAdd, Nat.reduceSub, Nat.zero_add, Nat.add_sub_cancel_left, Nat.add_sub_cancel, Nat.sub_self, sFld, tFld, tFor_eq, tLc_eq, iRng1, iRng2, iList, iTup, iEnum, rIsi, rIsiT, iSeq, tM0, tM1, tFmt, tJs, rJoin]
    obtain ⟨xs, hs, ha⟩ : ∃ xs, SqT K H a xs ∧ DpAll K H xs (s.2.map nGrp) := by
      cases hd with
      | tup h1 h2 => exact ⟨_, h1, h2⟩
    have hxl : xs.length = s.2.length := by rw [dpA_len ha, List.length_map]
    obtain ⟨wl, wd⟩ := w_len ho.w1 hw
    refine ⟨_, .inr (.inl ⟨xs, hs, rfl⟩), ?_⟩
    by_cases h0 : s.2 = []
    · have hx0 : xs = [] := List.length_eq_zero_iff.mp (by rw [hxl, h0]; rfl)
      rw [hx0]
      simp only [and_assoc, tSeq, tAsg, tOp, tUn, rI, rI0, rU, tVar, tC, gName, L2.start, tIfS, tTest, tB, tCB, tCons, tNil, tIf, tRet, tRetN, tLst, tTup, tNext, tDrop, tNot, tNotV, tAnd, tOr, tAndV, tOrV, tPar, tAug, ipI, rEq, rNe, gSub, rSetL, rIxL, rIxT, tBM, tBM0, rAppend, rPopAt, gTup, gCons, gNil, tCall, tSl, tPart, tNoPart, rSlL, rCat, rEqD, rNeD, rIn, scal, List.map_cons, List.map_nil, List.length_cons, List.length_nil, List.length_map, List.cons_append, List.nil_append, List.append_nil, List.replicate, List.getElem?_cons_zero, List.getElem?_cons_succ, List.set_cons_zero, List.set_cons_succ, Option.some.injEq, exists_eq_left', exists_eq_left, exists_eq_right, exists_and_left, exists_and_right, V.int.injEq, V.ref.injEq, V.str.injEq, V.bl.injEq, reduceCtorEq, false_and, and_false, exists_false, or_false, false_or, true_and, and_true, List.cons.injEq, decide_eq_true_eq, cxOf, if_true, if_false, Bool.false_eq_true, Nat.reduceAdd, Nat.reduceSub, Nat.zero_add, Nat.add_sub_cancel_left, Nat.add_sub_cancel, Nat.sub_self, sFld, tFld, tFor_eq, tLc_eq, iRng1, iRng2, iList, iTup, iEnum, rIsi, rIsiT, iSeq, tM0, tM1, tFmt, tJs, rJoin, List.isEmpty_nil, Bool.not_true, Bool.not_false]
      refine ⟨wd, ?_⟩
      have e : shareT (nrmS s) = Str.ofString (toString s.1) := by
        unfold shareT nrmS
        rw [h0]
        rfl
      rw [← e]
      exact q H (Same.refl H)
    · have hie : xs.isEmpty = false := by
        cases xs with
        | nil => exact absurd (List.length_eq_zero_iff.mp (by rw [← hxl]; rfl)) h0
        | cons _ _ => rfl
      rw [hie]
      simp only [and_assoc, tSeq, tAsg, tOp, tUn, rI, rI0, rU, tVar, tC, gName, L2.start, tIfS, tTest, tB, tCB, tCons, tNil, tIf, tRet, tRetN, tLst, tTup, tNext, tDrop, tNot, tNotV, tAnd, tOr, tAndV, tOrV, tPar, tAug, ipI, rEq, rNe, gSub, rSetL, rIxL, rIxT, tBM, tBM0, rAppend, rPopAt, gTup, gCons, gNil, tCall, tSl, tPart, tNoPart, rSlL, rCat, rEqD, rNeD, rIn, scal, List.map_cons, List.map_nil, List.length_cons, List.length_nil, List.length_map, List.cons_append, List.nil_append, List.append_nil, List.replicate, List.getElem?_cons_zero, List.getElem?_cons_succ, List.set_cons_zero, List.set_cons_succ, Option.some.injEq, exists_eq_left', exists_eq_left, exists_eq_right, exists_and_left, exists_and_right, V.int.injEq, V.ref.injEq, V.str.injEq, V.bl.injEq, reduceCtorEq, false_and, and_false, exists_false, or_false, false_or, true_and, and_true, List.cons.injEq, decide_eq_true_eq, cxOf, if_true, if_false, Bool.false_eq_true, Nat.reduceAdd, Nat.reduceSub, Nat.zero_add, Nat.add_sub_cancel_left, Nat.add_sub_cancel, Nat.sub_self, sFld, tFld, tFor_eq, tLc_eq, iRng1, iRng2, iList, iTup, iEnum, rIsi, rIsiT, iSeq, tM0, tM1, tFmt, tJs, rJoin, Bool.not_true, Bool.not_false]
      refine ⟨⟨_, rfl⟩, xs, _, .inr ⟨rfl, hs⟩, fun D nD => ?_⟩
      refine lg_pure (fun i y _ => ∃ g, s.2[i]? = some g ∧ y = .str (grpT (sortG g))) (.inr ⟨rfl, hs⟩) (small1000 (by omega)) nD (fun _ _ _ _ _ h => h) (fun i x H2 Φ hx s2 hD hΦ => ?_) (fun ys H2 s2 eD hl2 hY => ?_)
      · simp only [and_assoc, tSeq, tAsg, tOp, tUn, rI, rI0, rU, tVar, tC, gName, L2.start, tIfS, tTest, tB, tCB, tCons, tNil, tIf, tRet, tRetN, tLst, tTup, tNext, tDrop, tNot, tNotV, tAnd, tOr, tAndV, tOrV, tPar, tAug, ipI, rEq, rNe, gSub, rSetL, rIxL, rIxT, tBM, tBM0, rAppend, rPopAt, gTup, gCons, gNil, tCall, tSl, tPart, tNoPart, rSlL, rCat, rEqD, rNeD, rIn, scal, List.map_cons, List.map_nil, List.length_cons, List.length_nil, List.length_map, List.cons_append, List.nil_append, List.append_nil, List.replicate, List.getElem?_cons_zero, List.getElem?_cons_succ, List.set_cons_zero, List.set_cons_succ, Option.some.injEq, exists_eq_left', exists_eq_left, exists_eq_right, exists_and_left, exists_and_right, V.int.injEq, V.ref.injEq, V.str.injEq, V.bl.injEq, reduceCtorEq, false_and, and_false, exists_false, or_false, false_or, true_and, and_true, List.cons.injEq, decide_eq_true_eq, cxOf, if_true, if_false, Bool.false_eq_true, Nat.reduceAdd, Nat.reduceSub, Nat.zero_add, Nat.add_sub_cancel_left, Nat.add_sub_cancel, Nat.sub_self, sFld, tFld, tFor_eq, tLc_eq, iRng1, iRng2, iList, iTup, iEnum, rIsi, rIsiT, iSeq, tM0, tM1, tFmt, tJs, rJoin, wipe]
        obtain ⟨d, ed, hx2⟩ := dpA_get (dpA_mono s2 _ _ ha) hx
        rw [List.getElem?_map] at ed
        obtain ⟨g, eg, rfl⟩ := Option.map_eq_some_iff.mp ed
        have hgm := List.mem_of_getElem? eg
        cases hx2 with
        | @tup b zs _ hb hzs =>
          have ez := dpA_strs_inv hzs
          subst ez
          have hnm := nm_sort (ho.gs g hgm).nm
          have hgl : (sortG g).length ≤ 40 := by rw [(sortG_perm g).length_eq]; exact hg g hgm
          have hsum := grpT_sum hnm hgl
          exact ⟨⟨_, rfl⟩, b, rfl, sortG g, .inr hb, by omega, hΦ _ _ (Same.refl _) ⟨g, eg, rfl⟩⟩
      · have ey : ys = ((s.2.map fun g => grpT (sortG g))).map V.str := by
          refine List.ext_getElem? fun i => ?_
          rw [List.getElem?_map, List.getElem?_map]
          cases e : ys[i]? with
          | none =>
            rw [List.getElem?_eq_none (by have := List.getElem?_eq_none_iff.mp e; omega)]
            rfl
          | some y =>
            obtain ⟨g, eg, rfl⟩ := hY i y e
            rw [eg]
            rfl
        have e2 : (s.2.map fun g => grpT (sortG g)) = (nrmS s).2.map grpT := by unfold nrmS; rw [List.map_map]; rfl
        have hts := told_sum (gs := (nrmS s).2) (fun g hgm => by
          obtain ⟨g0, hg0, rfl⟩ := List.mem_map.mp hgm
          exact ⟨nm_sort (ho.gs g0 hg0).nm, by rw [(sortG_perm g0).length_eq]; exact hg g0 hg0⟩) (by show (s.2.map sortG).length ≤ 40; rw [List.length_map]; exact hl)
        have htl := join_len " > " ((nrmS s).2.map grpT)
        have hsp : (Str.ofString " ").length = 1 := by decide +kernel
        have hem : Str.empty.length = 0 := by decide +kernel
        have big : 16777216 ≤ sizeLine := by decide
        refine ⟨(nrmS s).2.map grpT, .inl (sqL_of (by rw [eD, ey, e2])), by omega, wd, ?_, ?_, by omega, ?_, ?_⟩
        · rw [app_len, hem]; omega
        · rw [app_len, app_len, hem, hsp]; omega
        · rw [app_len, app_len, app_len, hem, hsp]; omega
        · have e : shareT (nrmS s) = Str.empty ++ Str.ofString (toString s.1) ++ Str.ofString " " ++ Txt.join (Str.ofString " > ") ((nrmS s).2.map grpT) := by
            unfold shareT
            rw [if_neg (show (nrmS s).2 ≠ [] from fun z => h0 (List.map_eq_nil_iff.mp z))]
            rfl
          rw [← e]
          exact q _ s2

end
end He

namespace He
open PySem PySem.Spec PyProof.Rows L2
section
variable {P : Program} {w : World} {K : PySem.W.Frag} {mg : Str → Option Value} {base : Heap}

theorem tab_digit : ((List.range 128).all fun c => Unicode.isDigit c == (decide (48 ≤ c) && decide (c ≤ 57))) = true := by decide +kernel
/-- a number as a text tells it -/
def readNum (x : Str) (k : Int) : Option Int := if (decide (k < (x.length : Int)) || (!Txt.isascii x || !Txt.isdigit x)) then none else if decide (x ≠ "0") && Txt.startswith x "0" then none else PySem.intText? x
def optV : Option Int → V
  | none => .non
  | some n => .int n
theorem digits_num {x : Str} (h1 : Txt.isascii x = true) (h2 : Txt.isdigit x = true) (hl : x.length ≤ 100) : ∃ n, PySem.intText? x = some n := by
  unfold Txt.isascii at h1
  unfold Txt.isdigit at h2
  rw [Bool.and_eq_true] at h2
  have h3 : x.cps.toList.all (fun c => decide (c < 128)) = true := by rw [Array.all_toList]; exact h1
  have h4 : x.cps.toList.all Unicode.isDigit = true := by rw [Array.all_toList]; exact h2.2
  rw [List.all_eq_true] at h3 h4
  refine ⟨_, PySem.intText_digits (fun c hc => ?_) (fun z => ?_) (by omega)⟩
  · have a := at_tab tab_digit (of_decide_eq_true (h3 c hc))
    rw [h4 c hc] at a
    simp at a
    exact a
  · have := of_decide_eq_true h2.1
    have e : x.length = x.cps.toList.length := Array.length_toList.symm
    rw [e, z] at this
    simp at this
def spReadNum (K : PySem.W.Frag) : Sp := fun vs H Q _ => ∃ (x : Str) (k : Int), vs = [.str x, .int k] ∧ x.length ≤ sizeLine ∧ k ≤ 100 ∧ Q (optV (readNum x k)) H
theorem ok_readnum (T : TxtG K mg) : FnOk P w K mg base CX0 1 T.dReadNumber.f T.dReadNumber.fd ["word", "digits"] (spReadNum K) := by
  refine T.dReadNumber.F.ok scDReadNumber (fun vs H Q E h => ?_) (fun cdv A outer s H vs Q E hr h => ?_)
  · obtain ⟨x, k, rfl, _⟩ := h
    rfl
  · obtain ⟨x, k, rfl, hl, hk, q⟩ := h
    refine ⟨_, (pss_cons (ps_if (PW.pt (pw_or (pt_cmpR op_gt (pe_callB call_len_str (by rfl) T.z_len (show bootBuiltins "len" = some (.builtin "len") by decide +kernel) (pa_cons (pv 0) pa_nil)) (pv 1) (nomark _)) (pw_or (pt_not (pt_val (pe_m0 PySem.F.slot_str_isascii PySem.F.type_str_isascii mt_isascii (pv 0)))) (pw_or1 (pt_not (pt_val (pe_m0 PySem.F.slot_str_isdigit PySem.F.type_str_isdigit mt_isdigit (pv 0))))))))
      (pss_one (ps_ret pe_non))
      pss_nil)
      (pss_cons (ps_if (PW.pt (pw_and (pt_cmpR op_ne (pv 0) pe_str (nomark _)) (pw_and1 (pt_val (pe_m1 PySem.F.slot_str_startswith PySem.F.type_str_startswith mt_startswith (pv 0) pe_str)))))
      (pss_one (ps_ret pe_non))
      pss_nil)
      (pss_one (ps_ret (pe_callTy call_int_str (by rfl) T.z_int (show bootBuiltins "int" = some (.type "int") by decide +kernel) (pa_cons (pv 0) pa_nil)))))), ?_⟩
    simp only [and_assoc, tSeq, tAsg, tOp, tUn, rI, rI0, rU, tVar, tC, gName, L2.start, tIfS, tTest, tB, tCB, tCons, tNil, tIf, tRet, tRetN, tLst, tTup, tNext, tDrop, tNot, tNotV, tAnd, tOr, tAndV, tOrV, tPar, tAug, ipI, rEq, rNe, gSub, rSetL, rIxL, rIxT, tBM, tBM0, rAppend, rPopAt, gTup, gCons, gNil, tCall, tSl, tPart, tNoPart, rSlL, rCat, rEqD, rNeD, rIn, scal, List.map_cons, List.map_nil, List.length_cons, List.length_nil, List.length_map, List.cons_append, List.nil_append, List.append_nil, List.replicate, List.getElem?_cons_zero, List.getElem?_cons_succ, List.set_cons_zero, List.set_cons_succ, Option.some.injEq, exists_eq_left', exists_eq_left, exists_eq_right, exists_and_left, exists_and_right, V.int.injEq, V.ref.injEq, V.str.injEq, V.bl.injEq, reduceCtorEq, false_and, and_false, exists_false, or_false, false_or, true_and, and_true, List.cons.injEq, decide_eq_true_eq, cxOf, if_true, if_false, Bool.false_eq_true, Nat.reduceAdd, Nat.reduceSub, Nat.zero_add, Nat.add_sub_cancel_left, Nat.add_sub_cancel, Nat.sub_self, sFld, tFld, tFor_eq, tLc_eq, iRng1, iRng2, iList, iTup, iEnum, rIsi, rIsiT, iSeq, tM0, tM1, tFmt, tJs, rJoin, rNewStrs]
    refine ⟨hl, ?_⟩
    have e : readNum x k = readNum x k := rfl
    conv at e => rhs; unfold readNum
    by_cases h1 : k < (x.length : Int)
    · rw [if_pos h1]
      rw [e, decide_eq_true h1] at q
      exact q
    · rw [if_neg h1]
      rw [e, decide_eq_false h1] at q
      refine ⟨⟨x, rfl⟩, ?_⟩
      cases ha : Txt.isascii x with
      | false =>
        rw [ha] at q
        exact q
      | true =>
        rw [ha] at q
        simp only [and_assoc, tSeq, tAsg, tOp, tUn, rI, rI0, rU, tVar, tC, gName, L2.start, tIfS, tTest, tB, tCB, tCons, tNil, tIf, tRet, tRetN, tLst, tTup, tNext, tDrop, tNot, tNotV, tAnd, tOr, tAndV, tOrV, tPar, tAug, ipI, rEq, rNe, gSub, rSetL, rIxL, rIxT, tBM, tBM0, rAppend, rPopAt, gTup, gCons, gNil, tCall, tSl, tPart, tNoPart, rSlL, rCat, rEqD, rNeD, rIn, scal, List.map_cons, List.map_nil, List.length_cons, List.length_nil, List.length_map, List.cons_append, List.nil_append, List.append_nil, List.replicate, List.getElem?_cons_zero, List.getElem?_cons_succ, List.set_cons_zero, List.set_cons_succ, Option.some.injEq, exists_eq_left', exists_eq_left, exists_eq_right, exists_and_left, exists_and_right, V.int.injEq, V.ref.injEq, V.str.injEq, V.bl.injEq, reduceCtorEq, false_and, and_false, exists_false, or_false, false_or, true_and, and_true, List.cons.injEq, decide_eq_true_eq, cxOf, if_true, if_false, Bool.false_eq_true, Nat.reduceAdd, Nat.reduceSub, Nat.zero_add, Nat.add_sub_cancel_left, Nat.add_sub_cancel, Nat.sub_self, sFld, tFld, tFor_eq, tLc_eq, iRng1, iRng2, iList, iTup, iEnum, rIsi, rIsiT, iSeq, tM0, tM1, tFmt, tJs, rJoin, rNewStrs, Bool.not_true]
        refine ⟨⟨x, rfl⟩, ?_⟩
        cases hd : Txt.isdigit x with
        | false =>
          rw [hd] at q
          exact q
        | true =>
          rw [hd] at q
          simp only [and_assoc, tSeq, tAsg, tOp, tUn, rI, rI0, rU, tVar, tC, gName, L2.start, tIfS, tTest, tB, tCB, tCons, tNil, tIf, tRet, tRetN, tLst, tTup, tNext, tDrop, tNot, tNotV, tAnd, tOr, tAndV, tOrV, tPar, tAug, ipI, rEq, rNe, gSub, rSetL, rIxL, rIxT, tBM, tBM0, rAppend, rPopAt, gTup, gCons, gNil, tCall, tSl, tPart, tNoPart, rSlL, rCat, rEqD, rNeD, rIn, scal, List.map_cons, List.map_nil, List.length_cons, List.length_nil, List.length_map, List.cons_append, List.nil_append, List.append_nil, List.replicate, List.getElem?_cons_zero, List.getElem?_cons_succ, List.set_cons_zero, List.set_cons_succ, Option.some.injEq, exists_eq_left', exists_eq_left, exists_eq_right, exists_and_left, exists_and_right, V.int.injEq, V.ref.injEq, V.str.injEq, V.bl.injEq, reduceCtorEq, false_and, and_false, exists_false, or_false, false_or, true_and, and_true, List.cons.injEq, decide_eq_true_eq, cxOf, if_true, if_false, Bool.false_eq_true, Nat.reduceAdd, Nat.reduceSub, Nat.zero_add, Nat.add_sub_cancel_left, Nat.add_sub_cancel, Nat.sub_self, sFld, tFld, tFor_eq, tLc_eq, iRng1, iRng2, iList, iTup, iEnum, rIsi, rIsiT, iSeq, tM0, tM1, tFmt, tJs, rJoin, rNewStrs, Bool.not_true]
          obtain ⟨n, hn⟩ := digits_num ha hd (by omega)
          simp only [Bool.false_or, Bool.not_true, Bool.false_eq_true, if_false, hn] at q ⊢
          by_cases hz : x = Str.ofString "0"
          · have q1 : Q (.int n) H := by simpa [hz, optV] using q
            rw [if_neg (by simp [hz])]
            exact ⟨n, rfl, by omega, q1⟩
          · rw [if_pos (by simp [hz])]
            refine ⟨⟨x, rfl⟩, ?_⟩
            cases hs : Txt.startswith x (Str.ofString "0") with
            | true =>
              rw [if_pos rfl]
              rw [hs] at q
              simpa [hz, optV] using q
            | false =>
              rw [hs] at q
              rw [if_neg (by simp)]
              exact ⟨n, rfl, by omega, by simpa [hz, optV] using q⟩
/-- a part of a text, as the program takes it apart -/
def optA : Option Int → AD
  | none => .non
  | some n => .int n
def rsGroups (t : Str) : List AD := (Txt.split t " > ").map fun g => AD.lst ((Txt.split g "+").map AD.str)
def rsA (x : Str) : AD := .tup [optA (readNum (Txt.partition x " ").1 6), .lst (if (Txt.partition x " ").2.1.length = 0 then [] else rsGroups (Txt.partition x " ").2.2)]
def spReadShare (K : PySem.W.Frag) : Sp := fun vs H Q _ => ∃ (x : Str), vs = [.str x] ∧ x.length ≤ 100000 ∧ (∀ g ∈ Txt.split (Txt.partition x " ").2.2 " > ", g.length ≤ 100000) ∧ ∀ r H', Same H H' → Av K (news H H') (.ref r) (rsA x) → Q (.ref r) H'
theorem av_optA {H : Hp} (o : Option Int) : Av K H (optV o) (optA o) := by
  cases o with
  | none => exact .non
  | some n => exact .int n
theorem avA_list {H : Hp} {ys : List V} {ds : List AD} (hl : ys.length = ds.length) (h : ∀ (i : Nat) (y : V), ys[i]? = some y → ∃ d, ds[i]? = some d ∧ Av K H y d) : AvAll K H ys ds := by
  induction ys generalizing ds with
  | nil =>
    cases ds with
    | nil => exact .nil
    | cons _ _ => simp at hl
  | cons y ys ih =>
    cases ds with
    | nil => simp at hl
    | cons d ds =>
      obtain ⟨d', e, hd⟩ := h 0 y rfl
      cases Option.some.inj e
      exact .cons hd (ih (by simpa using hl) fun i z e => h (i + 1) z e)
theorem avA_strs_mk {H : Hp} : ∀ xs : List Str, AvAll K H (xs.map V.str) (xs.map AD.str)
  | [] => .nil
  | x :: xs => .cons (.str x) (avA_strs_mk xs)
theorem ok_readshare (T : TxtG K mg) : FnOk P w K mg base CX0 2 T.dReadShare.f T.dReadShare.fd ["part"] (spReadShare K) := by
  refine T.dReadShare.F.ok scDReadShare (fun vs H Q E h => ?_) (fun cdv A outer s H vs Q E hr h => ?_)
  · obtain ⟨x, rfl, _⟩ := h
    rfl
  · obtain ⟨x, rfl, hl, hg, q⟩ := h
    refine ⟨_, (pss_cons (ps_asg (pe_partition (pv 0) pe_str) (pg_tup (n := 3) rfl (pgs_cons (pg_name (i := 1) scDReadShare.nd rfl (.inl rfl)) (pgs_cons (pg_name (i := 2) scDReadShare.nd rfl (.inl rfl)) (pgs_cons (pg_name (i := 3) scDReadShare.nd rfl (.inl rfl)) pgs_nil)))))
      (pss_cons (ps_set (i := 4) scDReadShare.nd rfl (.inl rfl) (pe_call (ok_readnum T) (hr.mono (by decide)) (by rfl) T.dReadNumber.g T.dReadNumber.F.kp T.dReadNumber.b .nil pass0 (pa_cons (pv 1) (pa_cons (pe_glob (v := .int 6) (by rfl) T.k_WEIGHT_DIGITS.choose_spec ⟨_, rfl⟩) pa_nil))))
      (pss_cons (ps_if (pt_not (pt_truth (pv 2) (by intro _; rfl)))
      (pss_one (ps_ret (pe_tup (pa_cons (pv 4) (pa_cons (pe_lst pa_nil) pa_nil)))))
      pss_nil)
      (pss_one (ps_ret (pe_tup (pa_cons (pv 4) (pa_cons (pe_lc (own := [("group", 5)]) (g := (gName 5)) (tt := tYes) rfl scDReadShare.nd (pi_seq (pe_split (pv 3) pe_str)) (blkOk_by (N := ["part", "word", "space", "told", "weight", "group"]) (sc := defScope sDReadShare) (by decide +kernel)) (fun _ _ _ _ _ => (pg_name (i := 5) scDReadShare.nd rfl (.inl rfl))) (fun _ _ _ _ _ => pts_nil) (fun _ _ _ _ _ => (pe_split (pv 5) pe_str))) pa_nil)))))))), ?_⟩
    simp only [and_assoc, tSeq, tAsg, tOp, tUn, rI, rI0, rU, tVar, tC, gName, L2.start, tIfS, tTest, tB, tCB, tCons, tNil, tIf, tRet, tRetN, tLst, tTup, tNext, tDrop, tNot, tNotV, tAnd, tOr, tAndV, tOrV, tPar, tAug, ipI, rEq, rNe, gSub, rSetL, rIxL, rIxT, tBM, tBM0, rAppend, rPopAt, gTup, gCons, gNil, tCall, tSl, tPart, tNoPart, rSlL, rCat, rEqD, rNeD, rIn, scal, List.map_cons, List.map_nil, List.length_cons, List.length_nil, List.length_map, List.cons_append, List.nil_append, List.append_nil, List.replicate, List.getElem?_cons_zero, List.getElem?_cons_succ, List.set_cons_zero, List.set_cons_succ, Option.some.injEq, exists_eq_left', exists_eq_left, exists_eq_right, exists_and_left, exists_and_right, V.int.injEq, V.ref.injEq, V.str.injEq, V.bl.injEq, reduceCtorEq, false_and, and_false, exists_false, or_false, false_or, true_and, and_true, List.cons.injEq, decide_eq_true_eq, cxOf, if_true, if_false, Bool.false_eq_true, Nat.reduceAdd, Nat.reduceSub, Nat.zero_add, Nat.add_sub_cancel_left, Nat.add_sub_cancel, Nat.sub_self, sFld, tFld, tFor_eq, tLc_eq, iRng1, iRng2, iList, iTup, iEnum, rIsi, rIsiT, iSeq, tM0, tM1, tFmt, tJs, rJoin, rNewStrs, spReadNum]
    have hfp := fact_partition x (Str.ofString " ")
    have e : rsA x = rsA x := rfl
    conv at e => rhs; unfold rsA
    have e2 := hg
    revert hfp e e2
    generalize hu : Txt.partition x (Str.ofString " ") = u
    intro hfp e e2
    have big : 16777216 ≤ sizeLine := by decide
    refine ⟨⟨_, rfl⟩, by decide +kernel, by omega, fun p np => ?_⟩
    refine ⟨_, sqT_of upd_same, rfl, _, _, rfl, _, _, rfl, _, _, rfl, rfl, _, rfl, by omega, by omega, _, ⟨by omega, rfl⟩, ?_⟩
    have sp : Same H (upd H p (.tup [.str u.1, .str u.2.1, .str u.2.2])) := same_upd np
    by_cases hz : u.2.1.length = 0
    · rw [if_pos (by rw [hz]; rfl)]
      refine ⟨by omega, fun p1 n1 => ⟨by omega, fun p2 n2 => ?_⟩⟩
      rw [if_pos hz] at e
      have s1 := sp.trans (same_upd (o := .lst []) n1)
      refine q _ _ (s1.trans (same_upd n2)) ?_
      rw [e]
      have ne : p1 ≠ p2 := fun z => by rw [← z, upd_same] at n2; cases n2
      refine .tup (sqT_of (by rw [news_at (s1.free n2), upd_same])) (.cons (av_optA _) (.cons (.lst (sqL_of (by rw [news_at (sp.free n1), upd_ne ne, upd_same])) .nil) .nil))
    · have hk : (!((u.2.1.length : Int) != 0)) = false := by
        simp
        omega
      rw [hk, if_neg (by simp)]
      rw [if_neg hz] at e
      refine ⟨⟨_, rfl⟩, _, rfl, by decide +kernel, by omega, fun p1 n1 => ?_⟩
      generalize upd H p (.tup [.str u.1, .str u.2.1, .str u.2.2]) = Ha at sp n1 ⊢
      have s1 := sp.trans (same_upd (o := .lst ((Txt.split u.2.2 (Str.ofString " > ")).map V.str)) n1)
      have hfs := fact_split u.2.2 (Str.ofString " > ")
      have e1 : upd Ha p1 (.lst ((Txt.split u.2.2 (Str.ofString " > ")).map V.str)) p1 = some (.lst ((Txt.split u.2.2 (Str.ofString " > ")).map V.str)) := upd_same
      generalize upd Ha p1 (.lst ((Txt.split u.2.2 (Str.ofString " > ")).map V.str)) = Hb at s1 e1 ⊢
      refine ⟨_, _, .inl ⟨rfl, sqL_of e1⟩, fun D nD => ?_⟩
      refine lg_pure (fun i y Hc => ∃ g r, (Txt.split u.2.2 (Str.ofString " > "))[i]? = some g ∧ y = .ref r ∧ H r = none ∧ Hc r = some (.lst ((Txt.split g "+").map V.str))) (.inl ⟨rfl, sqL_of e1⟩) (by rw [List.length_map]; omega) nD (fun i y H H' s h => let ⟨g, r, e1, e2, e3, e4⟩ := h; ⟨g, r, e1, e2, e3, s _ _ e4⟩) (fun i x2 H2 Φ hx s2 hD hΦ => ?_) (fun ys H2 s2 eD hl2 hY => ?_)
      · rw [List.getElem?_map] at hx
        obtain ⟨g, eg, rfl⟩ := Option.map_eq_some_iff.mp hx
        have hgl := e2 g (List.mem_of_getElem? eg)
        simp only [and_assoc, tSeq, tAsg, tOp, tUn, rI, rI0, rU, tVar, tC, gName, L2.start, tIfS, tTest, tB, tCB, tCons, tNil, tIf, tRet, tRetN, tLst, tTup, tNext, tDrop, tNot, tNotV, tAnd, tOr, tAndV, tOrV, tPar, tAug, ipI, rEq, rNe, gSub, rSetL, rIxL, rIxT, tBM, tBM0, rAppend, rPopAt, gTup, gCons, gNil, tCall, tSl, tPart, tNoPart, rSlL, rCat, rEqD, rNeD, rIn, scal, List.map_cons, List.map_nil, List.length_cons, List.length_nil, List.length_map, List.cons_append, List.nil_append, List.append_nil, List.replicate, List.getElem?_cons_zero, List.getElem?_cons_succ, List.set_cons_zero, List.set_cons_succ, Option.some.injEq, exists_eq_left', exists_eq_left, exists_eq_right, exists_and_left, exists_and_right, V.int.injEq, V.ref.injEq, V.str.injEq, V.bl.injEq, reduceCtorEq, false_and, and_false, exists_false, or_false, false_or, true_and, and_true, List.cons.injEq, decide_eq_true_eq, cxOf, if_true, if_false, Bool.false_eq_true, Nat.reduceAdd, Nat.reduceSub, Nat.zero_add, Nat.add_sub_cancel_left, Nat.add_sub_cancel, Nat.sub_self, sFld, tFld, tFor_eq, tLc_eq, iRng1, iRng2, iList, iTup, iEnum, rIsi, rIsiT, iSeq, tM0, tM1, tFmt, tJs, rJoin, rNewStrs, wipe]
        refine ⟨⟨_, rfl⟩, by decide +kernel, by omega, fun r nr => ?_⟩
        have rD : r ≠ D := fun z => hD (by rw [← z]; exact nr)
        refine hΦ _ _ (same_upd nr) ⟨g, r, eg, rfl, (s1.trans s2).free nr, ?_⟩
        rw [hide_ne rD, upd_same]
      · refine ⟨by omega, fun l nl => q l _ ((s1.trans s2).trans (same_upd nl)) ?_⟩
        rw [e]
        have lD : D ≠ l := fun z => by rw [← z, eD] at nl; cases nl
        have hds : AvAll K (news H H2) ys (rsGroups u.2.2) := avA_list (by rw [hl2, List.length_map]; unfold rsGroups; rw [List.length_map]) fun i y ey => by
          obtain ⟨g, r, eg, rfl, nr, er⟩ := hY i y ey
          exact ⟨.lst ((Txt.split g "+").map AD.str), by unfold rsGroups; rw [List.getElem?_map]; exact congrArg _ eg, .lst (sqL_of (by rw [news_at nr]; exact hide_le _ _ er)) (avA_strs_mk _)⟩
        refine .tup (sqT_of (by rw [news_at ((s1.trans s2).free nl), upd_same])) (.cons (av_optA _) (.cons (.lst (sqL_of ?_) (avA_mono (news_mono (same_upd nl)) _ _ hds)) .nil))
        rw [news_at (s1.free nD), upd_ne lD, eD]
theorem shareT_len {s : Sh} (ho : ShOk s) (hl : s.2.length ≤ 40) (hg : ∀ g ∈ s.2, g.length ≤ 40) (hw : s.1 ≤ 999999999) : (shareT (nrmS s)).length ≤ 10000 := by
  obtain ⟨wl, _⟩ := w_len ho.w1 hw
  unfold shareT
  split
  · show (Str.ofString (toString s.1)).length ≤ 10000
    omega
  · have hts := told_sum (gs := (nrmS s).2) (fun g hgm => by
        obtain ⟨g0, hg0, rfl⟩ := List.mem_map.mp hgm
        exact ⟨nm_sort (ho.gs g0 hg0).nm, by rw [(sortG_perm g0).length_eq]; exact hg g0 hg0⟩) (by show (s.2.map sortG).length ≤ 40; rw [List.length_map]; exact hl)
    have htl := join_len " > " ((nrmS s).2.map grpT)
    have hsp : (Str.ofString " ").length = 1 := by decide +kernel
    have hem : Str.empty.length = 0 := by decide +kernel
    rw [app_len, app_len, app_len, hem, hsp]
    show 0 + (Str.ofString (toString s.1)).length + 1 + _ ≤ _
    omega
def spWStr (K : PySem.W.Frag) (C : Addr) : Sp := fun vs H Q _ => ∃ (x : Addr) (shs : List Sh), vs = [.ref x] ∧ WillAt K C H x shs ∧ WOk shs ∧ ∀ H', Same H H' → Q (.str (willT (shs.map nrmS))) H'
theorem ok_wstr (W : TxtW K mg) : FnOk P w K mg base CX0 2 W.sF W.sD ["self"] (spWStr K W.t.cWill) := by
  refine W.sFn.ok scDWillStr (fun vs H Q E h => ?_) (fun cdv A outer s H vs Q E hr h => ?_)
  · obtain ⟨x, shs, rfl, _⟩ := h
    rfl
  · obtain ⟨x, shs, rfl, h1, hw, q⟩ := h
    refine ⟨_, (pss_one (ps_ret (pe_joinD (K := K) rfl pe_str (pe_lc (own := [("weight", 1), ("groups", 2)]) (g := (gTup K 2 (gCons (gName 1) (gCons (gName 2) gNil)))) (tt := tYes) rfl scDWillStr.nd (pi_seq (pe_fld (pv 0) rfl)) (blkOk_by (N := ["self", "weight", "groups"]) (sc := defScope sDWillStr) (by decide +kernel)) (fun _ _ _ _ _ => (pg_tup (n := 2) rfl (pgs_cons (pg_name (i := 1) scDWillStr.nd rfl (.inl rfl)) (pgs_cons (pg_name (i := 2) scDWillStr.nd rfl (.inl rfl)) pgs_nil)))) (fun _ _ _ _ _ => pts_nil) (fun _ _ _ _ _ => (pe_call (ok_sharetext W.t) (hr.mono (by decide)) (by rfl) W.t.dShareText.g W.t.dShareText.F.kp W.t.dShareText.b .nil pass0 (pa_cons (pv 1) (pa_cons (pv 2) pa_nil)))))))), ?_⟩
    obtain ⟨dx, t, e1, d1⟩ := h1
    simp only [and_assoc, tSeq, tAsg, tOp, tUn, rI, rI0, rU, tVar, tC, gName, L2.start, tIfS, tTest, tB, tCB, tCons, tNil, tIf, tRet, tRetN, tLst, tTup, tNext, tDrop, tNot, tNotV, tAnd, tOr, tAndV, tOrV, tPar, tAug, ipI, rEq, rNe, gSub, rSetL, rIxL, rIxT, tBM, tBM0, rAppend, rPopAt, gTup, gCons, gNil, tCall, tSl, tPart, tNoPart, rSlL, rCat, rEqD, rNeD, rIn, scal, List.map_cons, List.map_nil, List.length_cons, List.length_nil, List.length_map, List.cons_append, List.nil_append, List.append_nil, List.replicate, List.getElem?_cons_zero, List.getElem?_cons_succ, List.set_cons_zero, List.set_cons_succ, Option.some.injEq, exists_eq_left', exists_eq_left, exists_eq_right, exists_and_left, exists_and_right, V.int.injEq, V.ref.injEq, V.str.injEq, V.bl.injEq, reduceCtorEq, false_and, and_false, exists_false, or_false, false_or, true_and, and_true, List.cons.injEq, decide_eq_true_eq, cxOf, if_true, if_false, Bool.false_eq_true, Nat.reduceAdd, Nat.reduceSub, Nat.zero_add, Nat.add_sub_cancel_left, Nat.add_sub_cancel, Nat.sub_self, sFld, tFld, tFor_eq, tLc_eq, iRng1, iRng2, iList, iTup, iEnum, rIsi, rIsiT, iSeq, tM0, tM1, tFmt, tJs, rJoin, rNewStrs, spShareT]
    obtain ⟨xs, hs, ha⟩ : ∃ xs, SqT K H t xs ∧ DpAll K H xs (shs.map nSh) := by
      cases d1 with
      | tup h1 h2 => exact ⟨_, h1, h2⟩
    have hxl : xs.length = shs.length := by rw [dpA_len ha, List.length_map]
    have hl := hw.l
    refine ⟨⟨_, rfl⟩, _, _, _, e1, W.cl, W.nS, _, rfl, _, rfl, _, _, .inr ⟨rfl, hs⟩, fun D nD => ?_⟩
    refine lg_pure (fun i y _ => ∃ s, shs[i]? = some s ∧ y = .str (shareT (nrmS s))) (.inr ⟨rfl, hs⟩) (small1000 (by omega)) nD (fun _ _ _ _ _ h => h) (fun i x2 H2 Φ hx s2 hD hΦ => ?_) (fun ys H2 s2 eD hl2 hY => ?_)
    · simp only [and_assoc, tSeq, tAsg, tOp, tUn, rI, rI0, rU, tVar, tC, gName, L2.start, tIfS, tTest, tB, tCB, tCons, tNil, tIf, tRet, tRetN, tLst, tTup, tNext, tDrop, tNot, tNotV, tAnd, tOr, tAndV, tOrV, tPar, tAug, ipI, rEq, rNe, gSub, rSetL, rIxL, rIxT, tBM, tBM0, rAppend, rPopAt, gTup, gCons, gNil, tCall, tSl, tPart, tNoPart, rSlL, rCat, rEqD, rNeD, rIn, scal, List.map_cons, List.map_nil, List.length_cons, List.length_nil, List.length_map, List.cons_append, List.nil_append, List.append_nil, List.replicate, List.getElem?_cons_zero, List.getElem?_cons_succ, List.set_cons_zero, List.set_cons_succ, Option.some.injEq, exists_eq_left', exists_eq_left, exists_eq_right, exists_and_left, exists_and_right, V.int.injEq, V.ref.injEq, V.str.injEq, V.bl.injEq, reduceCtorEq, false_and, and_false, exists_false, or_false, false_or, true_and, and_true, List.cons.injEq, decide_eq_true_eq, cxOf, if_true, if_false, Bool.false_eq_true, Nat.reduceAdd, Nat.reduceSub, Nat.zero_add, Nat.add_sub_cancel_left, Nat.add_sub_cancel, Nat.sub_self, sFld, tFld, tFor_eq, tLc_eq, iRng1, iRng2, iList, iTup, iEnum, rIsi, rIsiT, iSeq, tM0, tM1, tFmt, tJs, rJoin, rNewStrs, wipe]
      obtain ⟨d, ed, hx2⟩ := dpA_get (dpA_mono s2 _ _ ha) hx
      rw [List.getElem?_map] at ed
      obtain ⟨g, eg, rfl⟩ := Option.map_eq_some_iff.mp ed
      have hgm := List.mem_of_getElem? eg
      have hok := hw.ok g hgm
      cases hx2 with
      | @tup b zs _ hb hzs =>
        cases hzs with
        | cons a1 r1 =>
          cases r1 with
          | cons a2 r2 =>
            cases r2
            cases a1
            cases a2 with
            | @tup c us _ hc hus =>
              simp only [and_assoc, tSeq, tAsg, tOp, tUn, rI, rI0, rU, tVar, tC, gName, L2.start, tIfS, tTest, tB, tCB, tCons, tNil, tIf, tRet, tRetN, tLst, tTup, tNext, tDrop, tNot, tNotV, tAnd, tOr, tAndV, tOrV, tPar, tAug, ipI, rEq, rNe, gSub, rSetL, rIxL, rIxT, tBM, tBM0, rAppend, rPopAt, gTup, gCons, gNil, tCall, tSl, tPart, tNoPart, rSlL, rCat, rEqD, rNeD, rIn, scal, List.map_cons, List.map_nil, List.length_cons, List.length_nil, List.length_map, List.cons_append, List.nil_append, List.append_nil, List.replicate, List.getElem?_cons_zero, List.getElem?_cons_succ, List.set_cons_zero, List.set_cons_succ, Option.some.injEq, exists_eq_left', exists_eq_left, exists_eq_right, exists_and_left, exists_and_right, V.int.injEq, V.ref.injEq, V.str.injEq, V.bl.injEq, reduceCtorEq, false_and, and_false, exists_false, or_false, false_or, true_and, and_true, List.cons.injEq, decide_eq_true_eq, cxOf, if_true, if_false, Bool.false_eq_true, Nat.reduceAdd, Nat.reduceSub, Nat.zero_add, Nat.add_sub_cancel_left, Nat.add_sub_cancel, Nat.sub_self, sFld, tFld, tFor_eq, tLc_eq, iRng1, iRng2, iList, iTup, iEnum, rIsi, rIsiT, iSeq, tM0, tM1, tFmt, tJs, rJoin, rNewStrs, wipe, spShareT]
              exact ⟨_, hb, rfl, _, _, rfl, _, _, rfl, rfl, c, g, rfl, rfl, .tup hc hus, hok.1, hok.2.1, hok.2.2, hw.w g hgm, fun H' s' => hΦ _ _ s' ⟨g, eg, rfl⟩⟩
    · have ey : ys = ((shs.map nrmS).map shareT).map V.str := by
        refine List.ext_getElem? fun i => ?_
        rw [List.map_map, List.getElem?_map, List.getElem?_map]
        cases e : ys[i]? with
        | none =>
          rw [List.getElem?_eq_none (by have := List.getElem?_eq_none_iff.mp e; omega)]
          rfl
        | some y =>
          obtain ⟨g, eg, rfl⟩ := hY i y e
          rw [eg]
          rfl
      have hsum := sum_le (B := 10000) (ys := (shs.map nrmS).map shareT) fun y hy => by
        obtain ⟨s, hs, rfl⟩ := List.mem_map.mp hy
        obtain ⟨s0, hs0, rfl⟩ := List.mem_map.mp hs
        have hok := hw.ok s0 hs0
        exact shareT_len hok.1 hok.2.1 hok.2.2 (hw.w s0 hs0)
      have h3 : (Str.ofString " | ").length = 3 := by decide +kernel
      rw [List.length_map, List.length_map] at hsum
      refine ⟨(shs.map nrmS).map shareT, .inl (sqL_of (by rw [eD, ey])), ?_, q _ s2⟩
      rw [h3, List.length_map, List.length_map]
      omega

end
end He

namespace He
open PySem PySem.Spec PyProof.Rows L2
section
variable {P : Program} {w : World} {K : PySem.W.Frag} {mg : Str → Option Value} {base : Heap}

/-- a class held in a local slot, called -/
def tMakeL (i : Nat) (C : Addr) (sp : Sp) (dvs : List V) (E : XK) (t : TA) : TE := fun σ H Q => σ[i]? = some (some (.ref C)) ∧ tMake C sp dvs E t σ H Q
section
variable {X : Cx} {CX : CXT} {k i : Nat} {f C : Addr} {fd : FuncData} {ps : List Str} {sp : Sp} {dvs : List V} {ds : List Value} {E : XK} {x : Str} {p pos : Pos} {e : Expr} {es : List Expr} {t : TA}
theorem pe_makeL (M : Mk X.K C f) (F : FnOk X.prog X.w X.K X.mg X.base CX k f fd ps sp) (hr : Room (k + 1) X.A) (hN : X.N[i]? = some x) (hv : Vis X.env.scope x) (hb : Binds X.K fd ps ds) (hd : Vals dvs ds) (hx : Passes CX X E) (ha : PA X (e :: es) t)
    (hdb : (x == ("__debug__" : Str)) = false := by decide) (hcd : (x == ("__classdict__" : Str)) = false := by decide)
    (he : starEach (e :: es) X.env = (false, eval e X.env) :: starEach es X.env := by rfl) (hpl : (backTo pos (starEach es X.env)).any (·.1) = false := by rfl) : PE X (.Call (.Name x p) (e :: es) [] pos) (tMakeL i C sp dvs E t) := by
  refine ⟨fun pins s σ H Q I h => ?_⟩
  obtain ⟨hs, ht⟩ := h
  refine wpAny_Call_Name_kw (thn ((pe_var (pos := p) hN hv hdb hcd).run pins s σ H (fun v H1 => v = .ref C ∧ H1 = H) I ⟨.ref C, hs, rfl, rfl⟩) fun u s1 ⟨v, H1, I1, r1, q1⟩ => ?_)
  obtain ⟨rfl, rfl⟩ := q1
  cases r1
  refine PySem.W.callWith_K (h₀ := X.base) I.ok.mod.kin M.kp (thn (ha.run pos pins s1 σ _ _ I1 ht) fun us s2 ⟨vs, H2, I2, r, q⟩ => ⟨I2.kIn, ?_⟩) he hpl
  exact run_make M F hr hb hd hx I2 r q
end
theorem fg_enum {a : Addr} {xs : List V} {g : TG} {tb : TS} {D : Ends} {σ : L2.St} {H : Hp} (Pv : Nat → L2.St → Hp → Prop) (h0 : Pv 0 σ H) (hG : ∀ i σ H, i ≤ xs.length → Pv i σ H → SqL K H a xs)
    (hs : ∀ (i : Nat) (x : V) (T : Addr) σ H, xs[i]? = some x → Pv i σ H → H T = none → g (.ref T) σ (upd H T (.tup [.int (i : Nat), x])) fun σ2 H2 => tb { D with nx := Pv (i + 1), ct := Pv (i + 1), bk := D.nx } σ2 H2) (hd : ∀ σ H, Pv xs.length σ H → D.nx σ H) : ForGoes (Ite K a) g tb D σ H := by
  refine for_it (walk_enum (K := K) (a := a) (xs := xs)) Pv h0 hG (fun i x σ H H' hi hp y => ?_) hd
  obtain ⟨T, x1, y1, rfl, hn, rfl, h1, h2⟩ := y
  cases Option.some.inj h1
  exact hs i y1 T σ H h2 hp hn
theorem adok_sh {shs : List Sh} {s : Sh} (h : WOk shs) (hs : s ∈ shs) : AdOk K (adSh s) := by
  obtain ⟨h1, h2, h3⟩ := h.ok s hs
  refine ⟨by show 2 < 4000; decide, trivial, ⟨by rw [List.length_map]; omega, adOkA_of fun e he => ?_⟩, trivial⟩
  obtain ⟨g, hg, rfl⟩ := List.mem_map.mp he
  exact ok_grp (h1.gs g hg) (h3 g hg)
theorem news_mut {f : Addr} {H H2 : Hp} {o : HO} : Same (hide f (news H H2)) (hide f (news H (upd H2 f o))) := fun b u e => by
  have hb : b ≠ f := fun z => by rw [z, hide_self] at e; cases e
  rw [hide_ne hb] at e ⊢
  unfold news at e ⊢
  rw [upd_ne hb]
  exact e
theorem news_sub {f : Addr} {H H1 H2 : Hp} (s : Same H H1) (hf : H1 f ≠ none) : Same (news H1 H2) (hide f (news H H2)) := fun b u e => by
  obtain ⟨e1, e2⟩ := news_get e
  have hb : b ≠ f := fun z => hf (by rw [← z]; exact e1)
  rw [hide_ne hb, news_at (s.free e1)]
  exact e2
/-- a part told as one share -/
structure PartOk (x : Str) (s : Sh) : Prop where
  r : rsA x = adSh s
  l : x.length ≤ 100000
  g : ∀ g ∈ Txt.split (Txt.partition x " ").2.2 " > ", g.length ≤ 100000
structure Reads (z : Str) (shs : List Sh) : Prop where
  zl : z.length ≤ 1000000
  l : (Txt.split z " | ").length = shs.length
  p : ∀ (i : Nat) (x : Str) (s : Sh), (Txt.split z " | ")[i]? = some x → shs[i]? = some s → PartOk x s
/-- the text of a will, read -/
def spWRead (K : PySem.W.Frag) (C : Addr) : Sp := fun vs H Q _ => ∃ (z : Str) (shs : List Sh), vs = [.ref C, .str z] ∧ Reads z shs ∧ WOk shs ∧ ∀ x H', Same H H' → H x = none → WillAt K C (news H H') x shs → Q (.ref x) H'
theorem ok_wread (W : TxtW K mg) : FnOk P w K mg base CX0 7 W.rF W.rD ["cls", "text"] (spWRead K W.t.cWill) := by
  refine W.rFn.ok scDWillRead (fun vs H Q E h => ?_) (fun cdv A outer s H vs Q E hr h => ?_)
  · obtain ⟨z, shs, rfl, _⟩ := h
    rfl
  · obtain ⟨z, shs, rfl, hz, hw, q⟩ := h
    refine ⟨_, (pss_cons (ps_set (i := 2) scDWillRead.nd rfl (.inl rfl) (pe_lst pa_nil))
      (pss_cons (ps_for PassesOwn.never rfl (pi_enum (by rfl) W.t.z_enumerate (pa_cons (pe_split (pv 1) pe_str) pa_nil)) (pg_tup (n := 2) rfl (pgs_cons (pg_name (i := 3) scDWillRead.nd rfl (.inl rfl)) (pgs_cons (pg_name (i := 4) scDWillRead.nd rfl (.inl rfl)) pgs_nil)))
      (pss_cons (ps_set (i := 5) scDWillRead.nd rfl (.inl rfl) (pe_call (ok_readshare W.t) (hr.mono (by decide)) (by rfl) W.t.dReadShare.g W.t.dReadShare.F.kp W.t.dReadShare.b .nil pass0 (pa_cons (pv 4) pa_nil)))
      (pss_cons (ps_if (pt_not (pt_val (pe_call (ok_isshare W.t) (hr.mono (by decide)) (by rfl) W.t.dIsShare.g W.t.dIsShare.F.kp W.t.dIsShare.b .nil pass0 (pa_cons (pv 5) pa_nil))))
      (pss_one ps_never)
      pss_nil)
      (pss_one (ps_expr (pe_bm PySem.F.plainAttrs_list PySem.F.slot_list_append PySem.F.type_list_append mt_append (pv 2) (pa_cons (pv 5) pa_nil)))))))
      (pss_one (ps_ret (pe_makeL (i := 0) W.iM (ok_winit W) hr (by rfl) (.inl rfl) W.iB .nil pass0 (pa_cons (pv 2) pa_nil)))))), ?_⟩
    simp only [and_assoc, tSeq, tAsg, tOp, tUn, rI, rI0, rU, tVar, tC, gName, L2.start, tIfS, tTest, tB, tCB, tCons, tNil, tIf, tRet, tRetN, tLst, tTup, tNext, tDrop, tNot, tNotV, tAnd, tOr, tAndV, tOrV, tPar, tAug, ipI, rEq, rNe, gSub, rSetL, rIxL, rIxT, tBM, tBM0, rAppend, rPopAt, gTup, gCons, gNil, tCall, tSl, tPart, tNoPart, rSlL, rCat, rEqD, rNeD, rIn, scal, List.map_cons, List.map_nil, List.length_cons, List.length_nil, List.length_map, List.cons_append, List.nil_append, List.append_nil, List.replicate, List.getElem?_cons_zero, List.getElem?_cons_succ, List.set_cons_zero, List.set_cons_succ, Option.some.injEq, exists_eq_left', exists_eq_left, exists_eq_right, exists_and_left, exists_and_right, V.int.injEq, V.ref.injEq, V.str.injEq, V.bl.injEq, reduceCtorEq, false_and, and_false, exists_false, or_false, false_or, true_and, and_true, List.cons.injEq, decide_eq_true_eq, cxOf, if_true, if_false, Bool.false_eq_true, Nat.reduceAdd, Nat.reduceSub, Nat.zero_add, Nat.add_sub_cancel_left, Nat.add_sub_cancel, Nat.sub_self, sFld, tFld, tFor_eq, tLc_eq, iRng1, iRng2, iList, iTup, iEnum, rIsi, rIsiT, iSeq, tM0, tM1, tFmt, tJs, rJoin, rNewStrs, tMakeL, tMake, tNever, spReadShare, spIs, spWInit]
    have big : 16777216 ≤ sizeLine := by decide
    have hzl := hz.zl
    have hl := hw.l
    refine ⟨by decide, fun f nf => ⟨⟨_, rfl⟩, by decide +kernel, by omega, fun p np => ⟨⟨_, sqL_of upd_same⟩, ?_⟩⟩⟩
    have s0 : Same H (upd H f (.lst [])) := same_upd nf
    have fp : f ≠ p := fun z => by rw [← z, upd_same] at np; cases np
    refine fg_enum (xs := (Txt.split z (Str.ofString " | ")).map V.str) (fun i σ H2 => ∃ (a b c : Option V) (vs : List V), σ = [some (.ref W.t.cWill), some (.str z), some (.ref f), a, b, c] ∧ Same H H2 ∧ H2 f = some (.lst vs) ∧ vs.length = i ∧ H2 p = some (.lst ((Txt.split z (Str.ofString " | ")).map V.str)) ∧ ∀ (j : Nat) (v : V), vs[j]? = some v → ∃ s, shs[j]? = some s ∧ Av K (hide f (news H H2)) v (adSh s))
      ⟨none, none, none, [], rfl, s0.trans (same_upd np), by rw [upd_ne fp, upd_same], rfl, upd_same, fun _ _ e => nomatch e⟩ (fun i σ H2 _ ⟨_, _, _, _, _, _, _, _, e, _⟩ => sqL_of e) ?_ ?_
    · rintro i x T σ H2 hx ⟨a, b, c, vs, rfl, s2, ef, hvl, ep, hv⟩ nT
      rw [List.getElem?_map] at hx
      obtain ⟨x, ex, rfl⟩ := Option.map_eq_some_iff.mp hx
      have hi := (List.getElem?_eq_some_iff.mp ex).1
      obtain ⟨sh, esh⟩ : ∃ sh, shs[i]? = some sh := ⟨_, List.getElem?_eq_getElem (by rw [← hz.l]; exact hi)⟩
      have hp := hz.p i x sh ex esh
      have hsm := List.mem_of_getElem? esh
      simp only [and_assoc, tSeq, tAsg, tOp, tUn, rI, rI0, rU, tVar, tC, gName, L2.start, tIfS, tTest, tB, tCB, tCons, tNil, tIf, tRet, tRetN, tLst, tTup, tNext, tDrop, tNot, tNotV, tAnd, tOr, tAndV, tOrV, tPar, tAug, ipI, rEq, rNe, gSub, rSetL, rIxL, rIxT, tBM, tBM0, rAppend, rPopAt, gTup, gCons, gNil, tCall, tSl, tPart, tNoPart, rSlL, rCat, rEqD, rNeD, rIn, scal, List.map_cons, List.map_nil, List.length_cons, List.length_nil, List.length_map, List.cons_append, List.nil_append, List.append_nil, List.replicate, List.getElem?_cons_zero, List.getElem?_cons_succ, List.set_cons_zero, List.set_cons_succ, Option.some.injEq, exists_eq_left', exists_eq_left, exists_eq_right, exists_and_left, exists_and_right, V.int.injEq, V.ref.injEq, V.str.injEq, V.bl.injEq, reduceCtorEq, false_and, and_false, exists_false, or_false, false_or, true_and, and_true, List.cons.injEq, decide_eq_true_eq, cxOf, if_true, if_false, Bool.false_eq_true, Nat.reduceAdd, Nat.reduceSub, Nat.zero_add, Nat.add_sub_cancel_left, Nat.add_sub_cancel, Nat.sub_self, sFld, tFld, tFor_eq, tLc_eq, iRng1, iRng2, iList, iTup, iEnum, rIsi, rIsiT, iSeq, tM0, tM1, tFmt, tJs, rJoin, rNewStrs, tMakeL, tMake, tNever, spReadShare, spIs, spWInit]
      refine ⟨_, sqT_of upd_same, rfl, _, _, rfl, _, _, rfl, rfl, x, rfl, hp.l, hp.g, fun r H3 s3 hr3 => ?_⟩
      have s23 := (same_upd (o := .tup [.int (i : Nat), .str x]) nT).trans s3
      have ef2 : upd H2 T (.tup [.int (i : Nat), .str x]) f = some (.lst vs) := same_upd nT _ _ ef
      rw [hp.r] at hr3
      refine ⟨_, av_mono news_le _ _ hr3, adok_sh hw hsm, fun H4 s4 => ?_⟩
      rw [sh_ad (hw.ok sh hsm).1]
      simp only [and_assoc, tSeq, tAsg, tOp, tUn, rI, rI0, rU, tVar, tC, gName, L2.start, tIfS, tTest, tB, tCB, tCons, tNil, tIf, tRet, tRetN, tLst, tTup, tNext, tDrop, tNot, tNotV, tAnd, tOr, tAndV, tOrV, tPar, tAug, ipI, rEq, rNe, gSub, rSetL, rIxL, rIxT, tBM, tBM0, rAppend, rPopAt, gTup, gCons, gNil, tCall, tSl, tPart, tNoPart, rSlL, rCat, rEqD, rNeD, rIn, scal, List.map_cons, List.map_nil, List.length_cons, List.length_nil, List.length_map, List.cons_append, List.nil_append, List.append_nil, List.replicate, List.getElem?_cons_zero, List.getElem?_cons_succ, List.set_cons_zero, List.set_cons_succ, Option.some.injEq, exists_eq_left', exists_eq_left, exists_eq_right, exists_and_left, exists_and_right, V.int.injEq, V.ref.injEq, V.str.injEq, V.bl.injEq, reduceCtorEq, false_and, and_false, exists_false, or_false, false_or, true_and, and_true, List.cons.injEq, decide_eq_true_eq, cxOf, if_true, if_false, Bool.false_eq_true, Nat.reduceAdd, Nat.reduceSub, Nat.zero_add, Nat.add_sub_cancel_left, Nat.add_sub_cancel, Nat.sub_self, sFld, tFld, tFor_eq, tLc_eq, iRng1, iRng2, iList, iTup, iEnum, rIsi, rIsiT, iSeq, tM0, tM1, tFmt, tJs, rJoin, rNewStrs, tMakeL, tMake, tNever, Bool.not_true]
      have s24 := s23.trans s4
      have ef4 := s24 _ _ ef
      have hzl2 := hz.l
      refine ⟨.inl ⟨rfl, _, sqL_of ef4⟩, vs, ef4, small1000 (by omega), fun b o e => by rw [upd_ne (ne_of_none e nf)]; exact (s2.trans s24) b o e, vs ++ [.ref r], upd_same, by rw [List.length_append, hvl]; rfl, by rw [upd_ne (Ne.symm fp)]; exact s24 _ _ ep, fun j v e => ?_⟩
      by_cases hj : j < vs.length
      · rw [List.getElem?_append_left hj] at e
        obtain ⟨s, es, hs⟩ := hv j v e
        exact ⟨s, es, av_mono news_mut _ _ (av_mono (hide_same (news_mono s24)) _ _ hs)⟩
      · rw [List.getElem?_append_right (by omega)] at e
        have hj0 : j - vs.length = 0 := by
          rcases Nat.eq_zero_or_pos (j - vs.length) with h | h
          · exact h
          · rw [List.getElem?_eq_none (by simp; omega)] at e
            cases e
        rw [hj0] at e
        obtain rfl : V.ref r = v := Option.some.inj e
        have hji : j = i := by omega
        refine ⟨sh, by rw [hji]; exact esh, av_mono news_mut _ _ (av_mono (hide_same (news_mono s4)) _ _ (av_mono (news_sub (s2.trans (same_upd nT)) ?_) _ _ hr3))⟩
        rw [ef2]
        exact fun z => nomatch z
    · rintro σ H2 ⟨a, b, c, vs, rfl, s2, ef, hvl, ep, hv⟩
      simp only [and_assoc, tSeq, tAsg, tOp, tUn, rI, rI0, rU, tVar, tC, gName, L2.start, tIfS, tTest, tB, tCB, tCons, tNil, tIf, tRet, tRetN, tLst, tTup, tNext, tDrop, tNot, tNotV, tAnd, tOr, tAndV, tOrV, tPar, tAug, ipI, rEq, rNe, gSub, rSetL, rIxL, rIxT, tBM, tBM0, rAppend, rPopAt, gTup, gCons, gNil, tCall, tSl, tPart, tNoPart, rSlL, rCat, rEqD, rNeD, rIn, scal, List.map_cons, List.map_nil, List.length_cons, List.length_nil, List.length_map, List.cons_append, List.nil_append, List.append_nil, List.replicate, List.getElem?_cons_zero, List.getElem?_cons_succ, List.set_cons_zero, List.set_cons_succ, Option.some.injEq, exists_eq_left', exists_eq_left, exists_eq_right, exists_and_left, exists_and_right, V.int.injEq, V.ref.injEq, V.str.injEq, V.bl.injEq, reduceCtorEq, false_and, and_false, exists_false, or_false, false_or, true_and, and_true, List.cons.injEq, decide_eq_true_eq, cxOf, if_true, if_false, Bool.false_eq_true, Nat.reduceAdd, Nat.reduceSub, Nat.zero_add, Nat.add_sub_cancel_left, Nat.add_sub_cancel, Nat.sub_self, sFld, tFld, tFor_eq, tLc_eq, iRng1, iRng2, iList, iTup, iEnum, rIsi, rIsiT, iSeq, tM0, tM1, tFmt, tJs, rJoin, rNewStrs, tMakeL, tMake, tNever, spReadShare, spIs, spWInit]
      intro x dx nx ndx hne
      have sH : Same H2 (upd (upd H2 dx (.own x)) x (.ins W.t.cWill dx [])) := (same_upd ndx).trans (same_upd (by rw [upd_ne (Ne.symm hne)]; exact nx))
      rw [List.length_map] at hvl
      refine ⟨dx, upd_same, shs, .lst (sqL_of (sH _ _ ef)) (avA_list (by rw [List.length_map, hvl, hz.l]) fun i y e => ?_), hw, fun t H' k e d => q x H' (fun b o eb => k b o (ne_of_none eb (s2.free nx)) (sH _ _ (s2 _ _ eb))) (s2.free nx) ⟨dx, t, by rw [news_at (s2.free nx)]; exact e, dp_mono (news_up (s2.trans sH)) _ _ d⟩⟩
      obtain ⟨s, es, hs⟩ := hv i y e
      exact ⟨adSh s, by rw [List.getElem?_map, es]; rfl, av_mono ((hide_le.trans news_le).trans sH) _ _ hs⟩

end
end He

namespace He
open PySem PySem.Spec PyProof.Rows L2
section
variable {P : Program} {w : World} {K : PySem.W.Frag} {mg : Str → Option Value} {base : Heap}

open TL PySem.StrLaws
theorem rd_name {x : Str} (h : nameB x = true) {c : Nat} (hc : c ∈ tl x) : 97 ≤ c ∧ c ≤ 122 := by
  unfold nameB at h
  simp only [Bool.and_eq_true, decide_eq_true_eq] at h
  have h1 := h.1.2
  have h2 : x.cps.toList.all (fun c => decide (97 ≤ c) && decide (c ≤ 122)) = true := by rw [Array.all_toList]; exact h1
  have := List.all_eq_true.mp h2 c hc
  simp only [Bool.and_eq_true, decide_eq_true_eq] at this
  exact this
theorem joinL_mem {S : List Nat} {c : Nat} : ∀ {ps : List (List Nat)}, c ∈ joinL S ps → c ∈ S ∨ ∃ p ∈ ps, c ∈ p
  | [], h => by cases h
  | [p], h => .inr ⟨p, List.mem_singleton.mpr rfl, h⟩
  | p :: q :: r, h => by
    have h' : c ∈ p ++ (S ++ joinL S (q :: r)) := h
    rcases List.mem_append.mp h' with h | h
    · exact .inr ⟨p, List.mem_cons_self, h⟩
    · rcases List.mem_append.mp h with h | h
      · exact .inl h
      · rcases joinL_mem h with h | ⟨z, hz, h⟩
        · exact .inl h
        · exact .inr ⟨z, List.mem_cons_of_mem _ hz, h⟩
theorem join_mem {y : Str} {ps : List Str} {c : Nat} (h : c ∈ tl (Txt.join y ps)) : c ∈ tl y ∨ ∃ p ∈ ps, c ∈ tl p := by
  rw [join_eq, tl_join] at h
  rcases joinL_mem h with h | ⟨p, hp, h⟩
  · exact .inl h
  · obtain ⟨z, hz, rfl⟩ := List.mem_map.mp hp
    exact .inr ⟨z, hz, h⟩
theorem rd_grp {g : List Str} (h : ∀ n ∈ g, nameB n = true) {c : Nat} (hc : c ∈ tl (grpT g)) : c = 43 ∨ 97 ≤ c ∧ c ≤ 122 := by
  rcases join_mem hc with h1 | ⟨p, hp, h1⟩
  · rw [show tl ("+" : Str) = [43] by decide +kernel] at h1
    exact .inl (List.mem_singleton.mp h1)
  · exact .inr (rd_name (h p hp) h1)
theorem split_grp {g : List Str} (hne : g ≠ []) (h : ∀ n ∈ g, nameB n = true) : Txt.split (grpT g) "+" = g :=
  split_join (s := 43) (S := []) (by decide +kernel) (by decide +kernel) hne fun p hp z => by
    have := rd_name (h p hp) z
    omega
theorem split_told {gs : List (List Str)} (hne : gs ≠ []) (h : ∀ g ∈ gs, ∀ n ∈ g, nameB n = true) : Txt.split (Txt.join " > " (gs.map grpT)) " > " = gs.map grpT :=
  split_join (s := 32) (S := [62, 32]) (by decide +kernel) (by decide +kernel) (fun z => hne (List.map_eq_nil_iff.mp z)) fun p hp z => by
    obtain ⟨g, hg, rfl⟩ := List.mem_map.mp hp
    have := rd_grp (h g hg) z
    omega
theorem groups_back {gs : List (List Str)} (hne : gs ≠ []) (h : ∀ g ∈ gs, GrpOk g) : rsGroups (Txt.join " > " (gs.map grpT)) = gs.map adGrp := by
  unfold rsGroups
  rw [split_told hne fun g hg => (h g hg).nm, List.map_map]
  refine List.map_congr_left fun g hg => ?_
  show AD.lst ((Txt.split (grpT g) "+").map AD.str) = _
  rw [split_grp (h g hg).ne (h g hg).nm]
  rfl
theorem num_head : ∀ n : Nat, 1 ≤ n → ∃ c r, numL n = c :: r ∧ c ≠ 48 := fun n => by
  induction n using Nat.strongRecOn with
  | _ n ih =>
    intro hn
    by_cases h : n < 10
    · rw [numL_lt h]
      exact ⟨48 + n, [], rfl, by omega⟩
    · obtain ⟨c, r, e, hc⟩ := ih (n / 10) (by omega) (by omega)
      rw [numL_step (by omega), e]
      exact ⟨c, r ++ [48 + n % 10], rfl, hc⟩
def numS (n : Nat) : Str := Str.ofString (toString ((n : Nat) : Int))
theorem numS_tl (n : Nat) : tl (numS n) = numL n := tl_num n
theorem num_all {n : Nat} {f : Nat → Bool} (h : ∀ c, 48 ≤ c ∧ c ≤ 57 → f c = true) : (numS n).cps.all f = true := by
  rw [← Array.all_toList]
  refine List.all_eq_true.mpr fun c hc => h c ?_
  have hc' : c ∈ tl (numS n) := hc
  rw [numS_tl] at hc'
  exact numL_digits n c hc'
theorem num_len {n : Nat} (h : n ≤ 999999) : (numS n).length ≤ 6 := by
  rw [len_tl, numS_tl]
  exact numL_len (by decide) (by omega)
theorem num_read {n : Nat} (h0 : 1 ≤ n) (h : n ≤ 999999) : readNum (numS n) 6 = some (n : Int) := by
  have hl := num_len h
  obtain ⟨c, r, e, hc⟩ := num_head n h0
  have h1 : Txt.isascii (numS n) = true := by
    unfold Txt.isascii
    exact num_all fun c hc => decide_eq_true (by omega)
  have h2 : Txt.isdigit (numS n) = true := by
    unfold Txt.isdigit
    have : (numS n).length > 0 := by
      rw [len_tl, numS_tl, e]
      exact Nat.succ_pos _
    rw [decide_eq_true this]
    refine num_all fun c hc => ?_
    rw [at_tab tab_digit (by omega)]
    simp
    omega
  have h3 : Txt.startswith (numS n) "0" = false := by
    cases hs : Txt.startswith (numS n) "0" with
    | false => rfl
    | true =>
      have a : At (numS n) "0" (numS n).length 0 := by
        unfold Txt.startswith at hs
        simp only [Bool.and_eq_true, decide_eq_true_eq] at hs
        exact hs
      have b := (at_iff (by decide +kernel) 0).mp a
      rw [List.drop_zero, numS_tl, e, show tl ("0" : Str) = [48] by decide +kernel, pre_of_head _ _ hc] at b
      cases b
  unfold readNum
  rw [decide_eq_false (by omega), h1, h2, h3]
  simp only [Bool.false_or, Bool.not_true, Bool.and_false, if_false, Bool.false_eq_true]
  exact int_num (by rw [← numS_tl, ← len_tl]; omega)
theorem num_free {n s : Nat} (h : s < 48 ∨ 57 < s) : s ∉ tl (numS n) := by
  rw [numS_tl]
  exact numL_free h
theorem part_num {n : Nat} : Txt.partition (numS n) " " = (numS n, Str.empty, Str.empty) := TL.partition_none (s := 32) (S := []) (by decide +kernel) (num_free (.inl (by decide)))
theorem part_told {n : Nat} {t : Str} : Txt.partition (numS n ++ (" " : Str) ++ t) " " = (numS n, (" " : Str), t) := TL.partition_app (s := 32) (S := []) (by decide +kernel) (num_free (.inl (by decide)))
theorem empty_app (x : Str) : Str.empty ++ x = x := ext_tl (by rw [tl_append]; rfl)
theorem shareT_nil {s : Sh} {n : Nat} (hn : s.1 = n) (h : s.2 = []) : shareT s = numS n := by
  unfold shareT
  rw [if_pos h, hn]
  rfl
theorem shareT_cons {s : Sh} {n : Nat} (hn : s.1 = n) (h : s.2 ≠ []) : shareT s = numS n ++ (" " : Str) ++ Txt.join " > " (s.2.map grpT) := by
  unfold shareT
  rw [if_neg h, hn, empty_app]
  rfl
theorem rsA_share {s : Sh} (h : ShOk s) (hw : s.1 ≤ 999999) : rsA (shareT s) = adSh s := by
  obtain ⟨n, hn⟩ : ∃ n : Nat, s.1 = n := ⟨s.1.toNat, by have := h.w1; omega⟩
  have h1 := h.w1
  unfold rsA adSh
  by_cases h0 : s.2 = []
  · rw [shareT_nil hn h0, part_num, h0]
    show AD.tup [optA (readNum (numS n) 6), .lst (if (Str.empty).length = 0 then [] else _)] = _
    rw [num_read (by omega) (by omega), if_pos (by decide +kernel), hn]
    rfl
  · rw [shareT_cons hn h0, part_told]
    show AD.tup [optA (readNum (numS n) 6), .lst (if (" " : Str).length = 0 then [] else _)] = _
    rw [num_read (by omega) (by omega), if_neg (by decide +kernel), hn, groups_back h0 h.gs]
    rfl
theorem grp_len2 {g : List Str} (h : GrpOk g) (hl : g.length ≤ 40) : (grpT g).length ≤ 240 := grpT_len h.nm hl
theorem shareT_len2 {s : Sh} (ho : ShOk s) (hl : s.2.length ≤ 40) (hg : ∀ g ∈ s.2, g.length ≤ 40) (hw : s.1 ≤ 999999999) : (shareT s).length ≤ 10000 := by
  obtain ⟨wl, _⟩ := w_len ho.w1 hw
  unfold shareT
  split
  · show (Str.ofString (toString s.1)).length ≤ 10000
    omega
  · have hts := told_sum (gs := s.2) (fun g hgm => ⟨(ho.gs g hgm).nm, hg g hgm⟩) hl
    have htl := join_len " > " (s.2.map grpT)
    have hsp : (Str.ofString " ").length = 1 := by decide +kernel
    have hem : Str.empty.length = 0 := by decide +kernel
    rw [app_len, app_len, app_len, hem, hsp]
    show 0 + (Str.ofString (toString s.1)).length + 1 + _ ≤ _
    omega
theorem part_ok {s : Sh} (h : ShOk s) (hl : s.2.length ≤ 40) (hg : ∀ g ∈ s.2, g.length ≤ 40) (hw : s.1 ≤ 999999) : PartOk (shareT s) s := by
  refine ⟨rsA_share h hw, Nat.le_trans (shareT_len2 h hl hg (by omega)) (by decide), fun g hgm => ?_⟩
  obtain ⟨n, hn⟩ : ∃ n : Nat, s.1 = n := ⟨s.1.toNat, by have := h.w1; omega⟩
  by_cases h0 : s.2 = []
  · rw [shareT_nil hn h0, part_num, show Txt.split Str.empty (" > " : Str) = [Str.empty] by decide +kernel] at hgm
    rw [List.mem_singleton.mp hgm]
    decide +kernel
  · rw [shareT_cons hn h0, part_told, split_told h0 fun g hg => (h.gs g hg).nm] at hgm
    obtain ⟨g, hg2, rfl⟩ := List.mem_map.mp hgm
    exact Nat.le_trans (grp_len2 (h.gs g hg2) (hg g hg2)) (by decide)
/-! ### cut at " | " -/
theorem spl_bar {p rest : List Nat} (h : 124 ∉ p) : ∀ i, i < p.length → pre [32, 124, 32] ((p ++ ([32, 124, 32] ++ rest)).drop i) = false := fun i hi => by
  have hlt : i < (p ++ ([32, 124, 32] ++ rest)).length := by rw [List.length_append]; omega
  have hlt2 : i + 1 < (p ++ ([32, 124, 32] ++ rest)).length := by rw [List.length_append, List.length_append]; show i + 1 < p.length + (3 + rest.length); omega
  rw [List.drop_eq_getElem_cons hlt, List.drop_eq_getElem_cons hlt2]
  have hne : (p ++ ([32, 124, 32] ++ rest))[i + 1] ≠ 124 := by
    by_cases h1 : i + 1 < p.length
    · rw [List.getElem_append_left h1]
      exact fun z => h (by rw [← z]; exact List.getElem_mem h1)
    · rw [List.getElem_append_right (by omega)]
      have : i + 1 - p.length = 0 := by omega
      simp only [this]
      show (32 : Nat) ≠ 124
      decide
  unfold pre
  rw [beq_eq_false_iff_ne]
  intro z
  simp only [List.length_cons, List.length_nil, Nat.reduceAdd, List.take_succ_cons, List.cons.injEq] at z
  exact hne z.2.1
theorem spl_bar0 {p : List Nat} (h : 124 ∉ p) : ∀ i, i < p.length → pre [32, 124, 32] (p.drop i) = false := fun i hi => by
  unfold pre
  rw [beq_eq_false_iff_ne]
  intro z
  have hm : 124 ∈ (p.drop i).take 3 := by
    rw [show ([32, 124, 32] : List Nat).length = 3 from rfl] at z
    rw [z]
    decide
  exact h (List.mem_of_mem_drop (List.mem_of_mem_take hm))
theorem spl_joinB : ∀ {parts : List (List Nat)}, parts ≠ [] → (∀ p ∈ parts, 124 ∉ p) → spl [32, 124, 32] 0 [] (joinL [32, 124, 32] parts) = parts
  | [], h, _ => absurd rfl h
  | [p], _, hp => by
    show spl [32, 124, 32] 0 [] p = [p]
    rw [spl_last (spl_bar0 (hp p (List.mem_singleton.mpr rfl))), List.nil_append]
  | p :: q :: r, _, hp => by
    show spl [32, 124, 32] 0 [] (p ++ ([32, 124, 32] ++ joinL [32, 124, 32] (q :: r))) = p :: q :: r
    rw [spl_part (by simp) (spl_bar (hp p (List.mem_cons_self ..))), List.nil_append, spl_joinB (by simp) fun z hz => hp z (List.mem_cons_of_mem _ hz)]
theorem rd_share {s : Sh} (h : ShOk s) {c : Nat} (hc : c ∈ tl (shareT s)) : c ≠ 124 := by
  obtain ⟨n, hn⟩ : ∃ n : Nat, s.1 = n := ⟨s.1.toNat, by have := h.w1; omega⟩
  have num : ∀ {c : Nat}, c ∈ tl (numS n) → c ≠ 124 := fun hc z => num_free (n := n) (s := 124) (.inr (by decide)) (by rw [← z]; exact hc)
  by_cases h0 : s.2 = []
  · rw [shareT_nil hn h0] at hc
    exact num hc
  · rw [shareT_cons hn h0, tl_append, tl_append] at hc
    rcases List.mem_append.mp hc with hc | hc
    · rcases List.mem_append.mp hc with hc | hc
      · exact num hc
      · rw [show tl (" " : Str) = [32] by decide +kernel] at hc
        rw [List.mem_singleton.mp hc]
        decide
    · rcases join_mem hc with hc | ⟨p, hp, hc⟩
      · rw [show tl (" > " : Str) = [32, 62, 32] by decide +kernel] at hc
        intro z
        subst z
        revert hc
        decide
      · obtain ⟨g, hg, rfl⟩ := List.mem_map.mp hp
        have := rd_grp (h.gs g hg).nm hc
        omega
theorem split_will {shs : List Sh} (hne : shs ≠ []) (h : ∀ s ∈ shs, ShOk s) : Txt.split (willT shs) " | " = shs.map shareT := by
  refine map_tl_inj ?_
  unfold willT
  rw [split_spl _ (" | " : Str) (by decide +kernel) (kind_ok (by decide +kernel)), join_eq, tl_join, show tl (" | " : Str) = [32, 124, 32] by decide +kernel]
  refine spl_joinB (fun e => hne (List.map_eq_nil_iff.mp (List.map_eq_nil_iff.mp e))) fun p hp z => ?_
  obtain ⟨x, hx, rfl⟩ := List.mem_map.mp hp
  obtain ⟨s, hs, rfl⟩ := List.mem_map.mp hx
  exact rd_share (h s hs) z rfl
theorem reads_will {shs : List Sh} (h : WOk shs) (hw : ∀ s ∈ shs, s.1 ≤ 999999) : Reads (willT shs) shs := by
  have e := split_will h.ne fun s hs => (h.ok s hs).1
  refine ⟨?_, by rw [e, List.length_map], fun i x s hx hs => ?_⟩
  · have h1 := sum_le (B := 10000) (ys := shs.map shareT) fun y hy => by
      obtain ⟨s, hs, rfl⟩ := List.mem_map.mp hy
      obtain ⟨h1, h2, h3⟩ := h.ok s hs
      exact shareT_len2 h1 h2 h3 (h.w s hs)
    have h2 := join_len " | " (shs.map shareT)
    have h3 : (" | " : Str).length = 3 := by decide +kernel
    have h4 := h.l
    rw [h3] at h2
    rw [List.length_map] at h1 h2
    unfold willT
    omega
  · rw [e, List.getElem?_map, hs] at hx
    obtain rfl := Option.some.inj hx
    have hm := List.mem_of_getElem? hs
    obtain ⟨h1, h2, h3⟩ := h.ok s hm
    exact part_ok h1 h2 h3 (hw s hm)
/-! ### groups in another order -/
def Like (a b : List Sh) : Prop := a.length = b.length ∧ ∀ (i : Nat) (s t : Sh), a[i]? = some s → b[i]? = some t → s.1 = t.1 ∧ s.2.length = t.2.length ∧ ∀ (j : Nat) (g h : List Str), s.2[j]? = some g → t.2[j]? = some h → g.Perm h
theorem ext_map {α β γ : Type} {f : α → γ} {g : β → γ} {xs : List α} {ys : List β} (hl : xs.length = ys.length) (h : ∀ (i : Nat) (x : α) (y : β), xs[i]? = some x → ys[i]? = some y → f x = g y) : xs.map f = ys.map g := by
  refine List.ext_getElem? fun i => ?_
  rw [List.getElem?_map, List.getElem?_map]
  cases e1 : xs[i]? with
  | none =>
    rw [List.getElem?_eq_none (by have := List.getElem?_eq_none_iff.mp e1; omega)]
    rfl
  | some x =>
    have hi := (List.getElem?_eq_some_iff.mp e1).1
    have e2 : ys[i]? = some (ys[i]'(by omega)) := List.getElem?_eq_getElem (by omega)
    rw [e2]
    exact congrArg some (h i _ _ e1 e2)
theorem like_n {a b : List Sh} (h : Like a b) : nWill a = nWill b := by
  refine congrArg PyData.tuple (ext_map h.1 fun i s t e1 e2 => ?_)
  obtain ⟨h1, h2, h3⟩ := h.2 i s t e1 e2
  unfold nSh
  rw [h1]
  refine congrArg (fun z => PyData.tuple [.int t.1, .tuple z]) (ext_map h2 fun j g h e3 e4 => ?_)
  unfold nGrp
  rw [sortG_perm_eq (h3 j g h e3 e4)]
theorem get_some {α β : Type} {xs : List α} {ys : List β} (hl : xs.length = ys.length) {i : Nat} {x : α} (h : xs[i]? = some x) : ∃ y, ys[i]? = some y :=
  ⟨_, List.getElem?_eq_getElem (by have := (List.getElem?_eq_some_iff.mp h).1; omega)⟩
theorem grpOk_perm {g h : List Str} (p : g.Perm h) (o : GrpOk h) : GrpOk g :=
  ⟨fun z => o.ne (by rw [z] at p; exact p.nil_eq.symm), p.nodup_iff.mpr o.nd, fun n hn => o.nm n (p.mem_iff.mp hn)⟩
theorem like_ok {a b : List Sh} (h : Like a b) (o : WOk b) : WOk a := by
  have look : ∀ s ∈ a, ∃ t ∈ b, s.1 = t.1 ∧ s.2.length = t.2.length ∧ ∀ (j : Nat) (g h : List Str), s.2[j]? = some g → t.2[j]? = some h → g.Perm h := fun s hs => by
    obtain ⟨i, hi⟩ := List.mem_iff_getElem?.mp hs
    obtain ⟨t, ht⟩ := get_some h.1 hi
    exact ⟨t, List.mem_of_getElem? ht, h.2 i s t hi ht⟩
  refine ⟨fun z => o.ne (List.length_eq_zero_iff.mp (by rw [← h.1, z]; rfl)), by rw [h.1]; exact o.l, fun s hs => ?_, fun s hs => ?_⟩
  · obtain ⟨t, ht, h1, h2, h3⟩ := look s hs
    obtain ⟨o1, o2, o3⟩ := o.ok t ht
    have gl : ∀ g ∈ s.2, ∃ k ∈ t.2, g.Perm k := fun g hg => by
      obtain ⟨j, hj⟩ := List.mem_iff_getElem?.mp hg
      obtain ⟨k, hk⟩ := get_some h2 hj
      exact ⟨k, List.mem_of_getElem? hk, h3 j g k hj hk⟩
    refine ⟨⟨by rw [h1]; exact o1.w1, fun g hg => ?_⟩, by rw [h2]; exact o2, fun g hg => ?_⟩
    · obtain ⟨k, hk, p⟩ := gl g hg
      exact grpOk_perm p (o1.gs k hk)
    · obtain ⟨k, hk, p⟩ := gl g hg
      rw [p.length_eq]
      exact o3 k hk
  · obtain ⟨t, ht, h1, _⟩ := look s hs
    rw [h1]
    exact o.w t ht
theorem like_w {a b : List Sh} (h : Like a b) (o : ∀ s ∈ b, s.1 ≤ 999999) : ∀ s ∈ a, s.1 ≤ 999999 := fun s hs => by
  obtain ⟨i, hi⟩ := List.mem_iff_getElem?.mp hs
  obtain ⟨t, ht⟩ := get_some h.1 hi
  rw [(h.2 i s t hi ht).1]
  exact o t (List.mem_of_getElem? ht)
theorem like_nrm (a : List Sh) : Like (a.map nrmS) a := by
  refine ⟨List.length_map .., fun i s t e1 e2 => ?_⟩
  rw [List.getElem?_map, e2] at e1
  obtain rfl := Option.some.inj e1
  refine ⟨rfl, List.length_map .., fun j g h e3 e4 => ?_⟩
  have e5 : (t.2.map sortG)[j]? = some g := e3
  rw [List.getElem?_map, e4] at e5
  obtain rfl := Option.some.inj e5
  exact sortG_perm h
theorem like_nrm_eq {a b : List Sh} (h : Like a b) : a.map nrmS = b.map nrmS := by
  refine ext_map h.1 fun i s t e1 e2 => ?_
  obtain ⟨h1, h2, h3⟩ := h.2 i s t e1 e2
  refine Prod.ext h1 (ext_map h2 fun j g k e3 e4 => sortG_perm_eq (h3 j g k e3 e4))

end
end He

namespace He
open PySem PySem.Spec PyProof.Rows L2
section
variable {P : Program} {w : World} {K : PySem.W.Frag} {mg : Str → Option Value} {base : Heap}

def rStrStr : List V → Hp → VK → Prop := fun xs H Q => ∃ a, xs = [.str a] ∧ Q (.str a) H
theorem dp_sh {H : Hp} {x : V} {s : Sh} (h : Dp K H x (dSh s)) : ∃ b c us, x = .ref b ∧ SqT K H b [.int s.1, .ref c] ∧ SqL K H c us ∧ DpAll K H us (s.2.map dGrp) := by
  cases h with
  | @tup b zs _ hb hzs =>
    cases hzs with
    | cons a1 r1 =>
      cases r1 with
      | cons a2 r2 =>
        cases r2
        cases a1
        cases a2 with
        | @lst c us _ hc hus => exact ⟨b, c, us, rfl, hb, hc, hus⟩
theorem share_join {w : Int} {gs : List (List Str)} {rest : List Str} (h : rest = if gs = [] then [] else [Txt.join " > " (gs.map grpT)]) : Txt.join " " ((Str.ofString (toString w)) :: rest) = shareT (w, gs) := by
  subst h
  unfold shareT
  rw [TL.join_eq]
  by_cases h0 : gs = []
  · rw [if_pos h0, if_pos h0]
    rfl
  · rw [if_neg h0, if_neg h0, empty_app]
    rfl
theorem texts_eq {ys : List V} {gs : List (List Str)} (hl : ys.length = gs.length) (h : ∀ (j : Nat) (y : V), ys[j]? = some y → ∃ k, gs[j]? = some k ∧ y = .str (grpT k)) : ys = (gs.map grpT).map V.str := by
  refine List.ext_getElem? fun i => ?_
  rw [List.getElem?_map, List.getElem?_map]
  cases e : ys[i]? with
  | none =>
    rw [List.getElem?_eq_none (by have := List.getElem?_eq_none_iff.mp e; omega)]
    rfl
  | some y =>
    obtain ⟨k, ek, rfl⟩ := h i y e
    rw [ek]
    rfl
theorem will_sum {shs : List Sh} (hw : WOk shs) : ((((shs.map nrmS).map shareT)).map (fun x => x.length)).sum + ((shs.map nrmS).map shareT).length * (Str.ofString " | ").length ≤ 16777216 := by
  have hsum := sum_le (B := 10000) (ys := (shs.map nrmS).map shareT) fun y hy => by
    obtain ⟨s, hs, rfl⟩ := List.mem_map.mp hy
    obtain ⟨s0, hs0, rfl⟩ := List.mem_map.mp hs
    have hok := hw.ok s0 hs0
    exact shareT_len hok.1 hok.2.1 hok.2.2 (hw.w s0 hs0)
  have h3 : (Str.ofString " | ").length = 3 := by decide +kernel
  have hl := hw.l
  rw [List.length_map, List.length_map] at hsum
  rw [h3, List.length_map, List.length_map]
  omega
theorem tail_ok {H5 : Hp} {p1 p3 p : Addr} {num : Str} {rest ts : List Str} {G : Hp → Prop} (h1 : H5 p1 = some (.lst [.str num])) (h3 : H5 p3 = some (.lst (rest.map V.str))) (hp : H5 p = some (.lst (ts.map V.str))) (hts : ts.length ≤ 40) (hr : rest.length ≤ 1) (hn : num.length ≤ 9)
    (hl : ∀ y ∈ rest, y.length ≤ 10000) (hG : ∀ p4, H5 p4 = none → G (upd (upd H5 p4 (.lst (V.str num :: rest.map V.str))) p (.lst ((ts ++ [Txt.join " " (num :: rest)]).map V.str)))) :
    ∃ x_1, H5 p1 = some (HO.lst x_1) ∧ ∃ x_2, H5 p3 = some (HO.lst x_2) ∧ x_1.length + x_2.length ≤ sizeLine ∧ ∀ (p_4 : Addr), H5 p_4 = none → ∃ x_3, Sq K (upd H5 p_4 (.lst (x_1 ++ x_2))) p_4 (List.map V.str x_3) ∧
      (List.map (fun x => x.length) x_3).sum + x_3.length * (Str.ofString " ").length ≤ 16777216 ∧ ∃ x_4, upd H5 p_4 (.lst (x_1 ++ x_2)) p = some (.lst x_4) ∧ x_4.length < sizeLine ∧
        G (upd (upd H5 p_4 (.lst (x_1 ++ x_2))) p (.lst (x_4 ++ [V.str (Txt.join (Str.ofString " ") x_3)]))) := by
  have big : 16777216 ≤ sizeLine := by decide
  have hs := sum_le hl
  have h32 : (Str.ofString " ").length = 1 := by decide +kernel
  refine ⟨_, h1, _, h3, by rw [List.length_map]; show 1 + _ ≤ _; omega, fun p4 n4 => ⟨num :: rest, .inl (sqL_of upd_same), ?_, ts.map V.str, ?_, ?_, ?_⟩⟩
  · rw [List.map_cons, List.sum_cons, List.length_cons, h32]
    have : rest.length * 10000 ≤ 1 * 10000 := Nat.mul_le_mul_right _ hr
    omega
  · rw [upd_ne (fun z => by rw [← z, hp] at n4; cases n4)]
    exact hp
  · rw [List.length_map]; omega
  · have := hG p4 n4
    rw [List.map_append] at this
    exact this
/-- a will as the laws write it -/
def spWText (K : PySem.W.Frag) : Sp := fun vs H Q _ => ∃ (a : Addr) (xs : List V) (shs : List Sh), vs = [.ref a] ∧ SqL K H a xs ∧ DpAll K H xs (shs.map dSh) ∧ WOk shs ∧ ∀ H', Same H H' → Q (.str (willT (shs.map nrmS))) H'
theorem ok_wtext (T : TxtG K mg) : FnOk P w K mg base CX0 1 T.dLawWillText.f T.dLawWillText.fd ["_law_will_here"] (spWText K) := by
  refine T.dLawWillText.F.ok scDLawWillText (fun vs H Q E h => ?_) (fun cdv A outer s H vs Q E hr h => ?_)
  · obtain ⟨a, xs, shs, rfl, _⟩ := h
    rfl
  · obtain ⟨a, xs, shs, rfl, hs, ha, hw, q⟩ := h
    refine ⟨_, (pss_cons (ps_set (i := 1) scDLawWillText.nd rfl (.inl rfl) (pe_lst pa_nil))
      (pss_cons (ps_for PassesOwn.never rfl (pi_list (pv 0)) (pg_tup (n := 2) rfl (pgs_cons (pg_name (i := 2) scDLawWillText.nd rfl (.inl rfl)) (pgs_cons (pg_name (i := 3) scDLawWillText.nd rfl (.inl rfl)) pgs_nil)))
      (pss_cons (ps_setLc (i := 4) (own := [("_law_group_here", 6)]) (g := (gName 6)) (tt := tYes) rfl scDLawWillText.nd rfl rfl (sw_true rfl rfl rfl (by decide +kernel)) (pi_list (pv 3)) (blkOk_by (N := ["_law_will_here", "_law_parts", "_law_weight", "_law_groups", "_law_texts", "_law_name", "_law_group_here"]) (sc := defScope sDLawWillText) (by decide +kernel)) (fun _ _ _ _ _ => (pg_name (i := 6) scDLawWillText.nd rfl (.inl rfl))) (fun _ _ _ _ _ => pts_nil) (fun _ _ _ _ _ => (pe_joinD (K := K) rfl pe_str (pe_callB (show CallR _ (.builtin "sorted") (rSortedS K) from cr_sortedS) (by rfl) T.z_sorted (show bootBuiltins "sorted" = some (.builtin "sorted") by decide +kernel) (pa_cons (pe_lc (own := [("_law_name", 5)]) (g := (gName 5)) (tt := tYes) rfl scDLawWillText.nd (show PI _ _ _ (iList K _) from (pi_list (pv 6))) (blkOk_by (by rfl)) (fun _ _ _ _ _ => (pg_name (i := 5) scDLawWillText.nd rfl (.inl rfl))) (fun _ _ _ _ _ => pts_nil) (fun _ _ _ _ _ => (pe_callTy (show CallR _ (.type "str") rStrStr from SkE.call_str_str) (by rfl) T.z_str (show bootBuiltins "str" = some (.type "str") by decide +kernel) (pa_cons (pv 5) pa_nil)))) pa_nil)))))
      (pss_one (ps_expr (pe_bm PySem.F.plainAttrs_list PySem.F.slot_list_append PySem.F.type_list_append mt_append (pv 1) (pa_cons (pe_joinD (K := K) rfl pe_str (pe_op op_cat (pe_lst (pa_cons (pe_callTy call_str_int (by rfl) T.z_str (show bootBuiltins "str" = some (.type "str") by decide +kernel) (pa_cons (pv 2) pa_nil)) pa_nil)) (pe_ifExp (pt_cmpR (op_neNil hr.units) (pv 4) (pe_lst pa_nil) (nomark _)) (pe_lst (pa_cons (pe_joinD (K := K) rfl pe_str (pv 4)) pa_nil)) (pe_lst pa_nil)))) pa_nil))))))
      (pss_one (ps_ret (pe_joinD (K := K) rfl pe_str (pv 1)))))), ?_⟩
    simp only [and_assoc, tSeq, tAsg, tOp, tUn, rI, rI0, rU, tVar, tC, gName, L2.start, tIfS, tTest, tB, tCB, tCons, tNil, tIf, tRet, tRetN, tLst, tTup, tNext, tDrop, tNot, tNotV, tAnd, tOr, tAndV, tOrV, tPar, tAug, ipI, rEq, rNe, gSub, rSetL, rIxL, rIxT, tBM, tBM0, rAppend, rPopAt, gTup, gCons, gNil, tCall, tSl, tPart, tNoPart, rSlL, rCat, rEqD, rNeD, rIn, scal, List.map_cons, List.map_nil, List.length_cons, List.length_nil, List.length_map, List.cons_append, List.nil_append, List.append_nil, List.replicate, List.getElem?_cons_zero, List.getElem?_cons_succ, List.set_cons_zero, List.set_cons_succ, Option.some.injEq, exists_eq_left', exists_eq_left, exists_eq_right, exists_and_left, exists_and_right, V.int.injEq, V.ref.injEq, V.str.injEq, V.bl.injEq, reduceCtorEq, false_and, and_false, exists_false, or_false, false_or, true_and, and_true, List.cons.injEq, decide_eq_true_eq, cxOf, if_true, if_false, Bool.false_eq_true, Nat.reduceAdd, Nat.reduceSub, Nat.zero_add, Nat.add_sub_cancel_left, Nat.add_sub_cancel, Nat.sub_self, sFld, tFld, tFor_eq, tLc_eq, iRng1, iRng2, iList, iTup, iEnum, rIsi, rIsiT, iSeq, tM0, tM1, tFmt, tJs, rJoin, rNewStrs, tMakeL, tMake, tNever, rNeNil, rStrStr]
    have big : 16777216 ≤ sizeLine := by decide
    have hxl : xs.length = shs.length := by rw [dpA_len ha, List.length_map]
    have hwl := hw.l
    refine ⟨by decide, fun p np => ⟨⟨_, (same_upd np).seq hs⟩, ?_⟩⟩
    refine fg_list (xs := xs) (fun i σ H2 => ∃ (o2 o3 o4 o5 o6 : Option V), σ = [some (.ref a), some (.ref p), o2, o3, o4, o5, o6] ∧ Same H H2 ∧ H2 p = some (.lst (((shs.map nrmS).map shareT).take i |>.map V.str)))
      ⟨none, none, none, none, none, rfl, same_upd np, upd_same⟩ (fun i σ H2 _ ⟨_, _, _, _, _, _, s2, _⟩ => s2.seq hs) ?_ ?_
    · rintro i x σ H2 hx ⟨o2, o3, o4, o5, o6, rfl, s2, ep⟩
      obtain ⟨d, ed, hx2⟩ := dpA_get (dpA_mono s2 _ _ ha) hx
      rw [List.getElem?_map] at ed
      obtain ⟨g, eg, rfl⟩ := Option.map_eq_some_iff.mp ed
      have hgm := List.mem_of_getElem? eg
      obtain ⟨ho, hgl, hgg⟩ := hw.ok g hgm
      obtain ⟨b, c, us, rfl, hb, hc, hus⟩ := dp_sh hx2
      have hul : us.length = g.2.length := by rw [dpA_len hus, List.length_map]
      simp only [and_assoc, tSeq, tAsg, tOp, tUn, rI, rI0, rU, tVar, tC, gName, L2.start, tIfS, tTest, tB, tCB, tCons, tNil, tIf, tRet, tRetN, tLst, tTup, tNext, tDrop, tNot, tNotV, tAnd, tOr, tAndV, tOrV, tPar, tAug, ipI, rEq, rNe, gSub, rSetL, rIxL, rIxT, tBM, tBM0, rAppend, rPopAt, gTup, gCons, gNil, tCall, tSl, tPart, tNoPart, rSlL, rCat, rEqD, rNeD, rIn, scal, List.map_cons, List.map_nil, List.length_cons, List.length_nil, List.length_map, List.cons_append, List.nil_append, List.append_nil, List.replicate, List.getElem?_cons_zero, List.getElem?_cons_succ, List.set_cons_zero, List.set_cons_succ, Option.some.injEq, exists_eq_left', exists_eq_left, exists_eq_right, exists_and_left, exists_and_right, V.int.injEq, V.ref.injEq, V.str.injEq, V.bl.injEq, reduceCtorEq, false_and, and_false, exists_false, or_false, false_or, true_and, and_true, List.cons.injEq, decide_eq_true_eq, cxOf, if_true, if_false, Bool.false_eq_true, Nat.reduceAdd, Nat.reduceSub, Nat.zero_add, Nat.add_sub_cancel_left, Nat.add_sub_cancel, Nat.sub_self, sFld, tFld, tFor_eq, tLc_eq, iRng1, iRng2, iList, iTup, iEnum, rIsi, rIsiT, iSeq, tM0, tM1, tFmt, tJs, rJoin, rNewStrs, tMakeL, tMake, tNever, rNeNil, rStrStr]
      refine ⟨_, hb, rfl, _, _, rfl, _, _, rfl, rfl, c, rfl, ⟨_, hc⟩, fun D nD => ?_⟩
      have Dp' : D ≠ p := fun z => by rw [z, ep] at nD; cases nD
      refine lg_pure (fun i y _ => ∃ k, g.2[i]? = some k ∧ y = .str (grpT (sortG k))) (.inl ⟨rfl, hc⟩) (small1000 (by omega)) nD (fun _ _ _ _ _ h => h) (fun j x2 H3 Φ hx s3 hD hΦ => ?_) (fun ys H3 s3 eD hl2 hY => ?_)
      · simp only [and_assoc, tSeq, tAsg, tOp, tUn, rI, rI0, rU, tVar, tC, gName, L2.start, tIfS, tTest, tB, tCB, tCons, tNil, tIf, tRet, tRetN, tLst, tTup, tNext, tDrop, tNot, tNotV, tAnd, tOr, tAndV, tOrV, tPar, tAug, ipI, rEq, rNe, gSub, rSetL, rIxL, rIxT, tBM, tBM0, rAppend, rPopAt, gTup, gCons, gNil, tCall, tSl, tPart, tNoPart, rSlL, rCat, rEqD, rNeD, rIn, scal, List.map_cons, List.map_nil, List.length_cons, List.length_nil, List.length_map, List.cons_append, List.nil_append, List.append_nil, List.replicate, List.getElem?_cons_zero, List.getElem?_cons_succ, List.set_cons_zero, List.set_cons_succ, Option.some.injEq, exists_eq_left', exists_eq_left, exists_eq_right, exists_and_left, exists_and_right, V.int.injEq, V.ref.injEq, V.str.injEq, V.bl.injEq, reduceCtorEq, false_and, and_false, exists_false, or_false, false_or, true_and, and_true, List.cons.injEq, decide_eq_true_eq, cxOf, if_true, if_false, Bool.false_eq_true, Nat.reduceAdd, Nat.reduceSub, Nat.zero_add, Nat.add_sub_cancel_left, Nat.add_sub_cancel, Nat.sub_self, sFld, tFld, tFor_eq, tLc_eq, iRng1, iRng2, iList, iTup, iEnum, rIsi, rIsiT, iSeq, tM0, tM1, tFmt, tJs, rJoin, rNewStrs, tMakeL, tMake, tNever, rNeNil, wipe]
        obtain ⟨d, ed, hx3⟩ := dpA_get (dpA_mono s3 _ _ hus) hx
        rw [List.getElem?_map] at ed
        obtain ⟨k, ek, rfl⟩ := Option.map_eq_some_iff.mp ed
        have hkm := List.mem_of_getElem? ek
        cases hx3 with
        | @lst e zs _ he hzs =>
          have ez := dpA_strs_inv hzs
          subst ez
          refine ⟨⟨_, rfl⟩, e, rfl, ⟨_, he⟩, fun D2 nD2 => ?_⟩
          have hkl := hgg k hkm
          refine lg_pure (fun i y _ => ∃ n, k[i]? = some n ∧ y = .str n) (.inl ⟨rfl, he⟩) (by rw [List.length_map]; omega) nD2 (fun _ _ _ _ _ h => h) (fun j2 x4 H4 Φ2 hx4 s4 hD4 hΦ2 => ?_) (fun ys4 H4 s4 eD4 hl4 hY4 => ?_)
          · simp only [and_assoc, tSeq, tAsg, tOp, tUn, rI, rI0, rU, tVar, tC, gName, L2.start, tIfS, tTest, tB, tCB, tCons, tNil, tIf, tRet, tRetN, tLst, tTup, tNext, tDrop, tNot, tNotV, tAnd, tOr, tAndV, tOrV, tPar, tAug, ipI, rEq, rNe, gSub, rSetL, rIxL, rIxT, tBM, tBM0, rAppend, rPopAt, gTup, gCons, gNil, tCall, tSl, tPart, tNoPart, rSlL, rCat, rEqD, rNeD, rIn, scal, List.map_cons, List.map_nil, List.length_cons, List.length_nil, List.length_map, List.cons_append, List.nil_append, List.append_nil, List.replicate, List.getElem?_cons_zero, List.getElem?_cons_succ, List.set_cons_zero, List.set_cons_succ, Option.some.injEq, exists_eq_left', exists_eq_left, exists_eq_right, exists_and_left, exists_and_right, V.int.injEq, V.ref.injEq, V.str.injEq, V.bl.injEq, reduceCtorEq, false_and, and_false, exists_false, or_false, false_or, true_and, and_true, List.cons.injEq, decide_eq_true_eq, cxOf, if_true, if_false, Bool.false_eq_true, Nat.reduceAdd, Nat.reduceSub, Nat.zero_add, Nat.add_sub_cancel_left, Nat.add_sub_cancel, Nat.sub_self, sFld, tFld, tFor_eq, tLc_eq, iRng1, iRng2, iList, iTup, iEnum, rIsi, rIsiT, iSeq, tM0, tM1, tFmt, tJs, rJoin, rNewStrs, tMakeL, tMake, tNever, rNeNil, wipe, rStrStr]
            rw [List.getElem?_map] at hx4
            obtain ⟨n, en, rfl⟩ := Option.map_eq_some_iff.mp hx4
            exact ⟨n, rfl, hΦ2 _ _ (Same.refl _) ⟨n, en, rfl⟩⟩
          · have ez : ys4 = k.map V.str := by
              refine List.ext_getElem? fun i => ?_
              rw [List.getElem?_map]
              rw [List.length_map] at hl4
              cases e : ys4[i]? with
              | none =>
                rw [List.getElem?_eq_none (by have := List.getElem?_eq_none_iff.mp e; omega)]
                rfl
              | some y =>
                obtain ⟨n, en, rfl⟩ := hY4 i y e
                rw [en]
                rfl
            subst ez
            simp only [and_assoc, tSeq, tAsg, tOp, tUn, rI, rI0, rU, tVar, tC, gName, L2.start, tIfS, tTest, tB, tCB, tCons, tNil, tIf, tRet, tRetN, tLst, tTup, tNext, tDrop, tNot, tNotV, tAnd, tOr, tAndV, tOrV, tPar, tAug, ipI, rEq, rNe, gSub, rSetL, rIxL, rIxT, tBM, tBM0, rAppend, rPopAt, gTup, gCons, gNil, tCall, tSl, tPart, tNoPart, rSlL, rCat, rEqD, rNeD, rIn, scal, List.map_cons, List.map_nil, List.length_cons, List.length_nil, List.length_map, List.cons_append, List.nil_append, List.append_nil, List.replicate, List.getElem?_cons_zero, List.getElem?_cons_succ, List.set_cons_zero, List.set_cons_succ, Option.some.injEq, exists_eq_left', exists_eq_left, exists_eq_right, exists_and_left, exists_and_right, V.int.injEq, V.ref.injEq, V.str.injEq, V.bl.injEq, reduceCtorEq, false_and, and_false, exists_false, or_false, false_or, true_and, and_true, List.cons.injEq, decide_eq_true_eq, cxOf, if_true, if_false, Bool.false_eq_true, Nat.reduceAdd, Nat.reduceSub, Nat.zero_add, Nat.add_sub_cancel_left, Nat.add_sub_cancel, Nat.sub_self, sFld, tFld, tFor_eq, tLc_eq, iRng1, iRng2, iList, iTup, iEnum, rIsi, rIsiT, iSeq, tM0, tM1, tFmt, tJs, rJoin, rNewStrs, tMakeL, tMake, tNever, rNeNil, rSortedS]
            refine ⟨k, sqL_of eD4, by omega, fun ys p pm so np => ?_⟩
            have e := sortG_of pm so
            subst e
            have hsum := grpT_sum (nm_sort (ho.gs k hkm).nm) (by rw [(sortG_perm k).length_eq]; exact hkl)
            exact ⟨sortG k, .inl (sqL_of upd_same), by omega, hΦ _ _ (s4.trans (same_upd np)) ⟨k, ek, rfl⟩⟩
      · simp only [and_assoc, tSeq, tAsg, tOp, tUn, rI, rI0, rU, tVar, tC, gName, L2.start, tIfS, tTest, tB, tCB, tCons, tNil, tIf, tRet, tRetN, tLst, tTup, tNext, tDrop, tNot, tNotV, tAnd, tOr, tAndV, tOrV, tPar, tAug, ipI, rEq, rNe, gSub, rSetL, rIxL, rIxT, tBM, tBM0, rAppend, rPopAt, gTup, gCons, gNil, tCall, tSl, tPart, tNoPart, rSlL, rCat, rEqD, rNeD, rIn, scal, List.map_cons, List.map_nil, List.length_cons, List.length_nil, List.length_map, List.cons_append, List.nil_append, List.append_nil, List.replicate, List.getElem?_cons_zero, List.getElem?_cons_succ, List.set_cons_zero, List.set_cons_succ, Option.some.injEq, exists_eq_left', exists_eq_left, exists_eq_right, exists_and_left, exists_and_right, V.int.injEq, V.ref.injEq, V.str.injEq, V.bl.injEq, reduceCtorEq, false_and, and_false, exists_false, or_false, false_or, true_and, and_true, List.cons.injEq, decide_eq_true_eq, cxOf, if_true, if_false, Bool.false_eq_true, Nat.reduceAdd, Nat.reduceSub, Nat.zero_add, Nat.add_sub_cancel_left, Nat.add_sub_cancel, Nat.sub_self, sFld, tFld, tFor_eq, tLc_eq, iRng1, iRng2, iList, iTup, iEnum, rIsi, rIsiT, iSeq, tM0, tM1, tFmt, tJs, rJoin, rNewStrs, tMakeL, tMake, tNever, rNeNil, rNeNil]
        have ey : ys = ((nrmS g).2.map grpT).map V.str := texts_eq (by rw [hl2]; show us.length = (g.2.map sortG).length; rw [List.length_map]; exact hul) fun j y e => by
          obtain ⟨k, ek, rfl⟩ := hY j y e
          exact ⟨sortG k, by show (g.2.map sortG)[j]? = _; rw [List.getElem?_map, ek]; rfl, rfl⟩
        have ep3 := s3 _ _ ep
        obtain ⟨wl, wd⟩ := w_len ho.w1 (hw.w g hgm)
        refine ⟨.inl ⟨rfl, _, sqL_of ep3⟩, ⟨_, rfl⟩, wd, by decide, fun p1 n1 => ⟨by omega, fun p2 n2 => ?_⟩⟩
        have sA := same_upd (o := .lst [.str (Str.ofString (toString g.1))]) n1
        have e1 : upd H3 p1 (.lst [.str (Str.ofString (toString g.1))]) p1 = _ := upd_same
        generalize upd H3 p1 (.lst [.str (Str.ofString (toString g.1))]) = Ha at sA e1 n2 ⊢
        have sB := same_upd (o := .lst []) n2
        have e2 : upd Ha p2 (.lst []) p2 = _ := upd_same
        generalize upd Ha p2 (.lst []) = Hb at sB e2 ⊢
        have e1b := sB _ _ e1
        have eDb := (sA.trans sB) _ _ eD
        have epb := (sA.trans sB) _ _ ep3
        refine ⟨ys, sqL_of eDb, sqL_of e2, ?_⟩
        have hgo : ∀ k ∈ (nrmS g).2, (∀ n ∈ k, nameB n = true) ∧ k.length ≤ 40 := fun k hk => by
          obtain ⟨k0, hk0, rfl⟩ := List.mem_map.mp hk
          exact ⟨nm_sort (ho.gs k0 hk0).nm, by rw [(sortG_perm k0).length_eq]; exact hgg k0 hk0⟩
        have hgn : (nrmS g).2.length ≤ 40 := by show (g.2.map sortG).length ≤ 40; rw [List.length_map]; exact hgl
        have pne : ∀ {q : Addr} {H' : Hp}, Same H2 H' → H' q = none → q ≠ p := fun s n z => by rw [z, s _ _ ep] at n; cases n
        have fin : ∀ (H5 : Hp) (p3 : Addr) (rest : List Str), Same Hb H5 → H5 p3 = some (.lst (rest.map V.str)) → rest = (if (nrmS g).2 = [] then [] else [Txt.join " > " ((nrmS g).2.map grpT)]) →
            ∃ x_1, H5 p1 = some (HO.lst x_1) ∧ ∃ x_2, H5 p3 = some (HO.lst x_2) ∧ x_1.length + x_2.length ≤ sizeLine ∧ ∀ (p_4 : Addr), H5 p_4 = none → ∃ x_3, Sq K (upd H5 p_4 (.lst (x_1 ++ x_2))) p_4 (List.map V.str x_3) ∧
              (List.map (fun x => x.length) x_3).sum + x_3.length * (Str.ofString " ").length ≤ 16777216 ∧ ∃ x_4, upd H5 p_4 (.lst (x_1 ++ x_2)) p = some (.lst x_4) ∧ x_4.length < sizeLine ∧
                Same H (upd (upd H5 p_4 (.lst (x_1 ++ x_2))) p (.lst (x_4 ++ [V.str (Txt.join (Str.ofString " ") x_3)]))) ∧
                upd (upd H5 p_4 (.lst (x_1 ++ x_2))) p (.lst (x_4 ++ [V.str (Txt.join (Str.ofString " ") x_3)])) p = some (.lst (((shs.map nrmS).map shareT).take (i + 1) |>.map V.str)) := fun H5 p3 rest s5 h3 hr => by
          refine tail_ok (G := fun HH => Same H HH ∧ HH p = some (.lst (((shs.map nrmS).map shareT).take (i + 1) |>.map V.str))) (s5 _ _ e1b) h3 (s5 _ _ epb) (by rw [List.length_take, List.length_map, List.length_map]; omega) (by rw [hr]; split <;> simp) wl (fun y hy => ?_) fun p4 n4 => ⟨?_, ?_⟩
          · rw [hr] at hy
            split at hy
            · cases hy
            · rw [List.mem_singleton.mp hy]
              have := told_sum hgo hgn
              have := join_len " > " ((nrmS g).2.map grpT)
              omega
          · have s25 : Same H2 H5 := (s3.trans (sA.trans sB)).trans s5
            intro b o e
            rw [upd_ne (ne_of_none e np), upd_ne (ne_of_none e ((s2.trans s25).free n4))]
            exact s25 _ _ (s2 _ _ e)
          · rw [upd_same, share_join hr]
            have e : ((shs.map nrmS).map shareT)[i]? = some (shareT (g.1, (nrmS g).2)) := by rw [List.getElem?_map, List.getElem?_map, eg]; rfl
            rw [List.take_add_one, e]
            rfl
        by_cases h0 : g.2 = []
        · have hy0 : ys = [] := by rw [ey]; unfold nrmS; rw [h0]; rfl
          rw [hy0, if_neg (by simp)]
          exact ⟨by omega, fun p3 n3 => fin _ p3 [] (same_upd n3) upd_same (by unfold nrmS; rw [h0]; rfl)⟩
        · have hy0 : ys.isEmpty = false := by
            cases hys : ys with
            | nil => exact absurd (List.length_eq_zero_iff.mp (by rw [← hul, ← hl2, hys]; rfl)) h0
            | cons _ _ => rfl
          rw [hy0, if_pos (show (!false) = true from rfl)]
          have hts := told_sum hgo hgn
          exact ⟨⟨_, rfl⟩, (nrmS g).2.map grpT, .inl (sqL_of (by rw [eDb, ey])), by omega, by decide, fun p3 n3 => fin _ p3 [Txt.join " > " ((nrmS g).2.map grpT)] (same_upd n3) upd_same (by rw [if_neg]; unfold nrmS; exact fun z => h0 (List.map_eq_nil_iff.mp z))⟩
    · rintro σ H2 ⟨o2, o3, o4, o5, o6, rfl, s2, ep⟩
      simp only [and_assoc, tSeq, tAsg, tOp, tUn, rI, rI0, rU, tVar, tC, gName, L2.start, tIfS, tTest, tB, tCB, tCons, tNil, tIf, tRet, tRetN, tLst, tTup, tNext, tDrop, tNot, tNotV, tAnd, tOr, tAndV, tOrV, tPar, tAug, ipI, rEq, rNe, gSub, rSetL, rIxL, rIxT, tBM, tBM0, rAppend, rPopAt, gTup, gCons, gNil, tCall, tSl, tPart, tNoPart, rSlL, rCat, rEqD, rNeD, rIn, scal, List.map_cons, List.map_nil, List.length_cons, List.length_nil, List.length_map, List.cons_append, List.nil_append, List.append_nil, List.replicate, List.getElem?_cons_zero, List.getElem?_cons_succ, List.set_cons_zero, List.set_cons_succ, Option.some.injEq, exists_eq_left', exists_eq_left, exists_eq_right, exists_and_left, exists_and_right, V.int.injEq, V.ref.injEq, V.str.injEq, V.bl.injEq, reduceCtorEq, false_and, and_false, exists_false, or_false, false_or, true_and, and_true, List.cons.injEq, decide_eq_true_eq, cxOf, if_true, if_false, Bool.false_eq_true, Nat.reduceAdd, Nat.reduceSub, Nat.zero_add, Nat.add_sub_cancel_left, Nat.add_sub_cancel, Nat.sub_self, sFld, tFld, tFor_eq, tLc_eq, iRng1, iRng2, iList, iTup, iEnum, rIsi, rIsiT, iSeq, tM0, tM1, tFmt, tJs, rJoin, rNewStrs, tMakeL, tMake, tNever, rNeNil]
      have hsum := will_sum hw
      rw [hxl, ← shs.length_map (f := nrmS), ← (shs.map nrmS).length_map (f := shareT), List.take_length] at ep
      exact ⟨⟨_, rfl⟩, _, .inl (sqL_of ep), hsum, q _ s2⟩

end
end He

namespace He
open PySem PySem.Spec PyProof.Rows L2
section
variable {P : Program} {w : World} {K : PySem.W.Frag} {mg : Str → Option Value} {base : Heap}

open TL PySem.StrLaws
/-! ### how often a sign stands in a text -/
def cnt (c : Nat) (x : Str) : Nat := (tl x).count c
theorem cnt_app (c : Nat) (x y : Str) : cnt c (x ++ y) = cnt c x + cnt c y := by
  unfold cnt
  rw [tl_append, List.count_append]
theorem spl_len {S : List Nat} {m : Nat} (hm : m ∈ S) : ∀ (l : List Nat) (k : Nat) (acc : List Nat), (spl S k acc l).length ≤ 1 + (l.drop k).count m
  | [], k, acc => by rw [spl_nil]; simp
  | c :: r, 0, acc => by
    cases h : pre S (c :: r) with
    | true =>
      rw [spl_hit h, List.length_cons]
      have ih := spl_len hm r (S.length - 1) []
      have e : (c :: r).take S.length = S := eq_of_beq h
      have e2 : (c :: r).drop S.length = r.drop (S.length - 1) := by
        have hp : 0 < S.length := List.length_pos_of_mem hm
        obtain ⟨n, hn⟩ : ∃ n, S.length = n + 1 := ⟨S.length - 1, by omega⟩
        rw [hn]
        rfl
      have e3 : (c :: r).count m = S.count m + (r.drop (S.length - 1)).count m := by
        rw [← e2, ← List.take_append_drop S.length (c :: r), List.count_append, e]
        simp
      have e4 : 1 ≤ S.count m := List.count_pos_iff.mpr hm
      show 1 + _ ≥ _
      rw [List.drop_zero, e3]
      omega
    | false =>
      rw [spl_miss h]
      have ih := spl_len hm r 0 (acc ++ [c])
      rw [List.drop_zero] at ih ⊢
      have : r.count m ≤ (c :: r).count m := List.count_le_count_cons
      omega
  | c :: r, k + 1, acc => spl_len hm r k acc
theorem spl_cnt {S : List Nat} {c : Nat} : ∀ (l : List Nat) (k : Nat) (acc : List Nat), ∀ p ∈ spl S k acc l, p.count c ≤ acc.count c + l.count c
  | [], k, acc, p, h => by
    rw [spl_nil] at h
    rw [List.mem_singleton.mp h]
    simp
  | d :: r, 0, acc, p, h => by
    have hr : r.count c ≤ (d :: r).count c := List.count_le_count_cons
    cases hp : pre S (d :: r) with
    | true =>
      rw [spl_hit hp] at h
      rcases List.mem_cons.mp h with h | h
      · rw [h]; omega
      · have ih := spl_cnt (S := S) (c := c) r (S.length - 1) [] p h
        simp at ih
        omega
    | false =>
      rw [spl_miss hp] at h
      have ih := spl_cnt (S := S) (c := c) r 0 (acc ++ [d]) p h
      rw [List.count_append] at ih
      have e : (d :: r).count c = [d].count c + r.count c := by rw [← List.count_append]; rfl
      omega
  | d :: r, k + 1, acc, p, h => by
    have hr : r.count c ≤ (d :: r).count c := List.count_le_count_cons
    have ih := spl_cnt (S := S) (c := c) r k acc p h
    omega
theorem spl_sub {S : List Nat} : ∀ (l : List Nat) (k : Nat) (acc : List Nat), ∀ p ∈ spl S k acc l, p.length ≤ acc.length + l.length
  | [], k, acc, p, h => by
    rw [spl_nil] at h
    rw [List.mem_singleton.mp h]
    simp
  | d :: r, 0, acc, p, h => by
    cases hp : pre S (d :: r) with
    | true =>
      rw [spl_hit hp] at h
      rcases List.mem_cons.mp h with h | h
      · rw [h]; omega
      · have ih := spl_sub (S := S) r (S.length - 1) [] p h
        simp at ih
        simp
        omega
    | false =>
      rw [spl_miss hp] at h
      have ih := spl_sub (S := S) r 0 (acc ++ [d]) p h
      simp at ih
      simp
      omega
  | d :: r, k + 1, acc, p, h => by
    have ih := spl_sub (S := S) r k acc p h
    simp
    omega
structure PlainSep (y : Str) (m : Nat) : Prop where
  h : m ∈ tl y
  k : y.cps.all (· < 256) = true
theorem PlainSep.ne {y : Str} {m : Nat} (h : PlainSep y m) : tl y ≠ [] := fun z => by have := h.h; rw [z] at this; cases this
theorem split_len {x y : Str} {m : Nat} (h : PlainSep y m) : (Txt.split x y).length ≤ 1 + cnt m x := by
  have e := split_spl x y h.ne (kind_ok h.k)
  have e2 := congrArg List.length e
  rw [List.length_map] at e2
  rw [e2]
  have := spl_len h.h (tl x) 0 []
  rw [List.drop_zero] at this
  exact this
theorem split_cnt {x y p : Str} {m : Nat} (h : PlainSep y m) (c : Nat) (hp : p ∈ Txt.split x y) : cnt c p ≤ cnt c x := by
  have e := split_spl x y h.ne (kind_ok h.k)
  have hm : tl p ∈ spl (tl y) 0 [] (tl x) := by rw [← e]; exact List.mem_map.mpr ⟨p, hp, rfl⟩
  have := spl_cnt (c := c) (tl x) 0 [] (tl p) hm
  rw [List.count_nil, Nat.zero_add] at this
  exact this
theorem split_sub {x y p : Str} {m : Nat} (h : PlainSep y m) (hp : p ∈ Txt.split x y) : p.length ≤ x.length := by
  have e := split_spl x y h.ne (kind_ok h.k)
  have hm : tl p ∈ spl (tl y) 0 [] (tl x) := by rw [← e]; exact List.mem_map.mpr ⟨p, hp, rfl⟩
  have := spl_sub (tl x) 0 [] (tl p) hm
  simp at this
  rw [len_tl, len_tl]
  exact this
theorem sepBar : PlainSep " | " 124 := ⟨by decide +kernel, by decide +kernel⟩
theorem sepGt : PlainSep " > " 62 := ⟨by decide +kernel, by decide +kernel⟩
theorem sepPl : PlainSep "+" 43 := ⟨by decide +kernel, by decide +kernel⟩
theorem sepSp : PlainSep " " 32 := ⟨by decide +kernel, by decide +kernel⟩
/-! ### a text that is not too large -/
structure Tame (z : Str) : Prop where
  l : z.length ≤ 1000
  b : cnt 124 z ≤ 30
  g : cnt 62 z ≤ 30
  p : cnt 43 z ≤ 30
theorem part_cnt (c : Nat) (x y : Str) : cnt c (Txt.partition x y).2.2 ≤ cnt c x ∧ cnt c (Txt.partition x y).1 ≤ cnt c x := by
  have e := congrArg (cnt c) (PySem.StrLaws.partition_sum x y)
  rw [cnt_app, cnt_app] at e
  omega
theorem dig_le : ∀ (l : List Nat) (a : Nat), (∀ c ∈ l, 48 ≤ c ∧ c ≤ 57) → l.foldl (fun acc c => acc * 10 + (c - 48)) a + 1 ≤ (a + 1) * 10 ^ l.length
  | [], a, _ => by simp
  | c :: r, a, h => by
    have hc := h c List.mem_cons_self
    have ih := dig_le r (a * 10 + (c - 48)) fun d hd => h d (List.mem_cons_of_mem _ hd)
    rw [List.foldl_cons, List.length_cons, Nat.pow_succ]
    have h2 : (a * 10 + (c - 48) + 1) * 10 ^ r.length ≤ ((a + 1) * 10) * 10 ^ r.length := Nat.mul_le_mul_right _ (by omega)
    have h3 : (a + 1) * 10 * 10 ^ r.length = (a + 1) * (10 ^ r.length * 10) := by rw [Nat.mul_assoc, Nat.mul_comm 10]
    omega
/-- what a text's number may be -/
theorem readNum_some {x : Str} {n : Int} (h : readNum x 6 = some n) : n ≤ 999999 ∧ x.length ≤ 6 ∧ (∀ c ∈ tl x, 48 ≤ c ∧ c ≤ 57) ∧ tl x ≠ [] ∧ n = ((NumText.digitsVal (tl x) : Nat) : Int) ∧ (x ≠ "0" → Txt.startswith x "0" = false) := by
  unfold readNum at h
  split at h
  · cases h
  · rename_i h1
    simp only [Bool.or_eq_true, decide_eq_true_eq, Bool.not_eq_true', not_or, Bool.not_eq_false] at h1
    obtain ⟨h2, h3, h4⟩ := h1
    split at h
    · cases h
    · rename_i h5
      have hl : x.length ≤ 6 := by omega
      unfold Txt.isascii at h3
      unfold Txt.isdigit at h4
      rw [Bool.and_eq_true] at h4
      have a3 : ∀ c ∈ tl x, c < 128 := fun c hc => by
        have : x.cps.toList.all (fun c => decide (c < 128)) = true := by rw [Array.all_toList]; exact h3
        exact of_decide_eq_true (List.all_eq_true.mp this c hc)
      have a4 : ∀ c ∈ tl x, Unicode.isDigit c = true := fun c hc => by
        have : x.cps.toList.all Unicode.isDigit = true := by rw [Array.all_toList]; exact h4.2
        exact List.all_eq_true.mp this c hc
      have ad : ∀ c ∈ tl x, 48 ≤ c ∧ c ≤ 57 := fun c hc => by
        have a := at_tab tab_digit (a3 c hc)
        rw [a4 c hc] at a
        simp at a
        exact a
      have hne : tl x ≠ [] := fun z => by
        have := of_decide_eq_true h4.1
        rw [len_tl, z] at this
        simp at this
      have e := intText_digits (x := x) (fun c hc => ad c hc) hne (by omega)
      rw [e] at h
      obtain rfl := Option.some.inj h
      have hb := dig_le (tl x) 0 ad
      have h10 : 10 ^ (tl x).length ≤ 10 ^ 6 := Nat.pow_le_pow_right (by decide) (by rw [← len_tl]; exact hl)
      refine ⟨?_, hl, ad, hne, rfl, fun hx => ?_⟩
      · have : NumText.digitsVal (tl x) + 1 ≤ 1000000 := by
          unfold NumText.digitsVal
          omega
        show ((NumText.digitsVal (tl x) : Nat) : Int) ≤ 999999
        omega
      · cases hs : Txt.startswith x "0" with
        | false => rfl
        | true =>
          rw [hs] at h5
          simp [hx] at h5
theorem adgrp_of {d : List AD} {xs : List Str} (e : d = xs.map AD.str) (h : isGrpA (.lst d) = true) : GrpOk xs := by
  subst e
  have h' : Option.isSome (if (xs.map AD.str).isEmpty then none else if (xs.map AD.str).all isNameA then (match strsA (xs.map AD.str) with | some xs => if xs.Nodup then some xs else none | none => none) else none) = true := h
  rw [strsA_map] at h'
  split at h'
  · cases h'
  · rename_i h1
    split at h'
    · rename_i h2
      have h3 : xs.Nodup := by
        by_cases hn : xs.Nodup
        · exact hn
        · simp [hn] at h'
      refine ⟨fun z => h1 (by rw [z]; rfl), h3, fun n hn => ?_⟩
      rw [List.all_map] at h2
      exact List.all_eq_true.mp h2 n hn
    · cases h'
/-- a good part is a share -/
theorem share_of {x : Str} (hx : Tame x) (h : isShA (rsA x) = true) : ∃ s : Sh, rsA x = adSh s ∧ ShOk s ∧ s.2.length ≤ 40 ∧ (∀ g ∈ s.2, g.length ≤ 40) ∧ s.1 ≤ 999999 := by
  have h' : (wOkA (optA (readNum (Txt.partition x " ").1 6)) && isGrpsA (.lst (if (Txt.partition x " ").2.1.length = 0 then [] else rsGroups (Txt.partition x " ").2.2))) = true := h
  rw [Bool.and_eq_true] at h'
  obtain ⟨h1, h2⟩ := h'
  cases e : readNum (Txt.partition x " ").1 6 with
  | none => rw [e] at h1; cases h1
  | some n =>
    rw [e] at h1
    have hn : 1 ≤ n := of_decide_eq_true h1
    have hb := (readNum_some e).1
    by_cases hz : (Txt.partition x " ").2.1.length = 0
    · refine ⟨(n, []), ?_, ⟨hn, fun g hg => by cases hg⟩, by show 0 ≤ 40; omega, (fun g hg => by cases hg), hb⟩
      unfold rsA
      rw [e, if_pos hz]
      rfl
    · rw [if_neg hz] at h2
      refine ⟨(n, (Txt.split (Txt.partition x " ").2.2 " > ").map fun g => Txt.split g "+"), ?_, ⟨hn, fun g hg => ?_⟩, ?_, fun g hg => ?_, hb⟩
      · unfold rsA
        rw [e, if_neg hz]
        unfold adSh rsGroups
        rw [List.map_map]
        rfl
      · obtain ⟨t, ht, rfl⟩ := List.mem_map.mp hg
        have h3 : (rsGroups (Txt.partition x " ").2.2).all isGrpA = true := h2
        have h4 := List.all_eq_true.mp h3 _ (List.mem_map.mpr ⟨t, ht, rfl⟩)
        exact adgrp_of rfl h4
      · show ((Txt.split (Txt.partition x " ").2.2 " > ").map _).length ≤ 40
        rw [List.length_map]
        have h5 := split_len (x := (Txt.partition x " ").2.2) sepGt
        have h6 := (part_cnt 62 x " ").1
        have := hx.g
        omega
      · obtain ⟨t, ht, rfl⟩ := List.mem_map.mp hg
        have h5 := split_len (x := t) sepPl
        have h6 := split_cnt sepGt 43 ht
        have h7 := (part_cnt 43 x " ").1
        have := hx.p
        omega
theorem tame_part {z p : Str} (h : Tame z) (hp : p ∈ Txt.split z " | ") : Tame p := by
  have := split_sub sepBar hp
  have a := split_cnt sepBar 124 hp
  have b := split_cnt sepBar 62 hp
  have c := split_cnt sepBar 43 hp
  exact ⟨by have := h.l; omega, by have := h.b; omega, by have := h.g; omega, by have := h.p; omega⟩
theorem adok_rs {x : Str} (h : Tame x) : AdOk K (rsA x) := by
  have hl := h.l
  refine ⟨by show 2 < 4000; decide, ?_, ?_, trivial⟩
  · cases readNum (Txt.partition x " ").1 6 with
    | none => trivial
    | some n => trivial
  · have hp := fact_partition x " "
    have hs := fact_split (Txt.partition x " ").2.2 " > "
    split
    · exact ⟨by decide, trivial⟩
    · refine ⟨by unfold rsGroups; rw [List.length_map]; omega, adOkA_of fun d hd => ?_⟩
      obtain ⟨g, hg, rfl⟩ := List.mem_map.mp hd
      have hgl := split_sub sepGt hg
      have hs2 := fact_split g "+"
      refine ⟨by rw [List.length_map]; omega, adOkA_of fun d hd => ?_⟩
      obtain ⟨n, hn, rfl⟩ := List.mem_map.mp hd
      have := split_sub sepPl hn
      show n.length ≤ sizeLine
      have big : 16777216 ≤ sizeLine := by decide
      omega

end
end He

namespace He
open PySem PySem.Spec PyProof.Rows L2
section
variable {P : Program} {w : World} {K : PySem.W.Frag} {mg : Str → Option Value} {base : Heap}

structure TxtX (K : PySem.W.Frag) (mg : Str → Option Value) where
  w : TxtW K mg
  oe : OexC K w.t.cInvalidText
  xF : Addr
  xD : FuncData
  xFn : Fun K "__init__" "InvalidText.__init__" sDInvalidTextInit xF xD
  xB : L2.Binds K xD ["self", "at"] []
  xI : PySem.W.findIn K (.ref w.t.cInvalidText) "__init__" = some (some (.ref xF))
  xT : PySem.W.typeIn K (.ref xF) = some (.type "function")
  xN : PySem.W.findIn K (.ref w.t.cInvalidText) "at" = some none
  xf : XfC K w.t.cInvalidText
  self : PySem.W.exmOne K (.ref w.t.cInvalidText) (.ref w.t.cInvalidText) = some true
  isx : ExcC K w.t.cInvalidText
  k1 : PySem.W.kitOne K (.ref w.t.cInvalidText) (.ref w.t.cHeirError) = some true
  k2 : PySem.W.kitOne K (.ref w.t.cInvalidText) (.ref w.t.cInvalidWill) = some false
/-- an error takes its place -/
def spXI (C : Addr) (f : Str) : Sp := fun vs H Q _ => ∃ (a : Addr) (v : V), vs = [.ref a, v] ∧ H a = some (exo a C none) ∧ ∀ dx, H dx = none → dx ≠ a → Q .non (upd (upd H dx (exd dx [(f, v)])) a (exo a C (some dx)))
theorem ok_itinit (X : TxtX K mg) : FnOk P w K mg base CX0 1 X.xF X.xD ["self", "at"] (spXI X.w.t.cInvalidText "at") := by
  refine X.xFn.ok scDInvalidTextInit (fun vs H Q E h => ?_) (fun cdv A outer s H vs Q E hr h => ?_)
  · obtain ⟨a, v, rfl, _⟩ := h
    rfl
  · obtain ⟨a, v, rfl, e, q⟩ := h
    refine ⟨_, (pss_one (ps_ost (pv 0) (pv 1))), ?_⟩
    simp only [and_assoc, tSeq, tAsg, tOp, tUn, rI, rI0, rU, tVar, tC, gName, L2.start, tIfS, tTest, tB, tCB, tCons, tNil, tIf, tRet, tRetN, tLst, tTup, tNext, tDrop, tNot, tNotV, tAnd, tOr, tAndV, tOrV, tPar, tAug, ipI, rEq, rNe, gSub, rSetL, rIxL, rIxT, tBM, tBM0, rAppend, rPopAt, gTup, gCons, gNil, tCall, tSl, tPart, tNoPart, rSlL, rCat, rEqD, rNeD, rIn, scal, List.map_cons, List.map_nil, List.length_cons, List.length_nil, List.length_map, List.cons_append, List.nil_append, List.append_nil, List.replicate, List.getElem?_cons_zero, List.getElem?_cons_succ, List.set_cons_zero, List.set_cons_succ, Option.some.injEq, exists_eq_left', exists_eq_left, exists_eq_right, exists_and_left, exists_and_right, V.int.injEq, V.ref.injEq, V.str.injEq, V.bl.injEq, reduceCtorEq, false_and, and_false, exists_false, or_false, false_or, true_and, and_true, List.cons.injEq, decide_eq_true_eq, cxOf, if_true, if_false, Bool.false_eq_true, Nat.reduceAdd, Nat.reduceSub, Nat.zero_add, Nat.add_sub_cancel_left, Nat.add_sub_cancel, Nat.sub_self, sFld, tFld, tFor_eq, tLc_eq, iRng1, iRng2, iList, iTup, iEnum, rIsi, rIsiT, iSeq, tM0, tM1, tFmt, tJs, rJoin, rNewStrs, tMakeL, tMake, tNever, tMkO, tOst]
    exact ⟨_, X.oe, X.xN, .inl ⟨e, q⟩⟩
/-- the first part that is no share -/
def badAt (z : Str) : Option Nat := (Txt.split z " | ").findIdx? fun p => !isShA (rsA p)
def spWReadX (K : PySem.W.Frag) (C CT : Addr) : Sp := fun vs H Q E => ∃ (z : Str), vs = [.ref C, .str z] ∧ Tame z ∧
  (∀ n d H', badAt z = some n → Same H H' → H d = none → H' d = some (.xd [("at", .int (n : Nat))]) → E (.ref CT) (some d) H') ∧ (badAt z = none → ∀ x H', Same H H' → Q (.ref x) H')
theorem ok_wreadX (X : TxtX K mg) : FnOk P w K mg base (L2.CX P w) 7 X.w.rF X.w.rD ["cls", "text"] (spWReadX K X.w.t.cWill X.w.t.cInvalidText) := by
  refine X.w.rFn.okX scDWillRead (fun vs H Q E h => ?_) (fun cdv A outer s H vs Q E hr h => ?_)
  · obtain ⟨z, rfl, _⟩ := h
    rfl
  · obtain ⟨z, rfl, hz, qE, qG⟩ := h
    refine ⟨_, (pss_cons (ps_set (i := 2) scDWillRead.nd rfl (.inl rfl) (pe_lst pa_nil))
      (pss_cons (ps_for (passes_of rfl) rfl (pi_enum (by rfl) X.w.t.z_enumerate (pa_cons (pe_split (pv 1) pe_str) pa_nil)) (pg_tup (n := 2) rfl (pgs_cons (pg_name (i := 3) scDWillRead.nd rfl (.inl rfl)) (pgs_cons (pg_name (i := 4) scDWillRead.nd rfl (.inl rfl)) pgs_nil)))
      (pss_cons (ps_set (i := 5) scDWillRead.nd rfl (.inl rfl) (pe_call (ok_readshare X.w.t) (hr.mono (by decide)) (by rfl) X.w.t.dReadShare.g X.w.t.dReadShare.F.kp X.w.t.dReadShare.b .nil pass0 (pa_cons (pv 4) pa_nil)))
      (pss_cons (ps_if (pt_not (pt_val (pe_call (ok_isshare X.w.t) (hr.mono (by decide)) (by rfl) X.w.t.dIsShare.g X.w.t.dIsShare.F.kp X.w.t.dIsShare.b .nil pass0 (pa_cons (pv 5) pa_nil))))
      (pss_one (ps_raise rfl (takes_of rfl rfl rfl rfl) (pmk_oex X.oe X.xI X.xT (ok_itinit X) (hr.mono (by decide)) X.xB .nil pass0 (by rfl) X.w.t.gcInvalidText (pa_cons (pv 3) pa_nil))))
      pss_nil)
      (pss_one (ps_expr (pe_bm PySem.F.plainAttrs_list PySem.F.slot_list_append PySem.F.type_list_append mt_append (pv 2) (pa_cons (pv 5) pa_nil)))))))
      (pss_one (ps_ret (pe_makeL (i := 0) X.w.iM (ok_winit X.w) hr (by rfl) (.inl rfl) X.w.iB .nil pass0 (pa_cons (pv 2) pa_nil)))))), ?_⟩
    simp only [and_assoc, tSeq, tAsg, tOp, tUn, rI, rI0, rU, tVar, tC, gName, L2.start, tIfS, tTest, tB, tCB, tCons, tNil, tIf, tRet, tRetN, tLst, tTup, tNext, tDrop, tNot, tNotV, tAnd, tOr, tAndV, tOrV, tPar, tAug, ipI, rEq, rNe, gSub, rSetL, rIxL, rIxT, tBM, tBM0, rAppend, rPopAt, gTup, gCons, gNil, tCall, tSl, tPart, tNoPart, rSlL, rCat, rEqD, rNeD, rIn, scal, List.map_cons, List.map_nil, List.length_cons, List.length_nil, List.length_map, List.cons_append, List.nil_append, List.append_nil, List.replicate, List.getElem?_cons_zero, List.getElem?_cons_succ, List.set_cons_zero, List.set_cons_succ, Option.some.injEq, exists_eq_left', exists_eq_left, exists_eq_right, exists_and_left, exists_and_right, V.int.injEq, V.ref.injEq, V.str.injEq, V.bl.injEq, reduceCtorEq, false_and, and_false, exists_false, or_false, false_or, true_and, and_true, List.cons.injEq, decide_eq_true_eq, cxOf, if_true, if_false, Bool.false_eq_true, Nat.reduceAdd, Nat.reduceSub, Nat.zero_add, Nat.add_sub_cancel_left, Nat.add_sub_cancel, Nat.sub_self, sFld, tFld, tFor_eq, tLc_eq, iRng1, iRng2, iList, iTup, iEnum, rIsi, rIsiT, iSeq, tM0, tM1, tFmt, tJs, rJoin, rNewStrs, tMakeL, tMake, tNever, tMkO, tOst, spReadShare, spIs, spWInit, spXI]
    have big : 16777216 ≤ sizeLine := by decide
    have hzl := hz.l
    have hpl := split_len (x := z) sepBar
    have hzb := hz.b
    refine ⟨by decide, fun f nf => ⟨⟨_, rfl⟩, by decide +kernel, by omega, fun p np => ⟨⟨_, sqL_of upd_same⟩, ?_⟩⟩⟩
    have s0 : Same H (upd H f (.lst [])) := same_upd nf
    have fp : f ≠ p := fun z => by rw [← z, upd_same] at np; cases np
    refine fg_enum (xs := (Txt.split z (Str.ofString " | ")).map V.str) (fun i σ H2 => ∃ (a b c : Option V) (vs : List V) (shs : List Sh), σ = [some (.ref X.w.t.cWill), some (.str z), some (.ref f), a, b, c] ∧ Same H H2 ∧ H2 f = some (.lst vs) ∧ vs.length = i ∧ shs.length = i ∧ H2 p = some (.lst ((Txt.split z (Str.ofString " | ")).map V.str)) ∧
        (∀ (j : Nat) (v : V), vs[j]? = some v → ∃ s, shs[j]? = some s ∧ Av K (hide f (news H H2)) v (adSh s)) ∧ (∀ s ∈ shs, ShOk s ∧ s.2.length ≤ 40 ∧ (∀ g ∈ s.2, g.length ≤ 40) ∧ s.1 ≤ 999999) ∧ ∀ (j : Nat) (x : Str), j < i → (Txt.split z (Str.ofString " | "))[j]? = some x → isShA (rsA x) = true)
      ⟨none, none, none, [], [], rfl, s0.trans (same_upd np), by rw [upd_ne fp, upd_same], rfl, rfl, upd_same, (fun _ _ e => nomatch e), (fun _ h => nomatch h), fun j _ hj => absurd hj (Nat.not_lt_zero _)⟩ (fun i σ H2 _ ⟨_, _, _, _, _, _, _, _, _, _, e, _⟩ => sqL_of e) ?_ ?_
    · rintro i x T σ H2 hx ⟨a, b, c, vs, shs, rfl, s2, ef, hvl, hsl, ep, hv, hok, hgood⟩ nT
      rw [List.getElem?_map] at hx
      obtain ⟨x, ex, rfl⟩ := Option.map_eq_some_iff.mp hx
      have hi := (List.getElem?_eq_some_iff.mp ex).1
      have hxm := List.mem_of_getElem? ex
      have htx := tame_part hz hxm
      simp only [and_assoc, tSeq, tAsg, tOp, tUn, rI, rI0, rU, tVar, tC, gName, L2.start, tIfS, tTest, tB, tCB, tCons, tNil, tIf, tRet, tRetN, tLst, tTup, tNext, tDrop, tNot, tNotV, tAnd, tOr, tAndV, tOrV, tPar, tAug, ipI, rEq, rNe, gSub, rSetL, rIxL, rIxT, tBM, tBM0, rAppend, rPopAt, gTup, gCons, gNil, tCall, tSl, tPart, tNoPart, rSlL, rCat, rEqD, rNeD, rIn, scal, List.map_cons, List.map_nil, List.length_cons, List.length_nil, List.length_map, List.cons_append, List.nil_append, List.append_nil, List.replicate, List.getElem?_cons_zero, List.getElem?_cons_succ, List.set_cons_zero, List.set_cons_succ, Option.some.injEq, exists_eq_left', exists_eq_left, exists_eq_right, exists_and_left, exists_and_right, V.int.injEq, V.ref.injEq, V.str.injEq, V.bl.injEq, reduceCtorEq, false_and, and_false, exists_false, or_false, false_or, true_and, and_true, List.cons.injEq, decide_eq_true_eq, cxOf, if_true, if_false, Bool.false_eq_true, Nat.reduceAdd, Nat.reduceSub, Nat.zero_add, Nat.add_sub_cancel_left, Nat.add_sub_cancel, Nat.sub_self, sFld, tFld, tFor_eq, tLc_eq, iRng1, iRng2, iList, iTup, iEnum, rIsi, rIsiT, iSeq, tM0, tM1, tFmt, tJs, rJoin, rNewStrs, tMakeL, tMake, tNever, tMkO, tOst, spReadShare, spIs, spWInit, spXI]
      refine ⟨_, sqT_of upd_same, rfl, _, _, rfl, _, _, rfl, rfl, x, rfl, by have := htx.l; omega, fun g hg => by have := split_sub sepGt hg; have := fact_partition x " "; have := htx.l; omega, fun r H3 s3 hr3 => ?_⟩
      have s23 := (same_upd (o := .tup [.int (i : Nat), .str x]) nT).trans s3
      have ef2 : upd H2 T (.tup [.int (i : Nat), .str x]) f = some (.lst vs) := same_upd nT _ _ ef
      refine ⟨_, av_mono news_le _ _ hr3, adok_rs htx, fun H4 s4 => ?_⟩
      have s24 := s23.trans s4
      cases hgd : isShA (rsA x) with
      | false =>
        simp only [and_assoc, tSeq, tAsg, tOp, tUn, rI, rI0, rU, tVar, tC, gName, L2.start, tIfS, tTest, tB, tCB, tCons, tNil, tIf, tRet, tRetN, tLst, tTup, tNext, tDrop, tNot, tNotV, tAnd, tOr, tAndV, tOrV, tPar, tAug, ipI, rEq, rNe, gSub, rSetL, rIxL, rIxT, tBM, tBM0, rAppend, rPopAt, gTup, gCons, gNil, tCall, tSl, tPart, tNoPart, rSlL, rCat, rEqD, rNeD, rIn, scal, List.map_cons, List.map_nil, List.length_cons, List.length_nil, List.length_map, List.cons_append, List.nil_append, List.append_nil, List.replicate, List.getElem?_cons_zero, List.getElem?_cons_succ, List.set_cons_zero, List.set_cons_succ, Option.some.injEq, exists_eq_left', exists_eq_left, exists_eq_right, exists_and_left, exists_and_right, V.int.injEq, V.ref.injEq, V.str.injEq, V.bl.injEq, reduceCtorEq, false_and, and_false, exists_false, or_false, false_or, true_and, and_true, List.cons.injEq, decide_eq_true_eq, cxOf, if_true, if_false, Bool.false_eq_true, Nat.reduceAdd, Nat.reduceSub, Nat.zero_add, Nat.add_sub_cancel_left, Nat.add_sub_cancel, Nat.sub_self, sFld, tFld, tFor_eq, tLc_eq, iRng1, iRng2, iList, iTup, iEnum, rIsi, rIsiT, iSeq, tM0, tM1, tFmt, tJs, rJoin, rNewStrs, tMakeL, tMake, tNever, tMkO, tOst, Bool.not_false, spXI]
        refine ⟨by decide, fun a na => ⟨upd_same, fun dx nd hda => ⟨dx, upd_same, _, by rw [upd_ne hda, upd_same], by rw [upd_ne hda] at nd; exact nd, ?_⟩⟩⟩
        rw [upd_ne hda] at nd
        refine qE i dx _ ?_ (fun b o e => ?_) ((s2.trans s24).free nd) upd_same
        · refine List.findIdx?_eq_some_iff_getElem.mpr ⟨hi, ?_, fun j hj => ?_⟩
          · have e := (List.getElem?_eq_some_iff.mp ex).2
            simp only [e, hgd]
            rfl
          · have := hgood j _ hj (List.getElem?_eq_getElem (by omega))
            simp only [this]
            decide
        · have e4 := (s2.trans s24) _ _ e
          have hbd : b ≠ dx := ne_of_none e4 nd
          have hba : b ≠ a := ne_of_none e4 na
          rw [upd_ne hbd, del_ne hba, upd_ne hba, upd_ne hbd, upd_ne hba]
          exact e4
      | true =>
        simp only [and_assoc, tSeq, tAsg, tOp, tUn, rI, rI0, rU, tVar, tC, gName, L2.start, tIfS, tTest, tB, tCB, tCons, tNil, tIf, tRet, tRetN, tLst, tTup, tNext, tDrop, tNot, tNotV, tAnd, tOr, tAndV, tOrV, tPar, tAug, ipI, rEq, rNe, gSub, rSetL, rIxL, rIxT, tBM, tBM0, rAppend, rPopAt, gTup, gCons, gNil, tCall, tSl, tPart, tNoPart, rSlL, rCat, rEqD, rNeD, rIn, scal, List.map_cons, List.map_nil, List.length_cons, List.length_nil, List.length_map, List.cons_append, List.nil_append, List.append_nil, List.replicate, List.getElem?_cons_zero, List.getElem?_cons_succ, List.set_cons_zero, List.set_cons_succ, Option.some.injEq, exists_eq_left', exists_eq_left, exists_eq_right, exists_and_left, exists_and_right, V.int.injEq, V.ref.injEq, V.str.injEq, V.bl.injEq, reduceCtorEq, false_and, and_false, exists_false, or_false, false_or, true_and, and_true, List.cons.injEq, decide_eq_true_eq, cxOf, if_true, if_false, Bool.false_eq_true, Nat.reduceAdd, Nat.reduceSub, Nat.zero_add, Nat.add_sub_cancel_left, Nat.add_sub_cancel, Nat.sub_self, sFld, tFld, tFor_eq, tLc_eq, iRng1, iRng2, iList, iTup, iEnum, rIsi, rIsiT, iSeq, tM0, tM1, tFmt, tJs, rJoin, rNewStrs, tMakeL, tMake, tNever, tMkO, tOst, Bool.not_true, spXI]
        have ef4 := s24 _ _ ef
        obtain ⟨sh, esh, osh⟩ := share_of htx hgd
        rw [esh] at hr3
        refine ⟨.inl ⟨rfl, _, sqL_of ef4⟩, vs, ef4, small1000 (by omega), fun b o e => by rw [upd_ne (ne_of_none e nf)]; exact (s2.trans s24) b o e, vs ++ [.ref r], upd_same, by rw [List.length_append, hvl]; rfl, shs ++ [sh], by rw [List.length_append, hsl]; rfl, by rw [upd_ne (Ne.symm fp)]; exact s24 _ _ ep, fun j v e => ?_, fun s hs => ?_, fun j y hj ey => ?_⟩
        · by_cases hj : j < vs.length
          · rw [List.getElem?_append_left hj] at e
            obtain ⟨s, es, hs⟩ := hv j v e
            exact ⟨s, by rw [List.getElem?_append_left (by omega)]; exact es, av_mono news_mut _ _ (av_mono (hide_same (news_mono s24)) _ _ hs)⟩
          · rw [List.getElem?_append_right (by omega)] at e
            have hj0 : j - vs.length = 0 := by
              rcases Nat.eq_zero_or_pos (j - vs.length) with h | h
              · exact h
              · rw [List.getElem?_eq_none (by simp; omega)] at e
                cases e
            rw [hj0] at e
            obtain rfl : V.ref r = v := Option.some.inj e
            refine ⟨sh, by rw [List.getElem?_append_right (by omega), show j - shs.length = 0 by omega]; rfl, av_mono news_mut _ _ (av_mono (hide_same (news_mono s4)) _ _ (av_mono (news_sub (s2.trans (same_upd nT)) ?_) _ _ hr3))⟩
            rw [ef2]
            exact fun z => nomatch z
        · rcases List.mem_append.mp hs with h | h
          · exact hok s h
          · rw [List.mem_singleton.mp h]
            exact osh
        · by_cases hji : j < i
          · exact hgood j y hji ey
          · have : j = i := by omega
            rw [this, ex] at ey
            obtain rfl := Option.some.inj ey
            exact hgd
    · rintro σ H2 ⟨a, b, c, vs, shs, rfl, s2, ef, hvl, hsl, ep, hv, hok, hgood⟩
      simp only [and_assoc, tSeq, tAsg, tOp, tUn, rI, rI0, rU, tVar, tC, gName, L2.start, tIfS, tTest, tB, tCB, tCons, tNil, tIf, tRet, tRetN, tLst, tTup, tNext, tDrop, tNot, tNotV, tAnd, tOr, tAndV, tOrV, tPar, tAug, ipI, rEq, rNe, gSub, rSetL, rIxL, rIxT, tBM, tBM0, rAppend, rPopAt, gTup, gCons, gNil, tCall, tSl, tPart, tNoPart, rSlL, rCat, rEqD, rNeD, rIn, scal, List.map_cons, List.map_nil, List.length_cons, List.length_nil, List.length_map, List.cons_append, List.nil_append, List.append_nil, List.replicate, List.getElem?_cons_zero, List.getElem?_cons_succ, List.set_cons_zero, List.set_cons_succ, Option.some.injEq, exists_eq_left', exists_eq_left, exists_eq_right, exists_and_left, exists_and_right, V.int.injEq, V.ref.injEq, V.str.injEq, V.bl.injEq, reduceCtorEq, false_and, and_false, exists_false, or_false, false_or, true_and, and_true, List.cons.injEq, decide_eq_true_eq, cxOf, if_true, if_false, Bool.false_eq_true, Nat.reduceAdd, Nat.reduceSub, Nat.zero_add, Nat.add_sub_cancel_left, Nat.add_sub_cancel, Nat.sub_self, sFld, tFld, tFor_eq, tLc_eq, iRng1, iRng2, iList, iTup, iEnum, rIsi, rIsiT, iSeq, tM0, tM1, tFmt, tJs, rJoin, rNewStrs, tMakeL, tMake, tNever, tMkO, tOst, spReadShare, spIs, spWInit, spXI]
      intro x dx nx ndx hne
      have sH : Same H2 (upd (upd H2 dx (.own x)) x (.ins X.w.t.cWill dx [])) := (same_upd ndx).trans (same_upd (by rw [upd_ne (Ne.symm hne)]; exact nx))
      rw [List.length_map] at hvl hsl
      have hpos := (fact_split z " | ").1
      refine ⟨dx, upd_same, shs, .lst (sqL_of (sH _ _ ef)) (avA_list (by rw [List.length_map, hvl, hsl]) fun i y e => ?_), ⟨fun z => by rw [z] at hsl; simp at hsl; omega, by omega, fun s hs => ⟨(hok s hs).1, (hok s hs).2.1, (hok s hs).2.2.1⟩, fun s hs => by have := (hok s hs).2.2.2; omega⟩, fun t H' k e d => qG ?_ x H' (fun b o eb => k b o (ne_of_none eb (s2.free nx)) (sH _ _ (s2 _ _ eb)))⟩
      · obtain ⟨s, es, hs⟩ := hv i y e
        exact ⟨adSh s, by rw [List.getElem?_map, es]; rfl, av_mono ((hide_le.trans news_le).trans sH) _ _ hs⟩
      · refine List.findIdx?_eq_none_iff.mpr fun x hx => ?_
        obtain ⟨j, hj⟩ := List.mem_iff_getElem?.mp hx
        have hjl := (List.getElem?_eq_some_iff.mp hj).1
        rw [hgood j x (by rw [List.length_map]; exact hjl) hj]
        rfl

end
end He

namespace He
open PySem PySem.Spec PyProof.Rows L2
section
variable {P : Program} {w : World} {K : PySem.W.Frag} {mg : Str → Option Value} {base : Heap}

def rEqNil (K : PySem.W.Frag) : R2 := fun x y H Q => ∃ l e xs, x = .ref l ∧ y = .ref e ∧ SqL K H l xs ∧ SqL K H e [] ∧ Q (.bl xs.isEmpty) H
theorem op_eqNil {X : Cx} (hu : X.A.units + 64 < cLine) : OpR X (compareOp .Eq) (rEqNil X.K) := by
  intro pins s σ H x y v u Q I rx ry h
  obtain ⟨l, e, xs, rfl, rfl, hl, he, q⟩ := h
  cases rx
  cases ry
  obtain ⟨its, r1, p1, _⟩ := I.list hl
  obtain ⟨its2, r2, p2, _⟩ := I.list he
  cases r2
  have hu' : X.A.units < cLine := by omega
  cases r1 with
  | nil => exact SeqAt.RcAt.lists (e := fun _ => true) p1.isList p2.isList rfl hu' (fun j h1 => absurd h1 (by simp)) X.prog X.w X.xe _ ⟨.bl true, H, I, rfl, q⟩
  | cons a b => exact SeqAt.RcAt.lists_lengths p1.isList p2.isList (by simp) hu' X.prog X.w X.xe _ ⟨.bl false, H, I, rfl, q⟩
/-- a comprehension that keeps what passes its test -/
theorem lg_filter {J : It} {n : Nat} {G : Hp → Prop} {Y : Nat → Hp → V → Hp → Prop} (wk : Walk J n G Y) {g : TG} {tt : TT} {te : TE} {vs : List Nat} {σ : L2.St} {H1 : Hp} {D : Addr} {Qd : Hp → Prop} (t : Nat → Bool) (ye : Nat → V) (hn : n < sizeLine) (nD : H1 D = none) (hG : ∀ H, Same H1 H → G H)
    (turn : ∀ (i : Nat) (x : V) (H H' : Hp) (Aq : V → Hp → Prop) (Bq : Hp → Prop), i < n → Same H1 H → H D ≠ none → Y i H x H' → (∀ H4, t i = true → Same H H4 → Aq (ye i) H4) → (∀ H3, t i = false → Same H H3 → Bq H3) →
      g x (wipe σ vs) H' fun σ2 H2 => wipe σ2 vs = wipe σ vs ∧ tt σ2 H2 fun b H3 => if b = true then te σ2 H3 Aq else Bq H3)
    (done : ∀ H, Same H1 H → H D = some (.lst (((List.range n).filter t).map ye)) → Qd H) : LcGoes J g tt te vs σ H1 D Qd := by
  have hl : ∀ i, (((List.range i).filter t).map ye).length ≤ i := fun i => by
    rw [List.length_map]
    exact Nat.le_trans (List.length_filter_le _ _) (by rw [List.length_range]; exact Nat.le_refl _)
  refine lc_it wk (fun i H => Same H1 H ∧ H D = some (.lst (((List.range i).filter t).map ye))) ⟨same_upd nD, upd_same⟩ (fun i H _ h => hG H h.1) (fun i x H H' hi ⟨s1, eD⟩ hY => ?_) (fun H ⟨s1, eD⟩ => done H s1 eD)
  refine turn i x H H' _ _ hi s1 (by rw [eD]; exact fun z => nomatch z) hY (fun H4 ht s4 => ?_) (fun H3 ht s3 => ?_)
  · refine ⟨_, s4 _ _ eD, by have := hl i; omega, fun b o e => by rw [upd_ne (ne_of_none e nD)]; exact s4 _ _ (s1 _ _ e), ?_⟩
    rw [upd_same, List.range_succ, List.filter_append, List.map_append]
    simp [ht]
  · refine ⟨s1.trans s3, ?_⟩
    rw [s3 _ _ eD, List.range_succ, List.filter_append, List.map_append]
    simp [ht]
/-! ### the law's own look at names -/
def rNotSign : R2 := fun x y H Q => ∃ (c : Nat) (z : Str), x = .str ⟨#[c]⟩ ∧ y = .str z ∧ Q (.bl (!decide (c ∈ z.cps.toList))) H
theorem op_ns_str {X : Cx} : OpR X (compareOp .NotIn) rNotSign := op_notIn_sign
def rLenS : List V → Hp → VK → Prop := fun xs H Q => ∃ z : Str, xs = [.str z] ∧ z.length ≤ sizeLine ∧ Q (.int z.length) H
theorem abc_tl : (Str.ofString "abcdefghijklmnopqrstuvwxyz").cps.toList = (List.range 26).map (· + 97) := by decide +kernel
theorem dig_tl : (Str.ofString "0123456789").cps.toList = (List.range 10).map (· + 48) := by decide +kernel
theorem mem_abc {c : Nat} : c ∈ (Str.ofString "abcdefghijklmnopqrstuvwxyz").cps.toList ↔ 97 ≤ c ∧ c ≤ 122 := by
  rw [abc_tl, List.mem_map]
  constructor
  · rintro ⟨a, ha, rfl⟩
    have := List.mem_range.mp ha
    omega
  · intro h
    exact ⟨c - 97, List.mem_range.mpr (by omega), by omega⟩
theorem mem_dig {c : Nat} : c ∈ (Str.ofString "0123456789").cps.toList ↔ 48 ≤ c ∧ c ≤ 57 := by
  rw [dig_tl, List.mem_map]
  constructor
  · rintro ⟨a, ha, rfl⟩
    have := List.mem_range.mp ha
    omega
  · intro h
    exact ⟨c - 48, List.mem_range.mpr (by omega), by omega⟩
/-- no sign is left out: all are of the alphabet -/
theorem left_nil {x z : Str} {ye : Nat → V} : (((List.range x.cps.size).filter fun i => !decide ((x.cps.toList.getD i 0) ∈ z.cps.toList)).map ye).isEmpty = x.cps.toList.all fun c => decide (c ∈ z.cps.toList) := by
  rw [Bool.eq_iff_iff, List.isEmpty_iff, List.map_eq_nil_iff, List.filter_eq_nil_iff, List.all_eq_true]
  have hl : x.cps.toList.length = x.cps.size := Array.length_toList
  constructor
  · intro h c hc
    obtain ⟨i, hi⟩ := List.mem_iff_getElem?.mp hc
    have hil := (List.getElem?_eq_some_iff.mp hi).1
    have := h i (List.mem_range.mpr (by omega))
    rw [List.getD_eq_getElem?_getD, hi] at this
    simpa using this
  · intro h i hi
    have hil := List.mem_range.mp hi
    have e : x.cps.toList[i]? = some (x.cps.toList[i]'(by omega)) := List.getElem?_eq_getElem (by omega)
    have := h _ (List.mem_of_getElem? e)
    rw [List.getD_eq_getElem?_getD, e]
    simpa using this
def spTxtB (f : Str → Bool) : Sp := fun vs H Q _ => ∃ (x : Str), vs = [.str x] ∧ x.length ≤ 1000 ∧ ∀ H', Same H H' → Q (.bl (f x)) H'
theorem crown_is : (Str.ofString "crown") = ("crown" : Str) := rfl
theorem ok_title (T : TxtG K mg) : FnOk P w K mg base CX0 1 T.dLawIsTitle.f T.dLawIsTitle.fd ["_law_word"] (spTxtB nameB) := by
  refine T.dLawIsTitle.F.ok scDLawIsTitle (fun vs H Q E h => ?_) (fun cdv A outer s H vs Q E hr h => ?_)
  · obtain ⟨x, rfl, _⟩ := h
    rfl
  · obtain ⟨x, rfl, hl, q⟩ := h
    refine ⟨_, (pss_cons (ps_if (PW.pt (pw_or (pt_not (pt_chain op_lt op_lt pe_int (pe_callB (show CallR _ (.builtin "len") rLenS from call_len_str) (by rfl) T.z_len (show bootBuiltins "len" = some (.builtin "len") by decide +kernel) (pa_cons (pv 0) pa_nil)) pe_int)) (pw_or1 (pt_cmpR op_eq (pv 0) pe_str (nomark _)))))
      (pss_one (ps_ret pe_bl))
      pss_nil)
      (pss_one (ps_ret (pe_cmpR (op_eqNil hr.units) (pe_lc (own := [("_law_letter", 1)]) (g := (gName 1)) rfl scDLawIsTitle.nd (pi_str (pv 0)) (blkOk_by (N := ["_law_word", "_law_letter"]) (sc := defScope sDLawIsTitle) (by decide +kernel)) (fun _ _ _ _ _ => (pg_name (i := 1) scDLawIsTitle.nd rfl (.inl rfl))) (fun _ _ _ _ _ => (pts_one (pt_cmpR op_ns_str (pv 1) pe_str (by rfl)))) (fun _ _ _ _ _ => (pv 1))) (pe_lst pa_nil) (nomark _))))), ?_⟩
    simp only [and_assoc, tSeq, tAsg, tOp, tUn, rI, rI0, rU, tVar, tC, gName, L2.start, tIfS, tTest, tB, tCB, tCons, tNil, tIf, tRet, tRetN, tLst, tTup, tNext, tDrop, tNot, tNotV, tAnd, tOr, tAndV, tOrV, tPar, tAug, ipI, rEq, rNe, gSub, rSetL, rIxL, rIxT, tBM, tBM0, rAppend, rPopAt, gTup, gCons, gNil, tCall, tSl, tPart, tNoPart, rSlL, rCat, rEqD, rNeD, rIn, scal, List.map_cons, List.map_nil, List.length_cons, List.length_nil, List.length_map, List.cons_append, List.nil_append, List.append_nil, List.replicate, List.getElem?_cons_zero, List.getElem?_cons_succ, List.set_cons_zero, List.set_cons_succ, Option.some.injEq, exists_eq_left', exists_eq_left, exists_eq_right, exists_and_left, exists_and_right, V.int.injEq, V.ref.injEq, V.str.injEq, V.bl.injEq, reduceCtorEq, false_and, and_false, exists_false, or_false, false_or, true_and, and_true, List.cons.injEq, decide_eq_true_eq, cxOf, if_true, if_false, Bool.false_eq_true, Nat.reduceAdd, Nat.reduceSub, Nat.zero_add, Nat.add_sub_cancel_left, Nat.add_sub_cancel, Nat.sub_self, sFld, tFld, tFor_eq, tLc_eq, iRng1, iRng2, iList, iTup, iEnum, rIsi, rIsiT, iSeq, tM0, tM1, tFmt, tJs, rJoin, rNewStrs, tMakeL, tMake, tNever, tChain, iStr, rEqNil, rNeNil, rLenS, rNotSign]
    have big : 16777216 ≤ sizeLine := by decide
    have hlx : x.length = x.cps.size := rfl
    have q0 := q H (Same.refl H)
    have nf : (¬ (1 ≤ x.cps.size ∧ x.cps.size ≤ 5) ∨ x = "crown") → nameB x = false := fun h => by
      unfold nameB
      rcases h with h | h
      · have : (decide (1 ≤ x.cps.size) && decide (x.cps.size ≤ 5)) = false := by
          rw [Bool.and_eq_false_iff, decide_eq_false_iff_not, decide_eq_false_iff_not]
          omega
        rw [this]
        rfl
      · rw [decide_eq_false (show ¬ (x ≠ "crown") from fun z => z h), Bool.and_false]
    refine ⟨by omega, ?_⟩
    by_cases h1 : 0 < x.cps.size
    · rw [if_pos (by omega)]
      by_cases h2 : x.cps.size < 6
      · rw [if_neg (by simp; omega)]
        by_cases h3 : x = Str.ofString "crown"
        · rw [if_pos h3]
          rw [nf (.inr h3)] at q0
          exact q0
        · rw [if_neg h3]
          intro D nD
          refine lg_filter (walk_str (z := x)) (fun i => !decide ((x.cps.toList.getD i 0) ∈ (Str.ofString "abcdefghijklmnopqrstuvwxyz").cps.toList)) (fun i => .str ⟨#[x.cps.toList.getD i 0]⟩) (small1000 (by omega)) nD (fun _ _ => trivial) (fun i y H2 H3 Aq Bq hi s2 hD hY hA hB => ?_) (fun H2 s2 eD => ?_)
          · obtain ⟨rfl, c, ec, rfl⟩ := hY
            have e : x.cps.toList.getD i 0 = c := by rw [List.getD_eq_getElem?_getD, Array.getElem?_toList, ec]; rfl
            simp only [e] at hA hB
            simp only [and_assoc, tSeq, tAsg, tOp, tUn, rI, rI0, rU, tVar, tC, gName, L2.start, tIfS, tTest, tB, tCB, tCons, tNil, tIf, tRet, tRetN, tLst, tTup, tNext, tDrop, tNot, tNotV, tAnd, tOr, tAndV, tOrV, tPar, tAug, ipI, rEq, rNe, gSub, rSetL, rIxL, rIxT, tBM, tBM0, rAppend, rPopAt, gTup, gCons, gNil, tCall, tSl, tPart, tNoPart, rSlL, rCat, rEqD, rNeD, rIn, scal, List.map_cons, List.map_nil, List.length_cons, List.length_nil, List.length_map, List.cons_append, List.nil_append, List.append_nil, List.replicate, List.getElem?_cons_zero, List.getElem?_cons_succ, List.set_cons_zero, List.set_cons_succ, Option.some.injEq, exists_eq_left', exists_eq_left, exists_eq_right, exists_and_left, exists_and_right, V.int.injEq, V.ref.injEq, V.str.injEq, V.bl.injEq, reduceCtorEq, false_and, and_false, exists_false, or_false, false_or, true_and, and_true, List.cons.injEq, decide_eq_true_eq, cxOf, if_true, if_false, Bool.false_eq_true, Nat.reduceAdd, Nat.reduceSub, Nat.zero_add, Nat.add_sub_cancel_left, Nat.add_sub_cancel, Nat.sub_self, sFld, tFld, tFor_eq, tLc_eq, iRng1, iRng2, iList, iTup, iEnum, rIsi, rIsiT, iSeq, tM0, tM1, tFmt, tJs, rJoin, rNewStrs, tMakeL, tMake, tNever, tChain, iStr, rEqNil, rNeNil, rLenS, rNotSign, wipe]
            refine ⟨c, rfl, ?_⟩
            cases hd : !decide (c ∈ (Str.ofString "abcdefghijklmnopqrstuvwxyz").cps.toList) with
            | true => 
              rw [if_pos rfl]
              exact hA _ hd (Same.refl _)
            | false =>
              rw [if_neg (by simp)]
              exact hB _ hd (Same.refl _)
          · refine ⟨by decide, fun p np => ⟨_, sqL_of (same_upd np _ _ eD), sqL_of upd_same, ?_⟩⟩
            rw [left_nil]
            have e : (x.cps.toList.all fun c => decide (c ∈ (Str.ofString "abcdefghijklmnopqrstuvwxyz").cps.toList)) = nameB x := by
              unfold nameB
              rw [decide_eq_true (by omega : 1 ≤ x.cps.size), decide_eq_true (by omega : x.cps.size ≤ 5), decide_eq_true (show x ≠ "crown" from h3), Bool.and_true, Bool.true_and, Bool.true_and, ← Array.all_toList]
              congr 1
              funext c
              rw [Bool.eq_iff_iff, decide_eq_true_eq, mem_abc]
              simp
            rw [e]
            exact q _ (s2.trans (same_upd np))
      · rw [if_pos (by simp; omega)]
        rw [nf (.inl (by omega))] at q0
        exact q0
    · rw [if_neg (by omega), if_pos (by rfl)]
      rw [nf (.inl (by omega))] at q0
      exact q0

end
end He

namespace He
open PySem PySem.Spec PyProof.Rows L2
section
variable {P : Program} {w : World} {K : PySem.W.Frag} {mg : Str → Option Value} {base : Heap}

open TL PySem.StrLaws
theorem mk_tl2 (l : List Nat) : tl (⟨l.toArray⟩ : Str) = l := by simp [tl]
theorem sp_tl : tl (" " : Str) = [32] := by decide +kernel
/-- a part, cut at its first blank -/
inductive Cut (x : Str) : Prop where
  | no : 32 ∉ tl x → Txt.partition x " " = (x, Str.empty, Str.empty) → Txt.split x " " = [x] → Cut x
  | yes (h t : Str) (rest : List Str) : x = h ++ (" " : Str) ++ t → Txt.partition x " " = (h, (" " : Str), t) → Txt.split x " " = h :: rest → cutS x (some ((h.length : Int) + 1)) none = t → h.length + 1 + t.length = x.length → Cut x
theorem cut_of (x : Str) : Cut x := by
  by_cases hm : 32 ∈ tl x
  · obtain ⟨p, r, e, hp⟩ := List.eq_append_cons_of_mem hm
    have ex : x = (⟨p.toArray⟩ : Str) ++ (" " : Str) ++ (⟨r.toArray⟩ : Str) := ext_tl (by rw [tl_append, tl_append, mk_tl2 p, mk_tl2 r, sp_tl, e, List.append_assoc]; rfl)
    have e2 : Txt.partition x " " = ((⟨p.toArray⟩ : Str), (" " : Str), (⟨r.toArray⟩ : Str)) := by
      rw [ex]
      exact TL.partition_app (s := 32) (S := []) sp_tl (by rw [mk_tl2]; exact hp)
    have e3 := split_spl x (" " : Str) (by rw [sp_tl]; simp) (kind_ok (by decide +kernel))
    rw [sp_tl, e, show p ++ 32 :: r = p ++ ([32] ++ r) from rfl, spl_part1 hp, List.nil_append] at e3
    have hxl : x.length = p.length + 1 + r.length := by rw [len_tl, e, List.length_append, List.length_cons]; omega
    have hpl : (⟨p.toArray⟩ : Str).length = p.length := by rw [len_tl, mk_tl2]
    have hrl : (⟨r.toArray⟩ : Str).length = r.length := by rw [len_tl, mk_tl2]
    cases hs : Txt.split x " " with
    | nil => rw [hs] at e3; cases e3
    | cons a rest =>
      rw [hs, List.map_cons] at e3
      injection e3 with e4 e5
      have ea : a = (⟨p.toArray⟩ : Str) := ext_tl (by rw [e4, mk_tl2])
      subst ea
      refine .yes _ _ rest ex e2 hs ?_ (by rw [hpl, hrl, hxl])
      refine ext_tl ?_
      rw [mk_tl2]
      unfold cutS
      rw [mk_tl2, hpl, show ((p.length : Int) + 1) = ((p.length + 1 : Nat) : Int) by omega, HT.sIx_nat, HT.sIx_none, Nat.min_eq_left (by omega)]
      have ed : x.cps.toList = (p ++ [32]) ++ r := by
        show tl x = _
        rw [e, List.append_assoc]
        rfl
      rw [ed, List.drop_left' (by simp), List.take_of_length_le (by omega)]
  · have e2 : Txt.partition x " " = (x, Str.empty, Str.empty) := TL.partition_none (s := 32) (S := []) sp_tl hm
    refine .no hm e2 ?_
    have e3 := split_spl x (" " : Str) (by rw [sp_tl]; simp) (kind_ok (by decide +kernel))
    rw [sp_tl, spl_last1 hm, List.nil_append] at e3
    exact map_tl_inj e3
def numOk (h : Str) : Bool := decide (1 ≤ h.cps.size) && decide (h.cps.size ≤ 6) && (h.cps.toList.all fun c => decide (c ∈ (Str.ofString "0123456789").cps.toList)) && decide (h.cps.toList.getD 0 0 ≠ 48)
theorem starts0 {h : Str} : Txt.startswith h "0" = decide (h.cps.toList.getD 0 0 = 48) := by
  have ht : tl ("0" : Str) = [48] := by decide +kernel
  have hi := at_iff (x := h) (y := "0") (by rw [ht]; simp) 0
  rw [ht, List.drop_zero] at hi
  rw [Bool.eq_iff_iff, decide_eq_true_eq]
  have e1 : Txt.startswith h "0" = true ↔ At h "0" h.length 0 := by
    unfold Txt.startswith At
    rw [Bool.and_eq_true, decide_eq_true_eq]
  rw [e1, hi]
  show pre [48] h.cps.toList = true ↔ _
  cases h.cps.toList with
  | nil => simp [pre]
  | cons a l => simp [pre]
theorem dig_pos : ∀ (l : List Nat) (a : Nat), 1 ≤ a → 1 ≤ l.foldl (fun acc c => acc * 10 + (c - 48)) a
  | [], a, h => h
  | c :: r, a, h => dig_pos r (a * 10 + (c - 48)) (by omega)
theorem num_ok (h : Str) : wOkA (optA (readNum h 6)) = numOk h := by
  rw [Bool.eq_iff_iff]
  constructor
  · intro hw
    cases e : readNum h 6 with
    | none => rw [e] at hw; cases hw
    | some n =>
      rw [e] at hw
      have hn : 1 ≤ n := of_decide_eq_true hw
      obtain ⟨_, h6, hd, hne, hv, h0⟩ := readNum_some e
      have hl : h.cps.size = (tl h).length := len_tl h
      have hp : 0 < (tl h).length := List.length_pos_iff.mpr hne
      have h6' : h.cps.size ≤ 6 := h6
      unfold numOk
      rw [decide_eq_true (by omega : 1 ≤ h.cps.size), decide_eq_true h6', Bool.and_true, Bool.true_and, Bool.and_eq_true, decide_eq_true_eq, List.all_eq_true]
      refine ⟨fun c hc => decide_eq_true (mem_dig.mpr (hd c hc)), fun z => ?_⟩
      by_cases hx : h = "0"
      · rw [hx] at hv
        have : NumText.digitsVal (tl ("0" : Str)) = 0 := by decide +kernel
        rw [this] at hv
        omega
      · have := h0 hx
        rw [starts0, decide_eq_true z] at this
        cases this
  · intro hk
    unfold numOk at hk
    simp only [Bool.and_eq_true, decide_eq_true_eq, List.all_eq_true] at hk
    obtain ⟨⟨⟨h1, h6⟩, hd⟩, h0⟩ := hk
    have hd' : ∀ c ∈ h.cps.toList, 48 ≤ c ∧ c ≤ 57 := fun c hc => mem_dig.mp (hd c hc)
    have hs : Txt.startswith h "0" = false := by rw [starts0]; exact decide_eq_false h0
    have ha : Txt.isascii h = true := by
      unfold Txt.isascii
      rw [← Array.all_toList]
      exact List.all_eq_true.mpr fun c hc => decide_eq_true (by have := hd' c hc; omega)
    have hg : Txt.isdigit h = true := by
      unfold Txt.isdigit
      have hpos : h.length > 0 := h1
      rw [decide_eq_true hpos, Bool.true_and, ← Array.all_toList]
      refine List.all_eq_true.mpr fun c hc => ?_
      have := hd' c hc
      rw [at_tab tab_digit (by omega)]
      simp
      omega
    have hne : h.cps.toList ≠ [] := fun z => by
      have : h.cps.toList.length = h.cps.size := Array.length_toList
      rw [z] at this
      simp at this
      omega
    have hl6 : h.length ≤ 6 := h6
    have e : readNum h 6 = some ((NumText.digitsVal h.cps.toList : Nat) : Int) := by
      unfold readNum
      rw [decide_eq_false (by omega), ha, hg, hs]
      simp only [Bool.false_or, Bool.not_true, Bool.and_false, if_false, Bool.false_eq_true]
      exact intText_digits (fun c hc => hd' c hc) hne (by omega)
    rw [e]
    refine decide_eq_true ?_
    have : 1 ≤ NumText.digitsVal h.cps.toList := by
      cases hc : h.cps.toList with
      | nil => exact absurd hc hne
      | cons a l =>
        have h48 : a ≠ 48 := by
          rw [hc] at h0
          simpa using h0
        have ha2 := hd' a (by rw [hc]; exact List.mem_cons_self)
        unfold NumText.digitsVal
        rw [List.foldl_cons]
        exact dig_pos l _ (by omega)
    omega
theorem grp_isA (names : List Str) : isGrpA (.lst (names.map AD.str)) = (!names.isEmpty && names.all nameB && decide names.Nodup) := by
  show Option.isSome (if (names.map AD.str).isEmpty then none else if (names.map AD.str).all isNameA then (match strsA (names.map AD.str) with | some xs => if xs.Nodup then some xs else none | none => none) else none) = _
  rw [strsA_map, List.isEmpty_map, List.all_map, show (isNameA ∘ AD.str) = nameB from rfl]
  cases names.isEmpty <;> cases names.all nameB <;> by_cases hn : names.Nodup <;> simp [hn]
/-- no name is wrong -/
theorem wrong_nil {names : List Str} (hne : names ≠ []) {ye : Nat → V} : (((List.range names.length).filter fun i => !nameB (names.getD i "") || (names.take i).any fun y => decide (y = names.getD i "")).map ye).isEmpty = isGrpA (.lst (names.map AD.str)) := by
  rw [grp_isA, Bool.eq_iff_iff, List.isEmpty_iff, List.map_eq_nil_iff, List.filter_eq_nil_iff]
  have he : names.isEmpty = false := by
    cases names with
    | nil => exact absurd rfl hne
    | cons _ _ => rfl
  rw [he]
  simp only [Bool.not_false, Bool.true_and, Bool.and_eq_true, decide_eq_true_eq, List.all_eq_true]
  have get : ∀ {i : Nat} (hi : i < names.length), names.getD i "" = names[i] := fun {i} hi => by rw [List.getD_eq_getElem?_getD, List.getElem?_eq_getElem hi]; rfl
  constructor
  · intro h
    constructor
    · intro n hn
      obtain ⟨i, hi, rfl⟩ := List.getElem_of_mem hn
      have := h i (List.mem_range.mpr hi)
      rw [get hi] at this
      simp only [Bool.or_eq_true, not_or, Bool.not_eq_true', Bool.not_eq_false] at this
      exact this.1
    · rw [List.nodup_iff_pairwise_ne, List.pairwise_iff_getElem]
      intro i j hi hj hij z
      have := h j (List.mem_range.mpr hj)
      rw [get hj] at this
      simp only [Bool.or_eq_true, not_or, Bool.not_eq_true', Bool.not_eq_false, List.any_eq_true, decide_eq_true_eq] at this
      refine this.2 ⟨names[i], ?_, z⟩
      exact List.mem_iff_getElem?.mpr ⟨i, by rw [List.getElem?_take, if_pos hij]; exact List.getElem?_eq_getElem hi⟩
  · rintro ⟨h1, h2⟩ i hi
    have hil := List.mem_range.mp hi
    rw [get hil]
    simp only [Bool.or_eq_true, not_or, Bool.not_eq_true', Bool.not_eq_false, List.any_eq_true, decide_eq_true_eq]
    refine ⟨h1 _ (List.getElem_mem hil), ?_⟩
    rintro ⟨y, hy, rfl⟩
    obtain ⟨j, hj⟩ := List.mem_iff_getElem?.mp hy
    rw [List.getElem?_take] at hj
    split at hj
    · rename_i hji
      rw [List.nodup_iff_pairwise_ne, List.pairwise_iff_getElem] at h2
      have hjl := (List.getElem?_eq_some_iff.mp hj).1
      have := (List.getElem?_eq_some_iff.mp hj).2
      exact h2 j i hjl hil hji this
    · cases hj

end
end He

namespace He
open PySem PySem.Spec PyProof.Rows L2
section
variable {P : Program} {w : World} {K : PySem.W.Frag} {mg : Str → Option Value} {base : Heap}
theorem ok_part (T : TxtG K mg) : FnOk P w K mg base CX0 2 T.dLawIsPart.f T.dLawIsPart.fd ["_law_part"] (spTxtB (fun x => isShA (rsA x))) := by
  refine T.dLawIsPart.F.ok scDLawIsPart (fun vs H Q E h => ?_) (fun cdv A outer s H vs Q E hr h => ?_)
  · obtain ⟨x, rfl, _⟩ := h
    rfl
  · obtain ⟨x, rfl, hl, q⟩ := h
    refine ⟨_, (pss_cons (ps_set (i := 1) scDLawIsPart.nd rfl (.inl rfl) (pe_ix ix_list (pe_split (pv 0) pe_str) pe_int (fun _ _ => rfl)))
      (pss_cons (ps_if (PW.pt (pw_or (pt_not (pt_chain op_lt op_lt pe_int (pe_callB (show CallR _ (.builtin "len") rLenS from call_len_str) (by rfl) T.z_len (show bootBuiltins "len" = some (.builtin "len") by decide +kernel) (pa_cons (pv 1) pa_nil)) pe_int)) (pw_or (pt_cmpR (op_neNil hr.units) (pe_lc (own := [("_law_sign", 2)]) (g := (gName 2)) rfl scDLawIsPart.nd (pi_str (pv 1)) (blkOk_by (N := ["_law_part", "_law_head", "_law_sign", "_law_text", "_law_names_here", "_law_wrong", "_law_spot", "_law_name"]) (sc := defScope sDLawIsPart) (by decide +kernel)) (fun _ _ _ _ _ => (pg_name (i := 2) scDLawIsPart.nd rfl (.inl rfl))) (fun _ _ _ _ _ => (pts_one (pt_cmpR op_ns_str (pv 2) pe_str (by rfl)))) (fun _ _ _ _ _ => (pv 2))) (pe_lst pa_nil) (nomark _)) (pw_or1 (pt_cmpR op_eq (pe_ix ix_str (pv 1) pe_int (fun _ _ => rfl)) pe_str (nomark _))))))
      (pss_one (ps_ret pe_bl))
      pss_nil)
      (pss_cons (ps_if (pt_cmpR op_eq (pv 0) (pv 1) (nomark _))
      (pss_one (ps_ret pe_bl))
      pss_nil)
      (pss_cons (ps_for PassesOwn.never rfl (pi_list (pe_split (pe_slice sl_str (pv 0) (po_some (pe_op op_add (pe_callB (show CallR _ (.builtin "len") rLenS from call_len_str) (by rfl) T.z_len (show bootBuiltins "len" = some (.builtin "len") by decide +kernel) (pa_cons (pv 1) pa_nil)) pe_int)) po_none) pe_str)) (pg_name (i := 3) scDLawIsPart.nd rfl (.inl rfl))
      (pss_cons (ps_set (i := 4) scDLawIsPart.nd rfl (.inr rfl) (pe_split (pv 3) pe_str))
      (pss_cons (ps_setLc (i := 5) (own := [("_law_spot", 6), ("_law_name", 7)]) (g := (gTup K 2 (gCons (gName 6) (gCons (gName 7) gNil)))) rfl scDLawIsPart.nd rfl rfl (sw_true rfl rfl rfl (by decide +kernel)) (pi_enum (by rfl) T.z_enumerate (pa_cons (pv 4) pa_nil)) (blkOk_by (N := ["_law_part", "_law_head", "_law_sign", "_law_text", "_law_names_here", "_law_wrong", "_law_spot", "_law_name"]) (sc := defScope sDLawIsPart) (by decide +kernel)) (fun _ _ _ _ _ => (pg_tup (n := 2) rfl (pgs_cons (pg_name (i := 6) scDLawIsPart.nd rfl (.inl rfl)) (pgs_cons (pg_name (i := 7) scDLawIsPart.nd rfl (.inl rfl)) pgs_nil)))) (fun _ _ _ _ _ => (pts_one (PW.pt (pw_or (pt_not (pt_val (pe_call (ok_title T) (hr.mono (by decide)) (by rfl) T.dLawIsTitle.g T.dLawIsTitle.F.kp T.dLawIsTitle.b .nil pass0 (pa_cons (pv 7) pa_nil)))) (pw_or1 (pt_cmpR (show OpR _ (compareOp .In) (rIn K false) from op_in_seq) (pv 7) (pe_slice (show SlR _ (rSlL K) from sl_list) (pv 4) po_none (po_some (pv 6))) (by rfl))))))) (fun _ _ _ _ _ => (pv 7)))
      (pss_one (ps_if (pt_cmpR (op_neNil hr.units) (pv 5) (pe_lst pa_nil) (nomark _))
      (pss_one (ps_ret pe_bl))
      pss_nil)))))
      (pss_one (ps_ret pe_bl)))))), ?_⟩
    simp only [and_assoc, tSeq, tAsg, tOp, tUn, rI, rI0, rU, tVar, tC, gName, L2.start, tIfS, tTest, tB, tCB, tCons, tNil, tIf, tRet, tRetN, tLst, tTup, tNext, tDrop, tNot, tNotV, tAnd, tOr, tAndV, tOrV, tPar, tAug, ipI, rEq, rNe, gSub, rSetL, rIxL, rIxT, tBM, tBM0, rAppend, rPopAt, gTup, gCons, gNil, tCall, tSl, tPart, tNoPart, rSlL, rCat, rEqD, rNeD, rIn, scal, List.map_cons, List.map_nil, List.length_cons, List.length_nil, List.length_map, List.cons_append, List.nil_append, List.append_nil, List.replicate, List.getElem?_cons_zero, List.getElem?_cons_succ, List.set_cons_zero, List.set_cons_succ, Option.some.injEq, exists_eq_left', exists_eq_left, exists_eq_right, exists_and_left, exists_and_right, V.int.injEq, V.ref.injEq, V.str.injEq, V.bl.injEq, reduceCtorEq, false_and, and_false, exists_false, or_false, false_or, true_and, and_true, List.cons.injEq, decide_eq_true_eq, cxOf, if_true, if_false, Bool.false_eq_true, Nat.reduceAdd, Nat.reduceSub, Nat.zero_add, Nat.add_sub_cancel_left, Nat.add_sub_cancel, Nat.sub_self, sFld, tFld, tFor_eq, tLc_eq, iRng1, iRng2, iList, iTup, iEnum, rIsi, rIsiT, iSeq, tM0, tM1, tFmt, tJs, rJoin, rNewStrs, tMakeL, tMake, tNever, tChain, iStr, rEqNil, rNeNil, rLenS, rNotSign, rSlS, rIxS, spTxtB]
    have big : 16777216 ≤ sizeLine := by decide
    obtain ⟨hd, rest, es, hsub, hfalse, alt⟩ : ∃ hd rest, Txt.split x " " = hd :: rest ∧ hd.length ≤ x.length ∧ (numOk hd = false → isShA (rsA x) = false) ∧ ((x = hd ∧ isShA (rsA x) = numOk hd) ∨ ∃ t, x ≠ hd ∧ cutS x (some ((hd.length : Int) + 1)) none = t ∧ t.length ≤ 1000 ∧ isShA (rsA x) = (numOk hd && (rsGroups t).all isGrpA)) := by
      rcases cut_of x with ⟨hm, e1, e2⟩ | ⟨h, t, rest, e1, e2, e3, e4, e5⟩
      · have e : isShA (rsA x) = numOk x := by
          rw [← num_ok x]
          unfold rsA
          rw [e1]
          show (wOkA (optA (readNum x 6)) && isGrpsA (.lst (if (Str.empty).length = 0 then [] else _))) = _
          rw [if_pos (by decide +kernel)]
          exact Bool.and_true _
        exact ⟨x, [], e2, Nat.le_refl _, fun z => by rw [e, z], .inl ⟨rfl, e⟩⟩
      · have e : isShA (rsA x) = (numOk h && (rsGroups t).all isGrpA) := by
          rw [← num_ok h]
          unfold rsA
          rw [e2]
          show (wOkA (optA (readNum h 6)) && isGrpsA (.lst (if (" " : Str).length = 0 then [] else _))) = _
          rw [if_neg (by decide +kernel)]
          rfl
        exact ⟨h, rest, e3, by omega, fun z => by rw [e, z, Bool.false_and], .inr ⟨t, fun z => by rw [← z] at e5; omega, e4, by omega, e⟩⟩
    have no : ∀ H', Same H H' → numOk hd = false → Q (.bl false) H' := fun H' s' z => by have := q H' s'; rw [show ((fun x => isShA (rsA x)) x) = false from hfalse z] at this; exact this
    have hlx : hd.length = hd.cps.size := rfl
    refine ⟨⟨_, rfl⟩, by decide +kernel, by omega, fun p np => ?_⟩
    have s1 := same_upd (o := .lst ((Txt.split x (Str.ofString " ")).map V.str)) np
    have e1 : upd H p (.lst ((Txt.split x (Str.ofString " ")).map V.str)) p = _ := upd_same
    generalize upd H p (.lst ((Txt.split x (Str.ofString " ")).map V.str)) = H1 at s1 e1 ⊢
    refine ⟨_, sqL_of e1, .str hd, by rw [es]; show atI (V.str hd :: rest.map V.str) 0 = _; unfold atI ixN; rw [if_pos (by omega), if_pos (by simp)]; exact rfl, hd, rfl, by omega, ?_⟩
    have bad : ¬ (1 ≤ hd.cps.size ∧ hd.cps.size ≤ 6) → numOk hd = false := fun h => by
      unfold numOk
      have : (decide (1 ≤ hd.cps.size) && decide (hd.cps.size ≤ 6)) = false := by
        rw [Bool.and_eq_false_iff, decide_eq_false_iff_not, decide_eq_false_iff_not]
        omega
      rw [this]
      rfl
    by_cases h1 : 0 < hd.cps.size
    · rw [if_pos (by omega)]
      by_cases h2 : hd.cps.size < 7
      · rw [if_neg (by simp; omega)]
        refine ⟨hd, rfl, fun D nD => ?_⟩
        refine lg_filter (walk_str (z := hd)) (fun i => !decide ((hd.cps.toList.getD i 0) ∈ (Str.ofString "0123456789").cps.toList)) (fun i => .str ⟨#[hd.cps.toList.getD i 0]⟩) (small1000 (by omega)) nD (fun _ _ => trivial) (fun i y H2 H3 Aq Bq hi s2 hD hY hA hB => ?_) (fun H2 s2 eD => ?_)
        · obtain ⟨rfl, c, ec, rfl⟩ := hY
          have e : hd.cps.toList.getD i 0 = c := by rw [List.getD_eq_getElem?_getD, Array.getElem?_toList, ec]; rfl
          simp only [e] at hA hB
          simp only [and_assoc, tSeq, tAsg, tOp, tUn, rI, rI0, rU, tVar, tC, gName, L2.start, tIfS, tTest, tB, tCB, tCons, tNil, tIf, tRet, tRetN, tLst, tTup, tNext, tDrop, tNot, tNotV, tAnd, tOr, tAndV, tOrV, tPar, tAug, ipI, rEq, rNe, gSub, rSetL, rIxL, rIxT, tBM, tBM0, rAppend, rPopAt, gTup, gCons, gNil, tCall, tSl, tPart, tNoPart, rSlL, rCat, rEqD, rNeD, rIn, scal, List.map_cons, List.map_nil, List.length_cons, List.length_nil, List.length_map, List.cons_append, List.nil_append, List.append_nil, List.replicate, List.getElem?_cons_zero, List.getElem?_cons_succ, List.set_cons_zero, List.set_cons_succ, Option.some.injEq, exists_eq_left', exists_eq_left, exists_eq_right, exists_and_left, exists_and_right, V.int.injEq, V.ref.injEq, V.str.injEq, V.bl.injEq, reduceCtorEq, false_and, and_false, exists_false, or_false, false_or, true_and, and_true, List.cons.injEq, decide_eq_true_eq, cxOf, if_true, if_false, Bool.false_eq_true, Nat.reduceAdd, Nat.reduceSub, Nat.zero_add, Nat.add_sub_cancel_left, Nat.add_sub_cancel, Nat.sub_self, sFld, tFld, tFor_eq, tLc_eq, iRng1, iRng2, iList, iTup, iEnum, rIsi, rIsiT, iSeq, tM0, tM1, tFmt, tJs, rJoin, rNewStrs, tMakeL, tMake, tNever, tChain, iStr, rEqNil, rNeNil, rLenS, rNotSign, rSlS, rIxS, wipe]
          refine ⟨c, rfl, ?_⟩
          cases hd2 : !decide (c ∈ (Str.ofString "0123456789").cps.toList) with
          | true => 
            rw [if_pos rfl]
            exact hA _ hd2 (Same.refl _)
          | false =>
            rw [if_neg (by simp)]
            exact hB _ hd2 (Same.refl _)
        · refine ⟨by decide, fun p2 np2 => ⟨_, sqL_of (same_upd np2 _ _ eD), sqL_of upd_same, ?_⟩⟩
          have s3 := (s1.trans s2).trans (same_upd (o := .lst []) np2)
          generalize upd H2 p2 (.lst []) = H3 at s3 ⊢
          rw [left_nil]
          have nk : numOk hd = ((hd.cps.toList.all fun c => decide (c ∈ (Str.ofString "0123456789").cps.toList)) && decide (hd.cps.toList.getD 0 0 ≠ 48)) := by
            unfold numOk
            rw [decide_eq_true (by omega : 1 ≤ hd.cps.size), decide_eq_true (by omega : hd.cps.size ≤ 6), Bool.true_and, Bool.true_and]
          cases hdg : hd.cps.toList.all fun c => decide (c ∈ (Str.ofString "0123456789").cps.toList) with
          | false =>
            rw [if_pos (show (!false) = true from rfl)]
            exact no _ s3 (by rw [nk, hdg]; rfl)
          | true =>
            rw [if_neg (by simp)]
            rw [hdg, Bool.true_and] at nk
            have ec : hd.cps.toList[0]? = some (hd.cps.toList.getD 0 0) := by
              rw [List.getD_eq_getElem?_getD, List.getElem?_eq_getElem (by rw [Array.length_toList]; exact h1)]
              rfl
            refine ⟨hd, rfl, by omega, hd.cps.toList.getD 0 0, ?_, ?_⟩
            · unfold atI ixN
              rw [if_pos (by omega), if_pos (by rw [Array.length_toList]; omega)]
              exact ec
            · by_cases h48 : hd.cps.toList.getD 0 0 = 48
              · rw [if_pos (by rw [h48]; decide +kernel)]
                exact no _ s3 (by rw [nk, h48]; rfl)
              · rw [if_neg (fun z => h48 (by have := congrArg (fun s : Str => s.cps.toList) z; rw [show (Str.ofString "0").cps.toList = [48] by decide +kernel] at this; simpa using this))]
                have nkt : numOk hd = true := by rw [nk, decide_eq_true h48]
                refine ⟨rfl, ?_⟩
                rcases alt with ⟨ex, et⟩ | ⟨t, hne, ec2, htl, et⟩
                · rw [if_pos (by rw [ex])]
                  have := q _ s3
                  rw [show ((fun x => isShA (rsA x)) x) = true from et.trans nkt] at this
                  exact this
                · rw [if_neg (fun z => hne (V.str.inj z))]
                  rw [nkt, Bool.true_and] at et
                  have tl2 := fact_split t (Str.ofString " > ")
                  refine ⟨hd, rfl, by omega, by omega, ⟨_, rfl⟩, by decide +kernel, by rw [ec2]; omega, fun p4 np4 => ?_⟩
                  rw [ec2]
                  refine ⟨⟨_, sqL_of upd_same⟩, ?_⟩
                  have s4 := s3.trans (same_upd (o := .lst ((Txt.split t (Str.ofString " > ")).map V.str)) np4)
                  have e4 : upd H3 p4 (.lst ((Txt.split t (Str.ofString " > ")).map V.str)) p4 = _ := upd_same
                  generalize upd H3 p4 (.lst ((Txt.split t (Str.ofString " > ")).map V.str)) = H4 at s4 e4 ⊢
                  refine fg_list (xs := (Txt.split t (Str.ofString " > ")).map V.str) (fun i σ H5 => ∃ (o2 o3 o4 o5 o6 o7 : Option V), σ = [some (.str x), some (.str hd), o2, o3, o4, o5, o6, o7] ∧ Same H H5 ∧ H5 p4 = some (.lst ((Txt.split t (Str.ofString " > ")).map V.str)) ∧ ∀ (j : Nat) (g : Str), j < i → (Txt.split t (Str.ofString " > "))[j]? = some g → isGrpA (.lst ((Txt.split g "+").map AD.str)) = true)
                    ⟨_, _, _, _, _, _, rfl, s4, e4, fun j _ hj => absurd hj (Nat.not_lt_zero _)⟩ (fun i σ H5 _ ⟨_, _, _, _, _, _, _, _, e, _⟩ => sqL_of e) ?_ ?_
                  · rintro i y σ H5 hy ⟨o2, o3, o4, o5, o6, o7, rfl, s5, e5, hgood⟩
                    rw [List.getElem?_map] at hy
                    obtain ⟨g, eg, rfl⟩ := Option.map_eq_some_iff.mp hy
                    have hgm := List.mem_of_getElem? eg
                    have hgl := split_sub sepGt hgm
                    have hns := fact_split g (Str.ofString "+")
                    simp only [and_assoc, tSeq, tAsg, tOp, tUn, rI, rI0, rU, tVar, tC, gName, L2.start, tIfS, tTest, tB, tCB, tCons, tNil, tIf, tRet, tRetN, tLst, tTup, tNext, tDrop, tNot, tNotV, tAnd, tOr, tAndV, tOrV, tPar, tAug, ipI, rEq, rNe, gSub, rSetL, rIxL, rIxT, tBM, tBM0, rAppend, rPopAt, gTup, gCons, gNil, tCall, tSl, tPart, tNoPart, rSlL, rCat, rEqD, rNeD, rIn, scal, List.map_cons, List.map_nil, List.length_cons, List.length_nil, List.length_map, List.cons_append, List.nil_append, List.append_nil, List.replicate, List.getElem?_cons_zero, List.getElem?_cons_succ, List.set_cons_zero, List.set_cons_succ, Option.some.injEq, exists_eq_left', exists_eq_left, exists_eq_right, exists_and_left, exists_and_right, V.int.injEq, V.ref.injEq, V.str.injEq, V.bl.injEq, reduceCtorEq, false_and, and_false, exists_false, or_false, false_or, true_and, and_true, List.cons.injEq, decide_eq_true_eq, cxOf, if_true, if_false, Bool.false_eq_true, Nat.reduceAdd, Nat.reduceSub, Nat.zero_add, Nat.add_sub_cancel_left, Nat.add_sub_cancel, Nat.sub_self, sFld, tFld, tFor_eq, tLc_eq, iRng1, iRng2, iList, iTup, iEnum, rIsi, rIsiT, iSeq, tM0, tM1, tFmt, tJs, rJoin, rNewStrs, tMakeL, tMake, tNever, tChain, iStr, rEqNil, rNeNil, rLenS, rNotSign, rSlS, rIxS]
                    refine ⟨⟨_, rfl⟩, by decide +kernel, by omega, fun p5 np5 => ?_⟩
                    have s6 := s5.trans (same_upd (o := .lst ((Txt.split g (Str.ofString "+")).map V.str)) np5)
                    have e6 : upd H5 p5 (.lst ((Txt.split g (Str.ofString "+")).map V.str)) p5 = _ := upd_same
                    have e56 := same_upd (o := .lst ((Txt.split g (Str.ofString "+")).map V.str)) np5 _ _ e5
                    generalize upd H5 p5 (.lst ((Txt.split g (Str.ofString "+")).map V.str)) = H6 at s6 e6 e56 ⊢
                    have nmne : Txt.split g (Str.ofString "+") ≠ [] := fun z => by rw [z] at hns; simp at hns
                    generalize hnm : Txt.split g (Str.ofString "+") = nms at hns e6 nmne ⊢
                    refine ⟨⟨_, sqL_of e6⟩, fun D nD => ?_⟩
                    refine lg_filter (walk_enum (K := K) (a := p5) (xs := nms.map V.str)) (fun i => !nameB (nms.getD i "") || (nms.take i).any fun y => decide (y = nms.getD i "")) (fun i => .str (nms.getD i "")) (by rw [List.length_map]; omega) nD (fun H' s' => sqL_of (s' _ _ e6)) (fun j z H7 H8 Aq Bq hj s7 hD hY hA hB => ?_) (fun H7 s7 eD => ?_)
                    · obtain ⟨T2, x1, y1, rfl, nT2, rfl, h1, h2⟩ := hY
                      cases Option.some.inj h1
                      have h2' : (nms.map V.str)[j]? = some y1 := h2
                      rw [List.getElem?_map] at h2'
                      obtain ⟨n, en, rfl⟩ := Option.map_eq_some_iff.mp h2'
                      have e : nms.getD j "" = n := by rw [List.getD_eq_getElem?_getD, en]; rfl
                      simp only [e] at hA hB
                      simp only [and_assoc, tSeq, tAsg, tOp, tUn, rI, rI0, rU, tVar, tC, gName, L2.start, tIfS, tTest, tB, tCB, tCons, tNil, tIf, tRet, tRetN, tLst, tTup, tNext, tDrop, tNot, tNotV, tAnd, tOr, tAndV, tOrV, tPar, tAug, ipI, rEq, rNe, gSub, rSetL, rIxL, rIxT, tBM, tBM0, rAppend, rPopAt, gTup, gCons, gNil, tCall, tSl, tPart, tNoPart, rSlL, rCat, rEqD, rNeD, rIn, scal, List.map_cons, List.map_nil, List.length_cons, List.length_nil, List.length_map, List.cons_append, List.nil_append, List.append_nil, List.replicate, List.getElem?_cons_zero, List.getElem?_cons_succ, List.set_cons_zero, List.set_cons_succ, Option.some.injEq, exists_eq_left', exists_eq_left, exists_eq_right, exists_and_left, exists_and_right, V.int.injEq, V.ref.injEq, V.str.injEq, V.bl.injEq, reduceCtorEq, false_and, and_false, exists_false, or_false, false_or, true_and, and_true, List.cons.injEq, decide_eq_true_eq, cxOf, if_true, if_false, Bool.false_eq_true, Nat.reduceAdd, Nat.reduceSub, Nat.zero_add, Nat.add_sub_cancel_left, Nat.add_sub_cancel, Nat.sub_self, sFld, tFld, tFor_eq, tLc_eq, iRng1, iRng2, iList, iTup, iEnum, rIsi, rIsiT, iSeq, tM0, tM1, tFmt, tJs, rJoin, rNewStrs, tMakeL, tMake, tNever, tChain, iStr, rEqNil, rNeNil, rLenS, rNotSign, rSlS, rIxS, wipe, spTxtB]
                      refine ⟨_, sqT_of upd_same, rfl, _, _, rfl, _, _, rfl, rfl, ?_⟩
                      refine ⟨n, rfl, by have := split_sub sepPl (List.mem_of_getElem? (hnm ▸ en)); omega, fun H8 s8 => ?_⟩
                      have s78 : Same H7 H8 := (same_upd nT2).trans s8
                      cases hnb : nameB n with
                      | false =>
                        rw [if_pos (show (!false) = true from rfl)]
                        exact hA _ (by rw [hnb]; rfl) s78
                      | true =>
                        rw [if_neg (by simp)]
                        refine ⟨_, rfl, _, sqL_of ((s7.trans s78) _ _ e6), fun p8 np8 => ⟨_, .inl (sqL_of upd_same), rfl, ?_, ?_⟩⟩
                        · rw [cut_to, ← List.map_take, List.all_map]
                          exact List.all_eq_true.mpr fun _ _ => rfl
                        · have hin : inV (V.str n) (cutV (nms.map V.str) none (some ((j : Nat) : Int))) = (nms.take j).any fun y => decide (y = n) := by
                            rw [cut_to, ← List.map_take]
                            unfold inV
                            rw [List.any_map]
                            congr 1
                          rw [hin]
                          cases ha : (nms.take j).any fun y => decide (y = n) with
                          | true =>
                            rw [if_pos rfl]
                            exact hA _ (by rw [ha, Bool.or_true]) (s78.trans (same_upd np8))
                          | false =>
                            rw [if_neg (by simp)]
                            exact hB _ (by rw [ha, hnb]; rfl) (s78.trans (same_upd np8))
                    · refine ⟨by decide, fun p8 np8 => ⟨_, sqL_of (same_upd np8 _ _ eD), sqL_of upd_same, ?_⟩⟩
                      rw [List.length_map, wrong_nil nmne]
                      have s9 := s6.trans (s7.trans (same_upd (o := .lst []) np8))
                      cases hgk : isGrpA (.lst (nms.map AD.str)) with
                      | false =>
                        rw [if_pos (show (!false) = true from rfl)]
                        have := q _ s9
                        rw [show ((fun x => isShA (rsA x)) x) = false from et.trans (by
                          rw [List.all_eq_false]
                          refine ⟨.lst (nms.map AD.str), ?_, by rw [hgk]; simp⟩
                          unfold rsGroups
                          exact List.mem_map.mpr ⟨g, hgm, by rw [← hnm]⟩)] at this
                        exact this
                      | true =>
                        rw [if_neg (by simp)]
                        refine ⟨s9, (s7.trans (same_upd np8)) _ _ e56, fun m g2 hm eg2 => ?_⟩
                        by_cases hmi : m < i
                        · exact hgood m g2 hmi eg2
                        · have : m = i := by omega
                          rw [this, eg] at eg2
                          obtain rfl := Option.some.inj eg2
                          have := hgk
                          rw [← hnm] at this
                          exact this
                  · rintro σ H5 ⟨o2, o3, o4, o5, o6, o7, rfl, s5, e5, hgood⟩
                    simp only [and_assoc, tSeq, tAsg, tOp, tUn, rI, rI0, rU, tVar, tC, gName, L2.start, tIfS, tTest, tB, tCB, tCons, tNil, tIf, tRet, tRetN, tLst, tTup, tNext, tDrop, tNot, tNotV, tAnd, tOr, tAndV, tOrV, tPar, tAug, ipI, rEq, rNe, gSub, rSetL, rIxL, rIxT, tBM, tBM0, rAppend, rPopAt, gTup, gCons, gNil, tCall, tSl, tPart, tNoPart, rSlL, rCat, rEqD, rNeD, rIn, scal, List.map_cons, List.map_nil, List.length_cons, List.length_nil, List.length_map, List.cons_append, List.nil_append, List.append_nil, List.replicate, List.getElem?_cons_zero, List.getElem?_cons_succ, List.set_cons_zero, List.set_cons_succ, Option.some.injEq, exists_eq_left', exists_eq_left, exists_eq_right, exists_and_left, exists_and_right, V.int.injEq, V.ref.injEq, V.str.injEq, V.bl.injEq, reduceCtorEq, false_and, and_false, exists_false, or_false, false_or, true_and, and_true, List.cons.injEq, decide_eq_true_eq, cxOf, if_true, if_false, Bool.false_eq_true, Nat.reduceAdd, Nat.reduceSub, Nat.zero_add, Nat.add_sub_cancel_left, Nat.add_sub_cancel, Nat.sub_self, sFld, tFld, tFor_eq, tLc_eq, iRng1, iRng2, iList, iTup, iEnum, rIsi, rIsiT, iSeq, tM0, tM1, tFmt, tJs, rJoin, rNewStrs, tMakeL, tMake, tNever, tChain, iStr, rEqNil, rNeNil, rLenS, rNotSign, rSlS, rIxS]
                    rw [List.length_map] at hgood
                    have := q _ s5
                    rw [show ((fun x => isShA (rsA x)) x) = true from et.trans (by
                      unfold rsGroups
                      rw [List.all_map]
                      refine List.all_eq_true.mpr fun g hg => ?_
                      obtain ⟨j, hj⟩ := List.mem_iff_getElem?.mp hg
                      exact hgood j g (List.getElem?_eq_some_iff.mp hj).1 hj)] at this
                    exact this
      · rw [if_pos (by simp; omega)]
        exact no _ s1 (bad (by omega))
    · rw [if_neg (by omega), if_pos (by rfl)]
      exact no _ s1 (bad (by omega))

end
end He

namespace He
open PySem PySem.Spec PyProof.Rows L2
section
variable {P : Program} {w : World} {K : PySem.W.Frag} {mg : Str → Option Value} {base : Heap}

def optN : Option Nat → V
  | none => .non
  | some n => .int (n : Nat)
def spDue : Sp := fun vs H Q _ => ∃ (z : Str), vs = [.str z] ∧ z.length ≤ 900 ∧ ∀ H', Same H H' → Q (optN (badAt z)) H'
theorem find_first {α : Type} : ∀ (xs : List α) (p : α → Bool) (d : α), ((List.range xs.length).filter fun i => p (xs.getD i d)).head? = xs.findIdx? p
  | [], p, d => rfl
  | x :: xs, p, d => by
    have ih := find_first xs p d
    rw [List.length_cons, List.range_succ_eq_map, List.filter_cons, List.findIdx?_cons]
    have e0 : (x :: xs).getD 0 d = x := rfl
    rw [e0]
    cases p x with
    | true => rfl
    | false =>
      rw [if_neg (by simp), if_neg (by simp), List.filter_map, List.head?_map]
      have e1 : ((fun i => p ((x :: xs).getD i d)) ∘ Nat.succ) = fun i => p (xs.getD i d) := by
        funext i
        rfl
      rw [e1, ih]
theorem ok_due (T : TxtG K mg) : FnOk P w K mg base CX0 3 T.dLawDue.f T.dLawDue.fd ["_law_text"] (spDue) := by
  refine T.dLawDue.F.ok scDLawDue (fun vs H Q E h => ?_) (fun cdv A outer s H vs Q E hr h => ?_)
  · obtain ⟨z, rfl, _⟩ := h
    rfl
  · obtain ⟨z, rfl, hl, q⟩ := h
    refine ⟨_, (pss_cons (ps_setLc (i := 1) (own := [("_law_spot", 2), ("_law_part", 3)]) (g := (gTup K 2 (gCons (gName 2) (gCons (gName 3) gNil)))) rfl scDLawDue.nd rfl rfl (sw_true rfl rfl rfl (by decide +kernel)) (pi_enum (by rfl) T.z_enumerate (pa_cons (pe_split (pv 0) pe_str) pa_nil)) (blkOk_by (N := ["_law_text", "_law_wrong", "_law_spot", "_law_part"]) (sc := defScope sDLawDue) (by decide +kernel)) (fun _ _ _ _ _ => (pg_tup (n := 2) rfl (pgs_cons (pg_name (i := 2) scDLawDue.nd rfl (.inl rfl)) (pgs_cons (pg_name (i := 3) scDLawDue.nd rfl (.inl rfl)) pgs_nil)))) (fun _ _ _ _ _ => (pts_one (pt_not (pt_val (pe_call (ok_part T) (hr.mono (by decide)) (by rfl) T.dLawIsPart.g T.dLawIsPart.F.kp T.dLawIsPart.b .nil pass0 (pa_cons (pv 3) pa_nil)))))) (fun _ _ _ _ _ => (pv 2)))
      (pss_one (ps_ret (pe_ifExp (pt_cmpR (op_neNil hr.units) (pv 1) (pe_lst pa_nil) (nomark _)) (pe_ix ix_list (pv 1) pe_int (fun _ _ => rfl)) pe_non)))), ?_⟩
    simp only [and_assoc, tSeq, tAsg, tOp, tUn, rI, rI0, rU, tVar, tC, gName, L2.start, tIfS, tTest, tB, tCB, tCons, tNil, tIf, tRet, tRetN, tLst, tTup, tNext, tDrop, tNot, tNotV, tAnd, tOr, tAndV, tOrV, tPar, tAug, ipI, rEq, rNe, gSub, rSetL, rIxL, rIxT, tBM, tBM0, rAppend, rPopAt, gTup, gCons, gNil, tCall, tSl, tPart, tNoPart, rSlL, rCat, rEqD, rNeD, rIn, scal, List.map_cons, List.map_nil, List.length_cons, List.length_nil, List.length_map, List.cons_append, List.nil_append, List.append_nil, List.replicate, List.getElem?_cons_zero, List.getElem?_cons_succ, List.set_cons_zero, List.set_cons_succ, Option.some.injEq, exists_eq_left', exists_eq_left, exists_eq_right, exists_and_left, exists_and_right, V.int.injEq, V.ref.injEq, V.str.injEq, V.bl.injEq, reduceCtorEq, false_and, and_false, exists_false, or_false, false_or, true_and, and_true, List.cons.injEq, decide_eq_true_eq, cxOf, if_true, if_false, Bool.false_eq_true, Nat.reduceAdd, Nat.reduceSub, Nat.zero_add, Nat.add_sub_cancel_left, Nat.add_sub_cancel, Nat.sub_self, sFld, tFld, tFor_eq, tLc_eq, iRng1, iRng2, iList, iTup, iEnum, rIsi, rIsiT, iSeq, tM0, tM1, tFmt, tJs, rJoin, rNewStrs, tMakeL, tMake, tNever, tChain, iStr, rEqNil, rNeNil, rLenS, rNotSign, rSlS, rIxS, spTxtB, rLenL]
    have big : 16777216 ≤ sizeLine := by decide
    have hs := fact_split z (Str.ofString " | ")
    refine ⟨⟨_, rfl⟩, by decide +kernel, by omega, fun p np => ⟨⟨_, sqL_of upd_same⟩, fun D nD => ?_⟩⟩
    have s1 := same_upd (o := .lst ((Txt.split z (Str.ofString " | ")).map V.str)) np
    have e1 : upd H p (.lst ((Txt.split z (Str.ofString " | ")).map V.str)) p = _ := upd_same
    generalize upd H p (.lst ((Txt.split z (Str.ofString " | ")).map V.str)) = H1 at s1 e1 nD ⊢
    refine lg_filter (walk_enum (K := K) (a := p) (xs := (Txt.split z (Str.ofString " | ")).map V.str)) (fun i => !isShA (rsA ((Txt.split z (Str.ofString " | ")).getD i ""))) (fun i => .int (i : Nat)) (by rw [List.length_map]; omega) nD (fun H' s' => sqL_of (s' _ _ e1)) (fun j y H7 H8 Aq Bq hj s7 hD hY hA hB => ?_) (fun H7 s7 eD => ?_)
    · obtain ⟨T2, x1, y1, rfl, nT2, rfl, h1, h2⟩ := hY
      cases Option.some.inj h1
      have h2' : ((Txt.split z (Str.ofString " | ")).map V.str)[j]? = some y1 := h2
      rw [List.getElem?_map] at h2'
      obtain ⟨n, en, rfl⟩ := Option.map_eq_some_iff.mp h2'
      have e : (Txt.split z (Str.ofString " | ")).getD j "" = n := by rw [List.getD_eq_getElem?_getD, en]; rfl
      simp only [e] at hA hB
      simp only [and_assoc, tSeq, tAsg, tOp, tUn, rI, rI0, rU, tVar, tC, gName, L2.start, tIfS, tTest, tB, tCB, tCons, tNil, tIf, tRet, tRetN, tLst, tTup, tNext, tDrop, tNot, tNotV, tAnd, tOr, tAndV, tOrV, tPar, tAug, ipI, rEq, rNe, gSub, rSetL, rIxL, rIxT, tBM, tBM0, rAppend, rPopAt, gTup, gCons, gNil, tCall, tSl, tPart, tNoPart, rSlL, rCat, rEqD, rNeD, rIn, scal, List.map_cons, List.map_nil, List.length_cons, List.length_nil, List.length_map, List.cons_append, List.nil_append, List.append_nil, List.replicate, List.getElem?_cons_zero, List.getElem?_cons_succ, List.set_cons_zero, List.set_cons_succ, Option.some.injEq, exists_eq_left', exists_eq_left, exists_eq_right, exists_and_left, exists_and_right, V.int.injEq, V.ref.injEq, V.str.injEq, V.bl.injEq, reduceCtorEq, false_and, and_false, exists_false, or_false, false_or, true_and, and_true, List.cons.injEq, decide_eq_true_eq, cxOf, if_true, if_false, Bool.false_eq_true, Nat.reduceAdd, Nat.reduceSub, Nat.zero_add, Nat.add_sub_cancel_left, Nat.add_sub_cancel, Nat.sub_self, sFld, tFld, tFor_eq, tLc_eq, iRng1, iRng2, iList, iTup, iEnum, rIsi, rIsiT, iSeq, tM0, tM1, tFmt, tJs, rJoin, rNewStrs, tMakeL, tMake, tNever, tChain, iStr, rEqNil, rNeNil, rLenS, rNotSign, rSlS, rIxS, spTxtB, rLenL, wipe]
      refine ⟨_, sqT_of upd_same, rfl, _, _, rfl, _, _, rfl, rfl, n, rfl, by have := split_sub sepBar (List.mem_of_getElem? en); omega, fun H8 s8 => ?_⟩
      have s78 : Same H7 H8 := (same_upd nT2).trans s8
      cases hb : isShA (rsA n) with
      | true =>
        rw [if_neg (by simp)]
        exact hB _ (by rw [hb]; rfl) s78
      | false =>
        rw [if_pos (by rfl)]
        exact hA _ (by rw [hb]; rfl) s78
    · have hf := find_first (Txt.split z (Str.ofString " | ")) (fun p => !isShA (rsA p)) ""
      have hb : badAt z = (Txt.split z (Str.ofString " | ")).findIdx? fun p => !isShA (rsA p) := rfl
      rw [List.length_map] at eD
      refine ⟨by decide, fun p8 np8 => ⟨_, sqL_of (same_upd np8 _ _ eD), sqL_of upd_same, ?_⟩⟩
      have s9 := s1.trans (s7.trans (same_upd (o := .lst []) np8))
      have eD9 := same_upd (o := .lst []) np8 _ _ eD
      have q9 := q _ s9
      rw [hb, ← hf] at q9
      generalize ((List.range (Txt.split z (Str.ofString " | ")).length).filter fun i => !isShA (rsA ((Txt.split z (Str.ofString " | ")).getD i ""))) = L at q9 eD9 ⊢
      cases L with
      | nil => exact q9
      | cons a r =>
        rw [if_pos (by rfl)]
        refine ⟨_, sqL_of eD9, .int (a : Nat), ?_, q9⟩
        show atI (V.int (a : Nat) :: r.map _) 0 = _
        unfold atI ixN
        rw [if_pos (by omega), if_pos (by simp)]
        exact rfl
def spWide : Sp := fun vs H Q _ => ∃ (z : Str), vs = [.str z] ∧ z.length ≤ 900 ∧ ∀ (b : Bool) H', Same H H' → Q (.bl b) H'
theorem ok_wide (T : TxtG K mg) : FnOk P w K mg base CX0 1 T.dLawIsWide.f T.dLawIsWide.fd ["_law_text"] (spWide) := by
  refine T.dLawIsWide.F.ok scDLawIsWide (fun vs H Q E h => ?_) (fun cdv A outer s H vs Q E hr h => ?_)
  · obtain ⟨z, rfl, _⟩ := h
    rfl
  · obtain ⟨z, rfl, hl, q⟩ := h
    refine ⟨_, (pss_cons (ps_set (i := 1) scDLawIsWide.nd rfl (.inl rfl) (pe_split (pv 0) pe_str))
      (pss_cons (ps_for PassesOwn.never rfl (pi_list (pv 1)) (pg_name (i := 2) scDLawIsWide.nd rfl (.inl rfl))
      (pss_cons (ps_set (i := 3) scDLawIsWide.nd rfl (.inl rfl) (pe_split (pv 2) pe_str))
      (pss_one (ps_if (PW.pt (pw_or (pt_cmpR op_gt (pe_callB (show CallR _ (.builtin "len") (rLenL K) from call_lenL) (by rfl) T.z_len (show bootBuiltins "len" = some (.builtin "len") by decide +kernel) (pa_cons (pv 3) pa_nil)) pe_int (nomark _)) (pw_or (pt_cmpR op_gt (pe_callB (show CallR _ (.builtin "len") rLenS from call_len_str) (by rfl) T.z_len (show bootBuiltins "len" = some (.builtin "len") by decide +kernel) (pa_cons (pe_ix ix_list (pe_split (pv 2) pe_str) pe_int (fun _ _ => rfl)) pa_nil)) pe_int (nomark _)) (pw_or1 (pt_cmpR op_gt (pe_callB (cr_max rfl) (by rfl) T.z_max (show bootBuiltins "max" = some (.builtin "max") by decide +kernel) (pa_cons (pe_lc (own := [("_law_one", 4)]) (g := (gName 4)) (tt := tYes) rfl scDLawIsWide.nd (pi_list (pv 3)) (blkOk_by (N := ["_law_text", "_law_parts", "_law_part", "_law_groups", "_law_one"]) (sc := defScope sDLawIsWide) (by decide +kernel)) (fun _ _ _ _ _ => (pg_name (i := 4) scDLawIsWide.nd rfl (.inl rfl))) (fun _ _ _ _ _ => pts_nil) (fun _ _ _ _ _ => (pe_callB (show CallR _ (.builtin "len") (rLenL K) from call_lenL) (by rfl) T.z_len (show bootBuiltins "len" = some (.builtin "len") by decide +kernel) (pa_cons (pe_split (pv 4) pe_str) pa_nil)))) pa_nil)) pe_int (nomark _))))))
      (pss_one (ps_ret pe_bl))
      pss_nil))))
      (pss_one (ps_ret (pe_cmpR op_gt (pe_callB (show CallR _ (.builtin "len") (rLenL K) from call_lenL) (by rfl) T.z_len (show bootBuiltins "len" = some (.builtin "len") by decide +kernel) (pa_cons (pv 1) pa_nil)) pe_int (nomark _)))))), ?_⟩
    simp only [and_assoc, tSeq, tAsg, tOp, tUn, rI, rI0, rU, tVar, tC, gName, L2.start, tIfS, tTest, tB, tCB, tCons, tNil, tIf, tRet, tRetN, tLst, tTup, tNext, tDrop, tNot, tNotV, tAnd, tOr, tAndV, tOrV, tPar, tAug, ipI, rEq, rNe, gSub, rSetL, rIxL, rIxT, tBM, tBM0, rAppend, rPopAt, gTup, gCons, gNil, tCall, tSl, tPart, tNoPart, rSlL, rCat, rEqD, rNeD, rIn, scal, List.map_cons, List.map_nil, List.length_cons, List.length_nil, List.length_map, List.cons_append, List.nil_append, List.append_nil, List.replicate, List.getElem?_cons_zero, List.getElem?_cons_succ, List.set_cons_zero, List.set_cons_succ, Option.some.injEq, exists_eq_left', exists_eq_left, exists_eq_right, exists_and_left, exists_and_right, V.int.injEq, V.ref.injEq, V.str.injEq, V.bl.injEq, reduceCtorEq, false_and, and_false, exists_false, or_false, false_or, true_and, and_true, List.cons.injEq, decide_eq_true_eq, cxOf, if_true, if_false, Bool.false_eq_true, Nat.reduceAdd, Nat.reduceSub, Nat.zero_add, Nat.add_sub_cancel_left, Nat.add_sub_cancel, Nat.sub_self, sFld, tFld, tFor_eq, tLc_eq, iRng1, iRng2, iList, iTup, iEnum, rIsi, rIsiT, iSeq, tM0, tM1, tFmt, tJs, rJoin, rNewStrs, tMakeL, tMake, tNever, tChain, iStr, rEqNil, rNeNil, rLenS, rNotSign, rSlS, rIxS, spTxtB, rLenL, rMax]
    have big : 16777216 ≤ sizeLine := by decide
    have hs := fact_split z (Str.ofString " | ")
    refine ⟨⟨_, rfl⟩, by decide +kernel, by omega, fun p np => ⟨⟨_, sqL_of upd_same⟩, ?_⟩⟩
    have s1 := same_upd (o := .lst ((Txt.split z (Str.ofString " | ")).map V.str)) np
    have e1 : upd H p (.lst ((Txt.split z (Str.ofString " | ")).map V.str)) p = _ := upd_same
    generalize upd H p (.lst ((Txt.split z (Str.ofString " | ")).map V.str)) = H1 at s1 e1 ⊢
    refine fg_list (xs := (Txt.split z (Str.ofString " | ")).map V.str) (fun i σ H5 => ∃ (o2 o3 o4 : Option V), σ = [some (.str z), some (.ref p), o2, o3, o4] ∧ Same H1 H5) ⟨_, _, _, rfl, Same.refl _⟩ (fun i σ H5 _ ⟨_, _, _, _, s⟩ => s.seq (sqL_of e1)) ?_ ?_
    · rintro i y σ H5 hy ⟨o2, o3, o4, rfl, s5⟩
      rw [List.getElem?_map] at hy
      obtain ⟨g, eg, rfl⟩ := Option.map_eq_some_iff.mp hy
      have hgl := split_sub sepBar (List.mem_of_getElem? eg)
      have hgs := fact_split g (Str.ofString " > ")
      have hgb := fact_split g (Str.ofString " ")
      simp only [and_assoc, tSeq, tAsg, tOp, tUn, rI, rI0, rU, tVar, tC, gName, L2.start, tIfS, tTest, tB, tCB, tCons, tNil, tIf, tRet, tRetN, tLst, tTup, tNext, tDrop, tNot, tNotV, tAnd, tOr, tAndV, tOrV, tPar, tAug, ipI, rEq, rNe, gSub, rSetL, rIxL, rIxT, tBM, tBM0, rAppend, rPopAt, gTup, gCons, gNil, tCall, tSl, tPart, tNoPart, rSlL, rCat, rEqD, rNeD, rIn, scal, List.map_cons, List.map_nil, List.length_cons, List.length_nil, List.length_map, List.cons_append, List.nil_append, List.append_nil, List.replicate, List.getElem?_cons_zero, List.getElem?_cons_succ, List.set_cons_zero, List.set_cons_succ, Option.some.injEq, exists_eq_left', exists_eq_left, exists_eq_right, exists_and_left, exists_and_right, V.int.injEq, V.ref.injEq, V.str.injEq, V.bl.injEq, reduceCtorEq, false_and, and_false, exists_false, or_false, false_or, true_and, and_true, List.cons.injEq, decide_eq_true_eq, cxOf, if_true, if_false, Bool.false_eq_true, Nat.reduceAdd, Nat.reduceSub, Nat.zero_add, Nat.add_sub_cancel_left, Nat.add_sub_cancel, Nat.sub_self, sFld, tFld, tFor_eq, tLc_eq, iRng1, iRng2, iList, iTup, iEnum, rIsi, rIsiT, iSeq, tM0, tM1, tFmt, tJs, rJoin, rNewStrs, tMakeL, tMake, tNever, tChain, iStr, rEqNil, rNeNil, rLenS, rNotSign, rSlS, rIxS, spTxtB, rLenL, rMax]
      refine ⟨⟨_, rfl⟩, by decide +kernel, by omega, fun p6 np6 => ?_⟩
      have s6 := s5.trans (same_upd (o := .lst ((Txt.split g (Str.ofString " > ")).map V.str)) np6)
      have e6 : upd H5 p6 (.lst ((Txt.split g (Str.ofString " > ")).map V.str)) p6 = _ := upd_same
      generalize upd H5 p6 (.lst ((Txt.split g (Str.ofString " > ")).map V.str)) = H6 at s6 e6 ⊢
      refine ⟨_, sqL_of e6, ?_⟩
      have ret : ∀ (b : Bool) H', Same H6 H' → Q (.bl b) H' := fun b H' s' => q b _ (s1.trans (s6.trans s'))
      split
      · exact ret _ _ (Same.refl _)
      · refine ⟨⟨_, rfl⟩, by decide +kernel, by omega, fun p7 np7 => ?_⟩
        obtain ⟨hd, rest, es⟩ : ∃ hd rest, Txt.split g (Str.ofString " ") = hd :: rest := by
          cases hh : Txt.split g (Str.ofString " ") with
          | nil => rw [hh] at hgb; simp at hgb
          | cons a r => exact ⟨a, r, rfl⟩
        have hdl := split_sub sepSp (show hd ∈ Txt.split g " " by rw [show Txt.split g " " = _ from es]; exact List.mem_cons_self)
        have s7 := same_upd (o := .lst ((Txt.split g (Str.ofString " ")).map V.str)) np7
        have e7 : upd H6 p7 (.lst ((Txt.split g (Str.ofString " ")).map V.str)) p7 = _ := upd_same
        generalize upd H6 p7 (.lst ((Txt.split g (Str.ofString " ")).map V.str)) = H7 at s7 e7 ⊢
        refine ⟨_, sqL_of e7, .str hd, by rw [es]; show atI (V.str hd :: rest.map V.str) 0 = _; unfold atI ixN; rw [if_pos (by omega), if_pos (by simp)]; exact rfl, hd, rfl, by omega, ?_⟩
        split
        · exact ret _ _ s7
        · refine ⟨⟨_, s7.seq (sqL_of e6)⟩, fun D nD => ?_⟩
          refine lg_pure (fun j y _ => ∃ k : Nat, y = .int (k : Nat)) (.inl ⟨rfl, s7.seq (sqL_of e6)⟩) (by rw [List.length_map]; omega) nD (fun _ _ _ _ _ h => h) (fun j y H8 Φ hy2 s8 hD hΦ => ?_) (fun ys H8 s8 eD hl2 hY => ?_)
          · rw [List.getElem?_map] at hy2
            obtain ⟨m, em, rfl⟩ := Option.map_eq_some_iff.mp hy2
            have hml := split_sub sepGt (List.mem_of_getElem? em)
            simp only [and_assoc, tSeq, tAsg, tOp, tUn, rI, rI0, rU, tVar, tC, gName, L2.start, tIfS, tTest, tB, tCB, tCons, tNil, tIf, tRet, tRetN, tLst, tTup, tNext, tDrop, tNot, tNotV, tAnd, tOr, tAndV, tOrV, tPar, tAug, ipI, rEq, rNe, gSub, rSetL, rIxL, rIxT, tBM, tBM0, rAppend, rPopAt, gTup, gCons, gNil, tCall, tSl, tPart, tNoPart, rSlL, rCat, rEqD, rNeD, rIn, scal, List.map_cons, List.map_nil, List.length_cons, List.length_nil, List.length_map, List.cons_append, List.nil_append, List.append_nil, List.replicate, List.getElem?_cons_zero, List.getElem?_cons_succ, List.set_cons_zero, List.set_cons_succ, Option.some.injEq, exists_eq_left', exists_eq_left, exists_eq_right, exists_and_left, exists_and_right, V.int.injEq, V.ref.injEq, V.str.injEq, V.bl.injEq, reduceCtorEq, false_and, and_false, exists_false, or_false, false_or, true_and, and_true, List.cons.injEq, decide_eq_true_eq, cxOf, if_true, if_false, Bool.false_eq_true, Nat.reduceAdd, Nat.reduceSub, Nat.zero_add, Nat.add_sub_cancel_left, Nat.add_sub_cancel, Nat.sub_self, sFld, tFld, tFor_eq, tLc_eq, iRng1, iRng2, iList, iTup, iEnum, rIsi, rIsiT, iSeq, tM0, tM1, tFmt, tJs, rJoin, rNewStrs, tMakeL, tMake, tNever, tChain, iStr, rEqNil, rNeNil, rLenS, rNotSign, rSlS, rIxS, spTxtB, rLenL, wipe]
            refine ⟨⟨_, rfl⟩, by decide +kernel, by omega, fun p9 np9 => ⟨_, sqL_of upd_same, ?_⟩⟩
            exact hΦ _ _ (same_upd np9) ⟨_, rfl⟩
          · have ey : ∃ ks : List Int, ys = ks.map V.int := by
              clear eD hl2
              induction ys with
              | nil => exact ⟨[], rfl⟩
              | cons a r ih =>
                obtain ⟨k, hk⟩ := hY 0 a rfl
                obtain ⟨ks, hks⟩ := ih (fun i y e => hY (i + 1) y e)
                exact ⟨(k : Int) :: ks, by rw [hk, hks]; rfl⟩
            obtain ⟨ks, rfl⟩ := ey
            rw [List.length_map, List.length_map] at hl2
            refine ⟨ks, sqL_of eD, by omega, fun m _ _ => ?_⟩
            split
            · exact ret _ _ (s7.trans s8)
            · exact s6.trans (s7.trans s8)
    · rintro σ H5 ⟨o2, o3, o4, rfl, s5⟩
      simp only [and_assoc, tSeq, tAsg, tOp, tUn, rI, rI0, rU, tVar, tC, gName, L2.start, tIfS, tTest, tB, tCB, tCons, tNil, tIf, tRet, tRetN, tLst, tTup, tNext, tDrop, tNot, tNotV, tAnd, tOr, tAndV, tOrV, tPar, tAug, ipI, rEq, rNe, gSub, rSetL, rIxL, rIxT, tBM, tBM0, rAppend, rPopAt, gTup, gCons, gNil, tCall, tSl, tPart, tNoPart, rSlL, rCat, rEqD, rNeD, rIn, scal, List.map_cons, List.map_nil, List.length_cons, List.length_nil, List.length_map, List.cons_append, List.nil_append, List.append_nil, List.replicate, List.getElem?_cons_zero, List.getElem?_cons_succ, List.set_cons_zero, List.set_cons_succ, Option.some.injEq, exists_eq_left', exists_eq_left, exists_eq_right, exists_and_left, exists_and_right, V.int.injEq, V.ref.injEq, V.str.injEq, V.bl.injEq, reduceCtorEq, false_and, and_false, exists_false, or_false, false_or, true_and, and_true, List.cons.injEq, decide_eq_true_eq, cxOf, if_true, if_false, Bool.false_eq_true, Nat.reduceAdd, Nat.reduceSub, Nat.zero_add, Nat.add_sub_cancel_left, Nat.add_sub_cancel, Nat.sub_self, sFld, tFld, tFor_eq, tLc_eq, iRng1, iRng2, iList, iTup, iEnum, rIsi, rIsiT, iSeq, tM0, tM1, tFmt, tJs, rJoin, rNewStrs, tMakeL, tMake, tNever, tChain, iStr, rEqNil, rNeNil, rLenS, rNotSign, rSlS, rIxS, spTxtB, rLenL]
      exact ⟨_, s5.seq (sqL_of e1), q _ _ (s1.trans s5)⟩

end
end He

namespace He
open PySem PySem.Spec PyProof.Rows L2
section
variable {P : Program} {w : World} {K : PySem.W.Frag} {mg : Str → Option Value} {base : Heap}

/-- isinstance(e, c), e the caught exception with its dict -/
def rIsEd (K : PySem.W.Frag) (D a : Addr) (cls : Value) (d : Option Addr) : List V → Hp → VK → Prop := fun xs H Q => ∃ (c : V) (cv : Value) (b : Bool) (dd : Addr) (fs : List (Str × V)), xs = [.ref a, c] ∧ cls = .ref D ∧ d = some dd ∧ H dd = some (.xd fs) ∧ (∀ u, RelV c u → u = cv) ∧ PySem.W.kitOne K (.ref D) cv = some b ∧ Q (.bl b) H
theorem call_isEd {X : Cx} {a D : Addr} {oe : Obj} {cls : Value} {d : Option Addr} {pn : List (Addr × Obj)} (C : ExcC X.K D) (hz : Zc cls d oe) (hf : ∃ vs, oe.data = .fields vs) : CallR (X.suite a ((a, oe) :: pn)) (.builtin "isinstance") (rIsEd X.K D a cls d) := by
  intro pins s σ H xs us Q I r h
  obtain ⟨c, cv, b, dd, fs, rfl, rfl, rfl, ed, hcv, e, q⟩ := h
  cases r with
  | cons rx rr =>
    cases rr with
    | cons rt rr =>
      cases rr
      cases rx
      have ec := hcv _ rt
      subst ec
      obtain ⟨hget, _⟩ := I.pin (a, oe) (List.mem_append.mpr (.inl List.mem_cons_self))
      obtain ⟨vs, hv⟩ := hf
      have hx : ObjOk X.prog X.w H s.heap dd (.xd fs) := I.hok dd _ ed
      obtain ⟨mA, hns, hr⟩ := hx
      obtain ⟨od, ho, hl⟩ := lookIn_ns hns
      have J : PySem.W.InstAt s.heap a oe D (some od) := ⟨hget, hz.1, by unfold PySem.W.notCls; rw [hv] <;> rfl, by rw [hz.2]; exact ho⟩
      have hcl : (PySem.W.clsIn X.K D).isSome = true := by
        have := C.hd
        unfold PySem.W.hasDictIn at this
        cases hc : PySem.W.clsIn X.K D with
        | none => rw [hc] at this; cases this
        | some cd => rfl
      exact PySem.W.kia_one (PySem.W.kitx_exc hcl C.hg C.hk C.hs C.ha C.hn C.ht C.hm) I.kIn J e (fun z => nomatch z) fun tk => ⟨.bl b, H, I.kept (t' := tk) fun _ _ z => z, rfl, q⟩
/-! ### a classmethod that may raise, within a try -/
def tCMethS (C : Addr) (sp : Sp) (E : L2.St → XK) (ta : TE) (t : TA) : TE := fun σ H Q => ta σ H fun x H1 => x = .ref C ∧ t σ H1 fun vs H2 => sp (.ref C :: vs) H2 Q (E σ)
section
variable {X : Cx} {CX : CXT} {k : Nat} {C p g : Addr} {mc : Value} {sp : Sp} {E : L2.St → XK} {o e : Expr} {es : List Expr} {m : Str} {pos apos : Pos} {ta : TE} {t : TA} {pl : Sem Bool}
theorem pe_cmethS (he : PE X o ta) (r : ClX.CRead X.K C mc) (c : ClX.CMet X.K C mc m p g) (F : FnR X.prog X.w X.K X.mg X.base CX k g sp) (hr : Room k X.A) (hx : ∀ σ, PassesAt CX X σ (E σ)) (ha : PA X (e :: es) t)
    (hst : starEach (e :: es) X.env = (false, eval e X.env) :: starEach es X.env := by rfl) (hpl : (backTo pos (starEach es X.env)).any (·.1) = false := by rfl)
    (ht : eval (.Call (.Attribute o m apos) (e :: es) [] pos) X.env = (do
      let ov ← eval o X.env
      standAt apos.atName
      let (f, first) ← holding [ov] (getMethod ov m pl)
      callWith pos f first (backTo pos (starEach (e :: es) X.env)) (backToKw pos (keywordEach [] X.env))) := by rfl) :
    PE X (.Call (.Attribute o m apos) (e :: es) [] pos) (tCMethS C sp E ta t) := by
  refine ⟨fun pins s σ H Q I h => ?_⟩
  refine PySem.W.methodCall_KW (pl := pl) (thn (he.run pins s σ H _ I h) fun u s1 ⟨x, H1, I1, rx, ex, q⟩ => ?_) ht
  subst ex
  obtain rfl : u = Value.ref C := rx
  refine ClX.getmethcm_ok I1 r c fun s2 I2 => ?_
  refine ClX.callwith_cm I2 (ClX.base_none I1 (Nat.le_refl _)) c.fi (thn (ha.run pos _ s2 σ H1 _ I2 q) fun us s3 ⟨vs, H2, I3, rv, q2⟩ => ⟨⟨ClX.pin_at I3, I3.kIn⟩, ?_⟩) hst hpl
  have z : wpAny (model X.prog X.w) X.A (call (.ref s1.heap.objs.size) us) (EP X ((s1.heap.objs.size, PySem.W.methodObj (.ref g) (.ref C)) :: pins) σ Q) X.xe s3 :=
    wpAny_call (PySem.W.method_call (ClX.pin_at I3) (codeAny_mono (F X.A X.stack s3 H2 (.ref C :: us) (.ref C :: vs) Q (E σ) hr I3.env0 (.cons rfl rv) q2) fun r s' hq => by
      cases r with
      | error e => exact hx σ _ H2 s3 e s' I3 hq
      | ok fl =>
        cases fl with
        | ret u => exact I3.after hq
        | next => exact False.elim hq
        | brk => exact False.elim hq
        | cont => exact False.elim hq))
  exact thn z fun _ _ y => ClX.unpinE y
end
theorem rawX {CX : CXT} {k : Nat} {f : Addr} {fd : FuncData} {ps : List Str} {sp : Sp} (F : FnOk P w K mg base CX k f fd ps sp) (hb : L2.Binds K fd ps []) : FnR P w K mg base CX k f sp := by
  have h := F.raw hb (ds := []) (dvs := []) .nil
  have e : (fun (vs : List V) H Q E => sp (vs ++ []) H Q E) = sp := by
    funext vs H Q E
    rw [List.append_nil]
  rw [e] at h
  exact h
/-- what is heard of a text -/
def spHeard : Sp := fun vs H Q _ => ∃ (z : Str), vs = [.str z] ∧ Tame z ∧ ∀ H', Same H H' → Q (optN (badAt z)) H'
theorem ok_heard (X : TxtX K mg) : FnOk P w K mg base CX0 8 X.w.t.dLawHeard.f X.w.t.dLawHeard.fd ["_law_text"] spHeard := by
  refine X.w.t.dLawHeard.F.ok scDLawHeard (fun vs H Q E h => ?_) (fun cdv A outer s H vs Q E hr h => ?_)
  · obtain ⟨z, rfl, _⟩ := h
    rfl
  · obtain ⟨z, rfl, hz, q⟩ := h
    refine ⟨_, (pss_cons (ps_set (i := 1) scDLawHeard.nd rfl (.inl rfl) pe_non)
      (pss_cons (ps_try_as (i := 2) (tb := fun W => tDrop (tCMethS X.w.t.cWill (spWReadX K X.w.t.cWill X.w.t.cInvalidText) (WE W) (tC (.ref X.w.t.cWill)) (tCons (tVar 0) tNil)))
        (ts := fun a cls d => tAsg (tIf (tAnd (tB (tCB (rIsEd K X.w.t.cInvalidText a cls d) (tCons (tVar 2) (tCons (tC (.ref X.w.t.cHeirError)) tNil)))) (tNot (tB (tCB (rIsEd K X.w.t.cInvalidText a cls d) (tCons (tVar 2) (tCons (tC (.ref X.w.t.cInvalidWill)) tNil)))))) (tXf a cls d X.w.t.cInvalidText "at" (tVar 2)) (tC (.str "other"))) (gName 1))
        (Wout := fun _ _ _ _ => False) rfl rfl scDLawHeard.nd rfl rfl ⟨rfl, by decide, Or.inl X.w.t.gcInvalidText⟩ takes0
        (fun W pn xe tk _ => pss_one (ps_expr (by exact (pe_cmethS (pe_glob (v := .ref X.w.t.cWill) (by rfl) X.w.t.gcWill rfl) X.w.rR X.w.rM (rawX (ok_wreadX X) X.w.rB) (hr.mono (by decide)) (fun σ => passAt tk σ) (pa_cons (pv 0) pa_nil)))))
        (fun a oe cls d pn hz hf => pss_one (ps_set (i := 1) scDLawHeard.nd rfl (.inl rfl) (by exact (pe_ifExp (PW.pt (pw_and (pt_val (pe_callB (call_isEd X.isx hz hf) (by rfl) X.w.t.z_isinstance (show bootBuiltins "isinstance" = some (.builtin "isinstance") by decide +kernel) (pa_cons (pv 2) (pa_cons (pe_glob (v := .ref X.w.t.cHeirError) (by rfl) X.w.t.gcHeirError rfl) pa_nil)))) (pw_and1 (pt_not (pt_val (pe_callB (call_isEd X.isx hz hf) (by rfl) X.w.t.z_isinstance (show bootBuiltins "isinstance" = some (.builtin "isinstance") by decide +kernel) (pa_cons (pv 2) (pa_cons (pe_glob (v := .ref X.w.t.cInvalidWill) (by rfl) X.w.t.gcInvalidWill rfl) pa_nil)))))))) (pe_xf X.xf X.xN hz hf (pv 2)) pe_str)))))
      (pss_one (ps_ret (pv 1))))), ?_⟩
    simp only [and_assoc, tSeq, tAsg, tOp, tUn, rI, rI0, rU, tVar, tC, gName, L2.start, tIfS, tTest, tB, tCB, tCons, tNil, tIf, tRet, tRetN, tLst, tTup, tNext, tDrop, tNot, tNotV, tAnd, tOr, tAndV, tOrV, tPar, tAug, ipI, rEq, rNe, gSub, rSetL, rIxL, rIxT, tBM, tBM0, rAppend, rPopAt, gTup, gCons, gNil, tCall, tSl, tPart, tNoPart, rSlL, rCat, rEqD, rNeD, rIn, scal, List.map_cons, List.map_nil, List.length_cons, List.length_nil, List.length_map, List.cons_append, List.nil_append, List.append_nil, List.replicate, List.getElem?_cons_zero, List.getElem?_cons_succ, List.set_cons_zero, List.set_cons_succ, Option.some.injEq, exists_eq_left', exists_eq_left, exists_eq_right, exists_and_left, exists_and_right, V.int.injEq, V.ref.injEq, V.str.injEq, V.bl.injEq, reduceCtorEq, false_and, and_false, exists_false, or_false, false_or, true_and, and_true, List.cons.injEq, decide_eq_true_eq, cxOf, if_true, if_false, Bool.false_eq_true, Nat.reduceAdd, Nat.reduceSub, Nat.zero_add, Nat.add_sub_cancel_left, Nat.add_sub_cancel, Nat.sub_self, sFld, tFld, tFor_eq, tLc_eq, iRng1, iRng2, iList, iTup, iEnum, rIsi, rIsiT, iSeq, tM0, tM1, tFmt, tJs, rJoin, rNewStrs, tMakeL, tMake, tNever, tChain, iStr, rEqNil, rNeNil, rLenS, rNotSign, rSlS, rIxS, spTxtB, rLenL, tCMethS, wAs, rIsEd, tXf, spWReadX]
    refine ⟨hz, fun n d H' hb s' nd ed => ⟨true, X.self, fun _ a na => ⟨⟨_, ed⟩, .ref X.w.t.cHeirError, fun u hu => hu, true, X.k1, ?_⟩, fun h => nomatch h⟩, fun hb x H' s' => by have := q H' s'; rw [hb] at this; exact this⟩
    rw [if_pos rfl]
    refine ⟨⟨_, ed⟩, .ref X.w.t.cInvalidWill, fun u hu => hu, false, X.k2, ?_⟩
    rw [if_pos (show (!false) = true from rfl)]
    have := q H' s'
    rw [hb] at this
    exact ⟨_, ed, _, rfl, this⟩

/-- a text with a sign or a word put in, left out, exchanged -/
structure Near (z z' : Str) : Prop where
  l : z'.length ≤ z.length + 5
  c : ∀ c, c = 124 ∨ c = 62 ∨ c = 43 → cnt c z' ≤ cnt c z + 1
def spBent (K : PySem.W.Frag) : Sp := fun vs H Q _ => ∃ (p : Addr) (z : Str), vs = [.ref p, .str z] ∧ Box H p ∧ z.length ≤ 900 ∧ ∀ z' H', Bx p H H' → Near z z' → Q (.str z') H'
theorem cut_near (z : Str) {n m : Nat} (h : n ≤ m) : (cutS z none (some (n : Int))).length + (cutS z (some (m : Int)) none).length ≤ z.length ∧ ∀ c, cnt c (cutS z none (some (n : Int))) + cnt c (cutS z (some (m : Int)) none) ≤ cnt c z := by
  have e1 : TL.tl (cutS z none (some (n : Int))) = (TL.tl z).take n := by
    unfold cutS
    rw [mk_tl2, HT.sIx_none, HT.sIx_nat, List.drop_zero, Nat.sub_zero]
    show z.cps.toList.take (min n z.length) = z.cps.toList.take n
    have : z.cps.toList.length = z.length := Array.length_toList
    rw [← this]
    exact List.take_eq_take_min.symm
  have e2 : TL.tl (cutS z (some (m : Int)) none) = (TL.tl z).drop m := by
    unfold cutS
    rw [mk_tl2, HT.sIx_none, HT.sIx_nat]
    have hl : z.cps.toList.length = z.length := Array.length_toList
    show (z.cps.toList.drop (min m z.length)).take (z.length - min m z.length) = z.cps.toList.drop m
    rw [List.take_of_length_le (by rw [List.length_drop]; omega)]
    by_cases hm : m ≤ z.length
    · rw [Nat.min_eq_left hm]
    · rw [Nat.min_eq_right (by omega), List.drop_of_length_le (by omega), List.drop_of_length_le (by omega)]
  have e3 : (TL.tl z).drop m = ((TL.tl z).drop n).drop (m - n) := by rw [List.drop_drop]; congr 1; omega
  constructor
  · rw [TL.len_tl, TL.len_tl, TL.len_tl z, e1, e2, List.length_take, List.length_drop]
    omega
  · intro c
    unfold cnt
    rw [e1, e2, e3]
    have h1 : (((TL.tl z).drop n).drop (m - n)).count c ≤ ((TL.tl z).drop n).count c := (List.drop_sublist _ _).count_le _
    have h2 : ((TL.tl z).take n).count c + ((TL.tl z).drop n).count c = (TL.tl z).count c := by rw [← List.count_append, List.take_append_drop]
    omega
def bits14 : List Str := [" ", "+", "|", ">", " | ", " > ", "0", "1", "a", "A", "-", "crown", "ann", ""]
theorem bits_ok : (bits14.all fun b => decide (b.length ≤ 5) && decide (cnt 124 b ≤ 1) && decide (cnt 62 b ≤ 1) && decide (cnt 43 b ≤ 1)) = true := by decide +kernel
theorem ok_bent (T : TxtG K mg) : FnOk P w K mg base CX0 3 T.dLawBent.f T.dLawBent.fd ["_law_box", "_law_text"] (spBent K) := by
  refine T.dLawBent.F.ok scDLawBent (fun vs H Q E h => ?_) (fun cdv A outer s H vs Q E hr h => ?_)
  · obtain ⟨p, z, rfl, _⟩ := h
    rfl
  · obtain ⟨p, z, rfl, hb, hl, q⟩ := h
    refine ⟨_, (pss_cons (ps_par (i := 2) (j := 3) (by rfl) scDLawBent.nd rfl rfl (by decide) rfl rfl (pa_cons (pe_call (ok_choose T) (hr.mono (by decide)) (by rfl) T.dLawChoose.g T.dLawChoose.F.kp T.dLawChoose.b .nil pass0 (pa_cons (pv 0) (pa_cons (pe_op op_add (pe_callB call_len_str (by rfl) T.z_len (show bootBuiltins "len" = some (.builtin "len") by decide +kernel) (pa_cons (pv 1) pa_nil)) pe_int) pa_nil))) (pa_cons (pe_call (ok_choose T) (hr.mono (by decide)) (by rfl) T.dLawChoose.g T.dLawChoose.F.kp T.dLawChoose.b .nil pass0 (pa_cons (pv 0) (pa_cons pe_int pa_nil))) pa_nil)) (by rfl))
      (pss_cons (ps_set (i := 4) scDLawBent.nd rfl (.inl rfl) (pe_lst (pa_cons pe_str (pa_cons pe_str (pa_cons pe_str (pa_cons pe_str (pa_cons pe_str (pa_cons pe_str (pa_cons pe_str (pa_cons pe_str (pa_cons pe_str (pa_cons pe_str (pa_cons pe_str (pa_cons pe_str (pa_cons pe_str (pa_cons pe_str pa_nil))))))))))))))))
      (pss_cons (ps_if (pt_cmpR op_eq (pv 3) pe_int (nomark _))
      (pss_one (ps_ret (pe_op op_add_str (pe_slice sl_str (pv 1) po_none (po_some (pv 2))) (pe_slice sl_str (pv 1) (po_some (pe_op op_add (pv 2) pe_int)) po_none))))
      pss_nil)
      (pss_one (ps_ret (pe_op op_add_str (pe_op op_add_str (pe_slice sl_str (pv 1) po_none (po_some (pv 2))) (pe_call (ok_oneof T) (hr.mono (by decide)) (by rfl) T.dLawOneOf.g T.dLawOneOf.F.kp T.dLawOneOf.b .nil pass0 (pa_cons (pv 0) (pa_cons (pv 4) pa_nil)))) (pe_slice sl_str (pv 1) (po_some (pe_op op_add (pv 2) (pe_callTy call_int1 (by rfl) T.z_int (show bootBuiltins "int" = some (.type "int") by decide +kernel) (pa_cons (pe_cmpR op_eq (pv 3) pe_int (nomark _)) pa_nil)))) po_none))))))), ?_⟩
    simp only [and_assoc, tSeq, tAsg, tOp, tUn, rI, rI0, rU, tVar, tC, gName, L2.start, tIfS, tTest, tB, tCB, tCons, tNil, tIf, tRet, tRetN, tLst, tTup, tNext, tDrop, tNot, tNotV, tAnd, tOr, tAndV, tOrV, tPar, tAug, ipI, rEq, rNe, gSub, rSetL, rIxL, rIxT, tBM, tBM0, rAppend, rPopAt, gTup, gCons, gNil, tCall, tSl, tPart, tNoPart, rSlL, rCat, rEqD, rNeD, rIn, scal, List.map_cons, List.map_nil, List.length_cons, List.length_nil, List.length_map, List.cons_append, List.nil_append, List.append_nil, List.replicate, List.getElem?_cons_zero, List.getElem?_cons_succ, List.set_cons_zero, List.set_cons_succ, Option.some.injEq, exists_eq_left', exists_eq_left, exists_eq_right, exists_and_left, exists_and_right, V.int.injEq, V.ref.injEq, V.str.injEq, V.bl.injEq, reduceCtorEq, false_and, and_false, exists_false, or_false, false_or, true_and, and_true, List.cons.injEq, decide_eq_true_eq, cxOf, if_true, if_false, Bool.false_eq_true, Nat.reduceAdd, Nat.reduceSub, Nat.zero_add, Nat.add_sub_cancel_left, Nat.add_sub_cancel, Nat.sub_self, sFld, tFld, tFor_eq, tLc_eq, iRng1, iRng2, iList, iTup, iEnum, rIsi, rIsiT, iSeq, tM0, tM1, tFmt, tJs, rJoin, rNewStrs, tMakeL, tMake, tNever, tChain, iStr, rEqNil, rNeNil, rLenS, rNotSign, rSlS, rIxS, spTxtB, rLenL, tCMethS, wAs, rIsEd, tXf, spChoose, spOneOf]
    have big : 16777216 ≤ sizeLine := by decide
    refine ⟨by omega, hb, by omega, by omega, fun r H1 B1 r0 r1 => ⟨B1.1, by decide, by decide, fun f H2 B2 f0 f1 => ⟨by decide, fun a na => ?_⟩⟩⟩
    obtain ⟨n, rfl⟩ : ∃ n : Nat, r = (n : Int) := ⟨r.toNat, by omega⟩
    have B12 := B1.trans B2
    have ap : a ≠ p := fun z => by obtain ⟨_, _, e, _⟩ := B2.1; rw [z, e] at na; cases na
    have ea : upd H2 a (.lst (bits14.map V.str)) a = _ := upd_same
    have sa := same_upd (o := .lst (bits14.map V.str)) na
    have B3 : Bx p H (upd H2 a (.lst (bits14.map V.str))) := B12.trans (.of B12.1 sa)
    show if f = 0 then _ else _
    obtain ⟨c1, c2⟩ := cut_near z (n := n) (m := n + 1) (Nat.le_succ n)
    obtain ⟨d1, d2⟩ := cut_near z (n := n) (m := n) (Nat.le_refl n)
    split
    · refine ⟨by omega, by omega, by rw [show ((n : Int) + 1) = ((n + 1 : Nat) : Int) by omega]; omega, ?_⟩
      rw [show ((n : Int) + 1) = ((n + 1 : Nat) : Int) by omega]
      exact q _ _ B3 ⟨by rw [app_len]; omega, fun c _ => by rw [cnt_app]; have := c2 c; omega⟩
    · refine ⟨by omega, B3.1, bits14.map V.str, sqL_of (by rw [hide_ne ap]; exact ea), by decide, by decide, fun i v H3 B4 ev => ?_⟩
      rw [List.getElem?_map] at ev
      obtain ⟨b, eb, rfl⟩ := Option.map_eq_some_iff.mp ev
      have hbm := List.all_eq_true.mp bits_ok b (List.mem_of_getElem? eb)
      simp only [Bool.and_eq_true, decide_eq_true_eq] at hbm
      have fin : ∀ m : Nat, n ≤ m → (cutS z none (some (n : Int))).length + b.length ≤ sizeLine ∧ z.length ≤ sizeLine ∧ (cutS z none (some (n : Int)) ++ b).length + (cutS z (some (m : Int)) none).length ≤ sizeLine ∧ Q (.str (cutS z none (some (n : Int)) ++ b ++ cutS z (some (m : Int)) none)) H3 := fun m hm => by
        obtain ⟨g1, g2⟩ := cut_near z (n := n) (m := m) hm
        refine ⟨by omega, by omega, by rw [app_len]; omega, q _ _ (B3.trans B4) ⟨by rw [app_len, app_len]; omega, fun c hc => ?_⟩⟩
        rw [cnt_app, cnt_app]
        have h1 := g2 c
        have h2 : cnt c b ≤ 1 := by
          rcases hc with rfl | rfl | rfl
          · exact hbm.1.1.2
          · exact hbm.1.2
          · exact hbm.2
        omega
      refine ⟨b, rfl, ?_⟩
      by_cases hf : f = 1
      · rw [if_pos hf]
        rw [show ((n : Int) + 1) = ((n + 1 : Nat) : Int) by omega]
        exact fin _ (Nat.le_succ n)
      · rw [if_neg hf, Int.add_zero]
        exact fin n (Nat.le_refl n)

end
end He

namespace He
open PySem PySem.Spec PyProof.Rows L2
section
variable {P : Program} {w : World} {K : PySem.W.Frag} {mg : Str → Option Value} {base : Heap}

open TL PySem.StrLaws
def spLaw (K : PySem.W.Frag) : Sp := fun vs H Q _ => ∃ (a : Addr) (ns : List Int), vs = [.ref a] ∧ SqL K H a (ns.map V.int) ∧ ns.length ≤ 63 ∧ ∀ H', Q (.bl true) H'
def reprN : Option Nat → Str
  | none => "None"
  | some n => toString ((n : Nat) : Int)
def rReprN : List V → Hp → VK → Prop := fun xs H Q => ∃ o : Option Nat, xs = [optN o] ∧ (∀ n, o = some n → n ≤ 1000) ∧ Q (.str (reprN o)) H
theorem call_reprN {X : Cx} : CallR X (.builtin "repr") rReprN := by
  intro pins s σ H xs us Q I r h
  obtain ⟨o, rfl, hn, q⟩ := h
  cases o with
  | none =>
    cases r with
    | cons ru rr =>
      cases rr
      cases ru
      exact PySem.P.repr_of_none ⟨.str _, H, I.tok _, ⟨_, rfl⟩, q⟩
  | some n =>
    obtain ⟨u, rfl, t, rfl⟩ := vals1 r
    have h1 := hn n rfl
    have h2 : ((n : Int).natAbs).log2 < 1920 := by
      have := Nat.log2_le_self n
      show n.log2 < 1920
      omega
    exact PySem.P.repr_of_int h2 ⟨.str _, H, I.tok _, ⟨_, rfl⟩, q⟩
theorem cnt_joinL {S : List Nat} {c : Nat} : ∀ ps : List (List Nat), (joinL S ps).count c ≤ (ps.map (List.count c)).sum + ps.length * S.count c
  | [] => by simp [joinL]
  | [p] => by simp [joinL]
  | p :: q :: r => by
    have ih := cnt_joinL (S := S) (c := c) (q :: r)
    show (p ++ (S ++ joinL S (q :: r))).count c ≤ _
    rw [List.count_append, List.count_append, List.map_cons, List.sum_cons, List.length_cons, Nat.succ_mul]
    omega
theorem cnt_join {y : Str} {c : Nat} (ps : List Str) : cnt c (Txt.join y ps) ≤ (ps.map (cnt c)).sum + ps.length * cnt c y := by
  have h := cnt_joinL (S := tl y) (c := c) (ps.map tl)
  rw [List.map_map, List.length_map] at h
  unfold cnt
  rw [join_eq, tl_join]
  exact h
theorem sumc_le {B c : Nat} : ∀ {ys : List Str}, (∀ y ∈ ys, cnt c y ≤ B) → (ys.map (cnt c)).sum ≤ ys.length * B
  | [], _ => by simp
  | y :: ys, h => by
    have h1 := h y List.mem_cons_self
    have h2 := sumc_le fun z hz => h z (List.mem_cons_of_mem y hz)
    rw [List.map_cons, List.sum_cons, List.length_cons, Nat.succ_mul]
    omega
theorem grp_c {g : List Str} (h : ∀ n ∈ g, nameB n = true) (hl : g.length ≤ 3) {c : Nat} (hc : c = 124 ∨ c = 62 ∨ c = 43) : cnt c (grpT g) ≤ 3 ∧ (c ≠ 43 → cnt c (grpT g) = 0) := by
  constructor
  · have h1 := cnt_join (y := "+") (c := c) g
    have h2 := sumc_le (B := 0) (c := c) (ys := g) fun n hn => by
      have : cnt c n = 0 := List.count_eq_zero.mpr fun z => by have := rd_name (h n hn) z; omega
      omega
    have h3 : cnt c ("+" : Str) ≤ 1 := by
      rcases hc with rfl | rfl | rfl <;> decide +kernel
    have h4 : g.length * cnt c ("+" : Str) ≤ 3 * 1 := Nat.mul_le_mul hl h3
    unfold grpT
    omega
  · intro hne
    exact List.count_eq_zero.mpr fun z => by have := rd_grp h z; omega
theorem num_c {n c : Nat} (hc : c = 124 ∨ c = 62 ∨ c = 43) : cnt c (numS n) = 0 := List.count_eq_zero.mpr fun z => num_free (n := n) (s := c) (by omega) z
theorem share_c {s : Sh} (ho : ShOk s) (hs : ShSmall s) {c : Nat} (hc : c = 124 ∨ c = 62 ∨ c = 43) : cnt c (shareT s) ≤ 9 := by
  obtain ⟨n, hn⟩ : ∃ n : Nat, s.1 = n := ⟨s.1.toNat, by have := ho.w1; omega⟩
  by_cases h0 : s.2 = []
  · rw [shareT_nil hn h0, num_c hc]
    omega
  · rw [shareT_cons hn h0, cnt_app, cnt_app, num_c hc]
    have h1 := cnt_join (y := " > ") (c := c) (s.2.map grpT)
    have hl := hs.l
    rw [List.length_map] at h1
    have e : cnt c (" " : Str) = 0 := by rcases hc with rfl | rfl | rfl <;> decide +kernel
    by_cases h43 : c = 43
    · have h2 := sumc_le (B := 3) (c := c) (ys := s.2.map grpT) fun y hy => by
        obtain ⟨g, hg, rfl⟩ := List.mem_map.mp hy
        exact (grp_c (ho.gs g hg).nm (hs.g g hg) hc).1
      rw [List.length_map] at h2
      have e2 : cnt c (" > " : Str) = 0 := by rw [h43]; decide +kernel
      rw [e2] at h1
      have : s.2.length * 3 ≤ 3 * 3 := Nat.mul_le_mul_right _ hl
      omega
    · have h2 := sumc_le (B := 0) (c := c) (ys := s.2.map grpT) fun y hy => by
        obtain ⟨g, hg, rfl⟩ := List.mem_map.mp hy
        rw [(grp_c (ho.gs g hg).nm (hs.g g hg) hc).2 h43]
        exact Nat.le_refl 0
      have e2 : cnt c (" > " : Str) ≤ 1 := by rcases hc with rfl | rfl | rfl <;> decide +kernel
      have : s.2.length * cnt c (" > " : Str) ≤ 3 * 1 := Nat.mul_le_mul hl e2
      omega
theorem share_l {s : Sh} (ho : ShOk s) (hs : ShSmall s) : (shareT s).length ≤ 80 := by
  obtain ⟨wl, _⟩ := w_len ho.w1 (by have := hs.w; omega)
  unfold shareT
  split
  · show (Str.ofString (toString s.1)).length ≤ 80
    omega
  · have hg := sum_le (B := 18) (ys := s.2.map grpT) fun y hy => by
      obtain ⟨g, hg, rfl⟩ := List.mem_map.mp hy
      have h1 := join_len "+" g
      have h2 := sum_le (B := 5) (ys := g) fun n hn => name_len ((ho.gs g hg).nm n hn)
      have h3 : ("+" : Str).length = 1 := by decide +kernel
      have h4 := hs.g g hg
      rw [h3] at h1
      unfold grpT
      omega
    have htl := join_len " > " (s.2.map grpT)
    have h3 : (" > " : Str).length = 3 := by decide +kernel
    have hsp : (Str.ofString " ").length = 1 := by decide +kernel
    have hem : Str.empty.length = 0 := by decide +kernel
    have hl := hs.l
    rw [List.length_map] at hg htl
    rw [h3] at htl
    rw [app_len, app_len, app_len, hem, hsp]
    show 0 + (Str.ofString (toString s.1)).length + 1 + _ ≤ _
    have := hs.l
    omega
/-- what is left of the room after j changes -/
structure Budget (z : Str) (j : Nat) : Prop where
  l : z.length ≤ 300 + 5 * j
  c : ∀ c, c = 124 ∨ c = 62 ∨ c = 43 → cnt c z ≤ 27 + j
theorem Budget.tame {z : Str} {j : Nat} (h : Budget z j) (hj : j ≤ 3) : Tame z :=
  ⟨by have := h.l; omega, by have := h.c 124 (.inl rfl); omega, by have := h.c 62 (.inr (.inl rfl)); omega, by have := h.c 43 (.inr (.inr rfl)); omega⟩
theorem Budget.near {z z' : Str} {j : Nat} (h : Budget z j) (n : Near z z') : Budget z' (j + 1) :=
  ⟨by have := h.l; have := n.l; omega, fun c hc => by have := h.c c hc; have := n.c c hc; omega⟩
theorem nrm_small {s : Sh} (h : ShSmall s) : ShSmall (nrmS s) := ⟨h.w, by show (s.2.map sortG).length ≤ 3; rw [List.length_map]; exact h.l, fun g hg => by
  obtain ⟨g0, hg0, rfl⟩ := List.mem_map.mp hg
  rw [(sortG_perm g0).length_eq]
  exact h.g g0 hg0⟩
theorem nrm_sh {s : Sh} (h : ShOk s) : ShOk (nrmS s) := ⟨h.w1, fun g hg => by
  obtain ⟨g0, hg0, rfl⟩ := List.mem_map.mp hg
  exact grpOk_perm (sortG_perm g0) (h.gs g0 hg0)⟩
theorem will_budget {ns : List Str} {shs : List Sh} (h : WillOk ns shs) : Budget (willT (shs.map nrmS)) 0 := by
  have mem : ∀ y ∈ (shs.map nrmS).map shareT, ∃ s, y = shareT s ∧ ShOk s ∧ ShSmall s := fun y hy => by
    obtain ⟨s, hs, rfl⟩ := List.mem_map.mp hy
    obtain ⟨s0, hs0, rfl⟩ := List.mem_map.mp hs
    obtain ⟨h1, h2, _⟩ := h.ok s0 hs0
    exact ⟨_, rfl, nrm_sh h1, nrm_small h2⟩
  have hl := h.l3
  have ll : ((shs.map nrmS).map shareT).length = shs.length := by rw [List.length_map, List.length_map]
  constructor
  · have h1 := join_len " | " ((shs.map nrmS).map shareT)
    have h2 := sum_le (B := 80) (ys := (shs.map nrmS).map shareT) fun y hy => by
      obtain ⟨s, rfl, a, b⟩ := mem y hy
      exact share_l a b
    have h3 : (" | " : Str).length = 3 := by decide +kernel
    rw [h3] at h1
    rw [ll] at h1 h2
    unfold willT
    omega
  · intro c hc
    have h1 := cnt_join (y := " | ") (c := c) ((shs.map nrmS).map shareT)
    rw [ll] at h1
    unfold willT
    by_cases h124 : c = 124
    · have h2 := sumc_le (B := 0) (c := c) (ys := (shs.map nrmS).map shareT) fun y hy => by
        obtain ⟨s, rfl, a, b⟩ := mem y hy
        have : cnt c (shareT s) = 0 := List.count_eq_zero.mpr fun z => rd_share a z h124
        omega
      have e2 : cnt c (" | " : Str) ≤ 1 := by rcases hc with rfl | rfl | rfl <;> decide +kernel
      have : shs.length * cnt c (" | " : Str) ≤ 3 * 1 := Nat.mul_le_mul hl e2
      omega
    · have h2 := sumc_le (B := 9) (c := c) (ys := (shs.map nrmS).map shareT) fun y hy => by
        obtain ⟨s, rfl, a, b⟩ := mem y hy
        exact share_c a b hc
      rw [ll] at h2
      have e2 : cnt c (" | " : Str) = 0 := by
        rcases hc with rfl | rfl | rfl
        · exact absurd rfl h124
        · decide +kernel
        · decide +kernel
      rw [e2] at h1
      have : shs.length * 9 ≤ 3 * 9 := Nat.mul_le_mul_right _ hl
      omega
theorem will_good {shs : List Sh} (h : WOk shs) (hw : ∀ s ∈ shs, s.1 ≤ 999999) : badAt (willT shs) = none := by
  unfold badAt
  rw [split_will h.ne fun s hs => (h.ok s hs).1]
  refine List.findIdx?_eq_none_iff.mpr fun x hx => ?_
  obtain ⟨s, hs, rfl⟩ := List.mem_map.mp hx
  rw [rsA_share (h.ok s hs).1 (hw s hs), sh_ad (h.ok s hs).1]
  rfl
theorem bad_le {z : Str} (h : z.length ≤ 900) : ∀ n, badAt z = some n → n ≤ 1000 := fun n e => by
  unfold badAt at e
  have hs := fact_split z " | "
  have := (List.findIdx?_eq_some_iff_getElem.mp e).1
  omega
def tameB (z : Str) : Bool := decide (z.length ≤ 1000) && decide (cnt 124 z ≤ 30) && decide (cnt 62 z ≤ 30) && decide (cnt 43 z ≤ 30)
theorem tame_of {z : Str} (h : tameB z = true) : Tame z := by
  unfold tameB at h
  simp only [Bool.and_eq_true, decide_eq_true_eq] at h
  exact ⟨h.1.1.1, h.1.1.2, h.1.2, h.2⟩
def some14 : List Str := ["", " ", "0", "01", "1 ", "1  a", "1 a+a", "1 a+", "1 crown", "1 a >b", "1 a > ", "1234567", "a", "-1"]
def some5 : List Str := ["1 a | ", "1 a |1", "1 a | 0", "1 | 2 b+A", "1 a > b | 2 abcdef"]
theorem some14_tame : some14.all tameB = true := by decide +kernel
theorem some14_bad : (some14.all fun z => decide (badAt z = some 0)) = true := by decide +kernel
theorem some5_tame : some5.all tameB = true := by decide +kernel
theorem some5_bad : some5.map badAt = [some 1, some 0, some 1, some 1, some 1] := by decide +kernel
theorem last_tame : tameB "1 | 2 | 3" = true := by decide +kernel
theorem last_bad : badAt "1 | 2 | 3" = none := by decide +kernel

end
end He

namespace He
open PySem PySem.Spec PyProof.Rows L2
section
variable {P : Program} {w : World} {K : PySem.W.Frag} {mg : Str → Option Value} {base : Heap}

section
variable {H : Hp} {Q : VK}
theorem go_heard {z : Str} (h : Tame z) (q : ∀ H', Same H H' → Q (optN (badAt z)) H') : spHeard [.str z] H Q E0 := by
  unfold spHeard
  exact ⟨z, rfl, h, q⟩
theorem go_due {z : Str} (h : z.length ≤ 900) (q : ∀ H', Same H H' → Q (optN (badAt z)) H') : spDue [.str z] H Q E0 := by
  unfold spDue
  exact ⟨z, rfl, h, q⟩
theorem go_wide {z : Str} (h : z.length ≤ 900) (q : ∀ (b : Bool) H', Same H H' → Q (.bl b) H') : spWide [.str z] H Q E0 := by
  unfold spWide
  exact ⟨z, rfl, h, q⟩
theorem go_bent {p : Addr} {z : Str} (hb : Box H p) (h : z.length ≤ 900) (q : ∀ z' H', Bx p H H' → Near z z' → Q (.str z') H') : spBent K [.ref p, .str z] H Q E0 := by
  unfold spBent
  exact ⟨p, z, rfl, hb, h, q⟩
end
def dOpt : Option Nat → PyData
  | none => .none
  | some n => .int n
theorem dpA_opts {H : Hp} : ∀ os : List (Option Nat), DpAll K H (os.map optN) (os.map dOpt)
  | [] => .nil
  | none :: os => .cons .non (dpA_opts os)
  | some n :: os => .cons (.int _) (dpA_opts os)
theorem heard_all {H1 : Hp} {p D : Addr} {L : List Str} {σ : L2.St} {Qd : Hp → Prop} (hL : L.all tameB = true) (hn : L.length < 100) (e1 : H1 p = some (.lst (L.map V.str))) (nD : H1 D = none) (h4 : σ.length = 7) (hd : ∀ H, Same H1 H → H D = some (.lst ((L.map badAt).map optN)) → Qd H) :
    LcGoes (Itl K p) (gName 4) tYes (tCall spHeard [] E0 (tCons (tVar 4) tNil)) [4] σ H1 D Qd := by
  refine lg_pure (fun i y _ => ∃ z, L[i]? = some z ∧ y = optN (badAt z)) (.inl ⟨rfl, sqL_of e1⟩) (small1000 (by rw [List.length_map]; omega)) nD (fun _ _ _ _ _ h => h) (fun j y H8 Φ hy2 s8 hD hΦ => ?_) (fun ys H8 s8 eD hl2 hY => ?_)
  · rw [List.getElem?_map] at hy2
    obtain ⟨z, ez, rfl⟩ := Option.map_eq_some_iff.mp hy2
    obtain ⟨a, b, c, d, e, f, g, rfl⟩ : ∃ a b c d e f g, σ = [a, b, c, d, e, f, g] := by
      match σ, h4 with
      | [a, b, c, d, e, f, g], _ => exact ⟨a, b, c, d, e, f, g, rfl⟩
    simp only [and_assoc, tSeq, tAsg, tOp, tUn, rI, rI0, rU, tVar, tC, gName, L2.start, tIfS, tTest, tB, tCB, tCons, tNil, tIf, tRet, tRetN, tLst, tTup, tNext, tDrop, tNot, tNotV, tAnd, tOr, tAndV, tOrV, tPar, tAug, ipI, rEq, rNe, gSub, rSetL, rIxL, rIxT, tBM, tBM0, rAppend, rPopAt, gTup, gCons, gNil, tCall, tSl, tPart, tNoPart, rSlL, rCat, rEqD, rNeD, rIn, scal, List.map_cons, List.map_nil, List.length_cons, List.length_nil, List.length_map, List.cons_append, List.nil_append, List.append_nil, List.replicate, List.getElem?_cons_zero, List.getElem?_cons_succ, List.set_cons_zero, List.set_cons_succ, Option.some.injEq, exists_eq_left', exists_eq_left, exists_eq_right, exists_and_left, exists_and_right, V.int.injEq, V.ref.injEq, V.str.injEq, V.bl.injEq, reduceCtorEq, false_and, and_false, exists_false, or_false, false_or, true_and, and_true, List.cons.injEq, decide_eq_true_eq, cxOf, if_true, if_false, Bool.false_eq_true, Nat.reduceAdd, Nat.reduceSub, Nat.zero_add, Nat.add_sub_cancel_left, Nat.add_sub_cancel, Nat.sub_self, sFld, tFld, tFor_eq, tLc_eq, iRng1, iRng2, iList, iTup, iEnum, rIsi, rIsiT, iSeq, tM0, tM1, tFmt, tJs, rJoin, rNewStrs, tMakeL, tMake, tNever, tChain, iStr, rEqNil, rNeNil, rLenS, rNotSign, rSlS, rIxS, spTxtB, rLenL, rReprN, rNeD, rEqD, rRep, wipe]
    exact go_heard (tame_of (List.all_eq_true.mp hL z (List.mem_of_getElem? ez))) fun H' s' => hΦ _ _ s' ⟨z, ez, rfl⟩
  · refine hd H8 s8 ?_
    rw [eD]
    congr 2
    rw [List.map_map]
    rw [List.length_map] at hl2
    refine List.ext_getElem? fun i => ?_
    rw [List.getElem?_map]
    cases e : ys[i]? with
    | none =>
      rw [List.getElem?_eq_none (by have := List.getElem?_eq_none_iff.mp e; omega)]
      rfl
    | some y =>
      obtain ⟨z, ez, rfl⟩ := hY i y e
      rw [ez]
      rfl
theorem map14 : some14.map badAt = List.replicate 14 (some 0) := by decide +kernel
theorem dpA_14 {H : Hp} : DpAll K H (List.replicate (Int.toNat 14) [V.int 0]).flatten ((List.replicate 14 (some 0)).map dOpt) := by
  have h := dpA_opts (K := K) (H := H) (List.replicate 14 (some 0))
  have e : (List.replicate (Int.toNat 14) [V.int 0]).flatten = (List.replicate 14 (some 0)).map optN := rfl
  rw [e]
  exact h
theorem dpA_5 {H : Hp} : DpAll K H [V.int 1, V.int 0, V.int 1, V.int 1, V.int 1] ([some 1, some 0, some 1, some 1, some 1].map dOpt) := dpA_opts (K := K) (H := H) [some 1, some 0, some 1, some 1, some 1]
theorem eq14 : (PyData.eqv (.list ((List.replicate 14 (some 0)).map dOpt)) (.list ((List.replicate 14 (some 0)).map dOpt))) = true := by decide +kernel
theorem sh14 : SeqAt.shaped (.list ((List.replicate 14 (some 0)).map dOpt)) = true := by decide +kernel
theorem eq5 : (PyData.eqv (.list ([some 1, some 0, some 1, some 1, some 1].map dOpt)) (.list ([some 1, some 0, some 1, some 1, some 1].map dOpt))) = true := by decide +kernel
theorem sh5 : SeqAt.shaped (.list ([some 1, some 0, some 1, some 1, some 1].map dOpt)) = true := by decide +kernel
theorem ok_law (XX : TxtX K mg) : FnOk P w K mg base CX0 14 XX.w.t.dLaw.f XX.w.t.dLaw.fd ["_law_script"] (spLaw K) := by
  refine XX.w.t.dLaw.F.ok scDLaw (fun vs H Q E h => ?_) (fun cdv A outer s H vs Q E hr h => ?_)
  · obtain ⟨a, ns, rfl, _⟩ := h
    rfl
  · obtain ⟨a, ns, rfl, hs, hn, q⟩ := h
    refine ⟨_, (pss_cons (ps_for PassesOwn.never rfl (pi_range1 (by rfl) XX.w.t.z_range (pa_cons (pe_callB (call_max2 rfl) (by rfl) XX.w.t.z_max (show bootBuiltins "max" = some (.builtin "max") by decide +kernel) (pa_cons pe_int (pa_cons (pe_callB (call_min2 rfl) (by rfl) XX.w.t.z_min (show bootBuiltins "min" = some (.builtin "min") by decide +kernel) (pa_cons pe_int (pa_cons (pe_callB call_lenL (by rfl) XX.w.t.z_len (show bootBuiltins "len" = some (.builtin "len") by decide +kernel) (pa_cons (pv 0) pa_nil)) pa_nil))) pa_nil))) pa_nil)) (pg_name (i := 1) scDLaw.nd rfl (.inl rfl))
      (pss_cons (ps_set (i := 2) scDLaw.nd rfl (.inl rfl) (pe_call (ok_seed XX.w.t) (hr.mono (by decide)) (by rfl) XX.w.t.dLawSeed.g XX.w.t.dLawSeed.F.kp XX.w.t.dLawSeed.b .nil pass0 (pa_cons (pv 0) (pa_cons (pv 1) pa_nil))))
      (pss_one (ps_for PassesOwn.never rfl (pi_range1 (by rfl) XX.w.t.z_range (pa_cons pe_int pa_nil)) (pg_name (i := 3) scDLaw.nd rfl (.inl rfl))
      (pss_cons (ps_set (i := 4) scDLaw.nd rfl (.inl rfl) (pe_call (ok_wtext XX.w.t) (hr.mono (by decide)) (by rfl) XX.w.t.dLawWillText.g XX.w.t.dLawWillText.F.kp XX.w.t.dLawWillText.b .nil pass0 (pa_cons (pe_call (ok_will XX.w.t) (hr.mono (by decide)) (by rfl) XX.w.t.dLawWill.g XX.w.t.dLawWill.F.kp XX.w.t.dLawWill.b .nil pass0 (pa_cons (pv 2) (pa_cons (pe_call (ok_names XX.w.t) (hr.mono (by decide)) (by rfl) XX.w.t.dLawNames.g XX.w.t.dLawNames.F.kp XX.w.t.dLawNames.b .nil pass0 (pa_cons (pv 2) (pa_cons pe_int pa_nil))) pa_nil))) pa_nil)))
      (pss_cons (ps_if (pt_cmpR op_notN (pe_call (ok_heard XX) (hr.mono (by decide)) (by rfl) XX.w.t.dLawHeard.g XX.w.t.dLawHeard.F.kp XX.w.t.dLawHeard.b .nil pass0 (pa_cons (pv 4) pa_nil)) pe_non (nomark _))
      (pss_one (ps_ret pe_bl))
      pss_nil)
      (pss_one (ps_for PassesOwn.never rfl (pi_range1 (by rfl) XX.w.t.z_range (pa_cons pe_int pa_nil)) (pg_name (i := 5) scDLaw.nd rfl (.inl rfl))
      (pss_cons (ps_set (i := 4) scDLaw.nd rfl (.inl rfl) (pe_call (ok_bent XX.w.t) (hr.mono (by decide)) (by rfl) XX.w.t.dLawBent.g XX.w.t.dLawBent.F.kp XX.w.t.dLawBent.b .nil pass0 (pa_cons (pv 2) (pa_cons (pv 4) pa_nil))))
      (pss_one (ps_if (PW.pt (pw_and (pt_not (pt_val (pe_call (ok_wide XX.w.t) (hr.mono (by decide)) (by rfl) XX.w.t.dLawIsWide.g XX.w.t.dLawIsWide.F.kp XX.w.t.dLawIsWide.b .nil pass0 (pa_cons (pv 4) pa_nil)))) (pw_and1 (pt_cmpR op_ne (pe_callB (show CallR _ (.builtin "repr") rReprN from call_reprN) (by rfl) XX.w.t.z_repr (show bootBuiltins "repr" = some (.builtin "repr") by decide +kernel) (pa_cons (pe_call (ok_heard XX) (hr.mono (by decide)) (by rfl) XX.w.t.dLawHeard.g XX.w.t.dLawHeard.F.kp XX.w.t.dLawHeard.b .nil pass0 (pa_cons (pv 4) pa_nil)) pa_nil)) (pe_callB (show CallR _ (.builtin "repr") rReprN from call_reprN) (by rfl) XX.w.t.z_repr (show bootBuiltins "repr" = some (.builtin "repr") by decide +kernel) (pa_cons (pe_call (ok_due XX.w.t) (hr.mono (by decide)) (by rfl) XX.w.t.dLawDue.g XX.w.t.dLawDue.F.kp XX.w.t.dLawDue.b .nil pass0 (pa_cons (pv 4) pa_nil)) pa_nil)) (nomark _)))))
      (pss_one (ps_ret pe_bl))
      pss_nil)))))))))))
      (pss_cons (ps_set (i := 6) scDLaw.nd rfl (.inl rfl) (pe_lst (pa_cons pe_str (pa_cons pe_str (pa_cons pe_str (pa_cons pe_str (pa_cons pe_str (pa_cons pe_str (pa_cons pe_str (pa_cons pe_str (pa_cons pe_str (pa_cons pe_str (pa_cons pe_str (pa_cons pe_str (pa_cons pe_str (pa_cons pe_str pa_nil))))))))))))))))
      (pss_cons (ps_if (pt_cmpR (op_neD hr.units) (pe_lc (own := [("_law_text", 4)]) (g := (gName 4)) (tt := tYes) rfl scDLaw.nd (pi_list (pv 6)) (blkOk_by (N := ["_law_script", "_law_k", "_law_box", "_law_turn", "_law_text", "_law_more", "_law_some"]) (sc := defScope sDLaw) (by decide +kernel)) (fun _ _ _ _ _ => (pg_name (i := 4) scDLaw.nd rfl (.inl rfl))) (fun _ _ _ _ _ => pts_nil) (fun _ _ _ _ _ => (pe_call (ok_heard XX) (hr.mono (by decide)) (by rfl) XX.w.t.dLawHeard.g XX.w.t.dLawHeard.F.kp XX.w.t.dLawHeard.b .nil pass0 (pa_cons (pv 4) pa_nil)))) (pe_op op_rep (pe_lst (pa_cons pe_int pa_nil)) pe_int) (nomark _))
      (pss_one (ps_ret pe_bl))
      pss_nil)
      (pss_cons (ps_set (i := 6) scDLaw.nd rfl (.inl rfl) (pe_lst (pa_cons pe_str (pa_cons pe_str (pa_cons pe_str (pa_cons pe_str (pa_cons pe_str pa_nil)))))))
      (pss_one (ps_ret (pe_and (pe_cmpR (op_eqD hr.units) (pe_lc (own := [("_law_text", 4)]) (g := (gName 4)) (tt := tYes) rfl scDLaw.nd (pi_list (pv 6)) (blkOk_by (N := ["_law_script", "_law_k", "_law_box", "_law_turn", "_law_text", "_law_more", "_law_some"]) (sc := defScope sDLaw) (by decide +kernel)) (fun _ _ _ _ _ => (pg_name (i := 4) scDLaw.nd rfl (.inl rfl))) (fun _ _ _ _ _ => pts_nil) (fun _ _ _ _ _ => (pe_call (ok_heard XX) (hr.mono (by decide)) (by rfl) XX.w.t.dLawHeard.g XX.w.t.dLawHeard.F.kp XX.w.t.dLawHeard.b .nil pass0 (pa_cons (pv 4) pa_nil)))) (pe_lst (pa_cons pe_int (pa_cons pe_int (pa_cons pe_int (pa_cons pe_int (pa_cons pe_int pa_nil)))))) (nomark _)) (pe_one (pe_cmpR op_isN (pe_call (ok_heard XX) (hr.mono (by decide)) (by rfl) XX.w.t.dLawHeard.g XX.w.t.dLawHeard.F.kp XX.w.t.dLawHeard.b .nil pass0 (pa_cons pe_str pa_nil)) pe_non (nomark _)))))))))), ?_⟩
    simp only [and_assoc, tSeq, tAsg, tOp, tUn, rI, rI0, rU, tVar, tC, gName, L2.start, tIfS, tTest, tB, tCB, tCons, tNil, tIf, tRet, tRetN, tLst, tTup, tNext, tDrop, tNot, tNotV, tAnd, tOr, tAndV, tOrV, tPar, tAug, ipI, rEq, rNe, gSub, rSetL, rIxL, rIxT, tBM, tBM0, rAppend, rPopAt, gTup, gCons, gNil, tCall, tSl, tPart, tNoPart, rSlL, rCat, rEqD, rNeD, rIn, scal, List.map_cons, List.map_nil, List.length_cons, List.length_nil, List.length_map, List.cons_append, List.nil_append, List.append_nil, List.replicate, List.getElem?_cons_zero, List.getElem?_cons_succ, List.set_cons_zero, List.set_cons_succ, Option.some.injEq, exists_eq_left', exists_eq_left, exists_eq_right, exists_and_left, exists_and_right, V.int.injEq, V.ref.injEq, V.str.injEq, V.bl.injEq, reduceCtorEq, false_and, and_false, exists_false, or_false, false_or, true_and, and_true, List.cons.injEq, decide_eq_true_eq, cxOf, if_true, if_false, Bool.false_eq_true, Nat.reduceAdd, Nat.reduceSub, Nat.zero_add, Nat.add_sub_cancel_left, Nat.add_sub_cancel, Nat.sub_self, sFld, tFld, tFor_eq, tLc_eq, iRng1, iRng2, iList, iTup, iEnum, rIsi, rIsiT, iSeq, tM0, tM1, tFmt, tJs, rJoin, rNewStrs, tMakeL, tMake, tNever, tChain, iStr, rEqNil, rNeNil, rLenS, rNotSign, rSlS, rIxS, spTxtB, rLenL, rReprN, rNeD, rEqD, rRep]
    obtain ⟨n, hn4, hnn⟩ : ∃ n : Nat, n ≤ 4 ∧ (if (if ((List.map V.int ns).length : Int) < 4 then ((List.map V.int ns).length : Int) else 4) > 2 then if ((List.map V.int ns).length : Int) < 4 then ((List.map V.int ns).length : Int) else 4 else 2) = (n : Int) := by
      refine ⟨(if (if ((List.map V.int ns).length : Int) < 4 then ((List.map V.int ns).length : Int) else 4) > 2 then if ((List.map V.int ns).length : Int) < 4 then ((List.map V.int ns).length : Int) else 4 else 2).toNat, ?_, ?_⟩ <;> (repeat' split) <;> omega
    refine ⟨_, hs, by rw [hnn]; omega, by rw [hnn]; omega, ?_⟩
    rw [hnn, Int.toNat_natCast]
    refine fg_range (fun i σ H2 => ∃ (o1 o2 o3 o4 o5 o6 : Option V), σ = [some (.ref a), o1, o2, o3, o4, o5, o6] ∧ Same H H2) ⟨none, none, none, none, none, none, rfl, Same.refl H⟩ ?_ ?_
    · rintro i σ H2 hi ⟨o1, o2, o3, o4, o5, o6, rfl, s2⟩
      simp only [and_assoc, tSeq, tAsg, tOp, tUn, rI, rI0, rU, tVar, tC, gName, L2.start, tIfS, tTest, tB, tCB, tCons, tNil, tIf, tRet, tRetN, tLst, tTup, tNext, tDrop, tNot, tNotV, tAnd, tOr, tAndV, tOrV, tPar, tAug, ipI, rEq, rNe, gSub, rSetL, rIxL, rIxT, tBM, tBM0, rAppend, rPopAt, gTup, gCons, gNil, tCall, tSl, tPart, tNoPart, rSlL, rCat, rEqD, rNeD, rIn, scal, List.map_cons, List.map_nil, List.length_cons, List.length_nil, List.length_map, List.cons_append, List.nil_append, List.append_nil, List.replicate, List.getElem?_cons_zero, List.getElem?_cons_succ, List.set_cons_zero, List.set_cons_succ, Option.some.injEq, exists_eq_left', exists_eq_left, exists_eq_right, exists_and_left, exists_and_right, V.int.injEq, V.ref.injEq, V.str.injEq, V.bl.injEq, reduceCtorEq, false_and, and_false, exists_false, or_false, false_or, true_and, and_true, List.cons.injEq, decide_eq_true_eq, cxOf, if_true, if_false, Bool.false_eq_true, Nat.reduceAdd, Nat.reduceSub, Nat.zero_add, Nat.add_sub_cancel_left, Nat.add_sub_cancel, Nat.sub_self, sFld, tFld, tFor_eq, tLc_eq, iRng1, iRng2, iList, iTup, iEnum, rIsi, rIsiT, iSeq, tM0, tM1, tFmt, tJs, rJoin, rNewStrs, tMakeL, tMake, tNever, tChain, iStr, rEqNil, rNeNil, rLenS, rNotSign, rSlS, rIxS, spTxtB, rLenL, rReprN, rNeD, rEqD, rRep, spSeed]
      refine ⟨ns, i, by omega, by omega, s2.seq hs, hn, fun b0 b1 p np h0 h1 h2 => ⟨by decide, by decide, ?_⟩⟩
      have hb1 : Box (upd H2 p (.lst [.int b0, .int b1])) p := ⟨b0, b1, upd_same, h0, h1, h2⟩
      have s21 := same_upd (o := .lst [.int b0, .int b1]) np
      generalize upd H2 p (.lst [.int b0, .int b1]) = H1 at hb1 s21 ⊢
      refine fg_range (fun j σ H3 => ∃ (o3 o4 o5 o6 : Option V), σ = [some (.ref a), some (.int (0 + ↑i)), some (.ref p), o3, o4, o5, o6] ∧ Bx p H1 H3) ⟨_, _, _, _, rfl, .refl hb1⟩ ?_ ?_
      · rintro j σ H3 hj ⟨o3, o4, o5, o6, rfl, B3⟩
        simp only [and_assoc, tSeq, tAsg, tOp, tUn, rI, rI0, rU, tVar, tC, gName, L2.start, tIfS, tTest, tB, tCB, tCons, tNil, tIf, tRet, tRetN, tLst, tTup, tNext, tDrop, tNot, tNotV, tAnd, tOr, tAndV, tOrV, tPar, tAug, ipI, rEq, rNe, gSub, rSetL, rIxL, rIxT, tBM, tBM0, rAppend, rPopAt, gTup, gCons, gNil, tCall, tSl, tPart, tNoPart, rSlL, rCat, rEqD, rNeD, rIn, scal, List.map_cons, List.map_nil, List.length_cons, List.length_nil, List.length_map, List.cons_append, List.nil_append, List.append_nil, List.replicate, List.getElem?_cons_zero, List.getElem?_cons_succ, List.set_cons_zero, List.set_cons_succ, Option.some.injEq, exists_eq_left', exists_eq_left, exists_eq_right, exists_and_left, exists_and_right, V.int.injEq, V.ref.injEq, V.str.injEq, V.bl.injEq, reduceCtorEq, false_and, and_false, exists_false, or_false, false_or, true_and, and_true, List.cons.injEq, decide_eq_true_eq, cxOf, if_true, if_false, Bool.false_eq_true, Nat.reduceAdd, Nat.reduceSub, Nat.zero_add, Nat.add_sub_cancel_left, Nat.add_sub_cancel, Nat.sub_self, sFld, tFld, tFor_eq, tLc_eq, iRng1, iRng2, iList, iTup, iEnum, rIsi, rIsiT, iSeq, tM0, tM1, tFmt, tJs, rJoin, rNewStrs, tMakeL, tMake, tNever, tChain, iStr, rEqNil, rNeNil, rLenS, rNotSign, rSlS, rIxS, spTxtB, rLenL, rReprN, rNeD, rEqD, rRep, spNames]
        refine ⟨5, rfl, B3.1, by decide, fun nms u H4 B4 nm nl nu eu => ?_⟩
        simp only [and_assoc, tSeq, tAsg, tOp, tUn, rI, rI0, rU, tVar, tC, gName, L2.start, tIfS, tTest, tB, tCB, tCons, tNil, tIf, tRet, tRetN, tLst, tTup, tNext, tDrop, tNot, tNotV, tAnd, tOr, tAndV, tOrV, tPar, tAug, ipI, rEq, rNe, gSub, rSetL, rIxL, rIxT, tBM, tBM0, rAppend, rPopAt, gTup, gCons, gNil, tCall, tSl, tPart, tNoPart, rSlL, rCat, rEqD, rNeD, rIn, scal, List.map_cons, List.map_nil, List.length_cons, List.length_nil, List.length_map, List.cons_append, List.nil_append, List.append_nil, List.replicate, List.getElem?_cons_zero, List.getElem?_cons_succ, List.set_cons_zero, List.set_cons_succ, Option.some.injEq, exists_eq_left', exists_eq_left, exists_eq_right, exists_and_left, exists_and_right, V.int.injEq, V.ref.injEq, V.str.injEq, V.bl.injEq, reduceCtorEq, false_and, and_false, exists_false, or_false, false_or, true_and, and_true, List.cons.injEq, decide_eq_true_eq, cxOf, if_true, if_false, Bool.false_eq_true, Nat.reduceAdd, Nat.reduceSub, Nat.zero_add, Nat.add_sub_cancel_left, Nat.add_sub_cancel, Nat.sub_self, sFld, tFld, tFor_eq, tLc_eq, iRng1, iRng2, iList, iTup, iEnum, rIsi, rIsiT, iSeq, tM0, tM1, tFmt, tJs, rJoin, rNewStrs, tMakeL, tMake, tNever, tChain, iStr, rEqNil, rNeNil, rLenS, rNotSign, rSlS, rIxS, spTxtB, rLenL, rReprN, rNeD, rEqD, rRep, spWill]
        have up : u ≠ p := fun z => by obtain ⟨_, _, e, _⟩ := B3.1; rw [z, e] at nu; cases nu
        refine ⟨B4.1, nms, sqL_of (by rw [hide_ne up]; exact eu), by omega, nm, fun shs vs r H5 B5 hwo nr er hd => ?_⟩
        have hw := hwo.wok
        simp only [and_assoc, tSeq, tAsg, tOp, tUn, rI, rI0, rU, tVar, tC, gName, L2.start, tIfS, tTest, tB, tCB, tCons, tNil, tIf, tRet, tRetN, tLst, tTup, tNext, tDrop, tNot, tNotV, tAnd, tOr, tAndV, tOrV, tPar, tAug, ipI, rEq, rNe, gSub, rSetL, rIxL, rIxT, tBM, tBM0, rAppend, rPopAt, gTup, gCons, gNil, tCall, tSl, tPart, tNoPart, rSlL, rCat, rEqD, rNeD, rIn, scal, List.map_cons, List.map_nil, List.length_cons, List.length_nil, List.length_map, List.cons_append, List.nil_append, List.append_nil, List.replicate, List.getElem?_cons_zero, List.getElem?_cons_succ, List.set_cons_zero, List.set_cons_succ, Option.some.injEq, exists_eq_left', exists_eq_left, exists_eq_right, exists_and_left, exists_and_right, V.int.injEq, V.ref.injEq, V.str.injEq, V.bl.injEq, reduceCtorEq, false_and, and_false, exists_false, or_false, false_or, true_and, and_true, List.cons.injEq, decide_eq_true_eq, cxOf, if_true, if_false, Bool.false_eq_true, Nat.reduceAdd, Nat.reduceSub, Nat.zero_add, Nat.add_sub_cancel_left, Nat.add_sub_cancel, Nat.sub_self, sFld, tFld, tFor_eq, tLc_eq, iRng1, iRng2, iList, iTup, iEnum, rIsi, rIsiT, iSeq, tM0, tM1, tFmt, tJs, rJoin, rNewStrs, tMakeL, tMake, tNever, tChain, iStr, rEqNil, rNeNil, rLenS, rNotSign, rSlS, rIxS, spTxtB, rLenL, rReprN, rNeD, rEqD, rRep, spWText]
        refine ⟨_, sqL_of er, shs, dpA_mono hide_le _ _ hd, hw, fun H6 s6 => ?_⟩
        have bud := will_budget hwo
        have hw6 : ∀ s ∈ shs, s.1 ≤ 999999 := fun s hs => (hwo.ok s hs).2.1.w
        refine go_heard (bud.tame (by omega)) fun H7 s7 => ?_
        rw [will_good (like_ok (like_nrm shs) hw) (like_w (like_nrm shs) hw6), if_neg (by simp [optN])]
        have B7 : Bx p H1 H7 := ((B3.trans B4).trans B5).trans (.of B5.1 (s6.trans s7))
        refine ⟨by decide, by decide, ?_⟩
        refine fg_range (fun m σ H8 => ∃ (z : Str) (o5 o6 : Option V), σ = [some (.ref a), some (.int (0 + ↑i)), some (.ref p), some (.int (0 + ↑j)), some (.str z), o5, o6] ∧ Bx p H1 H8 ∧ Budget z m) ⟨_, _, _, rfl, B7, bud⟩ ?_ ?_
        · rintro m σ H8 hm ⟨z, o5', o6', rfl, B8, bz⟩
          have hm3 : m < 3 := hm
          have hzl := bz.l
          simp only [and_assoc, tSeq, tAsg, tOp, tUn, rI, rI0, rU, tVar, tC, gName, L2.start, tIfS, tTest, tB, tCB, tCons, tNil, tIf, tRet, tRetN, tLst, tTup, tNext, tDrop, tNot, tNotV, tAnd, tOr, tAndV, tOrV, tPar, tAug, ipI, rEq, rNe, gSub, rSetL, rIxL, rIxT, tBM, tBM0, rAppend, rPopAt, gTup, gCons, gNil, tCall, tSl, tPart, tNoPart, rSlL, rCat, rEqD, rNeD, rIn, scal, List.map_cons, List.map_nil, List.length_cons, List.length_nil, List.length_map, List.cons_append, List.nil_append, List.append_nil, List.replicate, List.getElem?_cons_zero, List.getElem?_cons_succ, List.set_cons_zero, List.set_cons_succ, Option.some.injEq, exists_eq_left', exists_eq_left, exists_eq_right, exists_and_left, exists_and_right, V.int.injEq, V.ref.injEq, V.str.injEq, V.bl.injEq, reduceCtorEq, false_and, and_false, exists_false, or_false, false_or, true_and, and_true, List.cons.injEq, decide_eq_true_eq, cxOf, if_true, if_false, Bool.false_eq_true, Nat.reduceAdd, Nat.reduceSub, Nat.zero_add, Nat.add_sub_cancel_left, Nat.add_sub_cancel, Nat.sub_self, sFld, tFld, tFor_eq, tLc_eq, iRng1, iRng2, iList, iTup, iEnum, rIsi, rIsiT, iSeq, tM0, tM1, tFmt, tJs, rJoin, rNewStrs, tMakeL, tMake, tNever, tChain, iStr, rEqNil, rNeNil, rLenS, rNotSign, rSlS, rIxS, spTxtB, rLenL, rReprN, rNeD, rEqD, rRep]
          refine go_bent B8.1 (by omega) fun z' H9 B9 nz => ?_
          have bz' := bz.near nz
          have hzl' := bz'.l
          refine go_wide (by omega) fun b H10 s10 => ?_
          have B10 : Bx p H1 H10 := (B8.trans B9).trans (.of B9.1 s10)
          refine ⟨b, rfl, ?_⟩
          cases b with
          | true =>
            rw [if_neg (by simp)]
            exact ⟨z', rfl, B10, bz'⟩
          | false =>
            rw [if_pos (show (!false) = true from rfl)]
            refine go_heard (bz'.tame (by omega)) fun H11 s11 => ⟨_, rfl, bad_le (by omega), go_due (by omega) fun H12 s12 => ⟨_, rfl, bad_le (by omega), ?_⟩⟩
            rw [if_neg (by simp)]
            exact ⟨z', rfl, B10.trans (.of B10.1 (s11.trans s12)), bz'⟩
        · rintro σ H8 ⟨z, o5', o6', rfl, B8, bz⟩
          exact ⟨⟨_, _, _, _, rfl⟩, B8⟩
      · rintro σ H3 ⟨o3, o4, o5, o6, rfl, B3⟩
        exact ⟨⟨_, _, _, _, _, _, rfl⟩, fun b o e => B3.get (ne_of_none (s2 _ _ e) np) (s21 _ _ (s2 _ _ e))⟩
    · rintro σ H2 ⟨o1, o2, o3, o4, o5, o6, rfl, s2⟩
      simp only [and_assoc, tSeq, tAsg, tOp, tUn, rI, rI0, rU, tVar, tC, gName, L2.start, tIfS, tTest, tB, tCB, tCons, tNil, tIf, tRet, tRetN, tLst, tTup, tNext, tDrop, tNot, tNotV, tAnd, tOr, tAndV, tOrV, tPar, tAug, ipI, rEq, rNe, gSub, rSetL, rIxL, rIxT, tBM, tBM0, rAppend, rPopAt, gTup, gCons, gNil, tCall, tSl, tPart, tNoPart, rSlL, rCat, rEqD, rNeD, rIn, scal, List.map_cons, List.map_nil, List.length_cons, List.length_nil, List.length_map, List.cons_append, List.nil_append, List.append_nil, List.replicate, List.getElem?_cons_zero, List.getElem?_cons_succ, List.set_cons_zero, List.set_cons_succ, Option.some.injEq, exists_eq_left', exists_eq_left, exists_eq_right, exists_and_left, exists_and_right, V.int.injEq, V.ref.injEq, V.str.injEq, V.bl.injEq, reduceCtorEq, false_and, and_false, exists_false, or_false, false_or, true_and, and_true, List.cons.injEq, decide_eq_true_eq, cxOf, if_true, if_false, Bool.false_eq_true, Nat.reduceAdd, Nat.reduceSub, Nat.zero_add, Nat.add_sub_cancel_left, Nat.add_sub_cancel, Nat.sub_self, sFld, tFld, tFor_eq, tLc_eq, iRng1, iRng2, iList, iTup, iEnum, rIsi, rIsiT, iSeq, tM0, tM1, tFmt, tJs, rJoin, rNewStrs, tMakeL, tMake, tNever, tChain, iStr, rEqNil, rNeNil, rLenS, rNotSign, rSlS, rIxS, spTxtB, rLenL, rReprN, rNeD, rEqD, rRep]
      refine ⟨by decide, fun p np => ⟨⟨_, sqL_of upd_same⟩, fun D nD => ?_⟩⟩
      refine heard_all (L := some14) some14_tame (by decide) upd_same nD rfl fun H3 s3 eD => ?_
      rw [map14] at eD
      refine ⟨by decide, fun p1 n1 => ⟨_, upd_same, by decide, by decide, by decide, fun p2 n2 => ?_⟩⟩
      have ea := (same_upd (o := .lst [.int 0]) n1).trans (same_upd (o := .lst (List.replicate (Int.toNat 14) [V.int 0]).flatten) n2)
      refine ⟨.list ((List.replicate 14 (some 0)).map dOpt), .lst (sqL_of (ea _ _ eD)) (dpA_opts _), .list ((List.replicate 14 (some 0)).map dOpt), .lst (sqL_of upd_same) dpA_14, sh14, sh14, ?_⟩
      rw [eq14, if_neg (by simp)]
      refine ⟨by decide, fun p3 n3 => ⟨⟨_, sqL_of upd_same⟩, fun D2 nD2 => ?_⟩⟩
      refine heard_all (L := some5) some5_tame (by decide) upd_same nD2 rfl fun H4 s4 eD2 => ?_
      rw [some5_bad] at eD2
      refine ⟨by decide, fun p4 n4 => ?_⟩
      refine ⟨.list ([some 1, some 0, some 1, some 1, some 1].map dOpt), .lst (sqL_of (same_upd n4 _ _ eD2)) (dpA_opts _), .list ([some 1, some 0, some 1, some 1, some 1].map dOpt), .lst (sqL_of upd_same) dpA_5, sh5, sh5, ?_⟩
      rw [eq5, if_pos rfl]
      refine go_heard (tame_of last_tame) fun H5 s5 => ?_
      rw [last_bad]
      exact q _

end
end He

namespace He
open PySem PySem.Spec PyProof.Rows L2
section
variable {P : Program} {w : World} {K : PySem.W.Frag} {mg : Str → Option Value} {base : Heap}
end
theorem kit_cls {K : PySem.W.Frag} {a b : Addr} {r : Bool} (i : PySem.W.isClsIn K b = true) (t : PySem.W.typeIn K (.ref b) = some (.type "type")) (e : PySem.W.subIn K (.ref a) (.ref b) = some r) : PySem.W.kitCls K (.ref a) (.ref b) = some r := by
  have i' : (PySem.W.clsIn K b).isSome = true := i
  show (if ((PySem.W.clsIn K b).isSome && PySem.W.typeIn K (.ref b) == some (.type "type")) = true then PySem.W.subIn K (.ref a) (.ref b) else none) = some r
  rw [i', t, if_pos (by rfl)]
  exact e
theorem kit_yes {K : PySem.W.Frag} {a b : Addr} (i : PySem.W.isClsIn K b = true) (t : PySem.W.typeIn K (.ref b) = some (.type "type")) (e : PySem.W.subIn K (.ref a) (.ref b) = some true) : PySem.W.kitOne K (.ref a) (.ref b) = some true := by
  unfold PySem.W.kitOne
  split
  · rfl
  · exact kit_cls i t e
theorem kit_no {K : PySem.W.Frag} {a b : Addr} (h : PySem.W.subIn K (.ref a) (.ref a) = some true) (i : PySem.W.isClsIn K b = true) (t : PySem.W.typeIn K (.ref b) = some (.type "type")) (e : PySem.W.subIn K (.ref a) (.ref b) = some false) : PySem.W.kitOne K (.ref a) (.ref b) = some false := by
  unfold PySem.W.kitOne
  split
  · rename_i z
    have z' := Value.ref.inj (beq_iff_eq.mp z)
    subst z'
    rw [h] at e
    cases e
  · exact kit_cls i t e
set_option maxHeartbeats 0 in
theorem all_mk {l : PySem.W.OpenLaw} {w : World} {K : PySem.W.Frag} {h : Heap} {mg : Str → Option Value} {fa cHeirError cInvalidWill cInvalidText cWill f0 f1 f2 f3 f4 f12 f13 f14 f15 f16 f17 f18 f19 f20 f21 f22 f23 f24 f25 f26 f27 f28 f29 f30 f31 f32 f7 f10 f11 f8 rP f6 : Addr} {rRest : List Value} {nmI qI : Str} {NI : Addr} {bsI : List Value} {snI : List Str} {subI : List Value} {abI : Bool} {colI : Option Bool} {ddI : Option Addr} {k0I k1I k2I k3I k5I : Option Value} (X : K.In h) (G : h.Ns mainGlobals mg) (hfa : mg "law" = some (.ref fa))
    {od0 an0 od1 an1 od2 an2 od3 an3 od4 an4 od12 an12 od13 an13 od14 an14 od15 an15 od16 an16 od17 an17 od18 an18 od19 an19 od20 an20 od21 an21 od22 an22 od23 an23 od24 an24 od25 an25 od26 an26 od27 an27 od28 an28 od29 an29 od30 an30 od31 an31 od32 an32 od7 an7 od10 an10 od11 an11 od8 an8 od6 an6 : Option Addr} {sl0 sl1 sl2 sl3 sl4 sl12 sl13 sl14 sl15 sl16 sl17 sl18 sl19 sl20 sl21 sl22 sl23 sl24 sl25 sl26 sl27 sl28 sl29 sl30 sl31 sl32 sl7 sl10 sl11 sl8 sl6 : Array (Option Value)} {oc0 kV0 dc0 pm0 cd0 ct0 oc1 kV1 dc1 pm1 cd1 ct1 oc2 kV2 dc2 pm2 cd2 ct2 oc3 kV3 dc3 pm3 cd3 ct3 oc4 kV4 dc4 pm4 cd4 ct4 oc12 kV12 dc12 pm12 cd12 ct12 oc13 kV13 dc13 pm13 cd13 ct13 oc14 kV14 dc14 pm14 cd14 ct14 oc15 kV15 dc15 pm15 cd15 ct15 oc16 kV16 dc16 pm16 cd16 ct16 oc17 kV17 dc17 pm17 cd17 ct17 oc18 kV18 dc18 pm18 cd18 ct18 oc19 kV19 dc19 pm19 cd19 ct19 oc20 kV20 dc20 pm20 cd20 ct20 oc21 kV21 dc21 pm21 cd21 ct21 oc22 kV22 dc22 pm22 cd22 ct22 oc23 kV23 dc23 pm23 cd23 ct23 oc24 kV24 dc24 pm24 cd24 ct24 oc25 kV25 dc25 pm25 cd25 ct25 oc26 kV26 dc26 pm26 cd26 ct26 oc27 kV27 dc27 pm27 cd27 ct27 oc28 kV28 dc28 pm28 cd28 ct28 oc29 kV29 dc29 pm29 cd29 ct29 oc30 kV30 dc30 pm30 cd30 ct30 oc31 kV31 dc31 pm31 cd31 ct31 oc32 kV32 dc32 pm32 cd32 ct32 oc7 kV7 dc7 pm7 cd7 ct7 oc10 kV10 dc10 pm10 cd10 ct10 oc11 kV11 dc11 pm11 cd11 ct11 oc8 kV8 dc8 pm8 cd8 ct8 oc6 kV6 dc6 pm6 cd6 ct6 : Value} {t_CROWN t_LONGEST_NAME t_WEIGHT_DIGITS : Tok}
    (gHeirError : PySem.W.nsIn K mainGlobals "HeirError" = some (some (.ref cHeirError)))
    (gInvalidWill : PySem.W.nsIn K mainGlobals "InvalidWill" = some (some (.ref cInvalidWill)))
    (gInvalidText : PySem.W.nsIn K mainGlobals "InvalidText" = some (some (.ref cInvalidText)))
    (gWill : PySem.W.nsIn K mainGlobals "Will" = some (some (.ref cWill)))
    (a0 : PySem.W.nsIn K mainGlobals "is_integer" = some (some (.ref f0)))
    (l0 : K.lookup f0 = some ⟨oc0, od0, .func (PySem.W.fnOf "is_integer" "is_integer" (defArgs sDIsInteger) (defBody sDIsInteger) (defScope sDIsInteger) .none kV0 dc0 pm0 an0 cd0 ct0), sl0⟩)
    (c0 : PySem.W.codeIn K cd0 "is_integer" = true)
    (k0 : PySem.W.keepIn K (.ref f0) = true)
    (a1 : PySem.W.nsIn K mainGlobals "is_name" = some (some (.ref f1)))
    (l1 : K.lookup f1 = some ⟨oc1, od1, .func (PySem.W.fnOf "is_name" "is_name" (defArgs sDIsName) (defBody sDIsName) (defScope sDIsName) .none kV1 dc1 pm1 an1 cd1 ct1), sl1⟩)
    (c1 : PySem.W.codeIn K cd1 "is_name" = true)
    (k1 : PySem.W.keepIn K (.ref f1) = true)
    (a2 : PySem.W.nsIn K mainGlobals "is_sequence" = some (some (.ref f2)))
    (l2 : K.lookup f2 = some ⟨oc2, od2, .func (PySem.W.fnOf "is_sequence" "is_sequence" (defArgs sDIsSequence) (defBody sDIsSequence) (defScope sDIsSequence) .none kV2 dc2 pm2 an2 cd2 ct2), sl2⟩)
    (c2 : PySem.W.codeIn K cd2 "is_sequence" = true)
    (k2 : PySem.W.keepIn K (.ref f2) = true)
    (a3 : PySem.W.nsIn K mainGlobals "is_pair" = some (some (.ref f3)))
    (l3 : K.lookup f3 = some ⟨oc3, od3, .func (PySem.W.fnOf "is_pair" "is_pair" (defArgs sDIsPair) (defBody sDIsPair) (defScope sDIsPair) .none kV3 dc3 pm3 an3 cd3 ct3), sl3⟩)
    (c3 : PySem.W.codeIn K cd3 "is_pair" = true)
    (k3 : PySem.W.keepIn K (.ref f3) = true)
    (a4 : PySem.W.nsIn K mainGlobals "read_number" = some (some (.ref f4)))
    (l4 : K.lookup f4 = some ⟨oc4, od4, .func (PySem.W.fnOf "read_number" "read_number" (defArgs sDReadNumber) (defBody sDReadNumber) (defScope sDReadNumber) .none kV4 dc4 pm4 an4 cd4 ct4), sl4⟩)
    (c4 : PySem.W.codeIn K cd4 "read_number" = true)
    (k4 : PySem.W.keepIn K (.ref f4) = true)
    (a12 : PySem.W.nsIn K mainGlobals "_are_shares" = some (some (.ref f12)))
    (l12 : K.lookup f12 = some ⟨oc12, od12, .func (PySem.W.fnOf "_are_shares" "_are_shares" (defArgs sDAreShares) (defBody sDAreShares) (defScope sDAreShares) .none kV12 dc12 pm12 an12 cd12 ct12), sl12⟩)
    (c12 : PySem.W.codeIn K cd12 "_are_shares" = true)
    (k12 : PySem.W.keepIn K (.ref f12) = true)
    (a13 : PySem.W.nsIn K mainGlobals "_is_share" = some (some (.ref f13)))
    (l13 : K.lookup f13 = some ⟨oc13, od13, .func (PySem.W.fnOf "_is_share" "_is_share" (defArgs sDIsShare) (defBody sDIsShare) (defScope sDIsShare) .none kV13 dc13 pm13 an13 cd13 ct13), sl13⟩)
    (c13 : PySem.W.codeIn K cd13 "_is_share" = true)
    (k13 : PySem.W.keepIn K (.ref f13) = true)
    (a14 : PySem.W.nsIn K mainGlobals "_is_group" = some (some (.ref f14)))
    (l14 : K.lookup f14 = some ⟨oc14, od14, .func (PySem.W.fnOf "_is_group" "_is_group" (defArgs sDIsGroup) (defBody sDIsGroup) (defScope sDIsGroup) .none kV14 dc14 pm14 an14 cd14 ct14), sl14⟩)
    (c14 : PySem.W.codeIn K cd14 "_is_group" = true)
    (k14 : PySem.W.keepIn K (.ref f14) = true)
    (a15 : PySem.W.nsIn K mainGlobals "_lots" = some (some (.ref f15)))
    (l15 : K.lookup f15 = some ⟨oc15, od15, .func (PySem.W.fnOf "_lots" "_lots" (defArgs sDLots) (defBody sDLots) (defScope sDLots) .none kV15 dc15 pm15 an15 cd15 ct15), sl15⟩)
    (c15 : PySem.W.codeIn K cd15 "_lots" = true)
    (k15 : PySem.W.keepIn K (.ref f15) = true)
    (a16 : PySem.W.nsIn K mainGlobals "_share_text" = some (some (.ref f16)))
    (l16 : K.lookup f16 = some ⟨oc16, od16, .func (PySem.W.fnOf "_share_text" "_share_text" (defArgs sDShareText) (defBody sDShareText) (defScope sDShareText) .none kV16 dc16 pm16 an16 cd16 ct16), sl16⟩)
    (c16 : PySem.W.codeIn K cd16 "_share_text" = true)
    (k16 : PySem.W.keepIn K (.ref f16) = true)
    (a17 : PySem.W.nsIn K mainGlobals "_read_share" = some (some (.ref f17)))
    (l17 : K.lookup f17 = some ⟨oc17, od17, .func (PySem.W.fnOf "_read_share" "_read_share" (defArgs sDReadShare) (defBody sDReadShare) (defScope sDReadShare) .none kV17 dc17 pm17 an17 cd17 ct17), sl17⟩)
    (c17 : PySem.W.codeIn K cd17 "_read_share" = true)
    (k17 : PySem.W.keepIn K (.ref f17) = true)
    (a18 : PySem.W.nsIn K mainGlobals "_law_seed" = some (some (.ref f18)))
    (l18 : K.lookup f18 = some ⟨oc18, od18, .func (PySem.W.fnOf "_law_seed" "_law_seed" (defArgs sDLawSeed) (defBody sDLawSeed) (defScope sDLawSeed) .none kV18 dc18 pm18 an18 cd18 ct18), sl18⟩)
    (c18 : PySem.W.codeIn K cd18 "_law_seed" = true)
    (k18 : PySem.W.keepIn K (.ref f18) = true)
    (a19 : PySem.W.nsIn K mainGlobals "_law_choose" = some (some (.ref f19)))
    (l19 : K.lookup f19 = some ⟨oc19, od19, .func (PySem.W.fnOf "_law_choose" "_law_choose" (defArgs sDLawChoose) (defBody sDLawChoose) (defScope sDLawChoose) .none kV19 dc19 pm19 an19 cd19 ct19), sl19⟩)
    (c19 : PySem.W.codeIn K cd19 "_law_choose" = true)
    (k19 : PySem.W.keepIn K (.ref f19) = true)
    (a20 : PySem.W.nsIn K mainGlobals "_law_one_of" = some (some (.ref f20)))
    (l20 : K.lookup f20 = some ⟨oc20, od20, .func (PySem.W.fnOf "_law_one_of" "_law_one_of" (defArgs sDLawOneOf) (defBody sDLawOneOf) (defScope sDLawOneOf) .none kV20 dc20 pm20 an20 cd20 ct20), sl20⟩)
    (c20 : PySem.W.codeIn K cd20 "_law_one_of" = true)
    (k20 : PySem.W.keepIn K (.ref f20) = true)
    (a21 : PySem.W.nsIn K mainGlobals "_law_mixed" = some (some (.ref f21)))
    (l21 : K.lookup f21 = some ⟨oc21, od21, .func (PySem.W.fnOf "_law_mixed" "_law_mixed" (defArgs sDLawMixed) (defBody sDLawMixed) (defScope sDLawMixed) .none kV21 dc21 pm21 an21 cd21 ct21), sl21⟩)
    (c21 : PySem.W.codeIn K cd21 "_law_mixed" = true)
    (k21 : PySem.W.keepIn K (.ref f21) = true)
    (a22 : PySem.W.nsIn K mainGlobals "_law_names" = some (some (.ref f22)))
    (l22 : K.lookup f22 = some ⟨oc22, od22, .func (PySem.W.fnOf "_law_names" "_law_names" (defArgs sDLawNames) (defBody sDLawNames) (defScope sDLawNames) .none kV22 dc22 pm22 an22 cd22 ct22), sl22⟩)
    (c22 : PySem.W.codeIn K cd22 "_law_names" = true)
    (k22 : PySem.W.keepIn K (.ref f22) = true)
    (a23 : PySem.W.nsIn K mainGlobals "_law_group" = some (some (.ref f23)))
    (l23 : K.lookup f23 = some ⟨oc23, od23, .func (PySem.W.fnOf "_law_group" "_law_group" (defArgs sDLawGroup) (defBody sDLawGroup) (defScope sDLawGroup) .none kV23 dc23 pm23 an23 cd23 ct23), sl23⟩)
    (c23 : PySem.W.codeIn K cd23 "_law_group" = true)
    (k23 : PySem.W.keepIn K (.ref f23) = true)
    (a24 : PySem.W.nsIn K mainGlobals "_law_will" = some (some (.ref f24)))
    (l24 : K.lookup f24 = some ⟨oc24, od24, .func (PySem.W.fnOf "_law_will" "_law_will" (defArgs sDLawWill) (defBody sDLawWill) (defScope sDLawWill) .none kV24 dc24 pm24 an24 cd24 ct24), sl24⟩)
    (c24 : PySem.W.codeIn K cd24 "_law_will" = true)
    (k24 : PySem.W.keepIn K (.ref f24) = true)
    (a25 : PySem.W.nsIn K mainGlobals "_law_will_text" = some (some (.ref f25)))
    (l25 : K.lookup f25 = some ⟨oc25, od25, .func (PySem.W.fnOf "_law_will_text" "_law_will_text" (defArgs sDLawWillText) (defBody sDLawWillText) (defScope sDLawWillText) .none kV25 dc25 pm25 an25 cd25 ct25), sl25⟩)
    (c25 : PySem.W.codeIn K cd25 "_law_will_text" = true)
    (k25 : PySem.W.keepIn K (.ref f25) = true)
    (a26 : PySem.W.nsIn K mainGlobals "_law_is_title" = some (some (.ref f26)))
    (l26 : K.lookup f26 = some ⟨oc26, od26, .func (PySem.W.fnOf "_law_is_title" "_law_is_title" (defArgs sDLawIsTitle) (defBody sDLawIsTitle) (defScope sDLawIsTitle) .none kV26 dc26 pm26 an26 cd26 ct26), sl26⟩)
    (c26 : PySem.W.codeIn K cd26 "_law_is_title" = true)
    (k26 : PySem.W.keepIn K (.ref f26) = true)
    (a27 : PySem.W.nsIn K mainGlobals "_law_is_part" = some (some (.ref f27)))
    (l27 : K.lookup f27 = some ⟨oc27, od27, .func (PySem.W.fnOf "_law_is_part" "_law_is_part" (defArgs sDLawIsPart) (defBody sDLawIsPart) (defScope sDLawIsPart) .none kV27 dc27 pm27 an27 cd27 ct27), sl27⟩)
    (c27 : PySem.W.codeIn K cd27 "_law_is_part" = true)
    (k27 : PySem.W.keepIn K (.ref f27) = true)
    (a28 : PySem.W.nsIn K mainGlobals "_law_due" = some (some (.ref f28)))
    (l28 : K.lookup f28 = some ⟨oc28, od28, .func (PySem.W.fnOf "_law_due" "_law_due" (defArgs sDLawDue) (defBody sDLawDue) (defScope sDLawDue) .none kV28 dc28 pm28 an28 cd28 ct28), sl28⟩)
    (c28 : PySem.W.codeIn K cd28 "_law_due" = true)
    (k28 : PySem.W.keepIn K (.ref f28) = true)
    (a29 : PySem.W.nsIn K mainGlobals "_law_is_wide" = some (some (.ref f29)))
    (l29 : K.lookup f29 = some ⟨oc29, od29, .func (PySem.W.fnOf "_law_is_wide" "_law_is_wide" (defArgs sDLawIsWide) (defBody sDLawIsWide) (defScope sDLawIsWide) .none kV29 dc29 pm29 an29 cd29 ct29), sl29⟩)
    (c29 : PySem.W.codeIn K cd29 "_law_is_wide" = true)
    (k29 : PySem.W.keepIn K (.ref f29) = true)
    (a30 : PySem.W.nsIn K mainGlobals "_law_heard" = some (some (.ref f30)))
    (l30 : K.lookup f30 = some ⟨oc30, od30, .func (PySem.W.fnOf "_law_heard" "_law_heard" (defArgs sDLawHeard) (defBody sDLawHeard) (defScope sDLawHeard) .none kV30 dc30 pm30 an30 cd30 ct30), sl30⟩)
    (c30 : PySem.W.codeIn K cd30 "_law_heard" = true)
    (k30 : PySem.W.keepIn K (.ref f30) = true)
    (a31 : PySem.W.nsIn K mainGlobals "_law_bent" = some (some (.ref f31)))
    (l31 : K.lookup f31 = some ⟨oc31, od31, .func (PySem.W.fnOf "_law_bent" "_law_bent" (defArgs sDLawBent) (defBody sDLawBent) (defScope sDLawBent) .none kV31 dc31 pm31 an31 cd31 ct31), sl31⟩)
    (c31 : PySem.W.codeIn K cd31 "_law_bent" = true)
    (k31 : PySem.W.keepIn K (.ref f31) = true)
    (a32 : PySem.W.nsIn K mainGlobals "law" = some (some (.ref f32)))
    (l32 : K.lookup f32 = some ⟨oc32, od32, .func (PySem.W.fnOf "law" "law" (defArgs sDLaw) (defBody sDLaw) (defScope sDLaw) .none kV32 dc32 pm32 an32 cd32 ct32), sl32⟩)
    (c32 : PySem.W.codeIn K cd32 "law" = true)
    (k32 : PySem.W.keepIn K (.ref f32) = true)
    (z_abs : PySem.W.nsIn K mainGlobals "abs" = some none)
    (z_all : PySem.W.nsIn K mainGlobals "all" = some none)
    (z_bool : PySem.W.nsIn K mainGlobals "bool" = some none)
    (z_classmethod : PySem.W.nsIn K mainGlobals "classmethod" = some none)
    (z_enumerate : PySem.W.nsIn K mainGlobals "enumerate" = some none)
    (z_int : PySem.W.nsIn K mainGlobals "int" = some none)
    (z_isinstance : PySem.W.nsIn K mainGlobals "isinstance" = some none)
    (z_len : PySem.W.nsIn K mainGlobals "len" = some none)
    (z_list : PySem.W.nsIn K mainGlobals "list" = some none)
    (z_max : PySem.W.nsIn K mainGlobals "max" = some none)
    (z_min : PySem.W.nsIn K mainGlobals "min" = some none)
    (z_range : PySem.W.nsIn K mainGlobals "range" = some none)
    (z_repr : PySem.W.nsIn K mainGlobals "repr" = some none)
    (z_set : PySem.W.nsIn K mainGlobals "set" = some none)
    (z_sorted : PySem.W.nsIn K mainGlobals "sorted" = some none)
    (z_str : PySem.W.nsIn K mainGlobals "str" = some none)
    (z_tuple : PySem.W.nsIn K mainGlobals "tuple" = some none)
    (q_CROWN : PySem.W.nsIn K mainGlobals "CROWN" = some (some (.str "crown" t_CROWN)))
    (q_LONGEST_NAME : PySem.W.nsIn K mainGlobals "LONGEST_NAME" = some (some (.int 5 t_LONGEST_NAME)))
    (q_WEIGHT_DIGITS : PySem.W.nsIn K mainGlobals "WEIGHT_DIGITS" = some (some (.int 6 t_WEIGHT_DIGITS)))
    (a7 : PySem.W.findIn K (.ref cWill) "__init__" = some (some (.ref f7)))
    (i7 : PySem.W.isFn K (.ref f7) = true)
    (l7 : K.lookup f7 = some ⟨oc7, od7, .func (PySem.W.fnOf "__init__" "Will.__init__" (defArgs sDWillInit) (defBody sDWillInit) (defScope sDWillInit) .none kV7 dc7 pm7 an7 cd7 ct7), sl7⟩)
    (c7 : PySem.W.codeIn K cd7 "Will.__init__" = true)
    (k7 : PySem.W.keepIn K (.ref f7) = true)
    (a10 : PySem.W.findIn K (.ref cWill) "__eq__" = some (some (.ref f10)))
    (i10 : PySem.W.isFn K (.ref f10) = true)
    (l10 : K.lookup f10 = some ⟨oc10, od10, .func (PySem.W.fnOf "__eq__" "Will.__eq__" (defArgs sDWillEq) (defBody sDWillEq) (defScope sDWillEq) .none kV10 dc10 pm10 an10 cd10 ct10), sl10⟩)
    (c10 : PySem.W.codeIn K cd10 "Will.__eq__" = true)
    (k10 : PySem.W.keepIn K (.ref f10) = true)
    (a11 : PySem.W.findIn K (.ref cWill) "__str__" = some (some (.ref f11)))
    (i11 : PySem.W.isFn K (.ref f11) = true)
    (l11 : K.lookup f11 = some ⟨oc11, od11, .func (PySem.W.fnOf "__str__" "Will.__str__" (defArgs sDWillStr) (defBody sDWillStr) (defScope sDWillStr) .none kV11 dc11 pm11 an11 cd11 ct11), sl11⟩)
    (c11 : PySem.W.codeIn K cd11 "Will.__str__" = true)
    (k11 : PySem.W.keepIn K (.ref f11) = true)
    (rAt : PySem.W.findCls K (.ref cWill) (.type "type") "read" = some (.get (.builtin "classmethod.__get__") (.ref rP) .none (.ref cWill)))
    (rRc : PySem.W.recIn K rP "classmethod" = some (.ref f8 :: rRest))
    (rFi : PySem.W.fnIn K f8 = true)
    (l8 : K.lookup f8 = some ⟨oc8, od8, .func (PySem.W.fnOf "read" "Will.read" (defArgs sDWillRead) (defBody sDWillRead) (defScope sDWillRead) .none kV8 dc8 pm8 an8 cd8 ct8), sl8⟩)
    (c8 : PySem.W.codeIn K cd8 "Will.read" = true)
    (k8 : PySem.W.keepIn K (.ref f8) = true)
    (rRd : PySem.W.readsIn K cWill (.type "type") = true)
    (rGa : PySem.W.specialIn K (.ref cWill) "__getattribute__" = some (some (.builtin "type.__getattribute__")))
    (pg : PySem.W.plainGet K cWill Str.empty = true)
    (hd : PySem.W.hasDictIn K cWill = true)
    (po : PySem.W.plainOver K cWill = true)
    (sa : PySem.W.findIn K (.ref cWill) "__setattr__" = some (some (.builtin "object.__setattr__")))
    (nS : PySem.W.findIn K (.ref cWill) "shares" = some none)
    (mk : PySem.W.makesIn K cWill = true)
    (kc : PySem.W.keepIn K (.ref cWill) = true)
    (oNe : PySem.W.findIn K (.ref cWill) "__ne__" = some (some (.builtin "object.__ne__")))
    (oOb : PySem.W.mroIn K cWill (.type "object") = some true)
    (kCl : PySem.W.findIn K (.ref cWill) "__class__" = some (some (.builtin "object.__class__")))
    (kGt : PySem.W.specialIn K (.builtin "object.__class__") "__get__" = some (some (.builtin "getset_descriptor.__get__")))
    (kTk : PySem.W.takesIn K (.builtin "object.__class__") = some true)
    (xL : K.lookup cInvalidText = some (excClassObj nmI qI cInvalidText NI bsI [.ref cHeirError, .type "ValueError", .type "Exception", .type "BaseException", .type "object"] true snI subI abI colI ddI k0I k1I k2I k3I k5I "ValueError.__new__"))
    (xsa : PySem.W.findIn K (.ref cInvalidText) "__setattr__" = some (some (.builtin "object.__setattr__")))
    (xga : PySem.W.findIn K (.ref cInvalidText) "__getattribute__" = some (some (.builtin "BaseException.__getattribute__")))
    (xgg : PySem.W.findIn K (.ref cInvalidText) "__getattr__" = some none)
    (xno : PySem.W.findIn K (.ref cInvalidText) "at" = some none)
    (xi : PySem.W.findIn K (.ref cInvalidText) "__init__" = some (some (.ref f6)))
    (xt : PySem.W.typeIn K (.ref f6) = some (.type "function"))
    (l6 : K.lookup f6 = some ⟨oc6, od6, .func (PySem.W.fnOf "__init__" "InvalidText.__init__" (defArgs sDInvalidTextInit) (defBody sDInvalidTextInit) (defScope sDInvalidTextInit) .none kV6 dc6 pm6 an6 cd6 ct6), sl6⟩)
    (c6 : PySem.W.codeIn K cd6 "InvalidText.__init__" = true)
    (k6 : PySem.W.keepIn K (.ref f6) = true)
    (xkC : PySem.W.keepIn K (.ref cInvalidText) = true)
    (xeC : PySem.W.subIn K (.ref cInvalidText) (.type "BaseException") = some true)
    (xtC : PySem.W.typeIn K (.ref cInvalidText) = some (.type "type"))
    (xhC : PySem.W.hasDictIn K cInvalidText = true)
    (xsC : PySem.W.subIn K (.ref cInvalidText) (.ref cInvalidText) = some true)
    (xcl : PySem.W.findIn K (.ref cInvalidText) "__class__" = some (some (.builtin "object.__class__")))
    (xmo : PySem.W.mroIn K cInvalidText (.type "object") = some true)
    (xb1 : PySem.W.isClsIn K cHeirError = true)
    (xy1 : PySem.W.typeIn K (.ref cHeirError) = some (.type "type"))
    (xs1 : PySem.W.subIn K (.ref cInvalidText) (.ref cHeirError) = some true)
    (xb2 : PySem.W.isClsIn K cInvalidWill = true)
    (xy2 : PySem.W.typeIn K (.ref cInvalidWill) = some (.type "type"))
    (xs2 : PySem.W.subIn K (.ref cInvalidText) (.ref cInvalidWill) = some false)
    : ∃ fd : FuncData, (∀ (s : Shared) (v : Value), BindsTo s fd ⟨[v], []⟩ [("_law_script", v)]) ∧ ∀ base : Heap, K.In base → base.Ns mainGlobals mg → FnOk l.prog w K mg base CX0 14 fa fd ["_law_script"] (spLaw K) := by
  have e := hfa.symm.trans (PySem.W.mg_of X G a32)
  cases e
  have F0 := fun_mk (st := sDIsInteger) l0 c0 k0
  have b0 := F0.binds (ps := ["value"]) fun _ _ _ _ _ _ us hl => match us, hl with | [_], _ => rfl
  have F1 := fun_mk (st := sDIsName) l1 c1 k1
  have b1 := F1.binds (ps := ["value"]) fun _ _ _ _ _ _ us hl => match us, hl with | [_], _ => rfl
  have F2 := fun_mk (st := sDIsSequence) l2 c2 k2
  have b2 := F2.binds (ps := ["value"]) fun _ _ _ _ _ _ us hl => match us, hl with | [_], _ => rfl
  have F3 := fun_mk (st := sDIsPair) l3 c3 k3
  have b3 := F3.binds (ps := ["value"]) fun _ _ _ _ _ _ us hl => match us, hl with | [_], _ => rfl
  have F4 := fun_mk (st := sDReadNumber) l4 c4 k4
  have b4 := F4.binds (ps := ["word", "digits"]) fun _ _ _ _ _ _ us hl => match us, hl with | [_, _], _ => rfl
  have F12 := fun_mk (st := sDAreShares) l12 c12 k12
  have b12 := F12.binds (ps := ["value"]) fun _ _ _ _ _ _ us hl => match us, hl with | [_], _ => rfl
  have F13 := fun_mk (st := sDIsShare) l13 c13 k13
  have b13 := F13.binds (ps := ["value"]) fun _ _ _ _ _ _ us hl => match us, hl with | [_], _ => rfl
  have F14 := fun_mk (st := sDIsGroup) l14 c14 k14
  have b14 := F14.binds (ps := ["value"]) fun _ _ _ _ _ _ us hl => match us, hl with | [_], _ => rfl
  have F15 := fun_mk (st := sDLots) l15 c15 k15
  have b15 := F15.binds (ps := ["groups"]) fun _ _ _ _ _ _ us hl => match us, hl with | [_], _ => rfl
  have F16 := fun_mk (st := sDShareText) l16 c16 k16
  have b16 := F16.binds (ps := ["weight", "groups"]) fun _ _ _ _ _ _ us hl => match us, hl with | [_, _], _ => rfl
  have F17 := fun_mk (st := sDReadShare) l17 c17 k17
  have b17 := F17.binds (ps := ["part"]) fun _ _ _ _ _ _ us hl => match us, hl with | [_], _ => rfl
  have F18 := fun_mk (st := sDLawSeed) l18 c18 k18
  have b18 := F18.binds (ps := ["_law_script", "_law_k"]) fun _ _ _ _ _ _ us hl => match us, hl with | [_, _], _ => rfl
  have F19 := fun_mk (st := sDLawChoose) l19 c19 k19
  have b19 := F19.binds (ps := ["_law_box", "_law_many"]) fun _ _ _ _ _ _ us hl => match us, hl with | [_, _], _ => rfl
  have F20 := fun_mk (st := sDLawOneOf) l20 c20 k20
  have b20 := F20.binds (ps := ["_law_box", "_law_some"]) fun _ _ _ _ _ _ us hl => match us, hl with | [_, _], _ => rfl
  have F21 := fun_mk (st := sDLawMixed) l21 c21 k21
  have b21 := F21.binds (ps := ["_law_box", "_law_some"]) fun _ _ _ _ _ _ us hl => match us, hl with | [_, _], _ => rfl
  have F22 := fun_mk (st := sDLawNames) l22 c22 k22
  have b22 := F22.binds (ps := ["_law_box", "_law_many"]) fun _ _ _ _ _ _ us hl => match us, hl with | [_, _], _ => rfl
  have F23 := fun_mk (st := sDLawGroup) l23 c23 k23
  have b23 := F23.binds (ps := ["_law_box", "_law_some"]) fun _ _ _ _ _ _ us hl => match us, hl with | [_, _], _ => rfl
  have F24 := fun_mk (st := sDLawWill) l24 c24 k24
  have b24 := F24.binds (ps := ["_law_box", "_law_others"]) fun _ _ _ _ _ _ us hl => match us, hl with | [_, _], _ => rfl
  have F25 := fun_mk (st := sDLawWillText) l25 c25 k25
  have b25 := F25.binds (ps := ["_law_will_here"]) fun _ _ _ _ _ _ us hl => match us, hl with | [_], _ => rfl
  have F26 := fun_mk (st := sDLawIsTitle) l26 c26 k26
  have b26 := F26.binds (ps := ["_law_word"]) fun _ _ _ _ _ _ us hl => match us, hl with | [_], _ => rfl
  have F27 := fun_mk (st := sDLawIsPart) l27 c27 k27
  have b27 := F27.binds (ps := ["_law_part"]) fun _ _ _ _ _ _ us hl => match us, hl with | [_], _ => rfl
  have F28 := fun_mk (st := sDLawDue) l28 c28 k28
  have b28 := F28.binds (ps := ["_law_text"]) fun _ _ _ _ _ _ us hl => match us, hl with | [_], _ => rfl
  have F29 := fun_mk (st := sDLawIsWide) l29 c29 k29
  have b29 := F29.binds (ps := ["_law_text"]) fun _ _ _ _ _ _ us hl => match us, hl with | [_], _ => rfl
  have F30 := fun_mk (st := sDLawHeard) l30 c30 k30
  have b30 := F30.binds (ps := ["_law_text"]) fun _ _ _ _ _ _ us hl => match us, hl with | [_], _ => rfl
  have F31 := fun_mk (st := sDLawBent) l31 c31 k31
  have b31 := F31.binds (ps := ["_law_box", "_law_text"]) fun _ _ _ _ _ _ us hl => match us, hl with | [_, _], _ => rfl
  have F32 := fun_mk (st := sDLaw) l32 c32 k32
  have b32 := F32.binds (ps := ["_law_script"]) fun _ _ _ _ _ _ us hl => match us, hl with | [_], _ => rfl
  have F7 := fun_mk (st := sDWillInit) l7 c7 k7
  have b7 := F7.binds (ps := ["self", "shares"]) fun _ _ _ _ _ _ us hl => match us, hl with | [_, _], _ => rfl
  have F10 := fun_mk (st := sDWillEq) l10 c10 k10
  have b10 := F10.binds (ps := ["self", "other"]) fun _ _ _ _ _ _ us hl => match us, hl with | [_, _], _ => rfl
  have F11 := fun_mk (st := sDWillStr) l11 c11 k11
  have b11 := F11.binds (ps := ["self"]) fun _ _ _ _ _ _ us hl => match us, hl with | [_], _ => rfl
  have F8 := fun_mk (st := sDWillRead) l8 c8 k8
  have b8 := F8.binds (ps := ["cls", "text"]) fun _ _ _ _ _ _ us hl => match us, hl with | [_, _], _ => rfl
  have F6 := fun_mk (st := sDInvalidTextInit) l6 c6 k6
  have b6 := F6.binds (ps := ["self", "at"]) fun _ _ _ _ _ _ us hl => match us, hl with | [_, _], _ => rfl
  exact ⟨PySem.W.fnOf "law" "law" (defArgs sDLaw) (defBody sDLaw) (defScope sDLaw) .none kV32 dc32 pm32 an32 cd32 ct32, fun s v => .of_eq rfl, fun base _ _ => ok_law (K := K) (mg := mg) ⟨⟨⟨cHeirError, (PySem.W.mg_of X G gHeirError), cInvalidWill, (PySem.W.mg_of X G gInvalidWill), cInvalidText, (PySem.W.mg_of X G gInvalidText), cWill, (PySem.W.mg_of X G gWill), ⟨f0, _, F0, b0, PySem.W.mg_of X G a0⟩, ⟨f1, _, F1, b1, PySem.W.mg_of X G a1⟩, ⟨f2, _, F2, b2, PySem.W.mg_of X G a2⟩, ⟨f3, _, F3, b3, PySem.W.mg_of X G a3⟩, ⟨f4, _, F4, b4, PySem.W.mg_of X G a4⟩, ⟨f12, _, F12, b12, PySem.W.mg_of X G a12⟩, ⟨f13, _, F13, b13, PySem.W.mg_of X G a13⟩, ⟨f14, _, F14, b14, PySem.W.mg_of X G a14⟩, ⟨f15, _, F15, b15, PySem.W.mg_of X G a15⟩, ⟨f16, _, F16, b16, PySem.W.mg_of X G a16⟩, ⟨f17, _, F17, b17, PySem.W.mg_of X G a17⟩, ⟨f18, _, F18, b18, PySem.W.mg_of X G a18⟩, ⟨f19, _, F19, b19, PySem.W.mg_of X G a19⟩, ⟨f20, _, F20, b20, PySem.W.mg_of X G a20⟩, ⟨f21, _, F21, b21, PySem.W.mg_of X G a21⟩, ⟨f22, _, F22, b22, PySem.W.mg_of X G a22⟩, ⟨f23, _, F23, b23, PySem.W.mg_of X G a23⟩, ⟨f24, _, F24, b24, PySem.W.mg_of X G a24⟩, ⟨f25, _, F25, b25, PySem.W.mg_of X G a25⟩, ⟨f26, _, F26, b26, PySem.W.mg_of X G a26⟩, ⟨f27, _, F27, b27, PySem.W.mg_of X G a27⟩, ⟨f28, _, F28, b28, PySem.W.mg_of X G a28⟩, ⟨f29, _, F29, b29, PySem.W.mg_of X G a29⟩, ⟨f30, _, F30, b30, PySem.W.mg_of X G a30⟩, ⟨f31, _, F31, b31, PySem.W.mg_of X G a31⟩, ⟨fa, _, F32, b32, PySem.W.mg_of X G a32⟩, (PySem.W.mg_none_of X G z_abs), (PySem.W.mg_none_of X G z_all), (PySem.W.mg_none_of X G z_bool), (PySem.W.mg_none_of X G z_classmethod), (PySem.W.mg_none_of X G z_enumerate), (PySem.W.mg_none_of X G z_int), (PySem.W.mg_none_of X G z_isinstance), (PySem.W.mg_none_of X G z_len), (PySem.W.mg_none_of X G z_list), (PySem.W.mg_none_of X G z_max), (PySem.W.mg_none_of X G z_min), (PySem.W.mg_none_of X G z_range), (PySem.W.mg_none_of X G z_repr), (PySem.W.mg_none_of X G z_set), (PySem.W.mg_none_of X G z_sorted), (PySem.W.mg_none_of X G z_str), (PySem.W.mg_none_of X G z_tuple), ⟨_, PySem.W.mg_of X G q_CROWN⟩, ⟨_, PySem.W.mg_of X G q_LONGEST_NAME⟩, ⟨_, PySem.W.mg_of X G q_WEIGHT_DIGITS⟩⟩, ⟨pg, hd, po, sa⟩, nS, f7, _, F7, b7, ⟨mk, a7, i7, kc⟩, f10, _, F10, b10, f11, _, F11, b11, ⟨oNe, oOb, a10, i10, a11, i11⟩, rP, (.type "type"), f8, _, F8, b8, ⟨rRd, rGa⟩, ⟨rAt, ⟨_, rRc⟩, rFi⟩, (fun e => .ins e ⟨pg, hd, po, sa⟩ kCl kGt kTk oOb), (if_pos (beq_iff_eq.mpr rfl))⟩, ⟨⟨nmI, qI, NI, bsI, _, snI, subI, abI, colI, ddI, k0I, k1I, k2I, k3I, k5I, xL, by first | rfl | decide⟩, xsa, xeC, xtC, xkC⟩, f6, _, F6, b6, xi, xt, xno, ⟨xga, xgg, xeC, xhC⟩, PySem.W.exm_ref xeC xhC xtC xsC, ⟨xga, xgg, xeC, xhC, xcl, kGt, kTk, xmo⟩, (kit_yes xb1 xy1 xs1), (kit_no xsC xb2 xy2 xs2)⟩⟩
end He
open PySem PySem.W PyProof.Rows
set_option maxHeartbeats 0 in
theorem PySem.Challenge.cw_heirorders_k05_texts_of_no_will_holds : PySem.Challenge.rw_heirorders_k05_texts_of_no_will.Holds := by
  w_on; o_law; k_head; (case hw => w_witness2)
  k_fill
  refine L2.walk_of (l := PySem.Challenge.rw_heirorders_k05_texts_of_no_will) (n := 63) (k := 14) (x := "_law_script") (CX := fun _ => L2.CX0) (sp := fun w => He.spLaw _) rfl (by decide) rfl ⟨rfl, by decide, by decide⟩ (fun w h Y => PySem.W.kIn_of Y) ?F (fun _ _ a ns hl _ hS => ⟨a, ns, rfl, hS, hl, fun _ => rfl⟩) (fun _ _ _ _ _ h => h)
  case F =>
    intro w mg fa h KX G hmg
    refine' He.all_mk KX G hmg ?gHeirError ?gInvalidWill ?gInvalidText ?gWill ?a0 ?l0 ?c0 ?k0 ?a1 ?l1 ?c1 ?k1 ?a2 ?l2 ?c2 ?k2 ?a3 ?l3 ?c3 ?k3 ?a4 ?l4 ?c4 ?k4 ?a12 ?l12 ?c12 ?k12 ?a13 ?l13 ?c13 ?k13 ?a14 ?l14 ?c14 ?k14 ?a15 ?l15 ?c15 ?k15 ?a16 ?l16 ?c16 ?k16 ?a17 ?l17 ?c17 ?k17 ?a18 ?l18 ?c18 ?k18 ?a19 ?l19 ?c19 ?k19 ?a20 ?l20 ?c20 ?k20 ?a21 ?l21 ?c21 ?k21 ?a22 ?l22 ?c22 ?k22 ?a23 ?l23 ?c23 ?k23 ?a24 ?l24 ?c24 ?k24 ?a25 ?l25 ?c25 ?k25 ?a26 ?l26 ?c26 ?k26 ?a27 ?l27 ?c27 ?k27 ?a28 ?l28 ?c28 ?k28 ?a29 ?l29 ?c29 ?k29 ?a30 ?l30 ?c30 ?k30 ?a31 ?l31 ?c31 ?k31 ?a32 ?l32 ?c32 ?k32 ?z_abs ?z_all ?z_bool ?z_classmethod ?z_enumerate ?z_int ?z_isinstance ?z_len ?z_list ?z_max ?z_min ?z_range ?z_repr ?z_set ?z_sorted ?z_str ?z_tuple ?q_CROWN ?q_LONGEST_NAME ?q_WEIGHT_DIGITS ?a7 ?i7 ?l7 ?c7 ?k7 ?a10 ?i10 ?l10 ?c10 ?k10 ?a11 ?i11 ?l11 ?c11 ?k11 ?rAt ?rRc ?rFi ?l8 ?c8 ?k8 ?rRd ?rGa ?pg ?hd ?po ?sa ?nS ?mk ?kc ?oNe ?oOb ?kCl ?kGt ?kTk ?xL ?xsa ?xga ?xgg ?xno ?xi ?xt ?l6 ?c6 ?k6 ?xkC ?xeC ?xtC ?xhC ?xsC ?xcl ?xmo ?xb1 ?xy1 ?xs1 ?xb2 ?xy2 ?xs2
    (case gHeirError => k_is)
    (case gInvalidWill => k_is)
    (case gInvalidText => k_is)
    (case gWill => k_is)
    (case a0 => k_is)
    (case l0 => k_is)
    (case c0 => k_is)
    (case k0 => k_is)
    (case a1 => k_is)
    (case l1 => k_is)
    (case c1 => k_is)
    (case k1 => k_is)
    (case a2 => k_is)
    (case l2 => k_is)
    (case c2 => k_is)
    (case k2 => k_is)
    (case a3 => k_is)
    (case l3 => k_is)
    (case c3 => k_is)
    (case k3 => k_is)
    (case a4 => k_is)
    (case l4 => k_is)
    (case c4 => k_is)
    (case k4 => k_is)
    (case a12 => k_is)
    (case l12 => k_is)
    (case c12 => k_is)
    (case k12 => k_is)
    (case a13 => k_is)
    (case l13 => k_is)
    (case c13 => k_is)
    (case k13 => k_is)
    (case a14 => k_is)
    (case l14 => k_is)
    (case c14 => k_is)
    (case k14 => k_is)
    (case a15 => k_is)
    (case l15 => k_is)
    (case c15 => k_is)
    (case k15 => k_is)
    (case a16 => k_is)
    (case l16 => k_is)
    (case c16 => k_is)
    (case k16 => k_is)
    (case a17 => k_is)
    (case l17 => k_is)
    (case c17 => k_is)
    (case k17 => k_is)
    (case a18 => k_is)
    (case l18 => k_is)
    (case c18 => k_is)
    (case k18 => k_is)
    (case a19 => k_is)
    (case l19 => k_is)
    (case c19 => k_is)
    (case k19 => k_is)
    (case a20 => k_is)
    (case l20 => k_is)
    (case c20 => k_is)
    (case k20 => k_is)
    (case a21 => k_is)
    (case l21 => k_is)
    (case c21 => k_is)
    (case k21 => k_is)
    (case a22 => k_is)
    (case l22 => k_is)
    (case c22 => k_is)
    (case k22 => k_is)
    (case a23 => k_is)
    (case l23 => k_is)
    (case c23 => k_is)
    (case k23 => k_is)
    (case a24 => k_is)
    (case l24 => k_is)
    (case c24 => k_is)
    (case k24 => k_is)
    (case a25 => k_is)
    (case l25 => k_is)
    (case c25 => k_is)
    (case k25 => k_is)
    (case a26 => k_is)
    (case l26 => k_is)
    (case c26 => k_is)
    (case k26 => k_is)
    (case a27 => k_is)
    (case l27 => k_is)
    (case c27 => k_is)
    (case k27 => k_is)
    (case a28 => k_is)
    (case l28 => k_is)
    (case c28 => k_is)
    (case k28 => k_is)
    (case a29 => k_is)
    (case l29 => k_is)
    (case c29 => k_is)
    (case k29 => k_is)
    (case a30 => k_is)
    (case l30 => k_is)
    (case c30 => k_is)
    (case k30 => k_is)
    (case a31 => k_is)
    (case l31 => k_is)
    (case c31 => k_is)
    (case k31 => k_is)
    (case a32 => k_is)
    (case l32 => k_is)
    (case c32 => k_is)
    (case k32 => k_is)
    (case z_abs => k_is)
    (case z_all => k_is)
    (case z_bool => k_is)
    (case z_classmethod => k_is)
    (case z_enumerate => k_is)
    (case z_int => k_is)
    (case z_isinstance => k_is)
    (case z_len => k_is)
    (case z_list => k_is)
    (case z_max => k_is)
    (case z_min => k_is)
    (case z_range => k_is)
    (case z_repr => k_is)
    (case z_set => k_is)
    (case z_sorted => k_is)
    (case z_str => k_is)
    (case z_tuple => k_is)
    (case q_CROWN => k_is)
    (case q_LONGEST_NAME => k_is)
    (case q_WEIGHT_DIGITS => k_is)
    (case a7 => k_is)
    (case i7 => k_is)
    (case l7 => k_is)
    (case c7 => k_is)
    (case k7 => k_is)
    (case a10 => k_is)
    (case i10 => k_is)
    (case l10 => k_is)
    (case c10 => k_is)
    (case k10 => k_is)
    (case a11 => k_is)
    (case i11 => k_is)
    (case l11 => k_is)
    (case c11 => k_is)
    (case k11 => k_is)
    (case rAt => k_is)
    (case rRc => k_is)
    (case rFi => k_is)
    (case l8 => k_is)
    (case c8 => k_is)
    (case k8 => k_is)
    (case rRd => k_is)
    (case rGa => k_is)
    (case pg => k_is)
    (case hd => k_is)
    (case po => k_is)
    (case sa => k_is)
    (case nS => k_is)
    (case mk => k_is)
    (case kc => k_is)
    (case oNe => k_is)
    (case oOb => k_is)
    (case kCl => k_is)
    (case kGt => k_is)
    (case kTk => k_is)
    (case xL => k_is)
    (case xsa => k_is)
    (case xga => k_is)
    (case xgg => k_is)
    (case xno => k_is)
    (case xi => k_is)
    (case xt => k_is)
    (case l6 => k_is)
    (case c6 => k_is)
    (case k6 => k_is)
    (case xkC => k_is)
    (case xeC => k_is)
    (case xtC => k_is)
    (case xhC => k_is)
    (case xsC => k_is)
    (case xcl => k_is)
    (case xmo => k_is)
    (case xb1 => k_is)
    (case xy1 => k_is)
    (case xs1 => k_is)
    (case xb2 => k_is)
    (case xy2 => k_is)
    (case xs2 => k_is)
#print axioms PySem.Challenge.cw_heirorders_k05_texts_of_no_will_holds
