import PyProof.Rows.All
import Wide.All
import OpenK.AllK
import Wide.FinOn
import HandS.ForMost
import HandS.StrMore
import HandS.IsInst
import HandS.Codes
import HandS.Strs
import HandS.More
import KE.KCallOwn
import HandS.ClsMeth
import HandS.FStr
import HandS.DictTup
import KE.KSortTupAny
import HandS.Set
import HandS.SetKeys
import PyProof.Rows.SortStr
import HandS.SetBool
import HandS.Property
import HandS.Walk
import HandS.Defaults
import HandS.Exc
import HandS.ExcInit
import HandS.ExcField
import HandS.ExcOwn
import HandS.ExcIs
import HandS.WordsExc
import KE.KExcIs
import KE.GoesMore
import PySem.Challenge.RW_heirorders_k12_facts_that_have_a_ring
set_option Elab.async false
set_option linter.all false
set_option maxRecDepth 100000
set_option maxHeartbeats 4000000
namespace He
open PySem PySem.Spec PyProof.Rows L2
def topS (i : Nat) : Stmt := PySem.Challenge.pw_heirorders_k12_facts_that_have_a_ring.main.body.getD i (.Pass ⟨0, 0, 0, 0⟩)
abbrev sDIsInteger : Stmt := topS 4
abbrev sDIsNumber : Stmt := topS 5
abbrev sDIsName : Stmt := topS 6
abbrev sDIsSequence : Stmt := topS 7
abbrev sDIsPair : Stmt := topS 8
abbrev sDReadNumber : Stmt := topS 9
abbrev sDLineUp : Stmt := topS 10
abbrev sDInvalidWillInit : Stmt := inClass (topS 13) 0
abbrev sDInvalidFamilyInit : Stmt := inClass (topS 14) 0
abbrev sDInvalidTextInit : Stmt := inClass (topS 15) 0
abbrev sDNoNameInit : Stmt := inClass (topS 16) 0
abbrev sDWillInit : Stmt := inClass (topS 19) 0
abbrev sDWillRead : Stmt := inClass (topS 19) 1
abbrev sDWillNames : Stmt := inClass (topS 19) 2
abbrev sDWillLen : Stmt := inClass (topS 19) 4
abbrev sDWillEq : Stmt := inClass (topS 19) 5
abbrev sDWillStr : Stmt := inClass (topS 19) 6
abbrev sDAreShares : Stmt := topS 20
abbrev sDIsShare : Stmt := topS 21
abbrev sDIsGroup : Stmt := topS 22
abbrev sDLots : Stmt := topS 23
abbrev sDShareText : Stmt := topS 24
abbrev sDReadShare : Stmt := topS 25
abbrev sDFamilyInit : Stmt := inClass (topS 29) 0
abbrev sDFamilyRead : Stmt := inClass (topS 29) 1
abbrev sDFamilyNames : Stmt := inClass (topS 29) 2
abbrev sDFamilyDead : Stmt := inClass (topS 29) 3
abbrev sDFamilyOwn : Stmt := inClass (topS 29) 5
abbrev sDFamilyAdd : Stmt := inClass (topS 29) 9
abbrev sDFamilyEq : Stmt := inClass (topS 29) 10
abbrev sDFamilyStr : Stmt := inClass (topS 29) 11
abbrev sDArePeople : Stmt := topS 30
abbrev sDAreWills : Stmt := topS 31
abbrev sDMayLeave : Stmt := topS 32
abbrev sDHaveDifferentNames : Stmt := topS 33
abbrev sDAreFacts : Stmt := topS 34
abbrev sDIsFact : Stmt := topS 35
abbrev sDFound : Stmt := topS 36
abbrev sDReadLine : Stmt := topS 37
abbrev sDReadTold : Stmt := topS 38
abbrev sDReadWill : Stmt := topS 39
abbrev sDLawSeed : Stmt := topS 41
abbrev sDLawChoose : Stmt := topS 42
abbrev sDLawOneOf : Stmt := topS 43
abbrev sDLawMixed : Stmt := topS 44
abbrev sDLawNames : Stmt := topS 45
abbrev sDLawHasRing : Stmt := topS 46
abbrev sDLawHeard : Stmt := topS 47
abbrev sDLaw : Stmt := topS 48
theorem scDIsInteger : FnScope ["value"] ["value"] (defScope sDIsInteger) := ⟨rfl, rfl, rfl, by decide +kernel, rfl, by decide +kernel, by decide +kernel⟩
theorem scDIsNumber : FnScope ["value"] ["value"] (defScope sDIsNumber) := ⟨rfl, rfl, rfl, by decide +kernel, rfl, by decide +kernel, by decide +kernel⟩
theorem scDIsName : FnScope ["value"] ["value"] (defScope sDIsName) := ⟨rfl, rfl, rfl, by decide +kernel, rfl, by decide +kernel, by decide +kernel⟩
theorem scDIsSequence : FnScope ["value"] ["value"] (defScope sDIsSequence) := ⟨rfl, rfl, rfl, by decide +kernel, rfl, by decide +kernel, by decide +kernel⟩
theorem scDIsPair : FnScope ["value"] ["value"] (defScope sDIsPair) := ⟨rfl, rfl, rfl, by decide +kernel, rfl, by decide +kernel, by decide +kernel⟩
theorem scDReadNumber : FnScope ["word", "digits"] ["word", "digits"] (defScope sDReadNumber) := ⟨rfl, rfl, rfl, by decide +kernel, rfl, by decide +kernel, by decide +kernel⟩
theorem scDLineUp : FnScope ["names", "facts", "left", "placed", "waiting", "first", "then", "free", "name"] ["names", "facts"] (defScope sDLineUp) := ⟨rfl, rfl, rfl, by decide +kernel, rfl, by decide +kernel, by decide +kernel⟩
theorem scDInvalidWillInit : FnScope ["self", "word"] ["self", "word"] (defScope sDInvalidWillInit) := ⟨rfl, rfl, rfl, by decide +kernel, rfl, by decide +kernel, by decide +kernel⟩
theorem scDInvalidFamilyInit : FnScope ["self", "word"] ["self", "word"] (defScope sDInvalidFamilyInit) := ⟨rfl, rfl, rfl, by decide +kernel, rfl, by decide +kernel, by decide +kernel⟩
theorem scDInvalidTextInit : FnScope ["self", "at"] ["self", "at"] (defScope sDInvalidTextInit) := ⟨rfl, rfl, rfl, by decide +kernel, rfl, by decide +kernel, by decide +kernel⟩
theorem scDNoNameInit : FnScope ["self", "name"] ["self", "name"] (defScope sDNoNameInit) := ⟨rfl, rfl, rfl, by decide +kernel, rfl, by decide +kernel, by decide +kernel⟩
theorem scDWillInit : FnScope ["self", "shares", "weight", "groups"] ["self", "shares"] (defScope sDWillInit) := ⟨rfl, rfl, rfl, by decide +kernel, rfl, by decide +kernel, by decide +kernel⟩
theorem scDWillRead : FnScope ["cls", "text", "shares", "at", "part", "share"] ["cls", "text"] (defScope sDWillRead) := ⟨rfl, rfl, rfl, by decide +kernel, rfl, by decide +kernel, by decide +kernel⟩
theorem scDWillNames : FnScope ["self", "_", "groups", "group", "name"] ["self"] (defScope sDWillNames) := ⟨rfl, rfl, rfl, by decide +kernel, rfl, by decide +kernel, by decide +kernel⟩
theorem scDWillLen : FnScope ["self"] ["self"] (defScope sDWillLen) := ⟨rfl, rfl, rfl, by decide +kernel, rfl, by decide +kernel, by decide +kernel⟩
theorem scDWillEq : FnScope ["self", "other"] ["self", "other"] (defScope sDWillEq) := ⟨rfl, rfl, rfl, by decide +kernel, rfl, by decide +kernel, by decide +kernel⟩
theorem scDWillStr : FnScope ["self", "weight", "groups"] ["self"] (defScope sDWillStr) := ⟨rfl, rfl, rfl, by decide +kernel, rfl, by decide +kernel, by decide +kernel⟩
theorem scDAreShares : FnScope ["value", "share"] ["value"] (defScope sDAreShares) := ⟨rfl, rfl, rfl, by decide +kernel, rfl, by decide +kernel, by decide +kernel⟩
theorem scDIsShare : FnScope ["value", "weight", "groups", "group"] ["value"] (defScope sDIsShare) := ⟨rfl, rfl, rfl, by decide +kernel, rfl, by decide +kernel, by decide +kernel⟩
theorem scDIsGroup : FnScope ["value", "name"] ["value"] (defScope sDIsGroup) := ⟨rfl, rfl, rfl, by decide +kernel, rfl, by decide +kernel, by decide +kernel⟩
theorem scDLots : FnScope ["groups", "group"] ["groups"] (defScope sDLots) := ⟨rfl, rfl, rfl, by decide +kernel, rfl, by decide +kernel, by decide +kernel⟩
theorem scDShareText : FnScope ["weight", "groups", "told", "group"] ["weight", "groups"] (defScope sDShareText) := ⟨rfl, rfl, rfl, by decide +kernel, rfl, by decide +kernel, by decide +kernel⟩
theorem scDReadShare : FnScope ["part", "word", "space", "told", "weight", "group"] ["part"] (defScope sDReadShare) := ⟨rfl, rfl, rfl, by decide +kernel, rfl, by decide +kernel, by decide +kernel⟩
theorem scDFamilyInit : FnScope ["self", "people", "wills", "facts", "name", "_", "dead"] ["self", "people", "wills", "facts"] (defScope sDFamilyInit) := ⟨rfl, rfl, rfl, by decide +kernel, rfl, by decide +kernel, by decide +kernel⟩
theorem scDFamilyRead : FnScope ["cls", "text", "entries", "last", "at", "line", "kind", "entry"] ["cls", "text"] (defScope sDFamilyRead) := ⟨rfl, rfl, rfl, by decide +kernel, rfl, by decide +kernel, by decide +kernel⟩
theorem scDFamilyNames : FnScope ["self", "name", "_"] ["self"] (defScope sDFamilyNames) := ⟨rfl, rfl, rfl, by decide +kernel, rfl, by decide +kernel, by decide +kernel⟩
theorem scDFamilyDead : FnScope ["self", "name", "_"] ["self"] (defScope sDFamilyDead) := ⟨rfl, rfl, rfl, by decide +kernel, rfl, by decide +kernel, by decide +kernel⟩
theorem scDFamilyOwn : FnScope ["self", "name"] ["self", "name"] (defScope sDFamilyOwn) := ⟨rfl, rfl, rfl, by decide +kernel, rfl, by decide +kernel, by decide +kernel⟩
theorem scDFamilyAdd : FnScope ["self", "other"] ["self", "other"] (defScope sDFamilyAdd) := ⟨rfl, rfl, rfl, by decide +kernel, rfl, by decide +kernel, by decide +kernel⟩
theorem scDFamilyEq : FnScope ["self", "other"] ["self", "other"] (defScope sDFamilyEq) := ⟨rfl, rfl, rfl, by decide +kernel, rfl, by decide +kernel, by decide +kernel⟩
theorem scDFamilyStr : FnScope ["self", "people", "name", "amount", "wills", "will", "facts", "first", "then"] ["self"] (defScope sDFamilyStr) := ⟨rfl, rfl, rfl, by decide +kernel, rfl, by decide +kernel, by decide +kernel⟩
theorem scDArePeople : FnScope ["value", "person"] ["value"] (defScope sDArePeople) := ⟨rfl, rfl, rfl, by decide +kernel, rfl, by decide +kernel, by decide +kernel⟩
theorem scDAreWills : FnScope ["value", "names", "entry"] ["value", "names"] (defScope sDAreWills) := ⟨rfl, rfl, rfl, by decide +kernel, rfl, by decide +kernel, by decide +kernel⟩
theorem scDMayLeave : FnScope ["name", "will", "names", "heir"] ["name", "will", "names"] (defScope sDMayLeave) := ⟨rfl, rfl, rfl, by decide +kernel, rfl, by decide +kernel, by decide +kernel⟩
theorem scDHaveDifferentNames : FnScope ["pairs", "name", "_"] ["pairs"] (defScope sDHaveDifferentNames) := ⟨rfl, rfl, rfl, by decide +kernel, rfl, by decide +kernel, by decide +kernel⟩
theorem scDAreFacts : FnScope ["value", "dead", "fact"] ["value", "dead"] (defScope sDAreFacts) := ⟨rfl, rfl, rfl, by decide +kernel, rfl, by decide +kernel, by decide +kernel⟩
theorem scDIsFact : FnScope ["first", "then", "dead"] ["first", "then", "dead"] (defScope sDIsFact) := ⟨rfl, rfl, rfl, by decide +kernel, rfl, by decide +kernel, by decide +kernel⟩
theorem scDFound : FnScope ["pairs", "name", "known", "told"] ["pairs", "name"] (defScope sDFound) := ⟨rfl, rfl, rfl, by decide +kernel, rfl, by decide +kernel, by decide +kernel⟩
theorem scDReadLine : FnScope ["line", "word", "_", "behind", "name", "words", "told"] ["line"] (defScope sDReadLine) := ⟨rfl, rfl, rfl, by decide +kernel, rfl, by decide +kernel, by decide +kernel⟩
theorem scDReadTold : FnScope ["word", "words"] ["word", "words"] (defScope sDReadTold) := ⟨rfl, rfl, rfl, by decide +kernel, rfl, by decide +kernel, by decide +kernel⟩
theorem scDReadWill : FnScope ["text"] ["text"] (defScope sDReadWill) := ⟨rfl, rfl, rfl, by decide +kernel, rfl, by decide +kernel, by decide +kernel⟩
theorem scDLawSeed : FnScope ["_law_script", "_law_k", "_law_cell"] ["_law_script", "_law_k"] (defScope sDLawSeed) := ⟨rfl, rfl, rfl, by decide +kernel, rfl, by decide +kernel, by decide +kernel⟩
theorem scDLawChoose : FnScope ["_law_box", "_law_many", "_law_digit", "_law_raw"] ["_law_box", "_law_many"] (defScope sDLawChoose) := ⟨rfl, rfl, rfl, by decide +kernel, rfl, by decide +kernel, by decide +kernel⟩
theorem scDLawOneOf : FnScope ["_law_box", "_law_some"] ["_law_box", "_law_some"] (defScope sDLawOneOf) := ⟨rfl, rfl, rfl, by decide +kernel, rfl, by decide +kernel, by decide +kernel⟩
theorem scDLawMixed : FnScope ["_law_box", "_law_some", "_law_left", "_law_found"] ["_law_box", "_law_some"] (defScope sDLawMixed) := ⟨rfl, rfl, rfl, by decide +kernel, rfl, by decide +kernel, by decide +kernel⟩
theorem scDLawNames : FnScope ["_law_box", "_law_many", "_law_pools"] ["_law_box", "_law_many"] (defScope sDLawNames) := ⟨rfl, rfl, rfl, by decide +kernel, rfl, by decide +kernel, by decide +kernel⟩
theorem scDLawHasRing : FnScope ["_law_dead", "_law_facts", "_law_left", "_law_turn", "_law_free", "_law_name", "_law_first", "_law_then"] ["_law_dead", "_law_facts"] (defScope sDLawHasRing) := ⟨rfl, rfl, rfl, by decide +kernel, rfl, by decide +kernel, by decide +kernel⟩
theorem scDLawHeard : FnScope ["_law_people", "_law_wills", "_law_facts", "_law_found", "e"] ["_law_people", "_law_wills", "_law_facts"] (defScope sDLawHeard) := ⟨rfl, rfl, rfl, by decide +kernel, rfl, by decide +kernel, by decide +kernel⟩
theorem scDLaw : FnScope ["_law_script", "_law_k", "_law_box", "_law_turn", "_law_names_here", "_law_dead", "_law_people", "_law_wills", "_law_name", "_law_facts", "_law_more", "_law_pair", "_law_order", "_law_line", "_law_spot"] ["_law_script"] (defScope sDLaw) := ⟨rfl, rfl, rfl, by decide +kernel, rfl, by decide +kernel, by decide +kernel⟩
/-- a def as the top leaves it: at f, with its data fd -/
structure Dn (K : PySem.W.Frag) (mg : Str → Option Value) (x qual : Str) (st : Stmt) (ps : List Str) where
  f : Addr
  fd : FuncData
  F : Fun K x qual st f fd
  b : Binds K fd ps []
  g : mg x = some (.ref f)
/-- a method of the class at C -/
structure Dm (K : PySem.W.Frag) (C : Addr) (x qual : Str) (st : Stmt) (ps : List Str) where
  f : Addr
  fd : FuncData
  F : Fun K x qual st f fd
  b : Binds K fd ps []
  m : Meth K C x f
/-- what the top has written -/
structure TxtG (K : PySem.W.Frag) (mg : Str → Option Value) where
  cHeirError : Addr
  gcHeirError : mg "HeirError" = some (.ref cHeirError)
  cInvalidWill : Addr
  gcInvalidWill : mg "InvalidWill" = some (.ref cInvalidWill)
  cInvalidFamily : Addr
  gcInvalidFamily : mg "InvalidFamily" = some (.ref cInvalidFamily)
  cInvalidText : Addr
  gcInvalidText : mg "InvalidText" = some (.ref cInvalidText)
  cNoName : Addr
  gcNoName : mg "NoName" = some (.ref cNoName)
  cWill : Addr
  gcWill : mg "Will" = some (.ref cWill)
  cFamily : Addr
  gcFamily : mg "Family" = some (.ref cFamily)
  dIsInteger : Dn K mg "is_integer" "is_integer" sDIsInteger ["value"]
  dIsNumber : Dn K mg "is_number" "is_number" sDIsNumber ["value"]
  dIsName : Dn K mg "is_name" "is_name" sDIsName ["value"]
  dIsSequence : Dn K mg "is_sequence" "is_sequence" sDIsSequence ["value"]
  dIsPair : Dn K mg "is_pair" "is_pair" sDIsPair ["value"]
  dReadNumber : Dn K mg "read_number" "read_number" sDReadNumber ["word", "digits"]
  dLineUp : Dn K mg "line_up" "line_up" sDLineUp ["names", "facts"]
  dAreShares : Dn K mg "_are_shares" "_are_shares" sDAreShares ["value"]
  dIsShare : Dn K mg "_is_share" "_is_share" sDIsShare ["value"]
  dIsGroup : Dn K mg "_is_group" "_is_group" sDIsGroup ["value"]
  dLots : Dn K mg "_lots" "_lots" sDLots ["groups"]
  dShareText : Dn K mg "_share_text" "_share_text" sDShareText ["weight", "groups"]
  dReadShare : Dn K mg "_read_share" "_read_share" sDReadShare ["part"]
  dArePeople : Dn K mg "_are_people" "_are_people" sDArePeople ["value"]
  dAreWills : Dn K mg "_are_wills" "_are_wills" sDAreWills ["value", "names"]
  dMayLeave : Dn K mg "_may_leave" "_may_leave" sDMayLeave ["name", "will", "names"]
  dHaveDifferentNames : Dn K mg "_have_different_names" "_have_different_names" sDHaveDifferentNames ["pairs"]
  dAreFacts : Dn K mg "_are_facts" "_are_facts" sDAreFacts ["value", "dead"]
  dIsFact : Dn K mg "_is_fact" "_is_fact" sDIsFact ["first", "then", "dead"]
  dFound : Dn K mg "_found" "_found" sDFound ["pairs", "name"]
  dReadLine : Dn K mg "_read_line" "_read_line" sDReadLine ["line"]
  dReadTold : Dn K mg "_read_told" "_read_told" sDReadTold ["word", "words"]
  dReadWill : Dn K mg "_read_will" "_read_will" sDReadWill ["text"]
  dLawSeed : Dn K mg "_law_seed" "_law_seed" sDLawSeed ["_law_script", "_law_k"]
  dLawChoose : Dn K mg "_law_choose" "_law_choose" sDLawChoose ["_law_box", "_law_many"]
  dLawOneOf : Dn K mg "_law_one_of" "_law_one_of" sDLawOneOf ["_law_box", "_law_some"]
  dLawMixed : Dn K mg "_law_mixed" "_law_mixed" sDLawMixed ["_law_box", "_law_some"]
  dLawNames : Dn K mg "_law_names" "_law_names" sDLawNames ["_law_box", "_law_many"]
  dLawHasRing : Dn K mg "_law_has_ring" "_law_has_ring" sDLawHasRing ["_law_dead", "_law_facts"]
  dLawHeard : Dn K mg "_law_heard" "_law_heard" sDLawHeard ["_law_people", "_law_wills", "_law_facts"]
  dLaw : Dn K mg "law" "law" sDLaw ["_law_script"]
  z_NotImplemented : mg "NotImplemented" = none
  z_abs : mg "abs" = none
  z_all : mg "all" = none
  z_bool : mg "bool" = none
  z_classmethod : mg "classmethod" = none
  z_enumerate : mg "enumerate" = none
  z_int : mg "int" = none
  z_isinstance : mg "isinstance" = none
  z_len : mg "len" = none
  z_list : mg "list" = none
  z_max : mg "max" = none
  z_min : mg "min" = none
  z_property : mg "property" = none
  z_range : mg "range" = none
  z_set : mg "set" = none
  z_sorted : mg "sorted" = none
  z_str : mg "str" = none
  z_tuple : mg "tuple" = none
  k_CROWN : ∃ t, mg "CROWN" = some (.str "crown" t)
  k_LONGEST_NAME : ∃ t, mg "LONGEST_NAME" = some (.int 5 t)
  k_WEIGHT_DIGITS : ∃ t, mg "WEIGHT_DIGITS" = some (.int 6 t)
  k_AMOUNT_DIGITS : ∃ t, mg "AMOUNT_DIGITS" = some (.int 10 t)
  k_LINE_WORDS : ∃ a, mg "LINE_WORDS" = some (.ref a) ∧ ∀ H, SqT K H a [.str "person", .str "will", .str "first"]
end He

namespace He
open PySem PySem.Spec PyProof.Rows L2
/-! ### heaps where one address is left out -/
def hide (p : Addr) (H : Hp) : Hp := fun b => if b = p then none else H b
theorem hide_ne {p b : Addr} {H : Hp} (h : b ≠ p) : hide p H b = H b := if_neg h
theorem hide_self {p : Addr} {H : Hp} : hide p H p = none := if_pos rfl
theorem hide_le {p : Addr} {H : Hp} : Same (hide p H) H := fun b o e => by
  unfold hide at e
  split at e
  · cases e
  · exact e
theorem hide_same {p : Addr} {H H' : Hp} (h : Same H H') : Same (hide p H) (hide p H') := fun b o e => by
  unfold hide at e ⊢
  split at e
  · cases e
  · rename_i q
    rw [if_neg q]
    exact h b o e
theorem hide_upd {p : Addr} {H : Hp} {o : HO} : Same (hide p H) (hide p (upd H p o)) := fun b u e => by
  have hb : b ≠ p := fun z => by rw [z, hide_self] at e; cases e
  rw [hide_ne hb] at e ⊢
  rw [upd_ne hb]
  exact e
/-- the draws' state: a large number or nought, and a small one -/
def Box (H : Hp) (p : Addr) : Prop := ∃ b0 b1 : Int, H p = some (.lst [.int b0, .int b1]) ∧ 0 ≤ b0 ∧ 0 < b1 ∧ b1 ≤ 2147483629
/-- what a helper that draws leaves: the box, and all else -/
def Bx (p : Addr) (H H' : Hp) : Prop := Box H' p ∧ Same (hide p H) (hide p H')
theorem Box.same {H H' : Hp} {p : Addr} (h : Box H p) (s : Same H H') : Box H' p := by
  obtain ⟨b0, b1, e, r⟩ := h
  exact ⟨b0, b1, s _ _ e, r⟩
theorem Bx.of {H H' : Hp} {p : Addr} (h : Box H p) (s : Same H H') : Bx p H H' := ⟨h.same s, hide_same s⟩
theorem Bx.refl {H : Hp} {p : Addr} (h : Box H p) : Bx p H H := .of h (Same.refl H)
theorem Bx.trans {H H1 H2 : Hp} {p : Addr} (a : Bx p H H1) (b : Bx p H1 H2) : Bx p H H2 := ⟨b.1, a.2.trans b.2⟩
theorem Bx.ne0 {H : Hp} {p : Addr} (h : Box H p) : H p ≠ none := by
  obtain ⟨_, _, e, _⟩ := h
  rw [e]
  exact fun z => nomatch z
theorem same_upd {H : Hp} {p : Addr} {o : HO} (h : H p = none) : Same H (upd H p o) := fun b x e => by
  rw [upd_ne (ne_of_none e h)]
  exact e
theorem sqL_of {K : PySem.W.Frag} {H : Hp} {a : Addr} {xs : List V} (h : H a = some (.lst xs)) : SqL K H a xs := .inl (.inl h)
theorem sqT_of {K : PySem.W.Frag} {H : Hp} {a : Addr} {xs : List V} (h : H a = some (.tup xs)) : SqT K H a xs := .inl (.inl h)
theorem Same.seqT {K : PySem.W.Frag} {H H' : Hp} {a : Addr} {xs : List V} (e : Same H H') (h : SqT K H a xs) : SqT K H' a xs := by
  rcases h with (h | ⟨o, h⟩) | h
  · exact .inl (.inl (e _ _ h))
  · exact .inl (.inr ⟨o, e _ _ h⟩)
  · exact .inr h
end He

namespace He
open PySem PySem.Spec PyProof.Rows L2
section
variable {P : Program} {w : World} {K : PySem.W.Frag} {mg : Str → Option Value} {base : Heap}

theorem callR_imp {X : Cx} {f : Value} {r r' : List V → Hp → VK → Prop} (h : CallR X f r) (i : ∀ xs H Q, r' xs H Q → r xs H Q) : CallR X f r' := fun pins s σ H xs us Q I rv q => h pins s σ H xs us Q I rv (i _ _ _ q)
/-- int(n) of an int -/
theorem call_intI {X : Cx} : CallR X (.type "int") (fun xs H Q => ∃ i, xs = [.int i] ∧ Q (.int i) H) := callR_imp call_int1 fun _ _ _ h => .inl h
/-- len of a list that is read, of a tuple -/
theorem call_lenL {X : Cx} : CallR X (.builtin "len") (fun xs H Q => ∃ p ys, xs = [.ref p] ∧ SqL X.K H p ys ∧ Q (.int ys.length) H) := callR_imp call_len_seq fun _ _ _ ⟨p, ys, e, h, q⟩ => ⟨p, ys, e, .inl h, q⟩
theorem absI (i : Int) : 0 ≤ (if i < 0 then -i else i) := by split <;> omega
theorem cpow18 : CPow 10 18 := ⟨by decide, by decide, by decide⟩
theorem atI_map {ns : List Int} {k : Nat} (h : k < ns.length) : atI (ns.map V.int) (k : Int) = some (V.int ns[k]) := atI_nat (by rw [List.getElem?_map, List.getElem?_eq_getElem h] <;> rfl)
def spSeed (K : PySem.W.Frag) : Sp := fun vs H Q _ => ∃ (a : Addr) (ns : List Int) (k : Nat), vs = [.ref a, .int k] ∧ k ≤ 3 ∧ SqL K H a (ns.map V.int) ∧ ns.length ≤ 63 ∧
  ∀ b0 b1 p, H p = none → 0 ≤ b0 → 0 < b1 → b1 ≤ 2147483629 → Q (.ref p) (upd H p (.lst [.int b0, .int b1]))
theorem ok_seed (T : TxtG K mg) : FnOk P w K mg base CX0 1 T.dLawSeed.f T.dLawSeed.fd ["_law_script", "_law_k"] (spSeed K) := by
  refine T.dLawSeed.F.ok scDLawSeed (fun vs H Q E h => ?_) (fun cdv A outer s H vs Q E hr h => ?_)
  · obtain ⟨a, ns, k, rfl, _⟩ := h
    rfl
  · obtain ⟨a, ns, k, rfl, hk, hS, hn, q⟩ := h
    refine ⟨_, (pss_cons (ps_set (i := 2) scDLawSeed.nd rfl (.inl rfl) (pe_op op_add (pe_op op_mul pe_int (pv 1)) pe_int))
      (pss_cons (ps_if (pt_cmpR op_lt (pv 1) (pe_callB call_len_seq (by rfl) T.z_len (by decide +kernel) (pa_cons (pv 0) pa_nil)) (nomark _))
      (pss_one (ps_set (i := 2) scDLawSeed.nd rfl (.inl rfl) (pe_callB call_abs (by rfl) T.z_abs (by decide +kernel) (pa_cons (pe_ix ix_list (pv 0) (pv 1) (fun _ _ => rfl)) pa_nil))))
      (pss_one (ps_if (pt_cmpR op_gt (pe_callB call_len_seq (by rfl) T.z_len (by decide +kernel) (pa_cons (pv 0) pa_nil)) pe_int (nomark _))
      (pss_one (ps_set (i := 2) scDLawSeed.nd rfl (.inl rfl) (pe_op op_add (pv 2) (pe_op op_mul (pe_op op_mod (pe_callTy call_int1 (by rfl) T.z_int (by decide +kernel) (pa_cons (pe_callB call_abs (by rfl) T.z_abs (by decide +kernel) (pa_cons (pe_ix ix_list (pv 0) (pe_op op_mod (pe_callTy call_int1 (by rfl) T.z_int (by decide +kernel) (pa_cons (pv 1) pa_nil)) (pe_callB call_len_seq (by rfl) T.z_len (by decide +kernel) (pa_cons (pv 0) pa_nil))) (fun _ _ => rfl)) pa_nil)) pa_nil)) pe_int) pe_int))))
      pss_nil)))
      (pss_one (ps_ret (pe_lst (pa_cons (pe_ifExp (pt_cmpR op_ge (pv 2) (pe_op op_pow pe_int pe_int) (nomark _)) (pv 2) pe_int) (pa_cons (pe_op op_add (pe_op op_mod (pe_callTy call_int1 (by rfl) T.z_int (by decide +kernel) (pa_cons (pe_op op_add (pe_op op_mul (pe_op op_mod (pe_callTy call_int1 (by rfl) T.z_int (by decide +kernel) (pa_cons (pv 2) pa_nil)) pe_int) pe_int) (pe_op op_mul pe_int (pv 1))) pa_nil)) pe_int) pe_int) pa_nil))))))), ?_⟩
    simp only [tSeq, tAsg, tOp, tUn, rI, rI0, rU, tVar, tC, gName, L2.start, tIfS, tTest, tB, tCB, tCons, tNil, tIf, tRet, tRetN, tLst, tTup, tNext, tDrop, tNot, tNotV, tAnd, tOr, tAndV, tOrV, tPar, tAug, ipI, rEq, rNe, gSub, rSetL, rIxL, rIxT, tBM, tBM0, rAppend, rPopAt, gTup, gCons, gNil, tCall, tSl, tPart, tNoPart, rSlL, rCat, rEqD, rNeD, rIn, scal, List.map_cons, List.map_nil, List.length_cons, List.length_nil, List.length_map, List.cons_append, List.nil_append, List.append_nil, List.replicate, List.getElem?_cons_zero, List.getElem?_cons_succ, List.set_cons_zero, List.set_cons_succ, Option.some.injEq, exists_eq_left', exists_eq_left, exists_eq_right, exists_and_left, exists_and_right, V.int.injEq, V.ref.injEq, V.str.injEq, V.bl.injEq, reduceCtorEq, false_and, and_false, exists_false, or_false, false_or, true_and, and_true, List.cons.injEq, decide_eq_true_eq, cxOf, if_true, if_false, Bool.false_eq_true, Nat.reduceAdd, Nat.reduceSub, Nat.zero_add, Nat.add_sub_cancel_left, Nat.add_sub_cancel, Nat.sub_self]
    have fin : ∀ c : Int, 0 ≤ c → ∀ p, H p = none → Q (.ref p) (upd H p (.lst [.int c, .int ((c % 2147483629 * 48271 + 35023 * (k : Int)) % 2147483629 + 1)])) := fun c hc p hp => q _ _ p hp hc (by omega) (by omega)
    have fin0 : ∀ c : Int, 0 ≤ c → ∀ p, H p = none → Q (.ref p) (upd H p (.lst [.int 0, .int ((c % 2147483629 * 48271 + 35023 * (k : Int)) % 2147483629 + 1)])) := fun c hc p hp => q _ _ p hp (by decide) (by omega) (by omega)
    refine ⟨.inl ⟨by decide, by decide⟩, _, .inl hS, ?_⟩
    rw [List.length_map]
    by_cases h1 : k < ns.length
    · rw [if_pos (by omega)]
      refine ⟨_, hS, _, atI_map h1, _, rfl, cpow18, ?_⟩
      have ha := absI ns[k]
      generalize (if ns[k] < 0 then -ns[k] else ns[k]) = c at ha ⊢
      split
      · exact ⟨by decide, .inl (by omega), .inl (by omega), by decide, by decide, fin c ha⟩
      · exact ⟨by decide, .inl (by omega), .inl (by omega), by decide, by decide, fin0 c ha⟩
    · rw [if_neg (by omega)]
      refine ⟨_, .inl hS, ?_⟩
      rw [List.length_map]
      by_cases h2 : 0 < ns.length
      · rw [if_pos (by omega)]
        have hm : ((k : Int) % (ns.length : Int)) = ((k % ns.length : Nat) : Int) := by omega
        have hlt : k % ns.length < ns.length := Nat.mod_lt _ h2
        refine ⟨_, .inl hS, by rw [List.length_map]; omega, _, hS, _, by rw [List.length_map, hm]; exact atI_map hlt, _, rfl, by decide, .inl (by omega), cpow18, ?_⟩
        have ha := absI ns[k % ns.length]
        generalize (if ns[k % ns.length] < 0 then -ns[k % ns.length] else ns[k % ns.length]) = c at ha ⊢
        have hc : 0 ≤ 8231 * (k : Int) + 97 + c % 2147483629 * 40093 := by omega
        generalize 8231 * (k : Int) + 97 + c % 2147483629 * 40093 = d at hc ⊢
        split
        · exact ⟨by decide, .inl (by omega), .inl (by omega), by decide, by decide, fin d hc⟩
        · exact ⟨by decide, .inl (by omega), .inl (by omega), by decide, by decide, fin0 d hc⟩
      · rw [if_neg (by omega)]
        have hc : 0 ≤ 8231 * (k : Int) + 97 := by omega
        refine ⟨cpow18, ?_⟩
        split
        · exact ⟨by decide, .inl (by omega), .inl (by omega), by decide, by decide, fin _ hc⟩
        · exact ⟨by decide, .inl (by omega), .inl (by omega), by decide, by decide, fin0 _ hc⟩
/-- choose: a number below many, the box turned -/
def spChoose (K : PySem.W.Frag) : Sp := fun vs H Q _ => ∃ (p : Addr) (m : Int), vs = [.ref p, .int m] ∧ Box H p ∧ 0 < m ∧ m ≤ 1000000 ∧
  ∀ r H', Bx p H H' → 0 ≤ r → r < m → Q (.int r) H'
theorem ok_choose (T : TxtG K mg) : FnOk P w K mg base CX0 1 T.dLawChoose.f T.dLawChoose.fd ["_law_box", "_law_many"] (spChoose K) := by
  refine T.dLawChoose.F.ok scDLawChoose (fun vs H Q E h => ?_) (fun cdv A outer s H vs Q E hr h => ?_)
  · obtain ⟨p, m, rfl, _⟩ := h
    rfl
  · obtain ⟨p, m, rfl, ⟨b0, b1, hp, h0, h1, h2⟩, m0, m1, q⟩ := h
    refine ⟨_, (pss_cons (ps_if (pt_cmpR op_gt (pe_ix ix_list (pv 0) pe_int (fun _ _ => rfl)) pe_int (nomark _))
      (pss_cons (ps_set (i := 2) scDLawChoose.nd rfl (.inl rfl) (pe_op op_mod (pe_callTy call_intI (by rfl) T.z_int (by decide +kernel) (pa_cons (pe_ix ix_list (pv 0) pe_int (fun _ _ => rfl)) pa_nil)) (pv 1)))
      (pss_cons (ps_asg (pe_op op_fdiv (pe_ix ix_list (pv 0) pe_int (fun _ _ => rfl)) (pv 1)) (pg_sub (pv 0) pe_int set_list))
      (pss_one (ps_ret (pv 2)))))
      pss_nil)
      (pss_cons (ps_set (i := 3) scDLawChoose.nd rfl (.inl rfl) (pe_op op_mod (pe_callTy call_intI (by rfl) T.z_int (by decide +kernel) (pa_cons (pe_op op_add (pe_op op_mul (pe_ix ix_list (pv 0) pe_int (fun _ _ => rfl)) pe_int) pe_int) pa_nil)) pe_int))
      (pss_cons (ps_asg (pe_op op_add (pe_op op_mod (pe_callTy call_intI (by rfl) T.z_int (by decide +kernel) (pa_cons (pe_op op_add (pe_op op_mul (pv 3) pe_int) pe_int) pa_nil)) pe_int) pe_int) (pg_sub (pv 0) pe_int set_list))
      (pss_one (ps_ret (pe_op op_mod (pe_callTy call_intI (by rfl) T.z_int (by decide +kernel) (pa_cons (pe_op op_fdiv (pe_op op_add (pe_op op_mul (pv 3) pe_int) (pe_ix ix_list (pv 0) pe_int (fun _ _ => rfl))) pe_int) pa_nil)) (pv 1))))))), ?_⟩
    simp only [and_assoc, tSeq, tAsg, tOp, tUn, rI, rI0, rU, tVar, tC, gName, L2.start, tIfS, tTest, tB, tCB, tCons, tNil, tIf, tRet, tRetN, tLst, tTup, tNext, tDrop, tNot, tNotV, tAnd, tOr, tAndV, tOrV, tPar, tAug, ipI, rEq, rNe, gSub, rSetL, rIxL, rIxT, tBM, tBM0, rAppend, rPopAt, gTup, gCons, gNil, tCall, tSl, tPart, tNoPart, rSlL, rCat, rEqD, rNeD, rIn, scal, List.map_cons, List.map_nil, List.length_cons, List.length_nil, List.length_map, List.cons_append, List.nil_append, List.append_nil, List.replicate, List.getElem?_cons_zero, List.getElem?_cons_succ, List.set_cons_zero, List.set_cons_succ, Option.some.injEq, exists_eq_left', exists_eq_left, exists_eq_right, exists_and_left, exists_and_right, V.int.injEq, V.ref.injEq, V.str.injEq, V.bl.injEq, reduceCtorEq, false_and, and_false, exists_false, or_false, false_or, true_and, and_true, List.cons.injEq, decide_eq_true_eq, cxOf, if_true, if_false, Bool.false_eq_true, Nat.reduceAdd, Nat.reduceSub, Nat.zero_add, Nat.add_sub_cancel_left, Nat.add_sub_cancel, Nat.sub_self]
    have hq : SqL K H p [.int b0, .int b1] := sqL_of hp
    have a0 : atI [V.int b0, V.int b1] 0 = some (.int b0) := rfl
    have a1 : atI [V.int b0, V.int b1] 1 = some (.int b1) := rfl
    refine ⟨_, hq, _, a0, _, rfl, ?_⟩
    by_cases z : 0 < b0
    · rw [if_pos z]
      refine ⟨_, hq, _, a0, _, rfl, m0, _, hq, _, a0, _, rfl, ⟨m0, by omega⟩, _, hp, 0, rfl, ?_⟩
      exact q _ _ ⟨⟨b0 / m, b1, upd_same, Int.ediv_nonneg h0 (by omega), h1, h2⟩, hide_upd⟩ (Int.emod_nonneg _ (by omega)) (Int.emod_lt_of_pos _ m0)
    · rw [if_neg z]
      refine ⟨_, hq, _, a1, _, rfl, .inr (by decide), by decide, .inr (by decide), by decide, _, hp, 1, rfl, .inr (by decide), _, sqL_of upd_same, _, rfl, _, rfl, ⟨by decide, by decide⟩, m0, ?_⟩
      exact q _ _ ⟨⟨b0, _, upd_same, h0, by omega, by omega⟩, hide_upd⟩ (Int.emod_nonneg _ (by omega)) (Int.emod_lt_of_pos _ m0)
/-- one of several things -/
def spOneOf (K : PySem.W.Frag) : Sp := fun vs H Q _ => ∃ (p a : Addr) (xs : List V), vs = [.ref p, .ref a] ∧ Box H p ∧ SqL K (hide p H) a xs ∧ 0 < xs.length ∧ xs.length ≤ 1000 ∧
  ∀ (i : Nat) v H', Bx p H H' → xs[i]? = some v → Q v H'
theorem ok_oneof (T : TxtG K mg) : FnOk P w K mg base CX0 2 T.dLawOneOf.f T.dLawOneOf.fd ["_law_box", "_law_some"] (spOneOf K) := by
  refine T.dLawOneOf.F.ok scDLawOneOf (fun vs H Q E h => ?_) (fun cdv A outer s H vs Q E hr h => ?_)
  · obtain ⟨p, a, xs, rfl, _⟩ := h
    rfl
  · obtain ⟨p, a, xs, rfl, hb, hS, h0, h1, q⟩ := h
    refine ⟨_, (pss_one (ps_ret (pe_ix ix_list (pv 1) (pe_call (ok_choose T) (hr.mono (by decide)) (by rfl) T.dLawChoose.g T.dLawChoose.F.kp T.dLawChoose.b .nil pass0 (pa_cons (pv 0) (pa_cons (pe_callB call_lenL (by rfl) T.z_len (by decide +kernel) (pa_cons (pv 1) pa_nil)) pa_nil))) (fun _ _ => rfl)))), ?_⟩
    simp only [and_assoc, tSeq, tAsg, tOp, tUn, rI, rI0, rU, tVar, tC, gName, L2.start, tIfS, tTest, tB, tCB, tCons, tNil, tIf, tRet, tRetN, tLst, tTup, tNext, tDrop, tNot, tNotV, tAnd, tOr, tAndV, tOrV, tPar, tAug, ipI, rEq, rNe, gSub, rSetL, rIxL, rIxT, tBM, tBM0, rAppend, rPopAt, gTup, gCons, gNil, tCall, tSl, tPart, tNoPart, rSlL, rCat, rEqD, rNeD, rIn, scal, List.map_cons, List.map_nil, List.length_cons, List.length_nil, List.length_map, List.cons_append, List.nil_append, List.append_nil, List.replicate, List.getElem?_cons_zero, List.getElem?_cons_succ, List.set_cons_zero, List.set_cons_succ, Option.some.injEq, exists_eq_left', exists_eq_left, exists_eq_right, exists_and_left, exists_and_right, V.int.injEq, V.ref.injEq, V.str.injEq, V.bl.injEq, reduceCtorEq, false_and, and_false, exists_false, or_false, false_or, true_and, and_true, List.cons.injEq, decide_eq_true_eq, cxOf, if_true, if_false, Bool.false_eq_true, Nat.reduceAdd, Nat.reduceSub, Nat.zero_add, Nat.add_sub_cancel_left, Nat.add_sub_cancel, Nat.sub_self, spChoose]
    have s0 : SqL K H a xs := hide_le.seq hS
    refine ⟨_, s0, hb, by omega, by omega, fun r H' B r0 r1 => ?_⟩
    have s1 : SqL K H' a xs := hide_le.seq (B.2.seq hS)
    obtain ⟨j, rfl⟩ : ∃ j : Nat, r = (j : Int) := ⟨r.toNat, by omega⟩
    have hj : j < xs.length := by omega
    exact ⟨_, s1, _, atI_nat (List.getElem?_eq_getElem hj), q j _ _ B (List.getElem?_eq_getElem hj)⟩

end
end He

namespace He
open PySem PySem.Spec PyProof.Rows L2
section
variable {P : Program} {w : World} {K : PySem.W.Frag} {mg : Str → Option Value} {base : Heap}

theorem Bx.get {p b : Addr} {H H' : Hp} {o : HO} (B : Bx p H H') (hb : b ≠ p) (e : H b = some o) : H' b = some o := by
  have h := B.2 b o (by rw [hide_ne hb]; exact e)
  rwa [hide_ne hb] at h
/-- an object that H does not know may change -/
theorem Bx.mut {p l : Addr} {H H' : Hp} {o : HO} (B : Bx p H H') (nl : H l = none) (lp : l ≠ p) : Bx p H (upd H' l o) := by
  obtain ⟨⟨b0, b1, e, r⟩, s⟩ := B
  refine ⟨⟨b0, b1, by rw [upd_ne lp.symm]; exact e, r⟩, fun b u hb => ?_⟩
  have hbp : b ≠ p := fun z => by rw [z, hide_self] at hb; cases hb
  have h1 := s b u hb
  rw [hide_ne hbp] at hb h1 ⊢
  rw [upd_ne (ne_of_none hb nl)]
  exact h1

/-- a list beside an empty one -/
def rNeNil (K : PySem.W.Frag) : R2 := fun x y H Q => ∃ l e xs, x = .ref l ∧ y = .ref e ∧ SqL K H l xs ∧ SqL K H e [] ∧ Q (.bl (!xs.isEmpty)) H
theorem op_neNil {X : Cx} (hu : X.A.units + 64 < cLine) : OpR X (compareOp .NotEq) (rNeNil X.K) := by
  intro pins s σ H x y v u Q I rx ry h
  obtain ⟨l, e, xs, rfl, rfl, hl, he, q⟩ := h
  cases rx
  cases ry
  obtain ⟨its, r1, p1, _⟩ := I.list hl
  obtain ⟨its2, r2, p2, _⟩ := I.list he
  cases r2
  have hu' : X.A.units < cLine := by omega
  cases r1 with
  | nil => exact SeqAt.RcNeAt.lists (e := fun _ => true) p1.isList p2.isList rfl hu' (fun j h1 => absurd h1 (by simp)) X.prog X.w X.xe _ ⟨.bl false, H, I, rfl, q⟩
  | cons a b => exact SeqAt.RcNeAt.lists_lengths p1.isList p2.isList (by simp) hu' X.prog X.w X.xe _ ⟨.bl true, H, I, rfl, q⟩
def lenAt (H : Hp) (l : Addr) : Nat := match H l with
  | some (.lst xs) => xs.length
  | _ => 0
theorem lenAt_of {H : Hp} {l : Addr} {xs : List V} (h : H l = some (.lst xs)) : lenAt H l = xs.length := by
  unfold lenAt
  rw [h]
theorem erase_perm : ∀ (xs : List V) (k : Nat) (y : V), xs[k]? = some y → (y :: xs.eraseIdx k).Perm xs
  | [], k, y, h => by simp at h
  | x :: xs, 0, y, h => by
    have e : x = y := Option.some.inj h
    rw [e]
    exact List.Perm.refl _
  | x :: xs, k + 1, y, h => (List.Perm.swap x y _).trans ((erase_perm xs k y h).cons x)
theorem perm_pop {xs fs zs : List V} {k : Nat} {y : V} (hy : xs[k]? = some y) (h : (fs ++ xs).Perm zs) : ((fs ++ [y]) ++ xs.eraseIdx k).Perm zs := by
  refine List.Perm.trans ?_ h
  rw [List.append_assoc]
  exact List.Perm.append_left fs (erase_perm xs k y hy)
/-- in some order -/
def spMixed (K : PySem.W.Frag) : Sp := fun vs H Q _ => ∃ (p a : Addr) (zs : List V), vs = [.ref p, .ref a] ∧ Box H p ∧ SqL K (hide p H) a zs ∧ zs.length ≤ 1000 ∧
  ∀ (ys : List V) (r : Addr) (H' : Hp), Bx p H H' → ys.Perm zs → H r = none → H' r = some (.lst ys) → Q (.ref r) H'
theorem ok_mixed (T : TxtG K mg) : FnOk P w K mg base CX0 2 T.dLawMixed.f T.dLawMixed.fd ["_law_box", "_law_some"] (spMixed K) := by
  refine T.dLawMixed.F.ok scDLawMixed (fun vs H Q E h => ?_) (fun cdv A outer s H vs Q E hr h => ?_)
  · obtain ⟨p, a, zs, rfl, _⟩ := h
    rfl
  · obtain ⟨p, a, zs, rfl, hb, hS, h1, q⟩ := h
    refine ⟨_, (pss_cons (ps_par (i := 2) (j := 3) (by rfl) scDLawMixed.nd rfl rfl (by decide) rfl rfl (pa_cons (pe_callTy call_list_of (by rfl) T.z_list (by decide +kernel) (pa_cons (pv 1) pa_nil)) (pa_cons (pe_lst pa_nil) pa_nil)) (by rfl))
      (pss_cons (ps_while PassesOwn.never (pt_cmpR (op_neNil hr.units) (pv 2) (pe_lst pa_nil) (nomark _))
      (pss_one (ps_expr (pe_bm PySem.F.plainAttrs_list PySem.F.slot_list_append PySem.F.type_list_append mt_append (pv 3) (pa_cons (pe_bm PySem.F.plainAttrs_list PySem.F.slot_list_pop PySem.F.type_list_pop mt_popAt (pv 2) (pa_cons (pe_call (ok_choose T) (hr.mono (by decide)) (by rfl) T.dLawChoose.g T.dLawChoose.F.kp T.dLawChoose.b .nil pass0 (pa_cons (pv 0) (pa_cons (pe_callB call_lenL (by rfl) T.z_len (by decide +kernel) (pa_cons (pv 2) pa_nil)) pa_nil))) pa_nil)) pa_nil)))))
      (pss_one (ps_ret (pv 3))))), ?_⟩
    simp only [and_assoc, tSeq, tAsg, tOp, tUn, rI, rI0, rU, tVar, tC, gName, L2.start, tIfS, tTest, tB, tCB, tCons, tNil, tIf, tRet, tRetN, tLst, tTup, tNext, tDrop, tNot, tNotV, tAnd, tOr, tAndV, tOrV, tPar, tAug, ipI, rEq, rNe, gSub, rSetL, rIxL, rIxT, tBM, tBM0, rAppend, rPopAt, gTup, gCons, gNil, tCall, tSl, tPart, tNoPart, rSlL, rCat, rEqD, rNeD, rIn, scal, List.map_cons, List.map_nil, List.length_cons, List.length_nil, List.length_map, List.cons_append, List.nil_append, List.append_nil, List.replicate, List.getElem?_cons_zero, List.getElem?_cons_succ, List.set_cons_zero, List.set_cons_succ, Option.some.injEq, exists_eq_left', exists_eq_left, exists_eq_right, exists_and_left, exists_and_right, V.int.injEq, V.ref.injEq, V.str.injEq, V.bl.injEq, reduceCtorEq, false_and, and_false, exists_false, or_false, false_or, true_and, and_true, List.cons.injEq, decide_eq_true_eq, cxOf, if_true, if_false, Bool.false_eq_true, Nat.reduceAdd, Nat.reduceSub, Nat.zero_add, Nat.add_sub_cancel_left, Nat.add_sub_cancel, Nat.sub_self, spChoose]
    refine ⟨zs, .inl (hide_le.seq hS), fun l nl => ⟨by decide, fun f nf => ?_⟩⟩
    obtain ⟨b0, b1, eb, _⟩ := id hb
    have lp : l ≠ p := fun z => by rw [z, eb] at nl; cases nl
    have fl : f ≠ l := fun z => by rw [z, upd_same] at nf; cases nf
    have nf0 : H f = none := by rw [upd_ne fl] at nf; exact nf
    have fp : f ≠ p := fun z => by rw [z, eb] at nf0; cases nf0
    have s1 : Same H (upd (upd H l (.lst zs)) f (.lst [])) := (same_upd nl).trans (same_upd nf)
    refine while_by (fun σ H1 => ∃ ls fs : List V, σ = [some (.ref p), some (.ref a), some (.ref l), some (.ref f)] ∧ Bx p H H1 ∧ H1 l = some (.lst ls) ∧ H1 f = some (.lst fs) ∧ (fs ++ ls).Perm zs)
      (fun _ H1 => lenAt H1 l) ⟨zs, [], rfl, Bx.of hb s1, by rw [upd_ne fl.symm, upd_same], upd_same, List.Perm.refl _⟩ ?_ ?_
    · rintro σ H1 ⟨ls, fs, rfl, B, el, ef, pm⟩
      simp only [and_assoc, tSeq, tAsg, tOp, tUn, rI, rI0, rU, tVar, tC, gName, L2.start, tIfS, tTest, tB, tCB, tCons, tNil, tIf, tRet, tRetN, tLst, tTup, tNext, tDrop, tNot, tNotV, tAnd, tOr, tAndV, tOrV, tPar, tAug, ipI, rEq, rNe, gSub, rSetL, rIxL, rIxT, tBM, tBM0, rAppend, rPopAt, gTup, gCons, gNil, tCall, tSl, tPart, tNoPart, rSlL, rCat, rEqD, rNeD, rIn, scal, List.map_cons, List.map_nil, List.length_cons, List.length_nil, List.length_map, List.cons_append, List.nil_append, List.append_nil, List.replicate, List.getElem?_cons_zero, List.getElem?_cons_succ, List.set_cons_zero, List.set_cons_succ, Option.some.injEq, exists_eq_left', exists_eq_left, exists_eq_right, exists_and_left, exists_and_right, V.int.injEq, V.ref.injEq, V.str.injEq, V.bl.injEq, reduceCtorEq, false_and, and_false, exists_false, or_false, false_or, true_and, and_true, List.cons.injEq, decide_eq_true_eq, cxOf, if_true, if_false, Bool.false_eq_true, Nat.reduceAdd, Nat.reduceSub, Nat.zero_add, Nat.add_sub_cancel_left, Nat.add_sub_cancel, Nat.sub_self, spChoose, rNeNil]
      refine ⟨by decide, fun e ne => ⟨ls, sqL_of (same_upd ne _ _ el), sqL_of upd_same, ?_⟩⟩
      have B2 : Bx p H (upd H1 e (.lst [])) := B.trans (.of B.1 (same_upd ne))
      have el2 := same_upd (o := .lst []) ne _ _ el
      have ef2 := same_upd (o := .lst []) ne _ _ ef
      have hlen : ls.length ≤ 1000 := by have := pm.length_eq; rw [List.length_append] at this; omega
      have hlen2 : fs.length ≤ 1000 := by have := pm.length_eq; rw [List.length_append] at this; omega
      cases ls with
      | nil =>
        simp only [and_assoc, tSeq, tAsg, tOp, tUn, rI, rI0, rU, tVar, tC, gName, L2.start, tIfS, tTest, tB, tCB, tCons, tNil, tIf, tRet, tRetN, tLst, tTup, tNext, tDrop, tNot, tNotV, tAnd, tOr, tAndV, tOrV, tPar, tAug, ipI, rEq, rNe, gSub, rSetL, rIxL, rIxT, tBM, tBM0, rAppend, rPopAt, gTup, gCons, gNil, tCall, tSl, tPart, tNoPart, rSlL, rCat, rEqD, rNeD, rIn, scal, List.map_cons, List.map_nil, List.length_cons, List.length_nil, List.length_map, List.cons_append, List.nil_append, List.append_nil, List.replicate, List.getElem?_cons_zero, List.getElem?_cons_succ, List.set_cons_zero, List.set_cons_succ, Option.some.injEq, exists_eq_left', exists_eq_left, exists_eq_right, exists_and_left, exists_and_right, V.int.injEq, V.ref.injEq, V.str.injEq, V.bl.injEq, reduceCtorEq, false_and, and_false, exists_false, or_false, false_or, true_and, and_true, List.cons.injEq, decide_eq_true_eq, cxOf, if_true, if_false, Bool.false_eq_true, Nat.reduceAdd, Nat.reduceSub, Nat.zero_add, Nat.add_sub_cancel_left, Nat.add_sub_cancel, Nat.sub_self, List.isEmpty_nil, Bool.not_true]
        have e2 := B2
        refine q fs f _ B2 (by simpa using pm) nf0 ef2
      | cons y ys =>
        simp only [and_assoc, tSeq, tAsg, tOp, tUn, rI, rI0, rU, tVar, tC, gName, L2.start, tIfS, tTest, tB, tCB, tCons, tNil, tIf, tRet, tRetN, tLst, tTup, tNext, tDrop, tNot, tNotV, tAnd, tOr, tAndV, tOrV, tPar, tAug, ipI, rEq, rNe, gSub, rSetL, rIxL, rIxT, tBM, tBM0, rAppend, rPopAt, gTup, gCons, gNil, tCall, tSl, tPart, tNoPart, rSlL, rCat, rEqD, rNeD, rIn, scal, List.map_cons, List.map_nil, List.length_cons, List.length_nil, List.length_map, List.cons_append, List.nil_append, List.append_nil, List.replicate, List.getElem?_cons_zero, List.getElem?_cons_succ, List.set_cons_zero, List.set_cons_succ, Option.some.injEq, exists_eq_left', exists_eq_left, exists_eq_right, exists_and_left, exists_and_right, V.int.injEq, V.ref.injEq, V.str.injEq, V.bl.injEq, reduceCtorEq, false_and, and_false, exists_false, or_false, false_or, true_and, and_true, List.cons.injEq, decide_eq_true_eq, cxOf, if_true, if_false, Bool.false_eq_true, Nat.reduceAdd, Nat.reduceSub, Nat.zero_add, Nat.add_sub_cancel_left, Nat.add_sub_cancel, Nat.sub_self, List.isEmpty_cons, Bool.not_false]
        refine ⟨.inl ⟨rfl, _, sqL_of ef2⟩, .inl ⟨rfl, _, sqL_of el2⟩, _, sqL_of el2, B2.1, by rw [List.length_cons]; omega, by omega, fun r H3 B3 r0 r1 => ?_⟩
        have el3 := B3.get lp el2
        have ef3 := B3.get fp ef2
        obtain ⟨j, rfl⟩ : ∃ j : Nat, r = (j : Int) := ⟨r.toNat, by omega⟩
        have hj : j < (y :: ys).length := by omega
        refine ⟨_, el3, by omega, by omega, j, ?_, _, List.getElem?_eq_getElem hj, fs, by rw [upd_ne fl]; exact ef3, small1000 hlen2, ((B2.trans B3).mut nl lp).mut nf0 fp, ?_, ?_⟩
        · have := seqIndex_of (k := (j : Int)) (n := (y :: ys).length) (by omega) (by omega)
          rw [this, Int.toNat_natCast]
        · exact ⟨_, by rw [upd_ne fl.symm, upd_same], _, upd_same, perm_pop (List.getElem?_eq_getElem hj) pm⟩
        · rw [lenAt_of el, lenAt_of (xs := (y :: ys).eraseIdx j) (by rw [upd_ne fl.symm, upd_same]), List.length_eraseIdx, if_pos hj]
          exact Nat.sub_lt (by rw [List.length_cons]; omega) (by decide)
    · intro σ H1 Q1 Q2 hQ h
      simp only [and_assoc, tSeq, tAsg, tOp, tUn, rI, rI0, rU, tVar, tC, gName, L2.start, tIfS, tTest, tB, tCB, tCons, tNil, tIf, tRet, tRetN, tLst, tTup, tNext, tDrop, tNot, tNotV, tAnd, tOr, tAndV, tOrV, tPar, tAug, ipI, rEq, rNe, gSub, rSetL, rIxL, rIxT, tBM, tBM0, rAppend, rPopAt, gTup, gCons, gNil, tCall, tSl, tPart, tNoPart, rSlL, rCat, rEqD, rNeD, rIn, scal, List.map_cons, List.map_nil, List.length_cons, List.length_nil, List.length_map, List.cons_append, List.nil_append, List.append_nil, List.replicate, List.getElem?_cons_zero, List.getElem?_cons_succ, List.set_cons_zero, List.set_cons_succ, Option.some.injEq, exists_eq_left', exists_eq_left, exists_eq_right, exists_and_left, exists_and_right, V.int.injEq, V.ref.injEq, V.str.injEq, V.bl.injEq, reduceCtorEq, false_and, and_false, exists_false, or_false, false_or, true_and, and_true, List.cons.injEq, decide_eq_true_eq, cxOf, if_true, if_false, Bool.false_eq_true, Nat.reduceAdd, Nat.reduceSub, Nat.zero_add, Nat.add_sub_cancel_left, Nat.add_sub_cancel, Nat.sub_self, rNeNil] at h ⊢
      obtain ⟨v, hv, hz, k⟩ := h
      exact ⟨v, hv, hz, fun e he => let ⟨l, e1, x, a, b, c⟩ := k e he; ⟨l, e1, x, a, b, hQ _ _ c⟩⟩

end
end He

namespace He
open PySem PySem.Spec PyProof.Rows L2
section
variable {P : Program} {w : World} {K : PySem.W.Frag} {mg : Str → Option Value} {base : Heap}

theorem Bx.new {p b : Addr} {H H' : Hp} (B : Bx p H H') (h : H' b = none) : H b = none := by
  cases e : H b with
  | none => rfl
  | some o =>
    have hb : b ≠ p := fun z => by
      obtain ⟨_, _, e2, _⟩ := B.1
      rw [z, e2] at h
      cases h
    rw [B.get hb e] at h
    cases h
theorem Bx.ne {p b : Addr} {H H' : Hp} (B : Bx p H H') (hb : Box H p) (h : H' b = none) : b ≠ p := fun z => by
  obtain ⟨_, _, e2, _⟩ := B.1
  rw [z, e2] at h
  cases h

mutual
theorem dp_mono {K : PySem.W.Frag} {H H' : Hp} (s : Same H H') : ∀ (d : PyData) (v : V), Dp K H v d → Dp K H' v d
  | .none, _, h => by cases h; exact .non
  | .bool b, _, h => by cases h; exact .bl b
  | .int i, _, h => by cases h; exact .int i
  | .str x, _, h => by cases h; exact .str x
  | .list ds, _, h => by
    cases h with
    | lst hs ha => exact .lst (s.seq hs) (dpA_mono s ds _ ha)
  | .tuple ds, _, h => by
    cases h with
    | tup hs ha => exact .tup (Same.seqT s hs) (dpA_mono s ds _ ha)
  | .dict _, _, h => by cases h
theorem dpA_mono {K : PySem.W.Frag} {H H' : Hp} (s : Same H H') : ∀ (ds : List PyData) (vs : List V), DpAll K H vs ds → DpAll K H' vs ds
  | [], _, h => by cases h; exact .nil
  | d :: ds, _, h => by
    cases h with
    | cons a b => exact .cons (dp_mono s d _ a) (dpA_mono s ds _ b)
end
theorem dpA_append {K : PySem.W.Frag} {H : Hp} : ∀ {vs ws : List V} {ds es : List PyData}, DpAll K H vs ds → DpAll K H ws es → DpAll K H (vs ++ ws) (ds ++ es)
  | [], _, _, _, .nil, h => h
  | _ :: _, _, _, _, .cons a b, h => .cons a (dpA_append b h)
theorem dpA_len {K : PySem.W.Frag} {H : Hp} : ∀ {vs : List V} {ds : List PyData}, DpAll K H vs ds → vs.length = ds.length
  | [], _, .nil => rfl
  | _ :: _, _, .cons _ b => congrArg (· + 1) (dpA_len b)
theorem dpA_strs {K : PySem.W.Frag} {H : Hp} : ∀ zs : List Str, DpAll K H (zs.map V.str) (zs.map PyData.str)
  | [] => .nil
  | z :: zs => .cons (.str z) (dpA_strs zs)
theorem dpA_strs_inv {K : PySem.W.Frag} {H : Hp} : ∀ {zs : List Str} {vs : List V}, DpAll K H vs (zs.map PyData.str) → vs = zs.map V.str
  | [], _, h => by cases h; rfl
  | z :: zs, _, h => by
    cases h with
    | cons a b =>
      cases a
      rw [dpA_strs_inv b]
      rfl
theorem dpA_get {K : PySem.W.Frag} {H : Hp} : ∀ {vs : List V} {ds : List PyData} {i : Nat} {v : V}, DpAll K H vs ds → vs[i]? = some v → ∃ d, ds[i]? = some d ∧ Dp K H v d
  | _, _, i, _, .nil, e => by simp at e
  | _, _, 0, _, .cons a _, e => by
    cases (Option.some.inj e)
    exact ⟨_, rfl, a⟩
  | _, _, i + 1, _, .cons _ b, e => dpA_get (i := i) b e
/-! ### names, groups, shares -/
def nameB (x : Str) : Bool := decide (1 ≤ x.cps.size) && decide (x.cps.size ≤ 5) && x.cps.all (fun c => decide (97 ≤ c) && decide (c ≤ 122)) && decide (x ≠ "crown")
abbrev Sh := Int × List (List Str)
structure GrpOk (g : List Str) : Prop where
  ne : g ≠ []
  nd : g.Nodup
  nm : ∀ n ∈ g, nameB n = true
structure ShOk (s : Sh) : Prop where
  w1 : 1 ≤ s.1
  gs : ∀ g ∈ s.2, GrpOk g
structure ShSmall (s : Sh) : Prop where
  w : s.1 ≤ 999999
  l : s.2.length ≤ 3
  g : ∀ g ∈ s.2, g.length ≤ 3
def dGrp (g : List Str) : PyData := .list (g.map PyData.str)
def dSh (s : Sh) : PyData := .tuple [.int s.1, .list (s.2.map dGrp)]
def dWill (shs : List Sh) : PyData := .list (shs.map dSh)
/-! ### pools of names -/
def pools : List (List Str) := [["ann", "bob", "cid", "dan", "eve", "fay", "gus", "hal", "ida"], ["a", "aa", "ab", "b", "ba", "c", "d", "e", "f"], ["first", "will", "crow", "zoe", "x", "y", "z", "yy", "own"]]
structure Names (ns : List Str) : Prop where
  nd : ns.Nodup
  nm : ∀ n ∈ ns, nameB n = true
  pl : ∃ pl ∈ pools, ∀ n ∈ ns, n ∈ pl
theorem pools_ok : ∀ ns ∈ pools, ns.Nodup ∧ (ns.all nameB) = true ∧ ns.length = 9 := by
  decide +kernel
theorem perm_str {ys : List V} {zs : List Str} (h : ys.Perm (zs.map V.str)) : ∃ xs : List Str, ys = xs.map V.str ∧ xs.Perm zs := by
  let un : V → Str := fun v => match v with | .str x => x | _ => Str.empty
  have hu : ∀ l : List Str, (l.map V.str).map un = l := fun l => by
    rw [List.map_map]
    exact (List.map_congr_left fun x _ => rfl).trans (List.map_id l)
  refine ⟨ys.map un, ?_, ?_⟩
  · rw [List.map_map]
    refine ((List.map_congr_left fun x hx => ?_).trans (List.map_id ys)).symm
    obtain ⟨z, _, rfl⟩ := List.mem_map.mp (h.mem_iff.mp hx)
    rfl
  · have := h.map un
    rwa [hu] at this
theorem cut_to (xs : List V) (m : Nat) : cutV xs none (some (m : Int)) = xs.take m := by
  unfold cutV
  rw [HT.sIx_none, HT.sIx_nat, List.drop_zero, Nat.sub_zero]
  by_cases h : m ≤ xs.length
  · rw [Nat.min_eq_left h]
  · rw [Nat.min_eq_right (by omega), List.take_of_length_le (Nat.le_refl _), List.take_of_length_le (by omega)]
/-- so many names of a pool, in some order -/
def spNames (K : PySem.W.Frag) : Sp := fun vs H Q _ => ∃ (p : Addr) (m : Nat), vs = [.ref p, .int (m : Int)] ∧ Box H p ∧ m ≤ 9 ∧
  ∀ (ns : List Str) (r : Addr) (H' : Hp), Bx p H H' → Names ns → ns.length = m → H r = none → H' r = some (.lst (ns.map V.str)) → Q (.ref r) H'
theorem ok_names (T : TxtG K mg) : FnOk P w K mg base CX0 3 T.dLawNames.f T.dLawNames.fd ["_law_box", "_law_many"] (spNames K) := by
  refine T.dLawNames.F.ok scDLawNames (fun vs H Q E h => ?_) (fun cdv A outer s H vs Q E hr h => ?_)
  · obtain ⟨p, m, rfl, _⟩ := h
    rfl
  · obtain ⟨p, m, rfl, hb, hm, q⟩ := h
    refine ⟨_, (pss_cons (ps_set (i := 2) scDLawNames.nd rfl (.inl rfl) (pe_lst (pa_cons (pe_lst (pa_cons pe_str (pa_cons pe_str (pa_cons pe_str (pa_cons pe_str (pa_cons pe_str (pa_cons pe_str (pa_cons pe_str (pa_cons pe_str (pa_cons pe_str pa_nil)))))))))) pa_nil)))
      (pss_cons (ps_expr (pe_bm PySem.F.plainAttrs_list PySem.F.slot_list_append PySem.F.type_list_append mt_append (pv 2) (pa_cons (pe_lst (pa_cons pe_str (pa_cons pe_str (pa_cons pe_str (pa_cons pe_str (pa_cons pe_str (pa_cons pe_str (pa_cons pe_str (pa_cons pe_str (pa_cons pe_str pa_nil)))))))))) pa_nil)))
      (pss_cons (ps_expr (pe_bm PySem.F.plainAttrs_list PySem.F.slot_list_append PySem.F.type_list_append mt_append (pv 2) (pa_cons (pe_lst (pa_cons pe_str (pa_cons pe_str (pa_cons pe_str (pa_cons pe_str (pa_cons pe_str (pa_cons pe_str (pa_cons pe_str (pa_cons pe_str (pa_cons pe_str pa_nil)))))))))) pa_nil)))
      (pss_one (ps_ret (pe_slice sl_list (pe_call (ok_mixed T) (hr.mono (by decide)) (by rfl) T.dLawMixed.g T.dLawMixed.F.kp T.dLawMixed.b .nil pass0 (pa_cons (pv 0) (pa_cons (pe_call (ok_oneof T) (hr.mono (by decide)) (by rfl) T.dLawOneOf.g T.dLawOneOf.F.kp T.dLawOneOf.b .nil pass0 (pa_cons (pv 0) (pa_cons (pv 2) pa_nil))) pa_nil))) po_none (po_some (pv 1)))))))), ?_⟩
    simp only [and_assoc, tSeq, tAsg, tOp, tUn, rI, rI0, rU, tVar, tC, gName, L2.start, tIfS, tTest, tB, tCB, tCons, tNil, tIf, tRet, tRetN, tLst, tTup, tNext, tDrop, tNot, tNotV, tAnd, tOr, tAndV, tOrV, tPar, tAug, ipI, rEq, rNe, gSub, rSetL, rIxL, rIxT, tBM, tBM0, rAppend, rPopAt, gTup, gCons, gNil, tCall, tSl, tPart, tNoPart, rSlL, rCat, rEqD, rNeD, rIn, scal, List.map_cons, List.map_nil, List.length_cons, List.length_nil, List.length_map, List.cons_append, List.nil_append, List.append_nil, List.replicate, List.getElem?_cons_zero, List.getElem?_cons_succ, List.set_cons_zero, List.set_cons_succ, Option.some.injEq, exists_eq_left', exists_eq_left, exists_eq_right, exists_and_left, exists_and_right, V.int.injEq, V.ref.injEq, V.str.injEq, V.bl.injEq, reduceCtorEq, false_and, and_false, exists_false, or_false, false_or, true_and, and_true, List.cons.injEq, decide_eq_true_eq, cxOf, if_true, if_false, Bool.false_eq_true, Nat.reduceAdd, Nat.reduceSub, Nat.zero_add, Nat.add_sub_cancel_left, Nat.add_sub_cancel, Nat.sub_self, spMixed, spOneOf]
    obtain ⟨b0, b1, eb, _⟩ := id hb
    refine ⟨by decide, fun a na => ⟨by decide, fun b nb => ?_⟩⟩
    generalize h1 : upd H a _ = H1 at nb ⊢
    have s1 : Same H H1 := h1 ▸ same_upd na
    have f1 : H1 a = some (.lst ((pools.getD 0 []).map V.str)) := h1 ▸ upd_same
    generalize h2 : upd H1 b _ = H2 at ⊢
    have s2 : Same H1 H2 := h2 ▸ same_upd nb
    have f2 : H2 b = some (.lst [.ref a]) := h2 ▸ upd_same
    refine ⟨.inl ⟨rfl, _, sqL_of f2⟩, by decide, fun c nc => ?_⟩
    generalize h3 : upd H2 c _ = H3 at ⊢
    have s3 : Same H2 H3 := h3 ▸ same_upd nc
    have f3 : H3 c = some (.lst ((pools.getD 1 []).map V.str)) := h3 ▸ upd_same
    have g3 := s3 _ _ f2
    refine ⟨_, g3, (by decide : 1 < sizeLine), .inl ⟨rfl, _, sqL_of upd_same⟩, by decide, fun d nd => ?_⟩
    have nb0 : H b = none := s1.free nb
    have nc0 : H c = none := (s1.trans s2).free nc
    have bp : b ≠ p := fun z => by rw [z, eb] at nb0; cases nb0
    have ba : a ≠ b := fun z => by rw [z, nb] at f1; cases f1
    have bc : c ≠ b := fun z => by rw [z, f2] at nc; cases nc
    have ap : a ≠ p := fun z => by rw [z, eb] at na; cases na
    have cp : c ≠ p := fun z => by rw [z, eb] at nc0; cases nc0
    have B3 : Bx p H H3 := .of hb ((s1.trans s2).trans s3)
    generalize h4 : upd H3 b _ = H4 at nd ⊢
    have B4 : Bx p H H4 := h4 ▸ B3.mut nb0 bp
    have fa4 : H4 a = some (.lst ((pools.getD 0 []).map V.str)) := h4 ▸ (upd_ne ba).trans (s3 _ _ (s2 _ _ f1))
    have fc4 : H4 c = some (.lst ((pools.getD 1 []).map V.str)) := h4 ▸ (upd_ne bc).trans f3
    have fb4 : H4 b = some (.lst ([.ref a] ++ [.ref c])) := h4 ▸ upd_same
    generalize h5 : upd H4 d _ = H5 at ⊢
    have s5 : Same H4 H5 := h5 ▸ same_upd nd
    have fd5 : H5 d = some (.lst ((pools.getD 2 []).map V.str)) := h5 ▸ upd_same
    have db : d ≠ b := fun z => by rw [z, fb4] at nd; cases nd
    have dp : d ≠ p := fun z => by
      obtain ⟨_, _, e4, _⟩ := B4.1
      rw [z, e4] at nd; cases nd
    refine ⟨_, s5 _ _ fb4, (by decide : 2 < sizeLine), ?_⟩
    have B5 : Bx p H H5 := B4.trans (.of B4.1 s5)
    generalize h6 : upd H5 b _ = H6 at ⊢
    have B6 : Bx p H H6 := h6 ▸ B5.mut nb0 bp
    have fa6 : hide p H6 a = some (.lst ((pools.getD 0 []).map V.str)) := by rw [hide_ne ap]; exact h6 ▸ (upd_ne ba).trans (s5 _ _ fa4)
    have fc6 : hide p H6 c = some (.lst ((pools.getD 1 []).map V.str)) := by rw [hide_ne cp]; exact h6 ▸ (upd_ne bc).trans (s5 _ _ fc4)
    have fd6 : hide p H6 d = some (.lst ((pools.getD 2 []).map V.str)) := by rw [hide_ne dp]; exact h6 ▸ (upd_ne db).trans fd5
    have fb6 : hide p H6 b = some (.lst ([.ref a] ++ [.ref c] ++ [.ref d])) := by rw [hide_ne bp]; exact h6 ▸ upd_same
    refine ⟨B6.1, _, sqL_of fb6, (by decide : 0 < 3), (by decide : 3 ≤ 1000), fun i v H7 B7 hi => ?_⟩
    obtain ⟨a', pl, rfl, hp, f7⟩ : ∃ a' pl, v = .ref a' ∧ pl ∈ pools ∧ hide p H7 a' = some (.lst (pl.map V.str)) := by
      match i, hi with
      | 0, hi => exact ⟨a, _, (Option.some.inj hi).symm, by decide, B7.2 _ _ fa6⟩
      | 1, hi => exact ⟨c, _, (Option.some.inj hi).symm, by decide, B7.2 _ _ fc6⟩
      | 2, hi => exact ⟨d, _, (Option.some.inj hi).symm, by decide, B7.2 _ _ fd6⟩
      | i + 3, hi => exact absurd hi (by simp)
    obtain ⟨n1, n2, n3⟩ := pools_ok pl hp
    refine ⟨a', rfl, B7.1, pl.map V.str, sqL_of f7, by rw [List.length_map, n3]; decide, fun ys r H8 B8 pm nr er => ⟨_, sqL_of er, fun t nt => ?_⟩⟩
    obtain ⟨xs, rfl, pm2⟩ := perm_str pm
    have B80 := (B6.trans B7).trans B8
    have nt0 : H t = none := B80.new nt
    refine q (xs.take m) t _ (B80.mut nt0 (B80.ne hb nt)) ⟨(pm2.nodup_iff.mpr n1).sublist (List.take_sublist _ _), fun n hn => ?_, ⟨pl, hp, fun n hn => pm2.mem_iff.mp (List.mem_of_mem_take hn)⟩⟩ ?_ nt0 ?_
    · exact List.all_eq_true.mp n2 n (pm2.mem_iff.mp (List.mem_of_mem_take hn))
    · rw [List.length_take, pm2.length_eq, n3]
      omega
    · rw [upd_same, cut_to, List.map_take]
end
end He


namespace He
open PySem PySem.Spec PyProof.Rows L2
section
variable {P : Program} {w : World} {K : PySem.W.Frag} {mg : Str → Option Value} {base : Heap}

/-! ### loops and comprehensions, the walked thing apart -/
def ForGoes (J : It) (g : TG) (tb : TS) (D : Ends) (σ : L2.St) (H1 : Hp) : Prop := ∃ W : Nat → Nat → L2.St → Hp → Prop, (∃ m, W 0 m σ H1) ∧ ∀ i m σ H, W i m σ H →
  (J.stop i H ∧ D.nx σ H) ∨ (J.go i H ∧ ∃ N : L2.St → Hp → Prop, (∀ σ' H', N σ' H' → ∃ m', m' < m ∧ W (i + 1) m' σ' H') ∧ ∀ x H', J.yld i H x H' → g x σ H' fun σ2 H2 => tb { D with nx := N, ct := N, bk := D.nx } σ2 H2)
theorem tFor_eq (wi : TI) (g : TG) (tb : TS) (D : Ends) (σ : L2.St) (H : Hp) : tFor wi g tb D σ H = wi σ H (fun J H1 => ForGoes J g tb D σ H1) := rfl
theorem fg_range {lo : Int} {n : Nat} {g : TG} {tb : TS} {D : Ends} {σ : L2.St} {H : Hp} (Pv : Nat → L2.St → Hp → Prop) (h0 : Pv 0 σ H)
    (hs : ∀ i σ H, i < n → Pv i σ H → g (.int (lo + i)) σ H fun σ2 H2 => tb { D with nx := Pv (i + 1), ct := Pv (i + 1), bk := D.nx } σ2 H2) (hd : ∀ σ H, Pv n σ H → D.nx σ H) : ForGoes (Itr lo n) g tb D σ H := for_range Pv h0 hs hd
theorem fg_list {a : Addr} {xs : List V} {g : TG} {tb : TS} {D : Ends} {σ : L2.St} {H : Hp} (Pv : Nat → L2.St → Hp → Prop) (h0 : Pv 0 σ H) (hl : ∀ i σ H, i ≤ xs.length → Pv i σ H → SqL K H a xs)
    (hs : ∀ i x σ H, xs[i]? = some x → Pv i σ H → g x σ H fun σ2 H2 => tb { D with nx := Pv (i + 1), ct := Pv (i + 1), bk := D.nx } σ2 H2) (hd : ∀ σ H, Pv xs.length σ H → D.nx σ H) : ForGoes (Itl K a) g tb D σ H := for_list Pv h0 hl hs hd
theorem fg_tup {a : Addr} {xs : List V} {g : TG} {tb : TS} {D : Ends} {σ : L2.St} {H : Hp} (Pv : Nat → L2.St → Hp → Prop) (h0 : Pv 0 σ H) (hl : ∀ i σ H, i ≤ xs.length → Pv i σ H → SqT K H a xs)
    (hs : ∀ i x σ H, xs[i]? = some x → Pv i σ H → g x σ H fun σ2 H2 => tb { D with nx := Pv (i + 1), ct := Pv (i + 1), bk := D.nx } σ2 H2) (hd : ∀ σ H, Pv xs.length σ H → D.nx σ H) : ForGoes (Itt K a) g tb D σ H := for_tup Pv h0 hl hs hd
def LcGoes (J : It) (g : TG) (tt : TT) (te : TE) (vs : List Nat) (σ : L2.St) (H1 : Hp) (D : Addr) (Q : Hp → Prop) : Prop := ∃ W : Nat → Nat → Hp → Prop, (∃ m, W 0 m (upd H1 D (.lst []))) ∧ ∀ i m H, W i m H →
  (J.stop i H ∧ Q H) ∨ (J.go i H ∧ ∃ Nx : Hp → Prop, (∀ H', Nx H' → ∃ m', m' < m ∧ W (i + 1) m' H') ∧ ∀ x H', J.yld i H x H' → g x (wipe σ vs) H' fun σ2 H2 => wipe σ2 vs = wipe σ vs ∧ tt σ2 H2 fun b H3 =>
    if b = true then te σ2 H3 fun y H4 => ∃ acc, H4 D = some (.lst acc) ∧ acc.length < sizeLine ∧ Nx (upd H4 D (.lst (acc ++ [y]))) else Nx H3)
theorem tLc_eq (wi : TI) (g : TG) (tt : TT) (te : TE) (vs : List Nat) (σ : L2.St) (H : Hp) (Q : VK) : tLc wi g tt te vs σ H Q = wi σ H (fun J H1 => ∀ D, H1 D = none → LcGoes J g tt te vs σ H1 D (fun H => Q (.ref D) H)) := rfl
theorem lg_range {lo : Int} {n : Nat} {g : TG} {tt : TT} {te : TE} {vs : List Nat} {σ : L2.St} {H1 : Hp} {D : Addr} {Qd : Hp → Prop} (Pv : Nat → Hp → Prop) (h0 : Pv 0 (upd H1 D (.lst [])))
    (hs : ∀ i H, i < n → Pv i H → g (.int (lo + i)) (wipe σ vs) H fun σ2 H2 => wipe σ2 vs = wipe σ vs ∧ tt σ2 H2 fun b H3 =>
      if b = true then te σ2 H3 fun y H4 => ∃ acc, H4 D = some (.lst acc) ∧ acc.length < sizeLine ∧ Pv (i + 1) (upd H4 D (.lst (acc ++ [y]))) else Pv (i + 1) H3) (hd : ∀ H, Pv n H → Qd H) : LcGoes (Itr lo n) g tt te vs σ H1 D Qd := lc_range Pv h0 hs hd
theorem lg_list {a : Addr} {xs : List V} {g : TG} {tt : TT} {te : TE} {vs : List Nat} {σ : L2.St} {H1 : Hp} {D : Addr} {Qd : Hp → Prop} (Pv : Nat → Hp → Prop) (h0 : Pv 0 (upd H1 D (.lst []))) (hl : ∀ i H, i ≤ xs.length → Pv i H → SqL K H a xs)
    (hs : ∀ i x H, xs[i]? = some x → Pv i H → g x (wipe σ vs) H fun σ2 H2 => wipe σ2 vs = wipe σ vs ∧ tt σ2 H2 fun b H3 =>
      if b = true then te σ2 H3 fun y H4 => ∃ acc, H4 D = some (.lst acc) ∧ acc.length < sizeLine ∧ Pv (i + 1) (upd H4 D (.lst (acc ++ [y]))) else Pv (i + 1) H3) (hd : ∀ H, Pv xs.length H → Qd H) : LcGoes (Itl K a) g tt te vs σ H1 D Qd := lc_list Pv h0 hl hs hd
theorem lg_tup {a : Addr} {xs : List V} {g : TG} {tt : TT} {te : TE} {vs : List Nat} {σ : L2.St} {H1 : Hp} {D : Addr} {Qd : Hp → Prop} (Pv : Nat → Hp → Prop) (h0 : Pv 0 (upd H1 D (.lst []))) (hl : ∀ i H, i ≤ xs.length → Pv i H → SqT K H a xs)
    (hs : ∀ i x H, xs[i]? = some x → Pv i H → g x (wipe σ vs) H fun σ2 H2 => wipe σ2 vs = wipe σ vs ∧ tt σ2 H2 fun b H3 =>
      if b = true then te σ2 H3 fun y H4 => ∃ acc, H4 D = some (.lst acc) ∧ acc.length < sizeLine ∧ Pv (i + 1) (upd H4 D (.lst (acc ++ [y]))) else Pv (i + 1) H3) (hd : ∀ H, Pv xs.length H → Qd H) : LcGoes (Itt K a) g tt te vs σ H1 D Qd := lc_tup Pv h0 hl hs hd
/-! ### a will, drawn -/
structure WillOk (ns : List Str) (shs : List Sh) : Prop where
  ne : shs ≠ []
  l3 : shs.length ≤ 3
  ok : ∀ s ∈ shs, ShOk s ∧ ShSmall s ∧ ∀ g ∈ s.2, ∀ n ∈ g, n ∈ ns
theorem hide_mut {p f : Addr} {H : Hp} {o : HO} : Same (hide f (hide p H)) (hide f (hide p (upd H f o))) := fun b u e => by
  have hb : b ≠ f := fun z => by rw [z, hide_self] at e; cases e
  rw [hide_ne hb] at e ⊢
  by_cases hp : b = p
  · rw [hp, hide_self] at e
    cases e
  · rw [hide_ne hp] at e ⊢
    rw [upd_ne hb]
    exact e
theorem hide_mut3 {p f d : Addr} {H : Hp} {o : HO} : Same (hide d (hide f (hide p H))) (hide d (hide f (hide p (upd H d o)))) := fun b u e => by
  have hb : b ≠ d := fun z => by rw [z, hide_self] at e; cases e
  rw [hide_ne hb] at e ⊢
  unfold hide at e ⊢
  rw [upd_ne hb]
  exact e
end
end He


namespace He
open PySem PySem.Spec PyProof.Rows L2
theorem tab_alpha : ((List.range 128).all fun c => Unicode.isAlpha c == ((decide (65 ≤ c) && decide (c ≤ 90)) || (decide (97 ≤ c) && decide (c ≤ 122)))) = true := by decide +kernel
theorem tab_lower : ((List.range 128).all fun c => Unicode.isLower c == (decide (97 ≤ c) && decide (c ≤ 122))) = true := by decide +kernel
theorem tab_upper : ((List.range 128).all fun c => (Unicode.isUpper c || Unicode.isTitle c) == (decide (65 ≤ c) && decide (c ≤ 90))) = true := by decide +kernel
theorem at_tab {f g : Nat → Bool} (h : ((List.range 128).all fun c => f c == g c) = true) {c : Nat} (hc : c < 128) : f c = g c := eq_of_beq (List.all_eq_true.mp h c (List.mem_range.mpr hc))
theorem lower_eq (l : List Nat) : (l.all (fun c => decide (c < 128)) && ((decide (l.length > 0) && l.all Unicode.isAlpha) && (l.any Unicode.isLower && !l.any fun c => Unicode.isUpper c || Unicode.isTitle c))) = (decide (1 ≤ l.length) && l.all fun c => decide (97 ≤ c) && decide (c ≤ 122)) := by
  rw [Bool.eq_iff_iff]
  simp only [Bool.and_eq_true, List.all_eq_true, decide_eq_true_eq, List.any_eq_true, Bool.not_eq_true', List.any_eq_false]
  constructor
  · rintro ⟨h1, ⟨h2, h3⟩, h4, h5⟩
    refine ⟨h2, fun c hc => ?_⟩
    have a := at_tab tab_alpha (h1 c hc)
    have u := at_tab tab_upper (h1 c hc)
    have nu := h5 c hc
    rw [h3 c hc] at a
    rw [Bool.not_eq_true] at nu
    rw [nu] at u
    simp at a u
    omega
  · rintro ⟨h1, h2⟩
    have lt : ∀ c ∈ l, c < 128 := fun c hc => by have := h2 c hc; omega
    refine ⟨lt, ⟨h1, fun c hc => ?_⟩, ?_, fun c hc => ?_⟩
    · rw [at_tab tab_alpha (lt c hc)]
      have := h2 c hc
      simp
      omega
    · obtain ⟨c, hc⟩ := List.exists_mem_of_length_pos h1
      refine ⟨c, hc, ?_⟩
      rw [at_tab tab_lower (lt c hc)]
      have := h2 c hc
      simp
      omega
    · have u := at_tab tab_upper (lt c hc)
      have := h2 c hc
      rw [u]
      simp
      omega
/-- what the program asks of a name is what a name is -/
theorem name_eq (x : Str) : (decide (x.length ≤ 5) && decide (x ≠ "crown") && (Txt.isascii x && (Txt.isalpha x && Txt.islower x))) = nameB x := by
  have h := lower_eq x.cps.toList
  have e1 : Txt.isascii x = x.cps.toList.all (fun c => decide (c < 128)) := by unfold Txt.isascii; rw [Array.all_toList]
  have e2 : Txt.isalpha x = (decide (x.cps.toList.length > 0) && x.cps.toList.all Unicode.isAlpha) := by unfold Txt.isalpha; rw [Array.all_toList, Array.length_toList]; rfl
  have e3 : Txt.islower x = (x.cps.toList.any Unicode.isLower && !x.cps.toList.any fun c => Unicode.isUpper c || Unicode.isTitle c) := by unfold Txt.islower; rw [Array.any_toList, Array.any_toList]
  rw [e1, e2, e3, h]
  unfold nameB
  rw [Array.all_toList, Array.length_toList]
  show (decide (x.cps.size ≤ 5) && _ && _) = _
  cases decide (x.cps.size ≤ 5) <;> cases decide (x ≠ "crown") <;> cases decide (1 ≤ x.cps.size) <;> simp
end He

namespace He
open PySem PySem.Spec PyProof.Rows L2
section
variable {P : Program} {w : World} {K : PySem.W.Frag} {mg : Str → Option Value} {base : Heap}

/-! ### any value at all: data, and instances of the program's own classes -/
inductive AD where
  | non | bl (b : Bool) | int (i : Int) | str (x : Str) | lst (ds : List AD) | tup (ds : List AD) | ins (C : Addr)
mutual
inductive Av (K : PySem.W.Frag) (H : Hp) : V → AD → Prop
  | non : Av K H .non .non
  | bl (b : Bool) : Av K H (.bl b) (.bl b)
  | int (i : Int) : Av K H (.int i) (.int i)
  | str (x : Str) : Av K H (.str x) (.str x)
  | lst {a : Addr} {xs : List V} {ds : List AD} : SqL K H a xs → AvAll K H xs ds → Av K H (.ref a) (.lst ds)
  | tup {a : Addr} {xs : List V} {ds : List AD} : SqT K H a xs → AvAll K H xs ds → Av K H (.ref a) (.tup ds)
  | ins {a C dx : Addr} {fs : List (Str × V)} : H a = some (.ins C dx fs) → TyOf K H (.ref a) (.ref C) → Av K H (.ref a) (.ins C)
inductive AvAll (K : PySem.W.Frag) (H : Hp) : List V → List AD → Prop
  | nil : AvAll K H [] []
  | cons {v : V} {vs : List V} {d : AD} {ds : List AD} : Av K H v d → AvAll K H vs ds → AvAll K H (v :: vs) (d :: ds)
end
theorem tyOf_mono {H H' : Hp} (s : Same H H') {v : V} {t : Value} (h : TyOf K H v t) : TyOf K H' v t := by
  cases h with
  | non => exact .non
  | bl b => exact .bl b
  | int i => exact .int i
  | str x => exact .str x
  | flt x => exact .flt x
  | lst e => exact .lst (s _ _ e)
  | frz e => exact .frz (s _ _ e)
  | tup e => exact .tup (s _ _ e)
  | dK e => exact .dK (s _ _ e)
  | dT e => exact .dT (s _ _ e)
  | ins e cl ha hn htk hm => exact .ins (s _ _ e) cl ha hn htk hm
mutual
theorem av_mono {K : PySem.W.Frag} {H H' : Hp} (s : Same H H') : ∀ (d : AD) (v : V), Av K H v d → Av K H' v d
  | .non, _, h => by cases h; exact .non
  | .bl b, _, h => by cases h; exact .bl b
  | .int i, _, h => by cases h; exact .int i
  | .str x, _, h => by cases h; exact .str x
  | .lst ds, _, h => by
    cases h with
    | lst hs ha => exact .lst (s.seq hs) (avA_mono s ds _ ha)
  | .tup ds, _, h => by
    cases h with
    | tup hs ha => exact .tup (Same.seqT s hs) (avA_mono s ds _ ha)
  | .ins C, _, h => by
    cases h with
    | ins e t => exact .ins (s _ _ e) (tyOf_mono s t)
theorem avA_mono {K : PySem.W.Frag} {H H' : Hp} (s : Same H H') : ∀ (ds : List AD) (vs : List V), AvAll K H vs ds → AvAll K H' vs ds
  | [], _, h => by cases h; exact .nil
  | d :: ds, _, h => by
    cases h with
    | cons a b => exact .cons (av_mono s d _ a) (avA_mono s ds _ b)
end
theorem avA_len {H : Hp} : ∀ {vs : List V} {ds : List AD}, AvAll K H vs ds → vs.length = ds.length
  | [], _, .nil => rfl
  | _ :: _, _, .cons _ b => congrArg (· + 1) (avA_len b)
theorem avA_get {H : Hp} : ∀ {vs : List V} {ds : List AD} {i : Nat} {v : V}, AvAll K H vs ds → vs[i]? = some v → ∃ d, ds[i]? = some d ∧ Av K H v d
  | _, _, i, _, .nil, e => by simp at e
  | _, _, 0, _, .cons a _, e => by
    cases (Option.some.inj e)
    exact ⟨_, rfl, a⟩
  | _, _, i + 1, _, .cons _ b, e => avA_get (i := i) b e
mutual
/-- plain data as any value -/
def ad : PyData → AD
  | .none => .non
  | .bool b => .bl b
  | .int i => .int i
  | .str x => .str x
  | .list ds => .lst (adA ds)
  | .tuple ds => .tup (adA ds)
  | .dict _ => .non
def adA : List PyData → List AD
  | [] => []
  | d :: ds => ad d :: adA ds
end
theorem adA_map (ds : List PyData) : adA ds = ds.map ad := by
  induction ds with
  | nil => rfl
  | cons d ds ih => show ad d :: adA ds = _; rw [ih]; rfl
mutual
theorem av_of {K : PySem.W.Frag} {H : Hp} : ∀ (d : PyData) (v : V), Dp K H v d → Av K H v (ad d)
  | .none, _, h => by cases h; exact .non
  | .bool b, _, h => by cases h; exact .bl b
  | .int i, _, h => by cases h; exact .int i
  | .str x, _, h => by cases h; exact .str x
  | .list ds, _, h => by
    cases h with
    | lst hs ha => exact .lst hs (avA_of ds _ ha)
  | .tuple ds, _, h => by
    cases h with
    | tup hs ha => exact .tup hs (avA_of ds _ ha)
  | .dict _, _, h => by cases h
theorem avA_of {K : PySem.W.Frag} {H : Hp} : ∀ (ds : List PyData) (vs : List V), DpAll K H vs ds → AvAll K H vs (adA ds)
  | [], _, h => by cases h; exact .nil
  | d :: ds, _, h => by
    cases h with
    | cons a b => exact .cons (av_of d _ a) (avA_of ds _ b)
end
/-! ### isinstance of any value -/
def tyA : AD → Value
  | .non => .type "NoneType"
  | .bl _ => .type "bool"
  | .int _ => .type "int"
  | .str _ => .type "str"
  | .lst _ => .type "list"
  | .tup _ => .type "tuple"
  | .ins C => .ref C
theorem av_ty {H : Hp} {v : V} {d : AD} (h : Av K H v d) : TyX K H v (tyA d) := by
  cases h with
  | non => exact .base .non
  | bl b => exact .base (.bl b)
  | int i => exact .base (.int i)
  | str x => exact .base (.str x)
  | lst hs ha =>
    rcases hs with (h | ⟨o, h⟩) | ⟨o, its, n, h, c, _⟩
    · exact .base (.lst h)
    · exact .base (.frz h)
    · exact .kList h c
  | tup hs ha =>
    rcases hs with (h | ⟨o, h⟩) | ⟨o, its, n, h, c, _⟩
    · exact .base (.tup h)
    · exact .fTuple h
    · exact .kTuple h c
  | ins e t => exact .base t
/-- of an own class of the program nothing built in -/
structure NoBuilt (K : PySem.W.Frag) (C : Addr) : Prop where
  i : PySem.W.kitOne K (.ref C) (.type "int") = some false
  s : PySem.W.kitOne K (.ref C) (.type "str") = some false
  l : PySem.W.kitOne K (.ref C) (.type "list") = some false
  t : PySem.W.kitOne K (.ref C) (.type "tuple") = some false
mutual
/-- each instance is of such a class -/
def AdOk (K : PySem.W.Frag) : AD → Prop
  | .ins C => NoBuilt K C
  | .lst ds => ds.length < 4000 ∧ AdOkA K ds
  | .tup ds => ds.length < 4000 ∧ AdOkA K ds
  | .str x => x.length ≤ sizeLine
  | _ => True
def AdOkA (K : PySem.W.Frag) : List AD → Prop
  | [] => True
  | d :: ds => AdOk K d ∧ AdOkA K ds
end
def isStrA : AD → Bool | .str _ => true | _ => false
def isIntT : AD → Bool | .int _ => true | .bl _ => true | _ => false
def isBoolA : AD → Bool | .bl _ => true | _ => false
def isIntA : AD → Bool | .int _ => true | _ => false
def isLstA : AD → Bool | .lst _ => true | _ => false
def isTupA : AD → Bool | .tup _ => true | _ => false
def isSeqA : AD → Bool | .lst _ => true | .tup _ => true | _ => false
def isPairA : AD → Bool | .tup [_, _] => true | _ => false
theorem kit_int : ∀ {d : AD}, AdOk K d → PySem.W.kitOne K (tyA d) (.type "int") = some (isIntT d)
  | .non, _ => (kit_ty (by decide +kernel) : PySem.W.kitOne K (.type "NoneType") (.type "int") = some false)
  | .bl _, _ => (kit_ty (by decide +kernel) : PySem.W.kitOne K (.type "bool") (.type "int") = some true)
  | .int _, _ => (kit_ty (by decide +kernel) : PySem.W.kitOne K (.type "int") (.type "int") = some true)
  | .str _, _ => (kit_ty (by decide +kernel) : PySem.W.kitOne K (.type "str") (.type "int") = some false)
  | .lst _, _ => (kit_ty (by decide +kernel) : PySem.W.kitOne K (.type "list") (.type "int") = some false)
  | .tup _, _ => (kit_ty (by decide +kernel) : PySem.W.kitOne K (.type "tuple") (.type "int") = some false)
  | .ins _, h => NoBuilt.i h
theorem kit_str : ∀ {d : AD}, AdOk K d → PySem.W.kitOne K (tyA d) (.type "str") = some (isStrA d)
  | .non, _ => (kit_ty (by decide +kernel) : PySem.W.kitOne K (.type "NoneType") (.type "str") = some false)
  | .bl _, _ => (kit_ty (by decide +kernel) : PySem.W.kitOne K (.type "bool") (.type "str") = some false)
  | .int _, _ => (kit_ty (by decide +kernel) : PySem.W.kitOne K (.type "int") (.type "str") = some false)
  | .str _, _ => (kit_ty (by decide +kernel) : PySem.W.kitOne K (.type "str") (.type "str") = some true)
  | .lst _, _ => (kit_ty (by decide +kernel) : PySem.W.kitOne K (.type "list") (.type "str") = some false)
  | .tup _, _ => (kit_ty (by decide +kernel) : PySem.W.kitOne K (.type "tuple") (.type "str") = some false)
  | .ins _, h => NoBuilt.s h
theorem kit_lst : ∀ {d : AD}, AdOk K d → PySem.W.kitOne K (tyA d) (.type "list") = some (isLstA d)
  | .non, _ => (kit_ty (by decide +kernel) : PySem.W.kitOne K (.type "NoneType") (.type "list") = some false)
  | .bl _, _ => (kit_ty (by decide +kernel) : PySem.W.kitOne K (.type "bool") (.type "list") = some false)
  | .int _, _ => (kit_ty (by decide +kernel) : PySem.W.kitOne K (.type "int") (.type "list") = some false)
  | .str _, _ => (kit_ty (by decide +kernel) : PySem.W.kitOne K (.type "str") (.type "list") = some false)
  | .lst _, _ => (kit_ty (by decide +kernel) : PySem.W.kitOne K (.type "list") (.type "list") = some true)
  | .tup _, _ => (kit_ty (by decide +kernel) : PySem.W.kitOne K (.type "tuple") (.type "list") = some false)
  | .ins _, h => NoBuilt.l h
theorem kit_tup : ∀ {d : AD}, AdOk K d → PySem.W.kitOne K (tyA d) (.type "tuple") = some (isTupA d)
  | .non, _ => (kit_ty (by decide +kernel) : PySem.W.kitOne K (.type "NoneType") (.type "tuple") = some false)
  | .bl _, _ => (kit_ty (by decide +kernel) : PySem.W.kitOne K (.type "bool") (.type "tuple") = some false)
  | .int _, _ => (kit_ty (by decide +kernel) : PySem.W.kitOne K (.type "int") (.type "tuple") = some false)
  | .str _, _ => (kit_ty (by decide +kernel) : PySem.W.kitOne K (.type "str") (.type "tuple") = some false)
  | .lst _, _ => (kit_ty (by decide +kernel) : PySem.W.kitOne K (.type "list") (.type "tuple") = some false)
  | .tup _, _ => (kit_ty (by decide +kernel) : PySem.W.kitOne K (.type "tuple") (.type "tuple") = some true)
  | .ins _, h => NoBuilt.t h
theorem kit_seq {d : AD} (h : AdOk K d) : PySem.W.kitAny K (tyA d) [.type "list", .type "tuple"] = some (isSeqA d) := by
  refine kitAny_cons (kit_lst h) (fun e => kitAny_cons (kit_tup h) (fun e2 => ?_) (fun e2 => ?_)) (fun e => ?_)
  · rw [kitAny_nil]
    cases d <;> first | rfl | (exact nomatch (show true = false from e)) | (exact nomatch (show true = false from e2))
  · cases d <;> first | rfl | (exact nomatch (show false = true from e2))
  · cases d <;> first | rfl | (exact nomatch (show false = true from e))
/-- a test of any value -/
def spIs (K : PySem.W.Frag) (f : AD → Bool) : Sp := fun vs H Q _ => ∃ (v : V) (d : AD), vs = [v] ∧ Av K H v d ∧ AdOk K d ∧ ∀ H', Same H H' → Q (.bl (f d)) H'
theorem ok_isint (T : TxtG K mg) : FnOk P w K mg base CX0 1 T.dIsInteger.f T.dIsInteger.fd ["value"] (spIs K isIntA) := by
  refine T.dIsInteger.F.ok scDIsInteger (fun vs H Q E h => ?_) (fun cdv A outer s H vs Q E hr h => ?_)
  · obtain ⟨v, d, rfl, _⟩ := h
    rfl
  · obtain ⟨v, d, rfl, hv, hd, q⟩ := h
    refine ⟨_, (pss_one (ps_ret (pe_and (pe_callB call_isi (by rfl) T.z_isinstance (by decide +kernel) (pa_cons (pv 0) (pa_cons (pe_bltn (v := .ty "int") (u := .type "int") (by rfl) T.z_int (by decide +kernel) rfl) pa_nil))) (pe_one (pe_not (pe_callB call_isi (by rfl) T.z_isinstance (by decide +kernel) (pa_cons (pv 0) (pa_cons (pe_bltn (v := .ty "bool") (u := .type "bool") (by rfl) T.z_bool (by decide +kernel) rfl) pa_nil)))))))), ?_⟩
    simp only [and_assoc, tSeq, tAsg, tOp, tUn, rI, rI0, rU, tVar, tC, gName, L2.start, tIfS, tTest, tB, tCB, tCons, tNil, tIf, tRet, tRetN, tLst, tTup, tNext, tDrop, tNot, tNotV, tAnd, tOr, tAndV, tOrV, tPar, tAug, ipI, rEq, rNe, gSub, rSetL, rIxL, rIxT, tBM, tBM0, rAppend, rPopAt, gTup, gCons, gNil, tCall, tSl, tPart, tNoPart, rSlL, rCat, rEqD, rNeD, rIn, scal, List.map_cons, List.map_nil, List.length_cons, List.length_nil, List.length_map, List.cons_append, List.nil_append, List.append_nil, List.replicate, List.getElem?_cons_zero, List.getElem?_cons_succ, List.set_cons_zero, List.set_cons_succ, Option.some.injEq, exists_eq_left', exists_eq_left, exists_eq_right, exists_and_left, exists_and_right, V.int.injEq, V.ref.injEq, V.str.injEq, V.bl.injEq, reduceCtorEq, false_and, and_false, exists_false, or_false, false_or, true_and, and_true, List.cons.injEq, decide_eq_true_eq, cxOf, if_true, if_false, Bool.false_eq_true, Nat.reduceAdd, Nat.reduceSub, Nat.zero_add, Nat.add_sub_cancel_left, Nat.add_sub_cancel, Nat.sub_self, tFor_eq, tLc_eq, iRng1, iRng2, iList, iTup, iEnum, rIsi, rIsiT]
    refine ⟨_, _, .ty "int", av_ty hv, _, kit_int hd, ?_⟩
    have kb : PySem.W.kitOne K (tyA d) (.type "bool") = some (isBoolA d) ∨ isIntT d = false := by
      cases d with
      | bl b => exact .inl (kit_ty (by decide +kernel) : PySem.W.kitOne K (.type "bool") (.type "bool") = some true)
      | int i => exact .inl (kit_ty (by decide +kernel) : PySem.W.kitOne K (.type "int") (.type "bool") = some false)
      | non => exact .inr rfl
      | str x => exact .inr rfl
      | lst x => exact .inr rfl
      | tup x => exact .inr rfl
      | ins x => exact .inr rfl
    have q0 := q H (Same.refl H)
    cases e : isIntT d with
    | false =>
      simp only [and_assoc, tSeq, tAsg, tOp, tUn, rI, rI0, rU, tVar, tC, gName, L2.start, tIfS, tTest, tB, tCB, tCons, tNil, tIf, tRet, tRetN, tLst, tTup, tNext, tDrop, tNot, tNotV, tAnd, tOr, tAndV, tOrV, tPar, tAug, ipI, rEq, rNe, gSub, rSetL, rIxL, rIxT, tBM, tBM0, rAppend, rPopAt, gTup, gCons, gNil, tCall, tSl, tPart, tNoPart, rSlL, rCat, rEqD, rNeD, rIn, scal, List.map_cons, List.map_nil, List.length_cons, List.length_nil, List.length_map, List.cons_append, List.nil_append, List.append_nil, List.replicate, List.getElem?_cons_zero, List.getElem?_cons_succ, List.set_cons_zero, List.set_cons_succ, Option.some.injEq, exists_eq_left', exists_eq_left, exists_eq_right, exists_and_left, exists_and_right, V.int.injEq, V.ref.injEq, V.str.injEq, V.bl.injEq, reduceCtorEq, false_and, and_false, exists_false, or_false, false_or, true_and, and_true, List.cons.injEq, decide_eq_true_eq, cxOf, if_true, if_false, Bool.false_eq_true, Nat.reduceAdd, Nat.reduceSub, Nat.zero_add, Nat.add_sub_cancel_left, Nat.add_sub_cancel, Nat.sub_self, tFor_eq, tLc_eq, iRng1, iRng2, iList, iTup, iEnum, rIsi, rIsiT]
      have e2 : isIntA d = false := by cases d <;> first | rfl | (exact nomatch (show true = false from e))
      rw [e2] at q0
      exact q0
    | true =>
      simp only [and_assoc, tSeq, tAsg, tOp, tUn, rI, rI0, rU, tVar, tC, gName, L2.start, tIfS, tTest, tB, tCB, tCons, tNil, tIf, tRet, tRetN, tLst, tTup, tNext, tDrop, tNot, tNotV, tAnd, tOr, tAndV, tOrV, tPar, tAug, ipI, rEq, rNe, gSub, rSetL, rIxL, rIxT, tBM, tBM0, rAppend, rPopAt, gTup, gCons, gNil, tCall, tSl, tPart, tNoPart, rSlL, rCat, rEqD, rNeD, rIn, scal, List.map_cons, List.map_nil, List.length_cons, List.length_nil, List.length_map, List.cons_append, List.nil_append, List.append_nil, List.replicate, List.getElem?_cons_zero, List.getElem?_cons_succ, List.set_cons_zero, List.set_cons_succ, Option.some.injEq, exists_eq_left', exists_eq_left, exists_eq_right, exists_and_left, exists_and_right, V.int.injEq, V.ref.injEq, V.str.injEq, V.bl.injEq, reduceCtorEq, false_and, and_false, exists_false, or_false, false_or, true_and, and_true, List.cons.injEq, decide_eq_true_eq, cxOf, if_true, if_false, Bool.false_eq_true, Nat.reduceAdd, Nat.reduceSub, Nat.zero_add, Nat.add_sub_cancel_left, Nat.add_sub_cancel, Nat.sub_self, tFor_eq, tLc_eq, iRng1, iRng2, iList, iTup, iEnum, rIsi, rIsiT]
      rcases kb with kb | kb
      · refine ⟨_, _, .ty "bool", av_ty hv, _, kb, ?_⟩
        have e2 : isIntA d = !isBoolA d := by cases d <;> first | rfl | (exact nomatch (show false = true from e))
        rw [e2] at q0
        exact q0
      · rw [e] at kb
        cases kb
theorem ok_isseq (T : TxtG K mg) : FnOk P w K mg base CX0 1 T.dIsSequence.f T.dIsSequence.fd ["value"] (spIs K isSeqA) := by
  refine T.dIsSequence.F.ok scDIsSequence (fun vs H Q E h => ?_) (fun cdv A outer s H vs Q E hr h => ?_)
  · obtain ⟨v, d, rfl, _⟩ := h
    rfl
  · obtain ⟨v, d, rfl, hv, hd, q⟩ := h
    refine ⟨_, (pss_one (ps_ret (pe_callB call_isiT (by rfl) T.z_isinstance (by decide +kernel) (pa_cons (pv 0) (pa_cons (pe_tup (pa_cons (pe_bltn (v := .ty "list") (u := .type "list") (by rfl) T.z_list (by decide +kernel) rfl) (pa_cons (pe_bltn (v := .ty "tuple") (u := .type "tuple") (by rfl) T.z_tuple (by decide +kernel) rfl) pa_nil))) pa_nil))))), ?_⟩
    simp only [and_assoc, tSeq, tAsg, tOp, tUn, rI, rI0, rU, tVar, tC, gName, L2.start, tIfS, tTest, tB, tCB, tCons, tNil, tIf, tRet, tRetN, tLst, tTup, tNext, tDrop, tNot, tNotV, tAnd, tOr, tAndV, tOrV, tPar, tAug, ipI, rEq, rNe, gSub, rSetL, rIxL, rIxT, tBM, tBM0, rAppend, rPopAt, gTup, gCons, gNil, tCall, tSl, tPart, tNoPart, rSlL, rCat, rEqD, rNeD, rIn, scal, List.map_cons, List.map_nil, List.length_cons, List.length_nil, List.length_map, List.cons_append, List.nil_append, List.append_nil, List.replicate, List.getElem?_cons_zero, List.getElem?_cons_succ, List.set_cons_zero, List.set_cons_succ, Option.some.injEq, exists_eq_left', exists_eq_left, exists_eq_right, exists_and_left, exists_and_right, V.int.injEq, V.ref.injEq, V.str.injEq, V.bl.injEq, reduceCtorEq, false_and, and_false, exists_false, or_false, false_or, true_and, and_true, List.cons.injEq, decide_eq_true_eq, cxOf, if_true, if_false, Bool.false_eq_true, Nat.reduceAdd, Nat.reduceSub, Nat.zero_add, Nat.add_sub_cancel_left, Nat.add_sub_cancel, Nat.sub_self, tFor_eq, tLc_eq, iRng1, iRng2, iList, iTup, iEnum, rIsi, rIsiT]
    refine ⟨by decide, fun t nt => ⟨_, upd_same, _, _, .cons (.ty "list") (.cons (.ty "tuple") .nil), av_ty (av_mono (same_upd nt) _ _ hv), _, kit_seq hd, ?_⟩⟩
    exact q _ (same_upd nt)
theorem ok_ispair (T : TxtG K mg) : FnOk P w K mg base CX0 1 T.dIsPair.f T.dIsPair.fd ["value"] (spIs K isPairA) := by
  refine T.dIsPair.F.ok scDIsPair (fun vs H Q E h => ?_) (fun cdv A outer s H vs Q E hr h => ?_)
  · obtain ⟨v, d, rfl, _⟩ := h
    rfl
  · obtain ⟨v, d, rfl, hv, hd, q⟩ := h
    refine ⟨_, (pss_one (ps_ret (pe_and (pe_callB call_isi (by rfl) T.z_isinstance (by decide +kernel) (pa_cons (pv 0) (pa_cons (pe_bltn (v := .ty "tuple") (u := .type "tuple") (by rfl) T.z_tuple (by decide +kernel) rfl) pa_nil))) (pe_one (pe_cmpR op_eq (pe_callB call_len_seq (by rfl) T.z_len (by decide +kernel) (pa_cons (pv 0) pa_nil)) pe_int (nomark _)))))), ?_⟩
    simp only [and_assoc, tSeq, tAsg, tOp, tUn, rI, rI0, rU, tVar, tC, gName, L2.start, tIfS, tTest, tB, tCB, tCons, tNil, tIf, tRet, tRetN, tLst, tTup, tNext, tDrop, tNot, tNotV, tAnd, tOr, tAndV, tOrV, tPar, tAug, ipI, rEq, rNe, gSub, rSetL, rIxL, rIxT, tBM, tBM0, rAppend, rPopAt, gTup, gCons, gNil, tCall, tSl, tPart, tNoPart, rSlL, rCat, rEqD, rNeD, rIn, scal, List.map_cons, List.map_nil, List.length_cons, List.length_nil, List.length_map, List.cons_append, List.nil_append, List.append_nil, List.replicate, List.getElem?_cons_zero, List.getElem?_cons_succ, List.set_cons_zero, List.set_cons_succ, Option.some.injEq, exists_eq_left', exists_eq_left, exists_eq_right, exists_and_left, exists_and_right, V.int.injEq, V.ref.injEq, V.str.injEq, V.bl.injEq, reduceCtorEq, false_and, and_false, exists_false, or_false, false_or, true_and, and_true, List.cons.injEq, decide_eq_true_eq, cxOf, if_true, if_false, Bool.false_eq_true, Nat.reduceAdd, Nat.reduceSub, Nat.zero_add, Nat.add_sub_cancel_left, Nat.add_sub_cancel, Nat.sub_self, tFor_eq, tLc_eq, iRng1, iRng2, iList, iTup, iEnum, rIsi, rIsiT]
    refine ⟨_, _, .ty "tuple", av_ty hv, _, kit_tup hd, ?_⟩
    have q0 := q H (Same.refl H)
    cases hv with
    | @tup a xs ds hs ha =>
      simp only [and_assoc, tSeq, tAsg, tOp, tUn, rI, rI0, rU, tVar, tC, gName, L2.start, tIfS, tTest, tB, tCB, tCons, tNil, tIf, tRet, tRetN, tLst, tTup, tNext, tDrop, tNot, tNotV, tAnd, tOr, tAndV, tOrV, tPar, tAug, ipI, rEq, rNe, gSub, rSetL, rIxL, rIxT, tBM, tBM0, rAppend, rPopAt, gTup, gCons, gNil, tCall, tSl, tPart, tNoPart, rSlL, rCat, rEqD, rNeD, rIn, scal, List.map_cons, List.map_nil, List.length_cons, List.length_nil, List.length_map, List.cons_append, List.nil_append, List.append_nil, List.replicate, List.getElem?_cons_zero, List.getElem?_cons_succ, List.set_cons_zero, List.set_cons_succ, Option.some.injEq, exists_eq_left', exists_eq_left, exists_eq_right, exists_and_left, exists_and_right, V.int.injEq, V.ref.injEq, V.str.injEq, V.bl.injEq, reduceCtorEq, false_and, and_false, exists_false, or_false, false_or, true_and, and_true, List.cons.injEq, decide_eq_true_eq, cxOf, if_true, if_false, Bool.false_eq_true, Nat.reduceAdd, Nat.reduceSub, Nat.zero_add, Nat.add_sub_cancel_left, Nat.add_sub_cancel, Nat.sub_self, tFor_eq, tLc_eq, iRng1, iRng2, iList, iTup, iEnum, rIsi, rIsiT, isTupA]
      refine ⟨xs, .inr hs, ?_⟩
      rw [avA_len ha]
      have e : isPairA (.tup ds) = decide ((ds.length : Int) = 2) := by
        match ds with
        | [] => rfl
        | [_] => rfl
        | [_, _] => rfl
        | _ :: _ :: _ :: r => exact (decide_eq_false (by simp only [List.length_cons]; omega)).symm
      rw [e] at q0
      exact q0
    | non => exact q0
    | bl b => exact q0
    | int i => exact q0
    | str x => exact q0
    | lst hs ha => exact q0
    | ins e t => exact q0
def isNameA : AD → Bool | .str x => nameB x | _ => false
theorem ok_isname (T : TxtG K mg) : FnOk P w K mg base CX0 1 T.dIsName.f T.dIsName.fd ["value"] (spIs K isNameA) := by
  refine T.dIsName.F.ok scDIsName (fun vs H Q E h => ?_) (fun cdv A outer s H vs Q E hr h => ?_)
  · obtain ⟨v, d, rfl, _⟩ := h
    rfl
  · obtain ⟨v, d, rfl, hv, hd, q⟩ := h
    refine ⟨_, (pss_cons (ps_if (PW.pt (pw_or (pt_not (pt_val (pe_callB call_isi (by rfl) T.z_isinstance (by decide +kernel) (pa_cons (pv 0) (pa_cons (pe_bltn (v := .ty "str") (u := .type "str") (by rfl) T.z_str (by decide +kernel) rfl) pa_nil))))) (pw_or (pt_cmpR op_gt (pe_callB call_len_str (by rfl) T.z_len (by decide +kernel) (pa_cons (pv 0) pa_nil)) (pe_glob (v := .int 5) (by rfl) T.k_LONGEST_NAME.choose_spec ⟨_, rfl⟩) (nomark _)) (pw_or1 (pt_cmpR op_eq (pv 0) (pe_glob (v := .str "crown") (by rfl) T.k_CROWN.choose_spec ⟨_, rfl⟩) (nomark _))))))
      (pss_one (ps_ret pe_bl))
      pss_nil)
      (pss_one (ps_ret (pe_and (pe_m0 PySem.F.slot_str_isascii PySem.F.type_str_isascii mt_isascii (pv 0)) (pe_and (pe_m0 PySem.F.slot_str_isalpha PySem.F.type_str_isalpha mt_isalpha (pv 0)) (pe_one (pe_m0 PySem.F.slot_str_islower PySem.F.type_str_islower mt_islower (pv 0)))))))), ?_⟩
    have q0 := q H (Same.refl H)
    simp only [and_assoc, tSeq, tAsg, tOp, tUn, rI, rI0, rU, tVar, tC, gName, L2.start, tIfS, tTest, tB, tCB, tCons, tNil, tIf, tRet, tRetN, tLst, tTup, tNext, tDrop, tNot, tNotV, tAnd, tOr, tAndV, tOrV, tPar, tAug, ipI, rEq, rNe, gSub, rSetL, rIxL, rIxT, tBM, tBM0, rAppend, rPopAt, gTup, gCons, gNil, tCall, tSl, tPart, tNoPart, rSlL, rCat, rEqD, rNeD, rIn, scal, List.map_cons, List.map_nil, List.length_cons, List.length_nil, List.length_map, List.cons_append, List.nil_append, List.append_nil, List.replicate, List.getElem?_cons_zero, List.getElem?_cons_succ, List.set_cons_zero, List.set_cons_succ, Option.some.injEq, exists_eq_left', exists_eq_left, exists_eq_right, exists_and_left, exists_and_right, V.int.injEq, V.ref.injEq, V.str.injEq, V.bl.injEq, reduceCtorEq, false_and, and_false, exists_false, or_false, false_or, true_and, and_true, List.cons.injEq, decide_eq_true_eq, cxOf, if_true, if_false, Bool.false_eq_true, Nat.reduceAdd, Nat.reduceSub, Nat.zero_add, Nat.add_sub_cancel_left, Nat.add_sub_cancel, Nat.sub_self, tFor_eq, tLc_eq, iRng1, iRng2, iList, iTup, iEnum, rIsi, rIsiT, tM0]
    refine ⟨_, _, .ty "str", av_ty hv, _, kit_str hd, ?_⟩
    cases hv with
    | str x =>
      simp only [and_assoc, tSeq, tAsg, tOp, tUn, rI, rI0, rU, tVar, tC, gName, L2.start, tIfS, tTest, tB, tCB, tCons, tNil, tIf, tRet, tRetN, tLst, tTup, tNext, tDrop, tNot, tNotV, tAnd, tOr, tAndV, tOrV, tPar, tAug, ipI, rEq, rNe, gSub, rSetL, rIxL, rIxT, tBM, tBM0, rAppend, rPopAt, gTup, gCons, gNil, tCall, tSl, tPart, tNoPart, rSlL, rCat, rEqD, rNeD, rIn, scal, List.map_cons, List.map_nil, List.length_cons, List.length_nil, List.length_map, List.cons_append, List.nil_append, List.append_nil, List.replicate, List.getElem?_cons_zero, List.getElem?_cons_succ, List.set_cons_zero, List.set_cons_succ, Option.some.injEq, exists_eq_left', exists_eq_left, exists_eq_right, exists_and_left, exists_and_right, V.int.injEq, V.ref.injEq, V.str.injEq, V.bl.injEq, reduceCtorEq, false_and, and_false, exists_false, or_false, false_or, true_and, and_true, List.cons.injEq, decide_eq_true_eq, cxOf, if_true, if_false, Bool.false_eq_true, Nat.reduceAdd, Nat.reduceSub, Nat.zero_add, Nat.add_sub_cancel_left, Nat.add_sub_cancel, Nat.sub_self, tFor_eq, tLc_eq, iRng1, iRng2, iList, iTup, iEnum, rIsi, rIsiT, isStrA, Bool.not_true]
      refine ⟨hd, ?_⟩
      have e := name_eq x
      have q0 : Q (.bl (nameB x)) H := q0
      rw [← e] at q0
      by_cases h5 : (5 : Int) < (x.length : Int)
      · rw [if_pos h5]
        rw [decide_eq_false (show ¬ x.length ≤ 5 by omega)] at q0
        exact q0
      · rw [if_neg h5]
        rw [decide_eq_true (show x.length ≤ 5 by omega)] at q0
        by_cases hc : x = Str.ofString "crown"
        · rw [if_pos hc]
          rw [decide_eq_false (show ¬ x ≠ Str.ofString "crown" from fun z => z hc)] at q0
          exact q0
        · rw [if_neg hc]
          rw [decide_eq_true (show x ≠ Str.ofString "crown" from hc)] at q0
          refine ⟨⟨x, rfl⟩, ?_⟩
          cases ea : Txt.isascii x with
          | false =>
            rw [ea] at q0
            exact q0
          | true =>
            rw [ea] at q0
            simp only [and_assoc, tSeq, tAsg, tOp, tUn, rI, rI0, rU, tVar, tC, gName, L2.start, tIfS, tTest, tB, tCB, tCons, tNil, tIf, tRet, tRetN, tLst, tTup, tNext, tDrop, tNot, tNotV, tAnd, tOr, tAndV, tOrV, tPar, tAug, ipI, rEq, rNe, gSub, rSetL, rIxL, rIxT, tBM, tBM0, rAppend, rPopAt, gTup, gCons, gNil, tCall, tSl, tPart, tNoPart, rSlL, rCat, rEqD, rNeD, rIn, scal, List.map_cons, List.map_nil, List.length_cons, List.length_nil, List.length_map, List.cons_append, List.nil_append, List.append_nil, List.replicate, List.getElem?_cons_zero, List.getElem?_cons_succ, List.set_cons_zero, List.set_cons_succ, Option.some.injEq, exists_eq_left', exists_eq_left, exists_eq_right, exists_and_left, exists_and_right, V.int.injEq, V.ref.injEq, V.str.injEq, V.bl.injEq, reduceCtorEq, false_and, and_false, exists_false, or_false, false_or, true_and, and_true, List.cons.injEq, decide_eq_true_eq, cxOf, if_true, if_false, Bool.false_eq_true, Nat.reduceAdd, Nat.reduceSub, Nat.zero_add, Nat.add_sub_cancel_left, Nat.add_sub_cancel, Nat.sub_self, tFor_eq, tLc_eq, iRng1, iRng2, iList, iTup, iEnum, rIsi, rIsiT]
            refine ⟨⟨x, rfl⟩, ?_⟩
            cases eb : Txt.isalpha x with
            | false =>
              rw [eb] at q0
              exact q0
            | true =>
              rw [eb] at q0
              simp only [and_assoc, tSeq, tAsg, tOp, tUn, rI, rI0, rU, tVar, tC, gName, L2.start, tIfS, tTest, tB, tCB, tCons, tNil, tIf, tRet, tRetN, tLst, tTup, tNext, tDrop, tNot, tNotV, tAnd, tOr, tAndV, tOrV, tPar, tAug, ipI, rEq, rNe, gSub, rSetL, rIxL, rIxT, tBM, tBM0, rAppend, rPopAt, gTup, gCons, gNil, tCall, tSl, tPart, tNoPart, rSlL, rCat, rEqD, rNeD, rIn, scal, List.map_cons, List.map_nil, List.length_cons, List.length_nil, List.length_map, List.cons_append, List.nil_append, List.append_nil, List.replicate, List.getElem?_cons_zero, List.getElem?_cons_succ, List.set_cons_zero, List.set_cons_succ, Option.some.injEq, exists_eq_left', exists_eq_left, exists_eq_right, exists_and_left, exists_and_right, V.int.injEq, V.ref.injEq, V.str.injEq, V.bl.injEq, reduceCtorEq, false_and, and_false, exists_false, or_false, false_or, true_and, and_true, List.cons.injEq, decide_eq_true_eq, cxOf, if_true, if_false, Bool.false_eq_true, Nat.reduceAdd, Nat.reduceSub, Nat.zero_add, Nat.add_sub_cancel_left, Nat.add_sub_cancel, Nat.sub_self, tFor_eq, tLc_eq, iRng1, iRng2, iList, iTup, iEnum, rIsi, rIsiT]
              exact ⟨⟨x, rfl⟩, q0⟩
    | non => exact q0
    | bl b => exact q0
    | int i => exact q0
    | lst hs ha => exact q0
    | tup hs ha => exact q0
    | ins e t => exact q0

end
end He

/-! set(xs) of any number of texts, with repetitions -/
namespace He
namespace SetT
open PySem PySem.Spec PyProof.Rows
def put1 (acc : List Str) (x : Str) : List Str := if acc.any (· == x) then acc else acc ++ [x]
/-- each once -/
def once (xs : List Str) : List Str := xs.foldl put1 []
theorem put1_any (acc : List Str) (x k : Str) : (put1 acc x).any (· == k) = (acc.any (· == k) || decide (k = x)) := by
  unfold put1
  by_cases h : acc.any (· == x) = true
  · rw [if_pos h]
    by_cases e : k = x
    · rw [e, h, decide_eq_true rfl]
      rfl
    · rw [decide_eq_false e, Bool.or_false]
  · rw [if_neg h, List.any_append]
    congr 1
    by_cases e : k = x
    · rw [e, decide_eq_true rfl]
      simp
    · rw [decide_eq_false e]
      simp only [List.any_cons, List.any_nil, Bool.or_false]
      exact beq_eq_false_iff_ne.mpr fun z => e z.symm
theorem put1_len (acc : List Str) (x : Str) : (put1 acc x).length = if acc.any (· == x) then acc.length else acc.length + 1 := by
  unfold put1
  split <;> simp
theorem once_snoc (xs : List Str) (x : Str) : once (xs ++ [x]) = put1 (once xs) x := by
  unfold once
  rw [List.foldl_append]
  rfl
theorem fold_len : ∀ (xs acc : List Str), (xs.foldl put1 acc).length ≤ acc.length + xs.length
  | [], acc => Nat.le_refl _
  | x :: xs, acc => by
    have h := fold_len xs (put1 acc x)
    have h2 := put1_len acc x
    show (xs.foldl put1 (put1 acc x)).length ≤ acc.length + (xs.length + 1)
    split at h2 <;> omega
theorem fold_eq : ∀ (xs acc : List Str), (xs.foldl put1 acc).length = acc.length + xs.length ↔ (xs.Nodup ∧ ∀ x ∈ xs, acc.any (· == x) = false)
  | [], acc => by simp
  | x :: xs, acc => by
    have h := fold_eq xs (put1 acc x)
    have hl := fold_len xs (put1 acc x)
    have h2 := put1_len acc x
    show (xs.foldl put1 (put1 acc x)).length = acc.length + (xs.length + 1) ↔ _
    cases e : acc.any (· == x) with
    | true =>
      rw [e, if_pos rfl] at h2
      constructor
      · intro z
        omega
      · rintro ⟨_, z⟩
        have := z x List.mem_cons_self
        rw [e] at this
        cases this
    | false =>
      rw [e, if_neg (by simp)] at h2
      have e3 : ((xs.foldl put1 (put1 acc x)).length = acc.length + (xs.length + 1)) ↔ ((xs.foldl put1 (put1 acc x)).length = (put1 acc x).length + xs.length) := by
        rw [h2]
        omega
      rw [e3, h, List.nodup_cons]
      constructor
      · rintro ⟨nd, z⟩
        refine ⟨⟨fun m => ?_, nd⟩, fun y hy => ?_⟩
        · have := z x m
          rw [put1_any] at this
          simp at this
        · rcases List.mem_cons.mp hy with rfl | hy
          · exact e
          · have := z y hy
            rw [put1_any, Bool.or_eq_false_iff] at this
            exact this.1
      · rintro ⟨⟨nm, nd⟩, z⟩
        refine ⟨nd, fun y hy => ?_⟩
        rw [put1_any, z y (List.mem_cons_of_mem _ hy)]
        simp only [Bool.false_or]
        exact decide_eq_false fun q => nm (q ▸ hy)
theorem once_len (xs : List Str) : (once xs).length = xs.length ↔ xs.Nodup := by
  have h := fold_eq xs []
  simp only [List.length_nil, Nat.zero_add, List.any_nil, implies_true, and_true] at h
  exact h
theorem once_le (xs : List Str) : (once xs).length ≤ xs.length := by
  have h := fold_len xs []
  simp only [List.length_nil, Nat.zero_add] at h
  exact h
/-! ### the loop of the set's making -/
section
variable {pr : Program} {wd : World} {A : Around} {R : Result → Shared → Prop} {it : Addr} {fp wr : List Addr} {G : Array GenState → Array GenState → Prop} {n : Nat} {Y : Nat → Value → Prop} {St : Nat → Shared → Prop}
/-- at z the first i texts, each once -/
def Holds (pr : Program) (wd : World) (h : Heap) (z : Addr) (xs : List Str) (i : Nat) : Prop := h.SetOf (PySem.strKind pr wd) z (fun k => (once (xs.take i)).any (· == k)) (once (xs.take i)).length
theorem Holds.at' {h h' : Heap} {z : Addr} {xs : List Str} {i : Nat} (q : Holds pr wd h z xs i) (k : ∀ o, h.get? z = some o → h'.get? z = some o) : Holds pr wd h' z xs i := by
  obtain ⟨ob, es, ep, tb, e, r⟩ := q
  exact ⟨ob, es, ep, tb, k _ e, r⟩
theorem turns (W : WalksS pr wd A.in1 it fp wr G n Y St) (z : Addr) (hz : z ∉ fp) (xs : List Str) (hx : xs.length = n) (hn : n + 1 < scanBound) (val : ∀ (i : Nat) v, Y i v → ∃ t x, xs[i]? = some x ∧ v = .str x t) :
    ∀ (m i : Nat) (s : Shared), n - i = m → i ≤ n → St i s → Holds pr wd s.heap z xs i →
      (∀ s', Moved (z :: wr) G s s' → Holds pr wd s'.heap z xs n → R (.ok (.ret .none)) s') →
      codeAny (model pr wd) A (.builtin "set.update.loop" ⟨[.ref z, .ref it], []⟩) R s := by
  have nw : z ∉ wr := fun q => hz (W.sub _ q)
  have up : ∀ b ∈ wr, b ∈ z :: wr := fun b q => List.mem_cons_of_mem _ q
  intro m
  induction m with
  | zero =>
    intro i s e le st hd fin
    obtain rfl : i = n := by omega
    refine codeAny_builtin PyProof.Rows.F.entry_set_update_loop (by
      rw [Around.under_plainId PyProof.Rows.F.plain_set_update_loop _]
      show wpAny _ A.in1 (pyNext (.ref it) >>= _) _ _ s
      exact wpAny_bind (W.done s _ _ st fun s2 mv => (show wpAny _ A.in1 (ret Value.none) _ _ s2 from wpAny_pure (fin s2 (mv.mono up) (hd.at' fun o q => mv.heap z o nw q)))))
  | succ m ih =>
    intro i s e le st hd fin
    have lt : i < n := by omega
    refine codeAny_builtin PyProof.Rows.F.entry_set_update_loop (by
      rw [Around.under_plainId PyProof.Rows.F.plain_set_update_loop _]
      show wpAny _ A.in1 (pyNext (.ref it) >>= _) _ _ s
      refine wpAny_bind (W.item i s _ _ lt st fun v s2 hY st2 mv => ?_)
      obtain ⟨t, x, ex, rfl⟩ := val i v hY
      have hd2 : Holds pr wd s2.heap z xs i := hd.at' fun o q => mv.heap z o nw q
      show wpAny _ A.in1 (holding [Value.str x t] (setAdd z (.str x t)) >>= _) _ _ s2
      refine wpAny_bind (wpAny_holding ?_)
      unfold setAdd
      refine wpAny_holding (wpAny_bind ((PySem.strKind pr wd).pyHash (k := x) (strKind_is _ _ _ _) ?_))
      have room : (once (xs.take i)).length + 1 < scanBound := by
        have := once_le (xs.take i)
        rw [List.length_take] at this
        omega
      refine wpAny_setAddHashed_of (knd := PySem.strKind pr wd) (k := x) (s := { s2 with toks := s2.toks + 1 }) (strKind_is _ _ _ _) rfl hd2 room fun h3 sb q3 => ?_
      have hd3 : Holds pr wd h3 z xs (i + 1) := by
        have ek : xs.take (i + 1) = xs.take i ++ [x] := by rw [List.take_add_one, ex]; rfl
        unfold Holds
        rw [ek, once_snoc]
        exact SetOf_congr q3 (fun k => (put1_any _ x k).symm) (put1_len _ x).symm
      refine wpAny_pure ⟨plainId_quiet PyProof.Rows.F.plain_set_update_loop _, ih (i + 1) _ (by omega) lt (W.frame _ s2 _ _ st2 (Nat.le_succ _) fun b hb o q => ?_) hd3 fun s4 mv4 hd4 => ?_⟩
      · rw [sb.2 b fun y : b = z => hz (y ▸ hb)]
        exact q
      · refine fin s4 (Moved.trans W.gtrans ((mv.mono up).then_heap (Nat.le_succ _) fun b o hb q => ?_) mv4) hd4
        rw [sb.2 b fun y : b = z => hb (y ▸ List.mem_cons_self)]
        exact q)
end
abbrev empty (led : Bool) : Obj := { cls := .type "set", dict := none, data := .set #[] 0 (.fresh 0 0 led) }
section
variable {pr : Program} {wd : World} {A : Around} {E : Value → Shared → Prop} {s : Shared}
set_option maxHeartbeats 4000000 in
theorem call_set_list {l : Addr} {its : Array Value} {xs : List Str} {Q : Value → Shared → Prop} (hh : A.handled = none) (hl : s.heap.IsList l its) (hx : xs.length = its.size) (hn : xs.length + 1 < scanBound)
    (val : ∀ (i : Nat) (v : Value), its[i]? = some v → ∃ t x, xs[i]? = some x ∧ v = .str x t)
    (q : ∀ (h' : Heap) (tk : Nat), Holds pr wd h' s.heap.objs.size xs xs.length → (∀ b o, b < s.heap.objs.size → s.heap.get? b = some o → h'.get? b = some o) → Q (.ref s.heap.objs.size) { s with heap := h', toks := tk }) :
    wpAny (model pr wd) A (call (.type "set") [.ref l]) Q E s := by
  obtain ⟨mc, ml, mro⟩ := PySem.F.called_set.mro
  have made := PySem.F.called_set.made
  have subt := PySem.F.called_set.sub
  refine wpAny_call (codeAny_of_tree (show wpAny _ _ (callAny (.type "set") _) _ _ _ from wpAny_pure ⟨Code.quiet_builtin _ (by decide +kernel), codeAny_builtin PySem.F.entry_type_call ?_⟩))
  rw [Around.under_plain (weight_type_call_type "set" [.ref l] []) rfl]
  have notT := PySem.F.called_set.notType
  have canC := PySem.F.called_set.canCreate
  have tcall := PySem.F.typeCall_set_1 (.ref l)
  repeat (any_goals (first | assumption | wp_step))
  refine codeAny_mono (code_set_new_1 (.ref l) (E := E) (Q₁ := fun ob s1 => ∃ led : Bool, ob = .ref s.heap.objs.size ∧ s1 = { s with heap := s.heap.push (empty led) }) fun led => ⟨led, rfl, rfl⟩) fun r s1 hr => ?_
  cases r with
  | error e => exact hr
  | ok fl =>
    cases fl with
    | next => exact hr.elim
    | brk => exact hr.elim
    | cont => exact hr.elim
    | ret ob =>
      obtain ⟨led, rfl, rfl⟩ := hr
      have atz : (s.heap.push (empty led)).get? s.heap.objs.size = some (empty led) := Heap.get?_push_size _ rfl
      have isz : Shared.TypeIs { s with heap := s.heap.push (empty led) } (.ref s.heap.objs.size) "set" := ⟨_, atz, rfl⟩
      have ilook := PySem.F.called_set.init.lookup
      have ibind := PySem.F.called_set.init.bind (.ref s.heap.objs.size)
      repeat (any_goals (first | assumption | wp_step))
      refine codeAny_mono (codeAny_call_builtin (R := wants (fun r s2 => r = .none ∧ ∃ h' tk, s2 = { s with heap := h', toks := tk } ∧ Holds pr wd h' s.heap.objs.size xs xs.length ∧ (∀ b o, b < s.heap.objs.size → s.heap.get? b = some o → h'.get? b = some o)) E)
        PySem.F.called_set.init.plain PySem.F.entry_set_init (check_set_init_1 isz ?_)) fun r2 s2 hr2 => ?_
      · obtain ⟨⟨oc, od, dt, osl⟩, gl, gc, nl, gd⟩ := hl
        simp only at gc gd
        subst gc gd
        have gl2 : (s.heap.push (empty led)).get? l = some { cls := .type "list", dict := od, data := .seq its nl, slots := osl } := Heap.get?_push_of_some _ gl
        have su1 := PySem.F.sub_list_set
        have su2 := PySem.F.sub_list_frozenset
        have nodict : (Value.type "list" == Value.type "dict") = false := by decide
        have isl : (s.heap.push (empty led)).IsList l its := ⟨_, gl2, rfl, nl, rfl⟩
        unfold Builtin.«set.__init__» noKeywords Builtin.Frozenset.updateFrom
        generalize hPI : pyIter = PI
        wp_walk
        subst hPI
        have llt : l < s.heap.objs.size := Heap.lt_size gl
        have nohd : A.in1.in1.in1.handled = none := by simp [hh]
        have psz : (s.heap.push (empty led)).objs.size = s.heap.objs.size + 1 := Heap.size_push _ _
        have nel : l ≠ (s.heap.push (empty led)).objs.size := by
          rw [psz]
          exact Nat.ne_of_lt (Nat.lt_succ_of_lt llt)
        have nez : s.heap.objs.size ∉ [(s.heap.push (empty led)).objs.size, l] := by
          rw [psz]
          simp only [List.mem_cons, List.not_mem_nil, or_false, not_or]
          exact ⟨Nat.ne_of_lt (Nat.lt_succ_self _), Nat.ne_of_gt llt⟩
        refine wpAny_pyIter_list isl (wpAny_bind (wpAny_runValue (turns ((Walks.list nohd _ l nel its).toS) s.heap.objs.size nez xs hx (by omega) val (its.size - 0) 0 _ (by omega) (Nat.zero_le _) ⟨⟨_, Heap.get?_push_size _ rfl, rfl, rfl⟩, isl.push _⟩ ?_ ?_)))
        · exact (setObjOf_fresh (knd := PySem.strKind pr wd) led).setOf (Heap.get?_push_of_some _ atz) (by unfold scanBound; omega)
        · rintro ⟨h', g', d', tk', os'⟩ mv hd
          obtain rfl : g' = s.gens := mv.gens
          obtain rfl : d' = s.drawn := mv.drawn
          obtain rfl : os' = s.os := mv.os
          refine (show wpAny _ _ _ _ _ _ from wpAny_pure (show wpAny _ _ (ret Value.none) _ _ _ from wpAny_pure ⟨rfl, h', tk', rfl, hx ▸ hd, fun b o hb e => ?_⟩))
          refine mv.heap b o ?_ (Heap.get?_push_of_some _ (Heap.get?_push_of_some _ e))
          rw [psz]
          simp only [List.mem_cons, List.not_mem_nil, or_false, not_or]
          exact ⟨Nat.ne_of_lt hb, Nat.ne_of_lt (Nat.lt_succ_of_lt hb)⟩
      · cases r2 with
        | error e => exact hr2
        | ok f2 =>
          cases f2 with
          | next => exact hr2.elim
          | brk => exact hr2.elim
          | cont => exact hr2.elim
          | ret v2 =>
            obtain ⟨rfl, h', tk, rfl, hd, kp⟩ := hr2
            repeat (any_goals (first | assumption | wp_step))
            exact q _ _ hd kp
end
section
variable {pr : Program} {wd : World} {A : Around} {E : Value → Shared → Prop} {s : Shared}
set_option maxHeartbeats 4000000 in
theorem call_set_tuple {l : Addr} {its : Array Value} {xs : List Str} {Q : Value → Shared → Prop} (hh : A.handled = none) (hl : s.heap.IsTuple l its) (hx : xs.length = its.size) (hn : xs.length + 1 < scanBound)
    (val : ∀ (i : Nat) (v : Value), its[i]? = some v → ∃ t x, xs[i]? = some x ∧ v = .str x t)
    (q : ∀ (h' : Heap) (tk : Nat), Holds pr wd h' s.heap.objs.size xs xs.length → (∀ b o, b < s.heap.objs.size → s.heap.get? b = some o → h'.get? b = some o) → Q (.ref s.heap.objs.size) { s with heap := h', toks := tk }) :
    wpAny (model pr wd) A (call (.type "set") [.ref l]) Q E s := by
  obtain ⟨mc, ml, mro⟩ := PySem.F.called_set.mro
  have made := PySem.F.called_set.made
  have subt := PySem.F.called_set.sub
  refine wpAny_call (codeAny_of_tree (show wpAny _ _ (callAny (.type "set") _) _ _ _ from wpAny_pure ⟨Code.quiet_builtin _ (by decide +kernel), codeAny_builtin PySem.F.entry_type_call ?_⟩))
  rw [Around.under_plain (weight_type_call_type "set" [.ref l] []) rfl]
  have notT := PySem.F.called_set.notType
  have canC := PySem.F.called_set.canCreate
  have tcall := PySem.F.typeCall_set_1 (.ref l)
  repeat (any_goals (first | assumption | wp_step))
  refine codeAny_mono (code_set_new_1 (.ref l) (E := E) (Q₁ := fun ob s1 => ∃ led : Bool, ob = .ref s.heap.objs.size ∧ s1 = { s with heap := s.heap.push (empty led) }) fun led => ⟨led, rfl, rfl⟩) fun r s1 hr => ?_
  cases r with
  | error e => exact hr
  | ok fl =>
    cases fl with
    | next => exact hr.elim
    | brk => exact hr.elim
    | cont => exact hr.elim
    | ret ob =>
      obtain ⟨led, rfl, rfl⟩ := hr
      have atz : (s.heap.push (empty led)).get? s.heap.objs.size = some (empty led) := Heap.get?_push_size _ rfl
      have isz : Shared.TypeIs { s with heap := s.heap.push (empty led) } (.ref s.heap.objs.size) "set" := ⟨_, atz, rfl⟩
      have ilook := PySem.F.called_set.init.lookup
      have ibind := PySem.F.called_set.init.bind (.ref s.heap.objs.size)
      repeat (any_goals (first | assumption | wp_step))
      refine codeAny_mono (codeAny_call_builtin (R := wants (fun r s2 => r = .none ∧ ∃ h' tk, s2 = { s with heap := h', toks := tk } ∧ Holds pr wd h' s.heap.objs.size xs xs.length ∧ (∀ b o, b < s.heap.objs.size → s.heap.get? b = some o → h'.get? b = some o)) E)
        PySem.F.called_set.init.plain PySem.F.entry_set_init (check_set_init_1 isz ?_)) fun r2 s2 hr2 => ?_
      · obtain ⟨⟨oc, od, dt, osl⟩, gl, gc, nl, gd⟩ := hl
        simp only at gc gd
        subst gc gd
        have gl2 : (s.heap.push (empty led)).get? l = some { cls := .type "tuple", dict := od, data := .seq its nl, slots := osl } := Heap.get?_push_of_some _ gl
        have su1 := PySem.F.sub_tuple_set
        have su2 := PySem.F.sub_tuple_frozenset
        have nodict : (Value.type "tuple" == Value.type "dict") = false := by decide
        have isl : (s.heap.push (empty led)).IsTuple l its := ⟨_, gl2, rfl, nl, rfl⟩
        unfold Builtin.«set.__init__» noKeywords Builtin.Frozenset.updateFrom
        generalize hPI : pyIter = PI
        wp_walk
        subst hPI
        have llt : l < s.heap.objs.size := Heap.lt_size gl
        have nohd : A.in1.in1.in1.handled = none := by simp [hh]
        have psz : (s.heap.push (empty led)).objs.size = s.heap.objs.size + 1 := Heap.size_push _ _
        have nel : l ≠ (s.heap.push (empty led)).objs.size := by
          rw [psz]
          exact Nat.ne_of_lt (Nat.lt_succ_of_lt llt)
        have nez : s.heap.objs.size ∉ [(s.heap.push (empty led)).objs.size, l] := by
          rw [psz]
          simp only [List.mem_cons, List.not_mem_nil, or_false, not_or]
          exact ⟨Nat.ne_of_lt (Nat.lt_succ_self _), Nat.ne_of_gt llt⟩
        refine wpAny_pyIter_tuple isl (wpAny_bind (wpAny_runValue (turns ((Walks.tuple nohd _ l nel its).toS) s.heap.objs.size nez xs hx (by omega) val (its.size - 0) 0 _ (by omega) (Nat.zero_le _) ⟨⟨_, Heap.get?_push_size _ rfl, rfl, rfl⟩, isl.push _⟩ ?_ ?_)))
        · exact (setObjOf_fresh (knd := PySem.strKind pr wd) led).setOf (Heap.get?_push_of_some _ atz) (by unfold scanBound; omega)
        · rintro ⟨h', g', d', tk', os'⟩ mv hd
          obtain rfl : g' = s.gens := mv.gens
          obtain rfl : d' = s.drawn := mv.drawn
          obtain rfl : os' = s.os := mv.os
          refine (show wpAny _ _ _ _ _ _ from wpAny_pure (show wpAny _ _ (ret Value.none) _ _ _ from wpAny_pure ⟨rfl, h', tk', rfl, hx ▸ hd, fun b o hb e => ?_⟩))
          refine mv.heap b o ?_ (Heap.get?_push_of_some _ (Heap.get?_push_of_some _ e))
          rw [psz]
          simp only [List.mem_cons, List.not_mem_nil, or_false, not_or]
          exact ⟨Nat.ne_of_lt hb, Nat.ne_of_lt (Nat.lt_succ_of_lt hb)⟩
      · cases r2 with
        | error e => exact hr2
        | ok f2 =>
          cases f2 with
          | next => exact hr2.elim
          | brk => exact hr2.elim
          | cont => exact hr2.elim
          | ret v2 =>
            obtain ⟨rfl, h', tk, rfl, hd, kp⟩ := hr2
            repeat (any_goals (first | assumption | wp_step))
            exact q _ _ hd kp
end
end SetT
end He

namespace He
open PySem PySem.Spec PyProof.Rows L2
section
variable {P : Program} {w : World} {K : PySem.W.Frag} {mg : Str → Option Value} {base : Heap}

/-! ### a list or a tuple, walked -/
def SeqIt (K : PySem.W.Frag) (H : Hp) (a : Addr) (xs : List V) (J : It) : Prop := (J = Itl K a ∧ SqL K H a xs) ∨ (J = Itt K a ∧ SqT K H a xs)
def Sq (K : PySem.W.Frag) (H : Hp) (a : Addr) (xs : List V) : Prop := SqL K H a xs ∨ SqT K H a xs
theorem Sq.it {H : Hp} {a : Addr} {xs : List V} (h : Sq K H a xs) : ∃ J, SeqIt K H a xs J := by
  rcases h with h | h
  · exact ⟨_, .inl ⟨rfl, h⟩⟩
  · exact ⟨_, .inr ⟨rfl, h⟩⟩
theorem Sq.mono {H H' : Hp} {a : Addr} {xs : List V} (s : Same H H') (h : Sq K H a xs) : Sq K H' a xs := by
  rcases h with h | h
  · exact .inl (s.seq h)
  · exact .inr (Same.seqT s h)
def iSeq (K : PySem.W.Frag) (tl : TE) : TI := fun σ H R => tl σ H fun x H1 => ∃ a xs J, x = .ref a ∧ SeqIt K H1 a xs J ∧ R J H1
theorem pi_seq {X : Cx} {tg : Expr} {l : Expr} {tl : TE} (hl : PE X l tl) : PI X tg l (iSeq X.K tl) := by
  refine ⟨fun pins s σ H R I h => thn (hl.run pins s σ H _ I h) fun v s1 ⟨x, H1, I1, r1, q1⟩ => ?_⟩
  obtain ⟨a, xs, J, rfl, hJ, q⟩ := q1
  cases r1
  have fin : ∀ b ∈ [s1.heap.objs.size], FpOk X pins H1 b := fun b hb => by
    obtain rfl := List.mem_singleton.mp hb
    exact I1.fpOk (Nat.le_refl _) (I1.hok.fresh (Nat.le_refl _))
  rcases hJ with ⟨rfl, hq⟩ | ⟨rfl, hq⟩
  · obtain ⟨its, rv, pl, _⟩ := I1.list hq
    exact wpAny_pyIter_list pl.isList ⟨_, [_], _, _, H1, rfl, I1.kept (t' := s1.toks) fun b o e => Heap.get?_push_of_some _ e, turn_list a _, ⟨_, Heap.get?_push_size _ rfl, rfl, rfl⟩, fin, q⟩
  · obtain ⟨its, rv, pl, _⟩ := I1.tuple hq
    exact wpAny_pyIter_tuple (show s1.heap.IsTuple a its.toArray from pl) ⟨_, [_], _, _, H1, rfl, I1.kept (t' := s1.toks) fun b o e => Heap.get?_push_of_some _ e, turn_tuple a _, ⟨_, Heap.get?_push_size _ rfl, rfl, rfl⟩, fin, q⟩
/-- a comprehension whose turns only make new things: the i-th value with Y i of it -/
theorem lg_pure {H1 : Hp} {a D : Addr} {xs : List V} {J : It} {g : TG} {te : TE} {vs : List Nat} {σ : L2.St} {Qd : Hp → Prop} (Y : Nat → V → Hp → Prop) (hJ : SeqIt K H1 a xs J) (hn : xs.length < sizeLine) (nD : H1 D = none)
    (mono : ∀ i y H H', Same H H' → Y i y H → Y i y H')
    (turn : ∀ (i : Nat) (x : V) (H : Hp) (Φ : V → Hp → Prop), xs[i]? = some x → Same H1 H → H D ≠ none → (∀ y H3, Same H H3 → Y i y (hide D H3) → Φ y H3) → g x (wipe σ vs) H fun σ2 H2 => wipe σ2 vs = wipe σ vs ∧ te σ2 H2 Φ)
    (done : ∀ (ys : List V) (H : Hp), Same H1 H → H D = some (.lst ys) → ys.length = xs.length → (∀ (i : Nat) (y : V), ys[i]? = some y → Y i y (hide D H)) → Qd H) : LcGoes J g tYes te vs σ H1 D Qd := by
  have hsame : ∀ {H : Hp} {o : HO}, Same H1 H → Same H1 (upd H D o) := fun s b o e => by
    rw [upd_ne (ne_of_none e nD)]
    exact s b o e
  have hD : ∀ {H : Hp} {o : HO}, Same (hide D H) (hide D (upd H D o)) := hide_upd
  let Pv : Nat → Hp → Prop := fun i H => ∃ ys, Same H1 H ∧ H D = some (.lst ys) ∧ ys.length = i ∧ ∀ (j : Nat) (y : V), ys[j]? = some y → Y j y (hide D H)
  have p0 : Pv 0 (upd H1 D (.lst [])) := ⟨[], hsame (Same.refl H1), upd_same, rfl, fun j y e => nomatch e⟩
  have ps : ∀ i x H, xs[i]? = some x → Pv i H → g x (wipe σ vs) H fun σ2 H2 => wipe σ2 vs = wipe σ vs ∧ tYes σ2 H2 fun b H3 =>
      if b = true then te σ2 H3 fun y H4 => ∃ acc, H4 D = some (.lst acc) ∧ acc.length < sizeLine ∧ Pv (i + 1) (upd H4 D (.lst (acc ++ [y]))) else Pv (i + 1) H3 := by
    rintro i x H hx ⟨ys, s1, eD, hl, hY⟩
    have hi : i < xs.length := (List.getElem?_eq_some_iff.mp hx).1
    have t := turn i x H (fun y H4 => ∃ acc, H4 D = some (.lst acc) ∧ acc.length < sizeLine ∧ Pv (i + 1) (upd H4 D (.lst (acc ++ [y])))) hx s1 (by rw [eD]; exact fun z => nomatch z) fun y H3 s3 hy => by
      refine ⟨ys, s3 _ _ eD, by omega, ys ++ [y], hsame (s1.trans s3), upd_same, by rw [List.length_append, hl]; rfl, fun j z e => ?_⟩
      refine mono j z _ _ hD ?_
      by_cases hj : j < ys.length
      · rw [List.getElem?_append_left hj] at e
        exact mono j z _ _ (hide_same s3) (hY j z e)
      · rw [List.getElem?_append_right (by omega)] at e
        have hj0 : j - ys.length = 0 := by
          rcases Nat.eq_zero_or_pos (j - ys.length) with h | h
          · exact h
          · rw [List.getElem?_eq_none (by simp; omega)] at e
            cases e
        rw [hj0] at e
        obtain rfl : y = z := Option.some.inj e
        have : j = i := by omega
        rw [this]
        exact hy
    exact t
  have pd : ∀ H, Pv xs.length H → Qd H := fun H ⟨ys, s1, eD, hl, hY⟩ => done ys H s1 eD hl hY
  rcases hJ with ⟨rfl, hq⟩ | ⟨rfl, hq⟩
  · exact lg_list Pv p0 (fun i H _ ⟨ys, s1, _⟩ => s1.seq hq) ps pd
  · exact lg_tup Pv p0 (fun i H _ ⟨ys, s1, _⟩ => Same.seqT s1 hq) ps pd
/-! ### len(set(texts)) -/
def tLenSetT (K : PySem.W.Frag) (ta : TE) : TE := fun σ H Q => ta σ H fun x H1 => ∃ l, ∃ xs : List Str, x = .ref l ∧ Sq K H1 l (xs.map V.str) ∧ xs.length < 4000 ∧ Q (.int ((SetT.once xs).length : Nat)) H1
theorem vals_str {xs : List Str} {us : List Value} (r : Vals (xs.map V.str) us) (i : Nat) (v : Value) (h : us[i]? = some v) : ∃ t x, xs[i]? = some x ∧ v = .str x t := by
  have hl := r.length
  rw [List.length_map] at hl
  have hi : i < us.length := (List.getElem?_eq_some_iff.mp h).1
  obtain ⟨u, e, t, ru⟩ := r.get (i := i) (x := .str (xs[i]'(by omega))) (by rw [List.getElem?_map, List.getElem?_eq_getElem (by omega)]; rfl)
  rw [h] at e
  cases e
  exact ⟨t, _, List.getElem?_eq_getElem (by omega), ru⟩
theorem pe_lenSetT {X : Cx} {a : Expr} {ta : TE} {p p2 q pos : Pos} (hc : X.calm = true) (hg : Gl X "len") (hm : X.mg "len" = none) (hg2 : Gl X "set") (hm2 : X.mg "set" = none) (ha : PE X a ta)
    (na : starEach [a] X.env = (false, eval a X.env) :: starEach [] X.env := by rfl) : PE X (.Call (.Name "len" p) [.Call (.Name "set" p2) [a] [] q] [] pos) (tLenSetT X.K ta) := by
  refine ⟨fun pins s σ H Q I h => Call_ (ld_blt I hg hm PySem.boot_len (PyProof.Rows.callWith_builtin1 (PyProof.Rows.args_cons ?_ rfl) rfl rfl))⟩
  refine Call_ (ld_blt I hg2 hm2 (show bootBuiltins "set" = some (.type "set") by decide +kernel) (PyProof.Rows.callWith_type1 (PyProof.Rows.args_cons (thn (ha.run pins s σ H _ I h) fun v s1 ⟨x, H1, I1, r1, q1⟩ => PyProof.Rows.args_nil ?_) na) na rfl))
  obtain ⟨l, xs, rfl, hq, hn, q1⟩ := q1
  cases r1
  have rest : ∀ (h' : Heap) (tk : Nat), SetT.Holds X.prog X.w h' s1.heap.objs.size xs xs.length → (∀ b o, b < s1.heap.objs.size → s1.heap.get? b = some o → h'.get? b = some o) →
      wpAny (model X.prog X.w) X.A (spliced (backTo pos (starEach [] X.env))) (fun vs s2 => wpAny (model X.prog X.w) X.A (call (.builtin "len") (Value.ref s1.heap.objs.size :: vs)) (EP X pins σ Q) X.xe s2) X.xe { s1 with heap := h', toks := tk } := by
    intro h' tk hd kp
    refine PyProof.Rows.args_nil ?_
    obtain ⟨ob, es, ep, tb, eo, ex, ed, _, _, _, hf, hz⟩ := hd
    rw [List.take_length] at hz
    have I2 : Inv X pins σ H1 { s1 with heap := h', toks := tk } := I1.kept fun b o e => kp b o (Heap.lt_size e) e
    have := SetT.once_le xs
    exact call_len_set eo ex ed hf (by omega) ⟨.int ((SetT.once xs).length : Nat), H1, I2.tok _, ⟨_, by rw [hz]⟩, q1⟩
  have hb : xs.length + 1 < scanBound := by unfold scanBound; omega
  rcases hq with hq | hq
  · obtain ⟨its, r, pl, _⟩ := I1.list hq
    exact SetT.call_set_list (I1.ok.hd hc) pl.isList (by rw [List.size_toArray, ← r.length, List.length_map]) hb (fun i v e => vals_str r i v (by simpa using e)) rest
  · obtain ⟨its, r, pl, _⟩ := I1.tuple hq
    exact SetT.call_set_tuple (I1.ok.hd hc) pl (by rw [List.size_toArray, ← r.length, List.length_map]) hb (fun i v e => vals_str r i v (by simpa using e)) rest

end
end He

namespace He
open PySem PySem.Spec PyProof.Rows L2
section
variable {P : Program} {w : World} {K : PySem.W.Frag} {mg : Str → Option Value} {base : Heap}

theorem adOkA_get {K : PySem.W.Frag} : ∀ {ds : List AD} {i : Nat} {d : AD}, AdOkA K ds → ds[i]? = some d → AdOk K d
  | [], i, d, _, e => by simp at e
  | _ :: _, 0, d, h, e => by
    cases Option.some.inj e
    exact h.1
  | _ :: ds, i + 1, d, h, e => adOkA_get (i := i) h.2 e
theorem avA_get2 {H : Hp} : ∀ {vs : List V} {ds : List AD} {i : Nat} {d : AD}, AvAll K H vs ds → ds[i]? = some d → ∃ v, vs[i]? = some v ∧ Av K H v d
  | _, _, i, _, .nil, e => by simp at e
  | _, _, 0, _, .cons a _, e => by
    cases (Option.some.inj e)
    exact ⟨_, rfl, a⟩
  | _, _, i + 1, _, .cons _ b, e => avA_get2 (i := i) b e
/-- a sequence's items -/
def itemsA : AD → Option (List AD) | .lst ds => some ds | .tup ds => some ds | _ => none
theorem av_items {H : Hp} {v : V} {d : AD} {ds : List AD} (h : Av K H v d) (e : itemsA d = some ds) : ∃ a xs, v = .ref a ∧ Sq K H a xs ∧ AvAll K H xs ds := by
  cases h with
  | lst hs ha => cases (Option.some.inj e); exact ⟨_, _, rfl, .inl hs, ha⟩
  | tup hs ha => cases (Option.some.inj e); exact ⟨_, _, rfl, .inr hs, ha⟩
  | non => cases e
  | bl b => cases e
  | int i => cases e
  | str x => cases e
  | ins a b => cases e
theorem ok_items {d : AD} {ds : List AD} (h : AdOk K d) (e : itemsA d = some ds) : ds.length < 4000 ∧ AdOkA K ds := by
  cases d <;> first | (cases (Option.some.inj e); exact h) | cases e
theorem seq_items (d : AD) : isSeqA d = (itemsA d).isSome := by cases d <;> rfl
/-- the texts, if all are -/
def strsA : List AD → Option (List Str)
  | [] => some []
  | .str x :: r => (strsA r).map (x :: ·)
  | _ :: _ => none
def grpA (d : AD) : Option (List Str) := match itemsA d with
  | some ds => if ds.isEmpty then none else if ds.all isNameA then (match strsA ds with | some xs => if xs.Nodup then some xs else none | none => none) else none
  | none => none
def isGrpA (d : AD) : Bool := (grpA d).isSome
theorem names_strs : ∀ {ds : List AD}, ds.all isNameA = true → ∃ xs, strsA ds = some xs ∧ ∀ x ∈ xs, nameB x = true
  | [], _ => ⟨[], rfl, fun _ h => nomatch h⟩
  | d :: r, h => by
    rw [List.all_cons, Bool.and_eq_true] at h
    obtain ⟨xs, e, hn⟩ := names_strs h.2
    cases d with
    | str x =>
      refine ⟨x :: xs, ?_, fun y hy => ?_⟩
      · show (strsA r).map (x :: ·) = _
        rw [e]
        rfl
      · rcases List.mem_cons.mp hy with rfl | hy
        · exact h.1
        · exact hn y hy
    | _ => exact nomatch h.1
theorem av_strs {H : Hp} : ∀ {vs : List V} {ds : List AD} {xs : List Str}, AvAll K H vs ds → strsA ds = some xs → vs = xs.map V.str
  | _, _, _, .nil, e => by cases (Option.some.inj e); rfl
  | v :: vs, d :: ds, xs, .cons a b, e => by
    cases a with
    | str x =>
      cases h : strsA ds with
      | none => rw [show strsA (.str x :: ds) = (strsA ds).map (x :: ·) from rfl, h] at e; cases e
      | some ys =>
        rw [show strsA (.str x :: ds) = (strsA ds).map (x :: ·) from rfl, h] at e
        cases (Option.some.inj e)
        rw [av_strs b h]
        rfl
    | _ => cases e
theorem bl_list {f : AD → Bool} {ds : List AD} {ys : List V} (hl : ys.length = ds.length) (h : ∀ (i : Nat) (y : V), ys[i]? = some y → ∃ d, ds[i]? = some d ∧ y = .bl (f d)) : ys = (ds.map f).map V.bl := by
  refine List.ext_getElem? fun i => ?_
  rw [List.getElem?_map, List.getElem?_map]
  cases e : ys[i]? with
  | none =>
    rw [List.getElem?_eq_none (by have := List.getElem?_eq_none_iff.mp e; omega)]
    rfl
  | some y =>
    obtain ⟨d, e2, rfl⟩ := h i y e
    rw [e2]
    rfl
/-- [f(x) for x in xs], f a test of any value -/
theorem lg_is {H1 : Hp} {a D : Addr} {xs : List V} {ds : List AD} {J : It} {i : Nat} {σ : L2.St} {Qd : Hp → Prop} {f : AD → Bool} (hJ : SeqIt K H1 a xs J) (hv : AvAll K H1 xs ds) (ho : AdOkA K ds) (hn : ds.length < 4000) (hi : i < σ.length) (nD : H1 D = none)
    (done : ∀ H : Hp, Same H1 H → H D = some (.lst ((ds.map f).map V.bl)) → Qd H) : LcGoes J (gName i) tYes (tCall (spIs K f) [] E0 (tCons (tVar i) tNil)) [i] σ H1 D Qd := by
  have hl := avA_len hv
  refine lg_pure (fun j y _ => ∃ d, ds[j]? = some d ∧ y = .bl (f d)) hJ (Nat.lt_of_lt_of_le (by omega : xs.length < 4000) (by decide)) nD (fun _ _ _ _ _ h => h) (fun j x H Φ hx s1 _ hΦ => ?_) (fun ys H s1 eD hl2 hY => ?_)
  · show wipe ((wipe σ [i]).set i (some x)) [i] = wipe σ [i] ∧ _
    refine ⟨by show ((σ.set i none).set i (some x)).set i none = σ.set i none; rw [List.set_set, List.set_set], ?_⟩
    obtain ⟨d, hd, hx2⟩ := avA_get hv hx
    refine ⟨x, ?_, ?_⟩
    · show ((σ.set i none).set i (some x))[i]? = _
      rw [List.set_set, List.getElem?_set_self hi]
    · exact ⟨x, d, rfl, av_mono s1 d x hx2, adOkA_get ho hd, fun H2 s2 => hΦ _ _ s2 ⟨d, hd, rfl⟩⟩
  · refine done H s1 ?_
    rw [eD, bl_list (f := f) (by rw [hl2, hl]) hY]
theorem ok_isgroup (T : TxtG K mg) : FnOk P w K mg base CX0 2 T.dIsGroup.f T.dIsGroup.fd ["value"] (spIs K isGrpA) := by
  refine T.dIsGroup.F.ok scDIsGroup (fun vs H Q E h => ?_) (fun cdv A outer s H vs Q E hr h => ?_)
  · obtain ⟨v, d, rfl, _⟩ := h
    rfl
  · obtain ⟨v, d, rfl, hv, hd, q⟩ := h
    refine ⟨_, (pss_cons (ps_if (PW.pt (pw_or (pt_not (pt_val (pe_call (ok_isseq T) (hr.mono (by decide)) (by rfl) T.dIsSequence.g T.dIsSequence.F.kp T.dIsSequence.b .nil pass0 (pa_cons (pv 0) pa_nil)))) (pw_or1 (pt_cmpR op_eq (pe_callB call_len_seq (by rfl) T.z_len (show bootBuiltins "len" = some (.builtin "len") by decide +kernel) (pa_cons (pv 0) pa_nil)) pe_int (nomark _)))))
      (pss_one (ps_ret pe_bl))
      pss_nil)
      (pss_one (ps_ret (pe_and (pe_callB (cr_all rfl) (by rfl) T.z_all (show bootBuiltins "all" = some (.builtin "all") by decide +kernel) (pa_cons (pe_lc (own := [("name", 1)]) (g := (gName 1)) (tt := tYes) rfl scDIsGroup.nd (pi_seq (pv 0)) (blkOk_by (N := ["value", "name"]) (sc := defScope sDIsGroup) (by decide +kernel)) (fun _ _ _ _ _ => (pg_name (i := 1) scDIsGroup.nd rfl (.inl rfl))) (fun _ _ _ _ _ => pts_nil) (fun _ _ _ _ _ => (pe_call (ok_isname T) (hr.mono (by decide)) (by rfl) T.dIsName.g T.dIsName.F.kp T.dIsName.b .nil pass0 (pa_cons (pv 1) pa_nil)))) pa_nil)) (pe_one (pe_cmpR op_eq (pe_lenSetT rfl (by rfl) T.z_len (by rfl) T.z_set (pv 0)) (pe_callB call_len_seq (by rfl) T.z_len (show bootBuiltins "len" = some (.builtin "len") by decide +kernel) (pa_cons (pv 0) pa_nil)) (nomark _))))))), ?_⟩
    simp only [and_assoc, tSeq, tAsg, tOp, tUn, rI, rI0, rU, tVar, tC, gName, L2.start, tIfS, tTest, tB, tCB, tCons, tNil, tIf, tRet, tRetN, tLst, tTup, tNext, tDrop, tNot, tNotV, tAnd, tOr, tAndV, tOrV, tPar, tAug, ipI, rEq, rNe, gSub, rSetL, rIxL, rIxT, tBM, tBM0, rAppend, rPopAt, gTup, gCons, gNil, tCall, tSl, tPart, tNoPart, rSlL, rCat, rEqD, rNeD, rIn, scal, List.map_cons, List.map_nil, List.length_cons, List.length_nil, List.length_map, List.cons_append, List.nil_append, List.append_nil, List.replicate, List.getElem?_cons_zero, List.getElem?_cons_succ, List.set_cons_zero, List.set_cons_succ, Option.some.injEq, exists_eq_left', exists_eq_left, exists_eq_right, exists_and_left, exists_and_right, V.int.injEq, V.ref.injEq, V.str.injEq, V.bl.injEq, reduceCtorEq, false_and, and_false, exists_false, or_false, false_or, true_and, and_true, List.cons.injEq, decide_eq_true_eq, cxOf, if_true, if_false, Bool.false_eq_true, Nat.reduceAdd, Nat.reduceSub, Nat.zero_add, Nat.add_sub_cancel_left, Nat.add_sub_cancel, Nat.sub_self, tFor_eq, tLc_eq, iRng1, iRng2, iList, iTup, iEnum, rIsi, rIsiT, spIs, tLenSetT, rAll, iSeq]
    refine ⟨d, hv, hd, fun H1 s1 => ?_⟩
    rw [seq_items]
    cases ei : itemsA d with
    | none =>
      simp only [and_assoc, tSeq, tAsg, tOp, tUn, rI, rI0, rU, tVar, tC, gName, L2.start, tIfS, tTest, tB, tCB, tCons, tNil, tIf, tRet, tRetN, tLst, tTup, tNext, tDrop, tNot, tNotV, tAnd, tOr, tAndV, tOrV, tPar, tAug, ipI, rEq, rNe, gSub, rSetL, rIxL, rIxT, tBM, tBM0, rAppend, rPopAt, gTup, gCons, gNil, tCall, tSl, tPart, tNoPart, rSlL, rCat, rEqD, rNeD, rIn, scal, List.map_cons, List.map_nil, List.length_cons, List.length_nil, List.length_map, List.cons_append, List.nil_append, List.append_nil, List.replicate, List.getElem?_cons_zero, List.getElem?_cons_succ, List.set_cons_zero, List.set_cons_succ, Option.some.injEq, exists_eq_left', exists_eq_left, exists_eq_right, exists_and_left, exists_and_right, V.int.injEq, V.ref.injEq, V.str.injEq, V.bl.injEq, reduceCtorEq, false_and, and_false, exists_false, or_false, false_or, true_and, and_true, List.cons.injEq, decide_eq_true_eq, cxOf, if_true, if_false, Bool.false_eq_true, Nat.reduceAdd, Nat.reduceSub, Nat.zero_add, Nat.add_sub_cancel_left, Nat.add_sub_cancel, Nat.sub_self, tFor_eq, tLc_eq, iRng1, iRng2, iList, iTup, iEnum, rIsi, rIsiT, Option.isSome_none, Bool.not_false]
      have e : isGrpA d = false := by unfold isGrpA grpA; rw [ei]; rfl
      rw [← e]
      exact q _ s1
    | some ds =>
      simp only [and_assoc, tSeq, tAsg, tOp, tUn, rI, rI0, rU, tVar, tC, gName, L2.start, tIfS, tTest, tB, tCB, tCons, tNil, tIf, tRet, tRetN, tLst, tTup, tNext, tDrop, tNot, tNotV, tAnd, tOr, tAndV, tOrV, tPar, tAug, ipI, rEq, rNe, gSub, rSetL, rIxL, rIxT, tBM, tBM0, rAppend, rPopAt, gTup, gCons, gNil, tCall, tSl, tPart, tNoPart, rSlL, rCat, rEqD, rNeD, rIn, scal, List.map_cons, List.map_nil, List.length_cons, List.length_nil, List.length_map, List.cons_append, List.nil_append, List.append_nil, List.replicate, List.getElem?_cons_zero, List.getElem?_cons_succ, List.set_cons_zero, List.set_cons_succ, Option.some.injEq, exists_eq_left', exists_eq_left, exists_eq_right, exists_and_left, exists_and_right, V.int.injEq, V.ref.injEq, V.str.injEq, V.bl.injEq, reduceCtorEq, false_and, and_false, exists_false, or_false, false_or, true_and, and_true, List.cons.injEq, decide_eq_true_eq, cxOf, if_true, if_false, Bool.false_eq_true, Nat.reduceAdd, Nat.reduceSub, Nat.zero_add, Nat.add_sub_cancel_left, Nat.add_sub_cancel, Nat.sub_self, tFor_eq, tLc_eq, iRng1, iRng2, iList, iTup, iEnum, rIsi, rIsiT, Option.isSome_some, Bool.not_true]
      obtain ⟨a, xs, rfl, hs, ha⟩ := av_items hv ei
      obtain ⟨hn, ho⟩ := ok_items hd ei
      have hl := avA_len ha
      refine ⟨a, rfl, xs, hs.mono s1, ?_⟩
      by_cases h0 : ds = []
      · rw [if_pos (by rw [hl, h0]; rfl)]
        have e : isGrpA d = false := by unfold isGrpA grpA; rw [ei, h0]; rfl
        rw [← e]
        exact q _ s1
      · have hpos : 0 < ds.length := List.length_pos_iff.mpr h0
        rw [if_neg (by omega)]
        obtain ⟨J, hJ⟩ := (hs.mono s1).it
        refine ⟨a, rfl, xs, J, hJ, fun D nD => lg_is hJ (avA_mono s1 _ _ ha) ho hn (by decide : 1 < 2) nD fun H2 s2 eD => ⟨_, sqL_of eD, ?_⟩⟩
        have ea : (ds.map isNameA).all id = ds.all isNameA := by rw [List.all_map]; rfl
        rw [ea]
        have hie : ds.isEmpty = false := by cases ds with | nil => exact absurd rfl h0 | cons _ _ => rfl
        cases hall : ds.all isNameA with
        | false =>
          simp only [and_assoc, tSeq, tAsg, tOp, tUn, rI, rI0, rU, tVar, tC, gName, L2.start, tIfS, tTest, tB, tCB, tCons, tNil, tIf, tRet, tRetN, tLst, tTup, tNext, tDrop, tNot, tNotV, tAnd, tOr, tAndV, tOrV, tPar, tAug, ipI, rEq, rNe, gSub, rSetL, rIxL, rIxT, tBM, tBM0, rAppend, rPopAt, gTup, gCons, gNil, tCall, tSl, tPart, tNoPart, rSlL, rCat, rEqD, rNeD, rIn, scal, List.map_cons, List.map_nil, List.length_cons, List.length_nil, List.length_map, List.cons_append, List.nil_append, List.append_nil, List.replicate, List.getElem?_cons_zero, List.getElem?_cons_succ, List.set_cons_zero, List.set_cons_succ, Option.some.injEq, exists_eq_left', exists_eq_left, exists_eq_right, exists_and_left, exists_and_right, V.int.injEq, V.ref.injEq, V.str.injEq, V.bl.injEq, reduceCtorEq, false_and, and_false, exists_false, or_false, false_or, true_and, and_true, List.cons.injEq, decide_eq_true_eq, cxOf, if_true, if_false, Bool.false_eq_true, Nat.reduceAdd, Nat.reduceSub, Nat.zero_add, Nat.add_sub_cancel_left, Nat.add_sub_cancel, Nat.sub_self, tFor_eq, tLc_eq, iRng1, iRng2, iList, iTup, iEnum, rIsi, rIsiT]
          have e : isGrpA d = false := by unfold isGrpA grpA; rw [ei]; simp only [hie, hall]; rfl
          rw [← e]
          exact q _ (s1.trans s2)
        | true =>
          simp only [and_assoc, tSeq, tAsg, tOp, tUn, rI, rI0, rU, tVar, tC, gName, L2.start, tIfS, tTest, tB, tCB, tCons, tNil, tIf, tRet, tRetN, tLst, tTup, tNext, tDrop, tNot, tNotV, tAnd, tOr, tAndV, tOrV, tPar, tAug, ipI, rEq, rNe, gSub, rSetL, rIxL, rIxT, tBM, tBM0, rAppend, rPopAt, gTup, gCons, gNil, tCall, tSl, tPart, tNoPart, rSlL, rCat, rEqD, rNeD, rIn, scal, List.map_cons, List.map_nil, List.length_cons, List.length_nil, List.length_map, List.cons_append, List.nil_append, List.append_nil, List.replicate, List.getElem?_cons_zero, List.getElem?_cons_succ, List.set_cons_zero, List.set_cons_succ, Option.some.injEq, exists_eq_left', exists_eq_left, exists_eq_right, exists_and_left, exists_and_right, V.int.injEq, V.ref.injEq, V.str.injEq, V.bl.injEq, reduceCtorEq, false_and, and_false, exists_false, or_false, false_or, true_and, and_true, List.cons.injEq, decide_eq_true_eq, cxOf, if_true, if_false, Bool.false_eq_true, Nat.reduceAdd, Nat.reduceSub, Nat.zero_add, Nat.add_sub_cancel_left, Nat.add_sub_cancel, Nat.sub_self, tFor_eq, tLc_eq, iRng1, iRng2, iList, iTup, iEnum, rIsi, rIsiT]
          obtain ⟨ns, en, _⟩ := names_strs hall
          have ex : xs = ns.map V.str := av_strs ha en
          have hnl : ns.length = ds.length := by rw [← hl, ex, List.length_map]
          have hs2 : Sq K H2 a xs := hs.mono (s1.trans s2)
          refine ⟨ns, by rw [← ex]; exact hs2, by omega, xs, hs2, ?_⟩
          have e : isGrpA d = decide (((SetT.once ns).length : Int) = (xs.length : Int)) := by
            have hiff := SetT.once_len ns
            unfold isGrpA grpA
            rw [ei]
            simp only [hie, hall, en]
            rw [show xs.length = ns.length by omega]
            by_cases hnd : ns.Nodup
            · rw [decide_eq_true (by rw [hiff.mpr hnd])]
              simp [hnd]
            · rw [decide_eq_false (fun z => hnd (hiff.mp (by omega)))]
              simp [hnd]
          rw [← e]
          exact q _ (s1.trans s2)

end
end He

namespace He
open PySem PySem.Spec PyProof.Rows L2
section
variable {P : Program} {w : World} {K : PySem.W.Frag} {mg : Str → Option Value} {base : Heap}

def isGrpsA (g : AD) : Bool := match itemsA g with | some gs => gs.all isGrpA | none => false
def wOkA : AD → Bool
  | .int n => decide (1 ≤ n)
  | _ => false
def isShA : AD → Bool
  | .tup [w, g] => wOkA w && isGrpsA g
  | _ => false
def isWillA (d : AD) : Bool := match itemsA d with | some ds => !ds.isEmpty && ds.all isShA | none => false
theorem pair_tup {d : AD} (h : isPairA d = true) : ∃ w g, d = .tup [w, g] := by
  match d, h with
  | .tup [w, g], _ => exact ⟨w, g, rfl⟩
theorem int_of {d : AD} (h : isIntA d = true) : ∃ n, d = .int n := by
  cases d with
  | int n => exact ⟨n, rfl⟩
  | _ => exact nomatch h
theorem ok_isshare (T : TxtG K mg) : FnOk P w K mg base CX0 3 T.dIsShare.f T.dIsShare.fd ["value"] (spIs K isShA) := by
  refine T.dIsShare.F.ok scDIsShare (fun vs H Q E h => ?_) (fun cdv A outer s H vs Q E hr h => ?_)
  · obtain ⟨v, d, rfl, _⟩ := h
    rfl
  · obtain ⟨v, d, rfl, hv, hd, q⟩ := h
    refine ⟨_, (pss_cons (ps_if (pt_not (pt_val (pe_call (ok_ispair T) (hr.mono (by decide)) (by rfl) T.dIsPair.g T.dIsPair.F.kp T.dIsPair.b .nil pass0 (pa_cons (pv 0) pa_nil))))
      (pss_one (ps_ret pe_bl))
      pss_nil)
      (pss_cons (ps_asg (pv 0) (pg_tup (n := 2) rfl (pgs_cons (pg_name (i := 1) scDIsShare.nd rfl (.inl rfl)) (pgs_cons (pg_name (i := 2) scDIsShare.nd rfl (.inl rfl)) pgs_nil))))
      (pss_cons (ps_if (PW.pt (pw_or (pt_not (pt_val (pe_call (ok_isint T) (hr.mono (by decide)) (by rfl) T.dIsInteger.g T.dIsInteger.F.kp T.dIsInteger.b .nil pass0 (pa_cons (pv 1) pa_nil)))) (pw_or (pt_cmpR op_lt (pv 1) pe_int (nomark _)) (pw_or1 (pt_not (pt_val (pe_call (ok_isseq T) (hr.mono (by decide)) (by rfl) T.dIsSequence.g T.dIsSequence.F.kp T.dIsSequence.b .nil pass0 (pa_cons (pv 2) pa_nil))))))))
      (pss_one (ps_ret pe_bl))
      pss_nil)
      (pss_one (ps_ret (pe_callB (cr_all rfl) (by rfl) T.z_all (show bootBuiltins "all" = some (.builtin "all") by decide +kernel) (pa_cons (pe_lc (own := [("group", 3)]) (g := (gName 3)) (tt := tYes) rfl scDIsShare.nd (pi_seq (pv 2)) (blkOk_by (N := ["value", "weight", "groups", "group"]) (sc := defScope sDIsShare) (by decide +kernel)) (fun _ _ _ _ _ => (pg_name (i := 3) scDIsShare.nd rfl (.inl rfl))) (fun _ _ _ _ _ => pts_nil) (fun _ _ _ _ _ => (pe_call (ok_isgroup T) (hr.mono (by decide)) (by rfl) T.dIsGroup.g T.dIsGroup.F.kp T.dIsGroup.b .nil pass0 (pa_cons (pv 3) pa_nil)))) pa_nil))))))), ?_⟩
    simp only [and_assoc, tSeq, tAsg, tOp, tUn, rI, rI0, rU, tVar, tC, gName, L2.start, tIfS, tTest, tB, tCB, tCons, tNil, tIf, tRet, tRetN, tLst, tTup, tNext, tDrop, tNot, tNotV, tAnd, tOr, tAndV, tOrV, tPar, tAug, ipI, rEq, rNe, gSub, rSetL, rIxL, rIxT, tBM, tBM0, rAppend, rPopAt, gTup, gCons, gNil, tCall, tSl, tPart, tNoPart, rSlL, rCat, rEqD, rNeD, rIn, scal, List.map_cons, List.map_nil, List.length_cons, List.length_nil, List.length_map, List.cons_append, List.nil_append, List.append_nil, List.replicate, List.getElem?_cons_zero, List.getElem?_cons_succ, List.set_cons_zero, List.set_cons_succ, Option.some.injEq, exists_eq_left', exists_eq_left, exists_eq_right, exists_and_left, exists_and_right, V.int.injEq, V.ref.injEq, V.str.injEq, V.bl.injEq, reduceCtorEq, false_and, and_false, exists_false, or_false, false_or, true_and, and_true, List.cons.injEq, decide_eq_true_eq, cxOf, if_true, if_false, Bool.false_eq_true, Nat.reduceAdd, Nat.reduceSub, Nat.zero_add, Nat.add_sub_cancel_left, Nat.add_sub_cancel, Nat.sub_self, tFor_eq, tLc_eq, iRng1, iRng2, iList, iTup, iEnum, rIsi, rIsiT, spIs, tLenSetT, rAll, iSeq]
    refine ⟨d, hv, hd, fun H1 s1 => ?_⟩
    cases hp : isPairA d with
    | false =>
      simp only [and_assoc, tSeq, tAsg, tOp, tUn, rI, rI0, rU, tVar, tC, gName, L2.start, tIfS, tTest, tB, tCB, tCons, tNil, tIf, tRet, tRetN, tLst, tTup, tNext, tDrop, tNot, tNotV, tAnd, tOr, tAndV, tOrV, tPar, tAug, ipI, rEq, rNe, gSub, rSetL, rIxL, rIxT, tBM, tBM0, rAppend, rPopAt, gTup, gCons, gNil, tCall, tSl, tPart, tNoPart, rSlL, rCat, rEqD, rNeD, rIn, scal, List.map_cons, List.map_nil, List.length_cons, List.length_nil, List.length_map, List.cons_append, List.nil_append, List.append_nil, List.replicate, List.getElem?_cons_zero, List.getElem?_cons_succ, List.set_cons_zero, List.set_cons_succ, Option.some.injEq, exists_eq_left', exists_eq_left, exists_eq_right, exists_and_left, exists_and_right, V.int.injEq, V.ref.injEq, V.str.injEq, V.bl.injEq, reduceCtorEq, false_and, and_false, exists_false, or_false, false_or, true_and, and_true, List.cons.injEq, decide_eq_true_eq, cxOf, if_true, if_false, Bool.false_eq_true, Nat.reduceAdd, Nat.reduceSub, Nat.zero_add, Nat.add_sub_cancel_left, Nat.add_sub_cancel, Nat.sub_self, tFor_eq, tLc_eq, iRng1, iRng2, iList, iTup, iEnum, rIsi, rIsiT, Bool.not_false]
      have e : isShA d = false := by
        match d, hp with
        | .tup [], _ => rfl
        | .tup [_], _ => rfl
        | .tup (_ :: _ :: _ :: _), _ => rfl
        | .non, _ => rfl
        | .bl _, _ => rfl
        | .int _, _ => rfl
        | .str _, _ => rfl
        | .lst _, _ => rfl
        | .ins _, _ => rfl
      rw [← e]
      exact q _ s1
    | true =>
      obtain ⟨wd, gd, rfl⟩ := pair_tup hp
      obtain ⟨a, xs, rfl, hs, ha⟩ : ∃ a xs, v = .ref a ∧ SqT K H a xs ∧ AvAll K H xs [wd, gd] := by
        cases hv with
        | tup hs' ha' => exact ⟨_, _, rfl, hs', ha'⟩
      obtain ⟨hn, ho⟩ := ok_items hd rfl
      simp only [and_assoc, tSeq, tAsg, tOp, tUn, rI, rI0, rU, tVar, tC, gName, L2.start, tIfS, tTest, tB, tCB, tCons, tNil, tIf, tRet, tRetN, tLst, tTup, tNext, tDrop, tNot, tNotV, tAnd, tOr, tAndV, tOrV, tPar, tAug, ipI, rEq, rNe, gSub, rSetL, rIxL, rIxT, tBM, tBM0, rAppend, rPopAt, gTup, gCons, gNil, tCall, tSl, tPart, tNoPart, rSlL, rCat, rEqD, rNeD, rIn, scal, List.map_cons, List.map_nil, List.length_cons, List.length_nil, List.length_map, List.cons_append, List.nil_append, List.append_nil, List.replicate, List.getElem?_cons_zero, List.getElem?_cons_succ, List.set_cons_zero, List.set_cons_succ, Option.some.injEq, exists_eq_left', exists_eq_left, exists_eq_right, exists_and_left, exists_and_right, V.int.injEq, V.ref.injEq, V.str.injEq, V.bl.injEq, reduceCtorEq, false_and, and_false, exists_false, or_false, false_or, true_and, and_true, List.cons.injEq, decide_eq_true_eq, cxOf, if_true, if_false, Bool.false_eq_true, Nat.reduceAdd, Nat.reduceSub, Nat.zero_add, Nat.add_sub_cancel_left, Nat.add_sub_cancel, Nat.sub_self, tFor_eq, tLc_eq, iRng1, iRng2, iList, iTup, iEnum, rIsi, rIsiT, Bool.not_true]
      have ha1 := avA_mono s1 _ _ ha
      cases ha1 with
      | @cons v1 _ _ _ w1 r1 =>
        cases r1 with
        | @cons v2 _ _ _ w2 r2 =>
          cases r2
          refine ⟨_, Same.seqT s1 hs, rfl, v1, _, rfl, v2, _, rfl, rfl, wd, w1, ho.1, fun H2 s2 => ?_⟩
          have w2' := av_mono s2 _ _ w2
          cases hi : isIntA wd with
          | false =>
            simp only [and_assoc, tSeq, tAsg, tOp, tUn, rI, rI0, rU, tVar, tC, gName, L2.start, tIfS, tTest, tB, tCB, tCons, tNil, tIf, tRet, tRetN, tLst, tTup, tNext, tDrop, tNot, tNotV, tAnd, tOr, tAndV, tOrV, tPar, tAug, ipI, rEq, rNe, gSub, rSetL, rIxL, rIxT, tBM, tBM0, rAppend, rPopAt, gTup, gCons, gNil, tCall, tSl, tPart, tNoPart, rSlL, rCat, rEqD, rNeD, rIn, scal, List.map_cons, List.map_nil, List.length_cons, List.length_nil, List.length_map, List.cons_append, List.nil_append, List.append_nil, List.replicate, List.getElem?_cons_zero, List.getElem?_cons_succ, List.set_cons_zero, List.set_cons_succ, Option.some.injEq, exists_eq_left', exists_eq_left, exists_eq_right, exists_and_left, exists_and_right, V.int.injEq, V.ref.injEq, V.str.injEq, V.bl.injEq, reduceCtorEq, false_and, and_false, exists_false, or_false, false_or, true_and, and_true, List.cons.injEq, decide_eq_true_eq, cxOf, if_true, if_false, Bool.false_eq_true, Nat.reduceAdd, Nat.reduceSub, Nat.zero_add, Nat.add_sub_cancel_left, Nat.add_sub_cancel, Nat.sub_self, tFor_eq, tLc_eq, iRng1, iRng2, iList, iTup, iEnum, rIsi, rIsiT, Bool.not_false]
            have e : isShA (.tup [wd, gd]) = false := by cases wd <;> first | rfl | (exact nomatch hi)
            rw [← e]
            exact q _ (s1.trans s2)
          | true =>
            obtain ⟨n, rfl⟩ := int_of hi
            cases w1
            simp only [and_assoc, tSeq, tAsg, tOp, tUn, rI, rI0, rU, tVar, tC, gName, L2.start, tIfS, tTest, tB, tCB, tCons, tNil, tIf, tRet, tRetN, tLst, tTup, tNext, tDrop, tNot, tNotV, tAnd, tOr, tAndV, tOrV, tPar, tAug, ipI, rEq, rNe, gSub, rSetL, rIxL, rIxT, tBM, tBM0, rAppend, rPopAt, gTup, gCons, gNil, tCall, tSl, tPart, tNoPart, rSlL, rCat, rEqD, rNeD, rIn, scal, List.map_cons, List.map_nil, List.length_cons, List.length_nil, List.length_map, List.cons_append, List.nil_append, List.append_nil, List.replicate, List.getElem?_cons_zero, List.getElem?_cons_succ, List.set_cons_zero, List.set_cons_succ, Option.some.injEq, exists_eq_left', exists_eq_left, exists_eq_right, exists_and_left, exists_and_right, V.int.injEq, V.ref.injEq, V.str.injEq, V.bl.injEq, reduceCtorEq, false_and, and_false, exists_false, or_false, false_or, true_and, and_true, List.cons.injEq, decide_eq_true_eq, cxOf, if_true, if_false, Bool.false_eq_true, Nat.reduceAdd, Nat.reduceSub, Nat.zero_add, Nat.add_sub_cancel_left, Nat.add_sub_cancel, Nat.sub_self, tFor_eq, tLc_eq, iRng1, iRng2, iList, iTup, iEnum, rIsi, rIsiT, Bool.not_true]
            by_cases h1 : n < 1
            · rw [if_pos h1]
              have e : isShA (.tup [.int n, gd]) = false := by
                show (decide (1 ≤ n) && isGrpsA gd) = false
                rw [decide_eq_false (by omega)]
                rfl
              rw [← e]
              exact q _ (s1.trans s2)
            · rw [if_neg h1]
              have e : isShA (.tup [.int n, gd]) = isGrpsA gd := by
                show (decide (1 ≤ n) && isGrpsA gd) = _
                rw [decide_eq_true (by omega)]
                rfl
              rw [e] at q
              refine ⟨gd, w2', ho.2.1, fun H3 s3 => ?_⟩
              rw [seq_items]
              cases ei : itemsA gd with
              | none =>
                simp only [and_assoc, tSeq, tAsg, tOp, tUn, rI, rI0, rU, tVar, tC, gName, L2.start, tIfS, tTest, tB, tCB, tCons, tNil, tIf, tRet, tRetN, tLst, tTup, tNext, tDrop, tNot, tNotV, tAnd, tOr, tAndV, tOrV, tPar, tAug, ipI, rEq, rNe, gSub, rSetL, rIxL, rIxT, tBM, tBM0, rAppend, rPopAt, gTup, gCons, gNil, tCall, tSl, tPart, tNoPart, rSlL, rCat, rEqD, rNeD, rIn, scal, List.map_cons, List.map_nil, List.length_cons, List.length_nil, List.length_map, List.cons_append, List.nil_append, List.append_nil, List.replicate, List.getElem?_cons_zero, List.getElem?_cons_succ, List.set_cons_zero, List.set_cons_succ, Option.some.injEq, exists_eq_left', exists_eq_left, exists_eq_right, exists_and_left, exists_and_right, V.int.injEq, V.ref.injEq, V.str.injEq, V.bl.injEq, reduceCtorEq, false_and, and_false, exists_false, or_false, false_or, true_and, and_true, List.cons.injEq, decide_eq_true_eq, cxOf, if_true, if_false, Bool.false_eq_true, Nat.reduceAdd, Nat.reduceSub, Nat.zero_add, Nat.add_sub_cancel_left, Nat.add_sub_cancel, Nat.sub_self, tFor_eq, tLc_eq, iRng1, iRng2, iList, iTup, iEnum, rIsi, rIsiT, Option.isSome_none, Bool.not_false]
                have e2 : isGrpsA gd = false := by unfold isGrpsA; rw [ei]
                rw [← e2]
                exact q _ ((s1.trans s2).trans s3)
              | some ds =>
                simp only [and_assoc, tSeq, tAsg, tOp, tUn, rI, rI0, rU, tVar, tC, gName, L2.start, tIfS, tTest, tB, tCB, tCons, tNil, tIf, tRet, tRetN, tLst, tTup, tNext, tDrop, tNot, tNotV, tAnd, tOr, tAndV, tOrV, tPar, tAug, ipI, rEq, rNe, gSub, rSetL, rIxL, rIxT, tBM, tBM0, rAppend, rPopAt, gTup, gCons, gNil, tCall, tSl, tPart, tNoPart, rSlL, rCat, rEqD, rNeD, rIn, scal, List.map_cons, List.map_nil, List.length_cons, List.length_nil, List.length_map, List.cons_append, List.nil_append, List.append_nil, List.replicate, List.getElem?_cons_zero, List.getElem?_cons_succ, List.set_cons_zero, List.set_cons_succ, Option.some.injEq, exists_eq_left', exists_eq_left, exists_eq_right, exists_and_left, exists_and_right, V.int.injEq, V.ref.injEq, V.str.injEq, V.bl.injEq, reduceCtorEq, false_and, and_false, exists_false, or_false, false_or, true_and, and_true, List.cons.injEq, decide_eq_true_eq, cxOf, if_true, if_false, Bool.false_eq_true, Nat.reduceAdd, Nat.reduceSub, Nat.zero_add, Nat.add_sub_cancel_left, Nat.add_sub_cancel, Nat.sub_self, tFor_eq, tLc_eq, iRng1, iRng2, iList, iTup, iEnum, rIsi, rIsiT, Option.isSome_some, Bool.not_true]
                obtain ⟨b, ys, rfl, hys, hay⟩ := av_items w2' ei
                obtain ⟨hn2, ho2⟩ := ok_items ho.2.1 ei
                obtain ⟨J, hJ⟩ := (hys.mono s3).it
                refine ⟨b, rfl, ys, J, hJ, fun D nD => lg_is hJ (avA_mono s3 _ _ hay) ho2 hn2 (by decide : 3 < 4) nD fun H4 s4 eD => ⟨_, sqL_of eD, ?_⟩⟩
                have e2 : (ds.map isGrpA).all id = isGrpsA gd := by unfold isGrpsA; rw [ei, List.all_map]; rfl
                rw [e2]
                exact q _ (((s1.trans s2).trans s3).trans s4)
theorem ok_areshares (T : TxtG K mg) : FnOk P w K mg base CX0 4 T.dAreShares.f T.dAreShares.fd ["value"] (spIs K isWillA) := by
  refine T.dAreShares.F.ok scDAreShares (fun vs H Q E h => ?_) (fun cdv A outer s H vs Q E hr h => ?_)
  · obtain ⟨v, d, rfl, _⟩ := h
    rfl
  · obtain ⟨v, d, rfl, hv, hd, q⟩ := h
    refine ⟨_, (pss_one (ps_ret (pe_and (pe_call (ok_isseq T) (hr.mono (by decide)) (by rfl) T.dIsSequence.g T.dIsSequence.F.kp T.dIsSequence.b .nil pass0 (pa_cons (pv 0) pa_nil)) (pe_and (pe_cmpR op_gt (pe_callB call_len_seq (by rfl) T.z_len (show bootBuiltins "len" = some (.builtin "len") by decide +kernel) (pa_cons (pv 0) pa_nil)) pe_int (nomark _)) (pe_one (pe_callB (cr_all rfl) (by rfl) T.z_all (show bootBuiltins "all" = some (.builtin "all") by decide +kernel) (pa_cons (pe_lc (own := [("share", 1)]) (g := (gName 1)) (tt := tYes) rfl scDAreShares.nd (pi_seq (pv 0)) (blkOk_by (N := ["value", "share"]) (sc := defScope sDAreShares) (by decide +kernel)) (fun _ _ _ _ _ => (pg_name (i := 1) scDAreShares.nd rfl (.inl rfl))) (fun _ _ _ _ _ => pts_nil) (fun _ _ _ _ _ => (pe_call (ok_isshare T) (hr.mono (by decide)) (by rfl) T.dIsShare.g T.dIsShare.F.kp T.dIsShare.b .nil pass0 (pa_cons (pv 1) pa_nil)))) pa_nil))))))), ?_⟩
    simp only [and_assoc, tSeq, tAsg, tOp, tUn, rI, rI0, rU, tVar, tC, gName, L2.start, tIfS, tTest, tB, tCB, tCons, tNil, tIf, tRet, tRetN, tLst, tTup, tNext, tDrop, tNot, tNotV, tAnd, tOr, tAndV, tOrV, tPar, tAug, ipI, rEq, rNe, gSub, rSetL, rIxL, rIxT, tBM, tBM0, rAppend, rPopAt, gTup, gCons, gNil, tCall, tSl, tPart, tNoPart, rSlL, rCat, rEqD, rNeD, rIn, scal, List.map_cons, List.map_nil, List.length_cons, List.length_nil, List.length_map, List.cons_append, List.nil_append, List.append_nil, List.replicate, List.getElem?_cons_zero, List.getElem?_cons_succ, List.set_cons_zero, List.set_cons_succ, Option.some.injEq, exists_eq_left', exists_eq_left, exists_eq_right, exists_and_left, exists_and_right, V.int.injEq, V.ref.injEq, V.str.injEq, V.bl.injEq, reduceCtorEq, false_and, and_false, exists_false, or_false, false_or, true_and, and_true, List.cons.injEq, decide_eq_true_eq, cxOf, if_true, if_false, Bool.false_eq_true, Nat.reduceAdd, Nat.reduceSub, Nat.zero_add, Nat.add_sub_cancel_left, Nat.add_sub_cancel, Nat.sub_self, tFor_eq, tLc_eq, iRng1, iRng2, iList, iTup, iEnum, rIsi, rIsiT, spIs, tLenSetT, rAll, iSeq]
    refine ⟨d, hv, hd, fun H1 s1 => ?_⟩
    rw [seq_items]
    cases ei : itemsA d with
    | none =>
      simp only [and_assoc, tSeq, tAsg, tOp, tUn, rI, rI0, rU, tVar, tC, gName, L2.start, tIfS, tTest, tB, tCB, tCons, tNil, tIf, tRet, tRetN, tLst, tTup, tNext, tDrop, tNot, tNotV, tAnd, tOr, tAndV, tOrV, tPar, tAug, ipI, rEq, rNe, gSub, rSetL, rIxL, rIxT, tBM, tBM0, rAppend, rPopAt, gTup, gCons, gNil, tCall, tSl, tPart, tNoPart, rSlL, rCat, rEqD, rNeD, rIn, scal, List.map_cons, List.map_nil, List.length_cons, List.length_nil, List.length_map, List.cons_append, List.nil_append, List.append_nil, List.replicate, List.getElem?_cons_zero, List.getElem?_cons_succ, List.set_cons_zero, List.set_cons_succ, Option.some.injEq, exists_eq_left', exists_eq_left, exists_eq_right, exists_and_left, exists_and_right, V.int.injEq, V.ref.injEq, V.str.injEq, V.bl.injEq, reduceCtorEq, false_and, and_false, exists_false, or_false, false_or, true_and, and_true, List.cons.injEq, decide_eq_true_eq, cxOf, if_true, if_false, Bool.false_eq_true, Nat.reduceAdd, Nat.reduceSub, Nat.zero_add, Nat.add_sub_cancel_left, Nat.add_sub_cancel, Nat.sub_self, tFor_eq, tLc_eq, iRng1, iRng2, iList, iTup, iEnum, rIsi, rIsiT, Option.isSome_none]
      have e : isWillA d = false := by unfold isWillA; rw [ei]
      rw [← e]
      exact q _ s1
    | some ds =>
      simp only [and_assoc, tSeq, tAsg, tOp, tUn, rI, rI0, rU, tVar, tC, gName, L2.start, tIfS, tTest, tB, tCB, tCons, tNil, tIf, tRet, tRetN, tLst, tTup, tNext, tDrop, tNot, tNotV, tAnd, tOr, tAndV, tOrV, tPar, tAug, ipI, rEq, rNe, gSub, rSetL, rIxL, rIxT, tBM, tBM0, rAppend, rPopAt, gTup, gCons, gNil, tCall, tSl, tPart, tNoPart, rSlL, rCat, rEqD, rNeD, rIn, scal, List.map_cons, List.map_nil, List.length_cons, List.length_nil, List.length_map, List.cons_append, List.nil_append, List.append_nil, List.replicate, List.getElem?_cons_zero, List.getElem?_cons_succ, List.set_cons_zero, List.set_cons_succ, Option.some.injEq, exists_eq_left', exists_eq_left, exists_eq_right, exists_and_left, exists_and_right, V.int.injEq, V.ref.injEq, V.str.injEq, V.bl.injEq, reduceCtorEq, false_and, and_false, exists_false, or_false, false_or, true_and, and_true, List.cons.injEq, decide_eq_true_eq, cxOf, if_true, if_false, Bool.false_eq_true, Nat.reduceAdd, Nat.reduceSub, Nat.zero_add, Nat.add_sub_cancel_left, Nat.add_sub_cancel, Nat.sub_self, tFor_eq, tLc_eq, iRng1, iRng2, iList, iTup, iEnum, rIsi, rIsiT, Option.isSome_some]
      obtain ⟨a, xs, rfl, hs, ha⟩ := av_items hv ei
      obtain ⟨hn, ho⟩ := ok_items hd ei
      have hl := avA_len ha
      refine ⟨a, rfl, xs, hs.mono s1, ?_⟩
      have e : isWillA d = (!ds.isEmpty && ds.all isShA) := by unfold isWillA; rw [ei]
      rw [e] at q
      by_cases h0 : ds = []
      · subst h0
        rw [if_neg (by rw [hl]; decide)]
        exact q _ s1
      · have hpos : 0 < ds.length := List.length_pos_iff.mpr h0
        have hie : ds.isEmpty = false := by cases ds with | nil => exact absurd rfl h0 | cons _ _ => rfl
        rw [if_pos (by omega)]
        obtain ⟨J, hJ⟩ := (hs.mono s1).it
        refine ⟨a, rfl, xs, J, hJ, fun D nD => lg_is hJ (avA_mono s1 _ _ ha) ho hn (by decide : 1 < 2) nD fun H2 s2 eD => ⟨_, sqL_of eD, ?_⟩⟩
        have e2 : (ds.map isShA).all id = (!ds.isEmpty && ds.all isShA) := by rw [hie, List.all_map]; rfl
        rw [e2]
        exact q _ (s1.trans s2)

end
end He

/-! the order of texts; a sorted list of texts is one -/
namespace He
open PySem PySem.Spec PyProof.Rows L2
def leC (a b : List Nat) : Prop := ltCps b a = false
theorem leC_refl : ∀ a : List Nat, leC a a
  | [] => rfl
  | x :: r => by
    have h : ltCps r r = false := leC_refl r
    show (decide (x < x) || (x == x && ltCps r r)) = false
    rw [h]
    simp
theorem leC_total : ∀ a b : List Nat, leC a b ∨ leC b a
  | [], b => .inl (by cases b <;> rfl)
  | _ :: _, [] => .inr rfl
  | x :: r, y :: t => by
    have e1 : leC (x :: r) (y :: t) ↔ (decide (y < x) || (y == x && ltCps t r)) = false := Iff.rfl
    have e2 : leC (y :: t) (x :: r) ↔ (decide (x < y) || (x == y && ltCps r t)) = false := Iff.rfl
    rw [e1, e2]
    rcases Nat.lt_trichotomy x y with h | h | h
    · exact .inl (by simp; omega)
    · subst h
      rcases leC_total r t with q | q
      · exact .inl (by rw [show ltCps t r = false from q]; simp)
      · exact .inr (by rw [show ltCps r t = false from q]; simp)
    · exact .inr (by simp; omega)
theorem leC_anti : ∀ {a b : List Nat}, leC a b → leC b a → a = b
  | [], [], _, _ => rfl
  | [], _ :: _, _, h => by cases (show true = false from h)
  | _ :: _, [], h, _ => by cases (show true = false from h)
  | x :: r, y :: t, h1, h2 => by
    have h1 : (decide (y < x) || (y == x && ltCps t r)) = false := h1
    have h2 : (decide (x < y) || (x == y && ltCps r t)) = false := h2
    rw [Bool.or_eq_false_iff] at h1 h2
    have e : x = y := by
      have a := of_decide_eq_false h1.1
      have b := of_decide_eq_false h2.1
      omega
    subst e
    have q1 : leC r t := (show ltCps t r = false by simpa using h1.2)
    have q2 : leC t r := (show ltCps r t = false by simpa using h2.2)
    rw [leC_anti q1 q2]
theorem leC_trans : ∀ {a b c : List Nat}, leC a b → leC b c → leC a c
  | [], _, c, _, _ => by cases c <;> rfl
  | _ :: _, [], _, h, _ => by cases (show true = false from h)
  | _ :: _, _ :: _, [], _, h => by cases (show true = false from h)
  | x :: r, y :: t, z :: u, h1, h2 => by
    have h1 : (decide (y < x) || (y == x && ltCps t r)) = false := h1
    have h2 : (decide (z < y) || (z == y && ltCps u t)) = false := h2
    rw [Bool.or_eq_false_iff] at h1 h2
    show (decide (z < x) || (z == x && ltCps u r)) = false
    have a := of_decide_eq_false h1.1
    have b := of_decide_eq_false h2.1
    rw [decide_eq_false (by omega : ¬ z < x), Bool.false_or]
    by_cases e : z = x
    · subst e
      have e2 : y = z := by omega
      subst e2
      have q1 : leC r t := (show ltCps t r = false by simpa using h1.2)
      have q2 : leC t u := (show ltCps u t = false by simpa using h2.2)
      have q3 : ltCps u r = false := leC_trans q1 q2
      rw [q3]
      simp
    · simp [e]
def leS (a b : Str) : Bool := !ltCps b.cps.toList a.cps.toList
theorem leS_iff {a b : Str} : leS a b = true ↔ leC a.cps.toList b.cps.toList := by unfold leS leC; simp
theorem leS_anti {a b : Str} (h1 : leS a b = true) (h2 : leS b a = true) : a = b := by
  have := leC_anti (leS_iff.mp h1) (leS_iff.mp h2)
  cases a; cases b
  exact congrArg Str.mk (Array.toList_inj.mp this)
/-- the texts ascending -/
def sortG (g : List Str) : List Str := g.mergeSort leS
theorem sortG_perm (g : List Str) : (sortG g).Perm g := List.mergeSort_perm g leS
theorem leS_trans (a b c : Str) (h1 : leS a b = true) (h2 : leS b c = true) : leS a c = true := leS_iff.mpr (leC_trans (leS_iff.mp h1) (leS_iff.mp h2))
theorem leS_total (a b : Str) : (leS a b || leS b a) = true := by
  rcases leC_total a.cps.toList b.cps.toList with h | h
  · rw [leS_iff.mpr h]; rfl
  · rw [leS_iff.mpr h, Bool.or_true]
theorem sortG_up (g : List Str) : (sortG g).Pairwise (fun a b => leS a b = true) := List.pairwise_mergeSort (leS_trans) (leS_total) g
theorem rising_up : ∀ (p : Str) (l : List Str), risingS p l = true → (p :: l).Pairwise (fun a b => leS a b = true)
  | p, [], _ => List.pairwise_singleton _ _
  | p, x :: r, h => by
    have h : (!ltCps x.cps.toList p.cps.toList && risingS x r) = true := h
    rw [Bool.and_eq_true] at h
    have ih := rising_up x r h.2
    have hpx : leS p x = true := h.1
    refine List.pairwise_cons.mpr ⟨fun y hy => ?_, ih⟩
    rcases List.mem_cons.mp hy with rfl | hy
    · exact hpx
    · exact leS_trans p x y hpx ((List.pairwise_cons.mp ih).1 y hy)
theorem sorted_up {l : List Str} (h : sortedS l = true) : l.Pairwise (fun a b => leS a b = true) := by
  cases l with
  | nil => exact List.Pairwise.nil
  | cons x r => exact rising_up x r h
theorem up_one : ∀ {a b : List Str}, a.Perm b → a.Pairwise (fun a b => leS a b = true) → b.Pairwise (fun a b => leS a b = true) → a = b
  | [], b, p, _, _ => p.nil_eq
  | x :: r, [], p, _, _ => by have := p.length_eq; simp at this
  | x :: r, y :: t, p, h1, h2 => by
    have e : x = y := by
      have hx : x ∈ y :: t := p.mem_iff.mp List.mem_cons_self
      have hy : y ∈ x :: r := p.mem_iff.mpr List.mem_cons_self
      rcases List.mem_cons.mp hx with q | q
      · exact q
      · rcases List.mem_cons.mp hy with q2 | q2
        · exact q2.symm
        · exact leS_anti ((List.pairwise_cons.mp h1).1 y q2) ((List.pairwise_cons.mp h2).1 x q)
    subst e
    rw [up_one (List.Perm.cons_inv p) (List.pairwise_cons.mp h1).2 (List.pairwise_cons.mp h2).2]
theorem sortG_of {ys g : List Str} (p : ys.Perm g) (h : sortedS ys = true) : ys = sortG g := up_one (p.trans (sortG_perm g).symm) (sorted_up h) (sortG_up g)
theorem sortG_perm_eq {a b : List Str} (p : a.Perm b) : sortG a = sortG b := up_one (((sortG_perm a).trans p).trans (sortG_perm b).symm) (sortG_up a) (sortG_up b)
theorem sortG_idem (g : List Str) : sortG (sortG g) = sortG g := sortG_perm_eq (sortG_perm g)
end He

/-! != by an own ==; str(x) by an own text -/
namespace He
namespace Own
open PySem PySem.W PySem.Calls PyProof.Rows
section
variable {pr : Program} {wd : World} {A : Around} {E : Value → Shared → Prop} {s : Shared} {K : PySem.W.Frag} {x C f L : Addr} {ox : Obj} {od : Option Obj} {h0 : Heap} {m : Str → Option Value} {b tb : Value}
theorem bound_builtin {M : Model} {nm : Str} {id : String} {args : List Value} {Q : Option Value → Shared → Prop} (X : K.In s.heap) (I : InstAt s.heap x ox C od) (at' : findIn K (.ref C) nm = some (some (.builtin id)))
    (bd : ∀ self, bindSpecial (.builtin id) self = pure (.builtin id, [self])) (go : wpAny M A (call (.builtin id) (.ref x :: args)) (fun v => Q (some v)) E s) : wpAny M A (callSpecialIfBound? (.ref x) nm args) Q E s := by
  simp only [callSpecialIfBound?, bindSpecialIfBound?]
  refine wpAny_holding (wpAny_bind (wpAny_bind (wpAny_bind (I.type.here ((looks_findIn X at').here ?_)))))
  have fin : wpAny M A (call (.builtin id) ([.ref x] ++ args) >>= fun v => pure (some v)) Q E s := wpAny_bind (wpAny_mono go (fun v s' q => wpAny_pure q) fun _ _ q => q)
  refine wpAny_bind (wpAny_askSetting (wpAny_ite ?_))
  split
  · exact wpAny_bind ((Looks.of_pure (bd _)).here (wpAny_pure (by exact fin)))
  · exact wpAny_tryCatch (wpAny_bind ((Looks.of_pure (bd _)).here (wpAny_pure (by exact fin))))
theorem not_eq {Q : Fin → Shared → Prop} (hu : A.units < cLine) (X : K.In s.heap) (I : InstAt s.heap x ox C od) (eqf : findIn K (.ref C) "__eq__" = some (some (.ref f))) (isf : isFn K (.ref f) = true)
    (go : wpAny (model pr wd) A (call (.ref f) [.ref x, b]) (fun v s' => ∃ r, v = .bool r ∧ Q (.done (.ret (.bool (!r)))) s') E s) : wpAny (model pr wd) A (Builtin.«object.__ne__» ⟨[.ref x, b], []⟩) Q E s := by
  unfold Builtin.«object.__ne__»
  refine wpAny_bind (m := slotArgs "__ne__" 1 _) (wpAny_pure ?_)
  refine wpAny_bind (m := cRoomFor _ _) (wpAny_cRoomFor hu ?_)
  refine wpAny_bind (m := callSpecialIfBound? (.ref x) (Str.ofString "__eq__") [b]) (ifBound_K X I eqf isf (wpAny_mono go (fun r s' q => ?_) fun _ _ q => q))
  obtain ⟨r, rfl, q⟩ := q
  exact wpAny_bind (wpAny_truthy_bool (wpAny_pure q))
theorem ne_K {Q : Value → Shared → Prop} (hu : A.units + 1 < cLine) (F : Fr h0 L s.heap m) (X0 : K.In h0) (I : InstAt s.heap x ox C od) (hb : Looks (model pr wd) s.heap (typeOf b) tb) (nf : notFirst K C tb = true)
    (nef : findIn K (.ref C) "__ne__" = some (some (.builtin "object.__ne__"))) (ob : mroIn K C (.type "object") = some true) (eqf : findIn K (.ref C) "__eq__" = some (some (.ref f))) (isf : isFn K (.ref f) = true)
    (go : wpAny (model pr wd) A.in1 (call (.ref f) [.ref x, b]) (fun v s' => ∃ r, v = .bool r ∧ Q (.bool (!r)) s') E s) : wpAny (model pr wd) A (richCompare .NotEq (.ref x) b) Q E s := by
  have X := X0.keeps F.keep
  have one : wpAny (model pr wd) A (tryCompare (.ref x) "__ne__" b) (fun r s' => ∃ v, r = some v ∧ Q v s') E s := by
    unfold tryCompare
    refine wpAny_bind (bound_builtin X I nef PySem.F.slot_object_ne.bind ?_)
    refine wpAny_call (codeAny_call_builtin PySem.F.slot_object_ne.plain PySem.F.cmpEntry_ne (check_slot (i := "object.__ne__") (owner := "object") (n := "__ne__") PySem.F.cmpKind_ne PySem.F.cmpSplit_ne (I.type.andThen (looks_mroIn X ob)) (PySem.F.cmpArgs_ne _ _) ?_))
    refine not_eq (A := A.in1) (by show A.units + 1 < cLine; exact hu) X I eqf isf (wpAny_mono go (fun v s' q => ?_) fun _ _ q => q)
    obtain ⟨r, rfl, q⟩ := q
    exact ⟨r, rfl, wpAny_pure ⟨_, rfl, q⟩⟩
  unfold richCompare
  simp only [oneThing_ref]
  refine wpAny_holding (wpAny_bind (wpAny_cRoomFor (by omega) ?_))
  refine wpAny_bind (I.type.here (wpAny_bind (hb.here ?_)))
  split
  · rename_i q
    have e : subIn K tb (.ref C) = some false := by
      rcases Bool.or_eq_true_iff.mp nf with e | e
      · rw [beq_iff_eq.mp e] at q; simp at q
      · exact beq_iff_eq.mp e
    refine wpAny_bind ((looks_subIn X e).here ?_)
    simp only [Bool.false_eq_true, if_false]
    refine wpAny_bind (wpAny_mono one (fun r s' z => ?_) fun _ _ e => e)
    obtain ⟨v, rfl, q⟩ := z
    exact wpAny_pure q
  · refine wpAny_bind (wpAny_pure ?_)
    simp only [Bool.false_eq_true, if_false]
    refine wpAny_bind (wpAny_mono one (fun r s' z => ?_) fun _ _ e => e)
    obtain ⟨v, rfl, q⟩ := z
    exact wpAny_pure q
end
end Own
end He

namespace He
open PySem PySem.Spec PyProof.Rows L2
/-- what the text says of a class with its own == and its own text -/
structure OwnCmp (K : PySem.W.Frag) (C fE fS : Addr) : Prop where
  ne : PySem.W.findIn K (.ref C) "__ne__" = some (some (.builtin "object.__ne__"))
  ob : PySem.W.mroIn K C (.type "object") = some true
  eq : PySem.W.findIn K (.ref C) "__eq__" = some (some (.ref fE))
  eqf : PySem.W.isFn K (.ref fE) = true
  str : PySem.W.findIn K (.ref C) "__str__" = some (some (.ref fS))
  strf : PySem.W.isFn K (.ref fS) = true
section
variable {X : Cx} {CX : CXT} {n : Nat} {C fE fS : Addr} {sp : Sp} {E : XK}
/-- what follows a call of a def from within a builtin -/
theorem run_in {pins : List (Addr × Obj)} {σ : L2.St} {H : Hp} {s : Shared} {A : Around} {f : Addr} {Q : VK} {us : List Value} {vs : List V} (F : FnR X.prog X.w X.K X.mg X.base CX n f sp) (hr : Room n A) (fr : A.frames = X.A.frames) (hx : Passes CX X E) (I : Inv X pins σ H s) (r : Vals vs us) (h : sp vs H Q E) :
    wpAny (model X.prog X.w) A (call (.ref f) us) (EP X pins σ Q) X.xe s := by
  have e := I.env0
  have e0 : Env0 X.prog X.w X.K X.mg X.base A X.stack s H := ⟨by rw [fr]; exact e.frames, e.mod, e.bs, e.bsz, e.funs, e.frf, e.hok, e.bare⟩
  refine wpAny_call (codeAny_mono (F A X.stack s H us vs Q E hr e0 r h) fun r s' hq => ?_)
  cases r with
  | error er => exact hx pins σ H s er s' I hq
  | ok fl =>
    cases fl with
    | ret u => exact I.after hq
    | next => exact False.elim hq
    | brk => exact False.elim hq
    | cont => exact False.elim hq
def rOwn (C : Addr) (sp : Sp) (E : XK) (neg : Bool) : R2 := fun x y H Q => ∃ a b dx dy fs gs, x = .ref a ∧ y = .ref b ∧ H a = some (.ins C dx fs) ∧ H b = some (.ins C dy gs) ∧ sp [.ref a, .ref b] H (fun v H' => ∃ r, v = .bl r ∧ Q (.bl (if neg then !r else r)) H') E
theorem op_neOwn (c : OwnCmp X.K C fE fS) (F : FnR X.prog X.w X.K X.mg X.base CX n fE sp) (hr : Room (n + 1) X.A) (hx : Passes CX X E) : OpR X (compareOp .NotEq) (rOwn C sp E true) := by
  intro pins s σ H x y v u Q I rx ry h
  obtain ⟨a, b, dx, dy, fs, gs, rfl, rfl, ha, hb, q⟩ := h
  cases rx
  cases ry
  obtain ⟨mA, J, _⟩ := ins_get I.hok ha
  obtain ⟨mB, J', _⟩ := ins_get I.hok hb
  obtain ⟨od, J, _⟩ := J.look
  obtain ⟨od', J', _⟩ := J'.look
  obtain ⟨m, hF⟩ := I.fr
  show wpAny (model X.prog X.w) X.A (richCompare .NotEq (.ref a) (.ref b)) _ _ _
  refine Own.ne_K (tb := .ref C) (by have := hr.un; omega) hF I.ok.mod.kin J J'.type (by simp [PySem.W.notFirst]) c.ne c.ob c.eq c.eqf ?_
  refine wpAny_mono (run_in F hr.in1 rfl (vs := [.ref a, .ref b]) hx I (.cons rfl (.cons rfl .nil)) q) (fun w s' hw => ?_) fun _ _ z => z
  obtain ⟨z, H', I', rz, r, rfl, q2⟩ := hw
  cases rz
  exact ⟨r, rfl, .bl (!r), H', I', rfl, q2⟩
theorem op_eqOwn (c : OwnCmp X.K C fE fS) (F : FnR X.prog X.w X.K X.mg X.base CX n fE sp) (hr : Room (n + 1) X.A) (hx : Passes CX X E) : OpR X (compareOp .Eq) (rOwn C sp E false) := by
  intro pins s σ H x y v u Q I rx ry h
  obtain ⟨a, b, dx, dy, fs, gs, rfl, rfl, ha, hb, q⟩ := h
  cases rx
  cases ry
  obtain ⟨mA, J, _⟩ := ins_get I.hok ha
  obtain ⟨mB, J', _⟩ := ins_get I.hok hb
  obtain ⟨od, J, _⟩ := J.look
  obtain ⟨od', J', _⟩ := J'.look
  obtain ⟨m, hF⟩ := I.fr
  show wpAny (model X.prog X.w) X.A (richCompare .Eq (.ref a) (.ref b)) _ _ _
  refine PySem.W.cmp_K (op := .Eq) (tb := .ref C) (by have := hr.un; omega) hF I.ok.mod.kin J J'.type (by simp [PySem.W.notFirst]) c.eq c.eqf ?_
  refine wpAny_mono (run_in F (hr.mono (Nat.le_succ n)) rfl (vs := [.ref a, .ref b]) hx I (.cons rfl (.cons rfl .nil)) q) (fun w s' hw => ?_) fun _ _ z => z
  obtain ⟨z, H', I', rz, r, rfl, q2⟩ := hw
  cases rz
  exact ⟨.bl r, H', I', rfl, q2⟩
/-- str(x), x of a class with its own text -/
theorem call_strOwn (c : OwnCmp X.K C fE fS) (F : FnR X.prog X.w X.K X.mg X.base CX n fS sp) (hr : Room (n + 2) X.A) (hx : Passes CX X E) :
    CallR X (.type "str") (fun xs H Q => ∃ a dx fs, xs = [.ref a] ∧ H a = some (.ins C dx fs) ∧ sp [.ref a] H (fun v H' => ∃ z, v = .str z ∧ Q (.str z) H') E) := by
  intro pins s σ H xs us Q I r h
  obtain ⟨a, dx, fs, rfl, ha, q⟩ := h
  obtain ⟨u, rfl, ru⟩ := vals1 r
  cases ru
  obtain ⟨mA, J, _⟩ := ins_get I.hok ha
  obtain ⟨od, J, _⟩ := J.look
  refine PySem.W.kso_call (by have := hr.un; show X.A.units + 1 + 1 < _; omega) I.kIn J c.str c.strf ?_
  refine wpAny_mono (run_in F hr.in1.in1 rfl (vs := [.ref a]) hx I (.cons rfl .nil) q) (fun w s' hw => ?_) fun _ _ z => z
  obtain ⟨z, H', I', rz, y, rfl, q2⟩ := hw
  obtain ⟨t, rfl⟩ := rz
  exact ⟨.str y, H', I', ⟨t, rfl⟩, q2⟩
end
end He

namespace He
open PySem PySem.Spec PyProof.Rows L2
section
variable {P : Program} {w : World} {K : PySem.W.Frag} {mg : Str → Option Value} {base : Heap}

/-! ### wills as lists of lists, and as the program keeps them -/
def adGrp (g : List Str) : AD := .lst (g.map AD.str)
def adSh (s : Sh) : AD := .tup [.int s.1, .lst (s.2.map adGrp)]
def adWill (shs : List Sh) : AD := .lst (shs.map adSh)
def nGrp (g : List Str) : PyData := .tuple ((sortG g).map PyData.str)
def nSh (s : Sh) : PyData := .tuple [.int s.1, .tuple (s.2.map nGrp)]
def nWill (shs : List Sh) : PyData := .tuple (shs.map nSh)
theorem adA_strs (g : List Str) : adA (g.map PyData.str) = g.map AD.str := by
  rw [adA_map, List.map_map]
  rfl
theorem ad_grp (g : List Str) : ad (dGrp g) = adGrp g := congrArg AD.lst (adA_strs g)
theorem ad_sh (s : Sh) : ad (dSh s) = adSh s := by
  show AD.tup [.int s.1, .lst (adA (s.2.map dGrp))] = _
  rw [adA_map, List.map_map]
  unfold adSh
  congr 4
  exact List.map_congr_left fun g _ => ad_grp g
theorem adA_shs (shs : List Sh) : adA (shs.map dSh) = shs.map adSh := by
  rw [adA_map, List.map_map]
  exact List.map_congr_left fun s _ => ad_sh s
theorem avA_strs {H : Hp} {vs : List V} {g : List Str} (h : AvAll K H vs (g.map AD.str)) : vs = g.map V.str := by
  have e : strsA (g.map AD.str) = some g := by
    clear h
    induction g with
    | nil => rfl
    | cons x g ih =>
      show (strsA (g.map AD.str)).map (x :: ·) = _
      rw [ih]
      rfl
  exact av_strs h e
theorem dp_list {H : Hp} {ys : List V} {ds : List PyData} (hl : ys.length = ds.length) (h : ∀ (i : Nat) (y : V), ys[i]? = some y → ∃ d, ds[i]? = some d ∧ Dp K H y d) : DpAll K H ys ds := by
  induction ys generalizing ds with
  | nil =>
    cases ds with
    | nil => exact .nil
    | cons _ _ => simp at hl
  | cons y ys ih =>
    cases ds with
    | nil => simp at hl
    | cons d ds =>
      obtain ⟨d', e, hd⟩ := h 0 y rfl
      cases Option.some.inj e
      exact .cons hd (ih (by simpa using hl) fun i z e => h (i + 1) z e)
def rTupOf (K : PySem.W.Frag) : List V → Hp → VK → Prop := fun xs H Q => ∃ p ys, xs = [.ref p] ∧ ((SqL K H p ys ∧ ∀ l, H l = none → Q (.ref l) (upd H l (.tup ys))) ∨ (SqT K H p ys ∧ Q (.ref p) H))
theorem cr_tup {X : Cx} : CallR X (.type "tuple") (rTupOf X.K) := call_tuple_of
def rLenL (K : PySem.W.Frag) : List V → Hp → VK → Prop := fun xs H Q => ∃ p ys, xs = [.ref p] ∧ SqL K H p ys ∧ Q (.int ys.length) H
/-- what has come since -/
def news (H H' : Hp) : Hp := fun b => match H b with
  | some _ => none
  | none => H' b
theorem news_at {H H' : Hp} {b : Addr} (h : H b = none) : news H H' b = H' b := by
  unfold news
  rw [h]
theorem news_get {H H' : Hp} {b : Addr} {o : HO} (h : news H H' b = some o) : H b = none ∧ H' b = some o := by
  unfold news at h
  split at h
  · cases h
  · rename_i e
    exact ⟨e, h⟩
theorem news_le {H H' : Hp} : Same (news H H') H' := fun b o e => (news_get e).2
theorem news_mono {H H1 H2 : Hp} (s : Same H1 H2) : Same (news H H1) (news H H2) := fun b o e => by
  obtain ⟨e1, e2⟩ := news_get e
  rw [news_at e1]
  exact s _ _ e2
theorem news_up {H0 H H' : Hp} (s : Same H0 H) : Same (news H H') (news H0 H') := fun b o e => by
  obtain ⟨e1, e2⟩ := news_get e
  rw [news_at (s.free e1)]
  exact e2
theorem news_hide {D : Addr} {H H' : Hp} (h : H D ≠ none) : Same (news H H') (news H (hide D H')) := fun b o e => by
  obtain ⟨e1, e2⟩ := news_get e
  have hb : b ≠ D := fun z => h (by rw [← z]; exact e1)
  rw [news_at e1, hide_ne hb]
  exact e2
theorem news_hide2 {D : Addr} {H H' : Hp} : Same (news H (hide D H')) (news H H') := news_mono hide_le
/-- groups, each sorted -/
def spLots (K : PySem.W.Frag) : Sp := fun vs H Q _ => ∃ (v : V) (gs : List (List Str)), vs = [v] ∧ Av K H v (.lst (gs.map adGrp)) ∧ gs.length < 1000 ∧ (∀ g ∈ gs, g.length < 64) ∧
  ∀ r H', Same H H' → Dp K (news H H') (.ref r) (.tuple (gs.map nGrp)) → Q (.ref r) H'
theorem ok_lots (T : TxtG K mg) : FnOk P w K mg base CX0 1 T.dLots.f T.dLots.fd ["groups"] (spLots K) := by
  refine T.dLots.F.ok scDLots (fun vs H Q E h => ?_) (fun cdv A outer s H vs Q E hr h => ?_)
  · obtain ⟨v, gs, rfl, _⟩ := h
    rfl
  · obtain ⟨v, gs, rfl, hv, hn, hg, q⟩ := h
    refine ⟨_, (pss_one (ps_ret (pe_callTy call_tuple_of (by rfl) T.z_tuple (show bootBuiltins "tuple" = some (.type "tuple") by decide +kernel) (pa_cons (pe_lc (own := [("group", 1)]) (g := (gName 1)) (tt := tYes) rfl scDLots.nd (pi_seq (pv 0)) (blkOk_by (N := ["groups", "group"]) (sc := defScope sDLots) (by decide +kernel)) (fun _ _ _ _ _ => (pg_name (i := 1) scDLots.nd rfl (.inl rfl))) (fun _ _ _ _ _ => pts_nil) (fun _ _ _ _ _ => (pe_callTy (show CallR _ (.type "tuple") (rTupOf K) from cr_tup) (by rfl) T.z_tuple (show bootBuiltins "tuple" = some (.type "tuple") by decide +kernel) (pa_cons (pe_callB (show CallR _ (.builtin "sorted") (rSortedS K) from cr_sortedS) (by rfl) T.z_sorted (show bootBuiltins "sorted" = some (.builtin "sorted") by decide +kernel) (pa_cons (pv 1) pa_nil)) pa_nil)))) pa_nil)))), ?_⟩
    simp only [and_assoc, tSeq, tAsg, tOp, tUn, rI, rI0, rU, tVar, tC, gName, L2.start, tIfS, tTest, tB, tCB, tCons, tNil, tIf, tRet, tRetN, tLst, tTup, tNext, tDrop, tNot, tNotV, tAnd, tOr, tAndV, tOrV, tPar, tAug, ipI, rEq, rNe, gSub, rSetL, rIxL, rIxT, tBM, tBM0, rAppend, rPopAt, gTup, gCons, gNil, tCall, tSl, tPart, tNoPart, rSlL, rCat, rEqD, rNeD, rIn, scal, List.map_cons, List.map_nil, List.length_cons, List.length_nil, List.length_map, List.cons_append, List.nil_append, List.append_nil, List.replicate, List.getElem?_cons_zero, List.getElem?_cons_succ, List.set_cons_zero, List.set_cons_succ, Option.some.injEq, exists_eq_left', exists_eq_left, exists_eq_right, exists_and_left, exists_and_right, V.int.injEq, V.ref.injEq, V.str.injEq, V.bl.injEq, reduceCtorEq, false_and, and_false, exists_false, or_false, false_or, true_and, and_true, List.cons.injEq, decide_eq_true_eq, cxOf, if_true, if_false, Bool.false_eq_true, Nat.reduceAdd, Nat.reduceSub, Nat.zero_add, Nat.add_sub_cancel_left, Nat.add_sub_cancel, Nat.sub_self, sFld, tFld, tFor_eq, tLc_eq, iRng1, iRng2, iList, iTup, iEnum, rIsi, rIsiT, iSeq]
    obtain ⟨a, xs, rfl, hs, ha⟩ := av_items hv rfl
    obtain ⟨J, hJ⟩ := hs.it
    have hxl : xs.length = gs.length := by rw [avA_len ha, List.length_map]
    obtain ⟨H0, hH0⟩ : ∃ H0, H0 = H := ⟨H, rfl⟩
    refine ⟨a, rfl, xs, J, hJ, fun D nD => ?_⟩
    refine lg_pure (fun i y H => ∃ g r, gs[i]? = some g ∧ y = .ref r ∧ H0 r = none ∧ H r = some (.tup ((sortG g).map V.str))) hJ (small1000 (by omega)) nD (fun i y H H' s h => let ⟨g, r, e1, e2, e3, e4⟩ := h; ⟨g, r, e1, e2, e3, s _ _ e4⟩) (fun i x H1 Φ hx s1 hD hΦ => ?_) (fun ys H1 s1 eD hl2 hY => ?_)
    · simp only [and_assoc, tSeq, tAsg, tOp, tUn, rI, rI0, rU, tVar, tC, gName, L2.start, tIfS, tTest, tB, tCB, tCons, tNil, tIf, tRet, tRetN, tLst, tTup, tNext, tDrop, tNot, tNotV, tAnd, tOr, tAndV, tOrV, tPar, tAug, ipI, rEq, rNe, gSub, rSetL, rIxL, rIxT, tBM, tBM0, rAppend, rPopAt, gTup, gCons, gNil, tCall, tSl, tPart, tNoPart, rSlL, rCat, rEqD, rNeD, rIn, scal, List.map_cons, List.map_nil, List.length_cons, List.length_nil, List.length_map, List.cons_append, List.nil_append, List.append_nil, List.replicate, List.getElem?_cons_zero, List.getElem?_cons_succ, List.set_cons_zero, List.set_cons_succ, Option.some.injEq, exists_eq_left', exists_eq_left, exists_eq_right, exists_and_left, exists_and_right, V.int.injEq, V.ref.injEq, V.str.injEq, V.bl.injEq, reduceCtorEq, false_and, and_false, exists_false, or_false, false_or, true_and, and_true, List.cons.injEq, decide_eq_true_eq, cxOf, if_true, if_false, Bool.false_eq_true, Nat.reduceAdd, Nat.reduceSub, Nat.zero_add, Nat.add_sub_cancel_left, Nat.add_sub_cancel, Nat.sub_self, sFld, tFld, tFor_eq, tLc_eq, iRng1, iRng2, iList, iTup, iEnum, rIsi, rIsiT, wipe, rSortedS]
      obtain ⟨d, ed, hx2⟩ := avA_get (avA_mono s1 _ _ ha) hx
      rw [List.getElem?_map] at ed
      obtain ⟨g, eg, rfl⟩ := Option.map_eq_some_iff.mp ed
      have hgm : g ∈ gs := List.mem_of_getElem? eg
      cases hx2 with
      | @lst b zs _ hb hzs =>
        have ez := avA_strs hzs
        subst ez
        refine ⟨b, rfl, g, hb, hg g hgm, fun ys p pm so np => ?_⟩
        simp only [and_assoc, tSeq, tAsg, tOp, tUn, rI, rI0, rU, tVar, tC, gName, L2.start, tIfS, tTest, tB, tCB, tCons, tNil, tIf, tRet, tRetN, tLst, tTup, tNext, tDrop, tNot, tNotV, tAnd, tOr, tAndV, tOrV, tPar, tAug, ipI, rEq, rNe, gSub, rSetL, rIxL, rIxT, tBM, tBM0, rAppend, rPopAt, gTup, gCons, gNil, tCall, tSl, tPart, tNoPart, rSlL, rCat, rEqD, rNeD, rIn, scal, List.map_cons, List.map_nil, List.length_cons, List.length_nil, List.length_map, List.cons_append, List.nil_append, List.append_nil, List.replicate, List.getElem?_cons_zero, List.getElem?_cons_succ, List.set_cons_zero, List.set_cons_succ, Option.some.injEq, exists_eq_left', exists_eq_left, exists_eq_right, exists_and_left, exists_and_right, V.int.injEq, V.ref.injEq, V.str.injEq, V.bl.injEq, reduceCtorEq, false_and, and_false, exists_false, or_false, false_or, true_and, and_true, List.cons.injEq, decide_eq_true_eq, cxOf, if_true, if_false, Bool.false_eq_true, Nat.reduceAdd, Nat.reduceSub, Nat.zero_add, Nat.add_sub_cancel_left, Nat.add_sub_cancel, Nat.sub_self, sFld, tFld, tFor_eq, tLc_eq, iRng1, iRng2, iList, iTup, iEnum, rIsi, rIsiT, rTupOf]
        have e := sortG_of pm so
        subst e
        refine ⟨_, .inl ⟨sqL_of upd_same, fun l nl => ?_⟩⟩
        have lD : l ≠ D := fun z => by
          rw [z] at nl
          by_cases h : D = p
          · rw [h, upd_same] at nl; cases nl
          · rw [upd_ne h] at nl; exact hD nl
        refine hΦ _ _ ((same_upd np).trans (same_upd nl)) ⟨g, l, eg, rfl, hH0 ▸ (s1.trans (same_upd np)).free nl, ?_⟩
        rw [hide_ne lD, upd_same]
    · refine ⟨ys, .inl ⟨sqL_of eD, fun l nl => ?_⟩⟩
      subst hH0
      have hds : DpAll K (news H0 H1) ys (gs.map nGrp) := dp_list (by rw [hl2, List.length_map]; exact hxl) fun i y e => by
        obtain ⟨g, r, eg, rfl, nr, er⟩ := hY i y e
        exact ⟨nGrp g, by rw [List.getElem?_map, eg]; rfl, .tup (sqT_of (by rw [news_at nr]; exact hide_le _ _ er)) (dpA_strs _)⟩
      exact q l _ (s1.trans (same_upd nl)) (.tup (sqT_of (by rw [news_at (s1.free nl), upd_same])) (dpA_mono (news_mono (same_upd nl)) _ _ hds))

end
end He

namespace He
open PySem PySem.Spec PyProof.Rows L2
section
variable {P : Program} {w : World} {K : PySem.W.Frag} {mg : Str → Option Value} {base : Heap}

/-! ### the class Will -/
structure TxtW (K : PySem.W.Frag) (mg : Str → Option Value) where
  t : TxtG K mg
  cl : Cls K t.cWill
  nS : NoAttr K t.cWill "shares"
  iF : Addr
  iD : FuncData
  iFn : Fun K "__init__" "Will.__init__" sDWillInit iF iD
  iB : Binds K iD ["self", "shares"] []
  iM : Mk K t.cWill iF
  eF : Addr
  eD : FuncData
  eFn : Fun K "__eq__" "Will.__eq__" sDWillEq eF eD
  eB : Binds K eD ["self", "other"] []
  sF : Addr
  sD : FuncData
  sFn : Fun K "__str__" "Will.__str__" sDWillStr sF sD
  sB : Binds K sD ["self"] []
  oc : OwnCmp K t.cWill eF sF
  rP : Addr
  rC : Value
  rF : Addr
  rD : FuncData
  rFn : Fun K "read" "Will.read" sDWillRead rF rD
  rB : Binds K rD ["cls", "text"] []
  rR : ClX.CRead K t.cWill rC
  rM : ClX.CMet K t.cWill rC "read" rP rF
  ty : ∀ {H : Hp} {a dx : Addr} {fs : List (Str × V)}, H a = some (.ins t.cWill dx fs) → TyOf K H (.ref a) (.ref t.cWill)
  is : PySem.W.kitOne K (.ref t.cWill) (.ref t.cWill) = some true
structure WOk (shs : List Sh) : Prop where
  ne : shs ≠ []
  l : shs.length ≤ 40
  ok : ∀ s ∈ shs, ShOk s ∧ s.2.length ≤ 40 ∧ ∀ g ∈ s.2, g.length ≤ 40
  w : ∀ s ∈ shs, s.1 ≤ 999999999
theorem WillOk.wok {ns : List Str} {shs : List Sh} (h : WillOk ns shs) : WOk shs := ⟨h.ne, by have := h.l3; omega, fun s hs => ⟨(h.ok s hs).1, by have := (h.ok s hs).2.1.l; omega, fun g hg => by have := (h.ok s hs).2.1.g g hg; omega⟩, fun s hs => by have := (h.ok s hs).2.1.w; omega⟩
theorem strsA_map (g : List Str) : strsA (g.map AD.str) = some g := by
  induction g with
  | nil => rfl
  | cons x g ih =>
    show (strsA (g.map AD.str)).map (x :: ·) = _
    rw [ih]
    rfl
theorem grp_ad {g : List Str} (h : GrpOk g) : isGrpA (adGrp g) = true := by
  unfold isGrpA grpA adGrp
  show Option.isSome (if (g.map AD.str).isEmpty then none else if (g.map AD.str).all isNameA then _ else none) = true
  rw [strsA_map]
  have h1 : (g.map AD.str).isEmpty = false := by
    cases g with
    | nil => exact absurd rfl h.ne
    | cons _ _ => rfl
  have h2 : (g.map AD.str).all isNameA = true := by
    rw [List.all_map]
    exact List.all_eq_true.mpr fun x hx => h.nm x hx
  rw [h1, h2]
  simp [h.nd]
theorem sh_ad {s : Sh} (h : ShOk s) : isShA (adSh s) = true := by
  show (decide (1 ≤ s.1) && isGrpsA (.lst (s.2.map adGrp))) = true
  rw [decide_eq_true h.w1]
  show (s.2.map adGrp).all isGrpA = true
  rw [List.all_map]
  exact List.all_eq_true.mpr fun g hg => grp_ad (h.gs g hg)
theorem will_ad {shs : List Sh} (h : WOk shs) : isWillA (adWill shs) = true := by
  show (!(shs.map adSh).isEmpty && (shs.map adSh).all isShA) = true
  have h1 : (shs.map adSh).isEmpty = false := by
    have := h.ne
    cases shs with
    | nil => exact absurd rfl this
    | cons _ _ => rfl
  rw [h1, List.all_map]
  exact List.all_eq_true.mpr fun s hs => sh_ad (h.ok s hs).1
theorem adOkA_of {ds : List AD} (h : ∀ d ∈ ds, AdOk K d) : AdOkA K ds := by
  induction ds with
  | nil => trivial
  | cons d ds ih => exact ⟨h d List.mem_cons_self, ih fun e he => h e (List.mem_cons_of_mem _ he)⟩
theorem name_len {x : Str} (h : nameB x = true) : x.length ≤ 5 := by
  unfold nameB at h
  simp only [Bool.and_eq_true, decide_eq_true_eq] at h
  exact h.1.1.2
theorem ok_grp {g : List Str} (h : GrpOk g) (hl : g.length ≤ 40) : AdOk K (adGrp g) := by
  refine ⟨by rw [List.length_map]; omega, adOkA_of fun d hd => ?_⟩
  obtain ⟨x, hx, rfl⟩ := List.mem_map.mp hd
  exact Nat.le_trans (name_len (h.nm x hx)) (by decide)
theorem adok_will {shs : List Sh} (h : WOk shs) : AdOk K (adWill shs) := by
  refine ⟨by rw [List.length_map]; have := h.l; omega, adOkA_of fun d hd => ?_⟩
  obtain ⟨s, hs, rfl⟩ := List.mem_map.mp hd
  obtain ⟨h1, h2, h3⟩ := h.ok s hs
  refine ⟨by show 2 < 4000; decide, trivial, ⟨by rw [List.length_map]; omega, adOkA_of fun e he => ?_⟩, trivial⟩
  obtain ⟨g, hg, rfl⟩ := List.mem_map.mp he
  exact ok_grp (h1.gs g hg) (h3 g hg)
/-- a will of the program at x -/
def WillAt (K : PySem.W.Frag) (C : Addr) (H : Hp) (x : Addr) (shs : List Sh) : Prop := ∃ dx t, H x = some (.ins C dx [("shares", .ref t)]) ∧ Dp K H (.ref t) (nWill shs)
theorem WillAt.mono {C : Addr} {H H' : Hp} {x : Addr} {shs : List Sh} (s : Same H H') (h : WillAt K C H x shs) : WillAt K C H' x shs := by
  obtain ⟨dx, t, e, d⟩ := h
  exact ⟨dx, t, s _ _ e, dp_mono s _ _ d⟩
def spWInit (K : PySem.W.Frag) (C : Addr) : Sp := fun vs H Q _ => ∃ (x dx : Addr) (v : V) (shs : List Sh), vs = [.ref x, v] ∧ H x = some (.ins C dx []) ∧ Av K H v (adWill shs) ∧ WOk shs ∧
  ∀ t H', (∀ b o, b ≠ x → H b = some o → H' b = some o) → H' x = some (.ins C dx [("shares", .ref t)]) → Dp K (news H H') (.ref t) (nWill shs) → Q .non H'
theorem ok_winit (W : TxtW K mg) : FnOk P w K mg base CX0 5 W.iF W.iD ["self", "shares"] (spWInit K W.t.cWill) := by
  refine W.iFn.ok scDWillInit (fun vs H Q E h => ?_) (fun cdv A outer s H vs Q E hr h => ?_)
  · obtain ⟨x, dx, v, shs, rfl, _⟩ := h
    rfl
  · obtain ⟨x, dx, v, shs, rfl, hx, hv, hw, q⟩ := h
    refine ⟨_, (pss_cons (ps_if (pt_not (pt_val (pe_call (ok_areshares W.t) (hr.mono (by decide)) (by rfl) W.t.dAreShares.g W.t.dAreShares.F.kp W.t.dAreShares.b .nil pass0 (pa_cons (pv 1) pa_nil))))
      (pss_one ps_never)
      pss_nil)
      (pss_one (ps_fld (pv 0) (pe_callTy call_tuple_of (by rfl) W.t.z_tuple (show bootBuiltins "tuple" = some (.type "tuple") by decide +kernel) (pa_cons (pe_lc (own := [("weight", 2), ("groups", 3)]) (g := (gTup K 2 (gCons (gName 2) (gCons (gName 3) gNil)))) (tt := tYes) rfl scDWillInit.nd (pi_seq (pv 1)) (blkOk_by (N := ["self", "shares", "weight", "groups"]) (sc := defScope sDWillInit) (by decide +kernel)) (fun _ _ _ _ _ => (pg_tup (n := 2) rfl (pgs_cons (pg_name (i := 2) scDWillInit.nd rfl (.inl rfl)) (pgs_cons (pg_name (i := 3) scDWillInit.nd rfl (.inl rfl)) pgs_nil)))) (fun _ _ _ _ _ => pts_nil) (fun _ _ _ _ _ => (pe_tup (pa_cons (pv 2) (pa_cons (pe_call (ok_lots W.t) (hr.mono (by decide)) (by rfl) W.t.dLots.g W.t.dLots.F.kp W.t.dLots.b .nil pass0 (pa_cons (pv 3) pa_nil)) pa_nil))))) pa_nil)) rfl))), ?_⟩
    simp only [and_assoc, tSeq, tAsg, tOp, tUn, rI, rI0, rU, tVar, tC, gName, L2.start, tIfS, tTest, tB, tCB, tCons, tNil, tIf, tRet, tRetN, tLst, tTup, tNext, tDrop, tNot, tNotV, tAnd, tOr, tAndV, tOrV, tPar, tAug, ipI, rEq, rNe, gSub, rSetL, rIxL, rIxT, tBM, tBM0, rAppend, rPopAt, gTup, gCons, gNil, tCall, tSl, tPart, tNoPart, rSlL, rCat, rEqD, rNeD, rIn, scal, List.map_cons, List.map_nil, List.length_cons, List.length_nil, List.length_map, List.cons_append, List.nil_append, List.append_nil, List.replicate, List.getElem?_cons_zero, List.getElem?_cons_succ, List.set_cons_zero, List.set_cons_succ, Option.some.injEq, exists_eq_left', exists_eq_left, exists_eq_right, exists_and_left, exists_and_right, V.int.injEq, V.ref.injEq, V.str.injEq, V.bl.injEq, reduceCtorEq, false_and, and_false, exists_false, or_false, false_or, true_and, and_true, List.cons.injEq, decide_eq_true_eq, cxOf, if_true, if_false, Bool.false_eq_true, Nat.reduceAdd, Nat.reduceSub, Nat.zero_add, Nat.add_sub_cancel_left, Nat.add_sub_cancel, Nat.sub_self, sFld, tFld, tFor_eq, tLc_eq, iRng1, iRng2, iList, iTup, iEnum, rIsi, rIsiT, iSeq, spIs, spLots]
    refine ⟨adWill shs, hv, adok_will hw, fun H1 s1 => ?_⟩
    rw [will_ad hw]
    simp only [and_assoc, tSeq, tAsg, tOp, tUn, rI, rI0, rU, tVar, tC, gName, L2.start, tIfS, tTest, tB, tCB, tCons, tNil, tIf, tRet, tRetN, tLst, tTup, tNext, tDrop, tNot, tNotV, tAnd, tOr, tAndV, tOrV, tPar, tAug, ipI, rEq, rNe, gSub, rSetL, rIxL, rIxT, tBM, tBM0, rAppend, rPopAt, gTup, gCons, gNil, tCall, tSl, tPart, tNoPart, rSlL, rCat, rEqD, rNeD, rIn, scal, List.map_cons, List.map_nil, List.length_cons, List.length_nil, List.length_map, List.cons_append, List.nil_append, List.append_nil, List.replicate, List.getElem?_cons_zero, List.getElem?_cons_succ, List.set_cons_zero, List.set_cons_succ, Option.some.injEq, exists_eq_left', exists_eq_left, exists_eq_right, exists_and_left, exists_and_right, V.int.injEq, V.ref.injEq, V.str.injEq, V.bl.injEq, reduceCtorEq, false_and, and_false, exists_false, or_false, false_or, true_and, and_true, List.cons.injEq, decide_eq_true_eq, cxOf, if_true, if_false, Bool.false_eq_true, Nat.reduceAdd, Nat.reduceSub, Nat.zero_add, Nat.add_sub_cancel_left, Nat.add_sub_cancel, Nat.sub_self, sFld, tFld, tFor_eq, tLc_eq, iRng1, iRng2, iList, iTup, iEnum, rIsi, rIsiT, iSeq, Bool.not_true]
    obtain ⟨a, xs, rfl, hs, ha⟩ := av_items hv rfl
    obtain ⟨J, hJ⟩ := (hs.mono s1).it
    have hxl : xs.length = shs.length := by rw [avA_len ha, List.length_map]
    have hlt := hw.l
    obtain ⟨H0, hH0⟩ : ∃ H0, H0 = H := ⟨H, rfl⟩
    refine ⟨a, rfl, xs, J, hJ, fun D nD => ?_⟩
    refine lg_pure (fun i y H => ∃ s, shs[i]? = some s ∧ Dp K (news H0 H) y (nSh s)) hJ (small1000 (by omega)) nD (fun i y H H' s h => let ⟨g, e1, e2⟩ := h; ⟨g, e1, dp_mono (news_mono s) _ _ e2⟩) (fun i x H2 Φ hx s2 hD hΦ => ?_) (fun ys H2 s2 eD hl2 hY => ?_)
    · simp only [and_assoc, tSeq, tAsg, tOp, tUn, rI, rI0, rU, tVar, tC, gName, L2.start, tIfS, tTest, tB, tCB, tCons, tNil, tIf, tRet, tRetN, tLst, tTup, tNext, tDrop, tNot, tNotV, tAnd, tOr, tAndV, tOrV, tPar, tAug, ipI, rEq, rNe, gSub, rSetL, rIxL, rIxT, tBM, tBM0, rAppend, rPopAt, gTup, gCons, gNil, tCall, tSl, tPart, tNoPart, rSlL, rCat, rEqD, rNeD, rIn, scal, List.map_cons, List.map_nil, List.length_cons, List.length_nil, List.length_map, List.cons_append, List.nil_append, List.append_nil, List.replicate, List.getElem?_cons_zero, List.getElem?_cons_succ, List.set_cons_zero, List.set_cons_succ, Option.some.injEq, exists_eq_left', exists_eq_left, exists_eq_right, exists_and_left, exists_and_right, V.int.injEq, V.ref.injEq, V.str.injEq, V.bl.injEq, reduceCtorEq, false_and, and_false, exists_false, or_false, false_or, true_and, and_true, List.cons.injEq, decide_eq_true_eq, cxOf, if_true, if_false, Bool.false_eq_true, Nat.reduceAdd, Nat.reduceSub, Nat.zero_add, Nat.add_sub_cancel_left, Nat.add_sub_cancel, Nat.sub_self, sFld, tFld, tFor_eq, tLc_eq, iRng1, iRng2, iList, iTup, iEnum, rIsi, rIsiT, iSeq, wipe, spLots]
      obtain ⟨d, ed, hx2⟩ := avA_get (avA_mono (s1.trans s2) _ _ ha) hx
      rw [List.getElem?_map] at ed
      obtain ⟨sh, eg, rfl⟩ := Option.map_eq_some_iff.mp ed
      obtain ⟨hok, h1, h2⟩ := hw.ok sh (List.mem_of_getElem? eg)
      cases hx2 with
      | @tup b zs _ hb hzs =>
        cases hzs with
        | cons w1 r1 =>
          cases w1
          cases r1 with
          | @cons v2 _ _ _ w2 r2 =>
            cases r2
            refine ⟨b, rfl, _, hb, rfl, _, _, rfl, v2, _, rfl, rfl, sh.2, w2, by omega, fun g hg => by have := h2 g hg; omega, fun r H3 s3 hr3 => ⟨by decide, fun p np => ?_⟩⟩
            have pD : p ≠ D := fun z => by
              cases e : H2 D with
              | none => exact hD e
              | some o => rw [z, s3 _ _ e] at np; cases np
            have s02 : Same H0 H2 := hH0 ▸ (s1.trans s2)
            refine hΦ _ _ (s3.trans (same_upd np)) ⟨sh, eg, ?_⟩
            have np0 : H0 p = none := s02.free (s3.free np)
            refine .tup (sqT_of (by rw [news_at np0, hide_ne pD, upd_same])) (.cons (.int _) (.cons ?_ .nil))
            exact dp_mono ((news_hide hD).trans ((news_up s02).trans (news_mono (hide_same (same_upd np))))) _ _ hr3
    · subst hH0
      have s02 : Same H0 H2 := s1.trans s2
      refine ⟨ys, .inl ⟨sqL_of eD, fun l nl => ?_⟩⟩
      have hds : DpAll K (news H0 H2) ys (shs.map nSh) := dp_list (by rw [hl2, List.length_map]; exact hxl) fun i y e => by
        obtain ⟨g, eg, er⟩ := hY i y e
        exact ⟨nSh g, by rw [List.getElem?_map, eg]; rfl, dp_mono news_hide2 _ _ er⟩
      have hx2 := same_upd (o := .tup ys) nl _ _ (s02 _ _ hx)
      have lx : l ≠ x := fun z => by rw [z, s02 _ _ hx] at nl; cases nl
      refine ⟨_, _, _, hx2, W.cl, W.nS, by show 0 < 1000; decide, q l _ (fun b o hb e => ?_) upd_same ?_⟩
      · rw [upd_ne hb]
        exact same_upd nl _ _ (s02 _ _ e)
      · have nl0 := s02.free nl
        refine .tup (sqT_of (by rw [news_at nl0, upd_ne lx, upd_same])) (dpA_mono (fun b o e => ?_) _ _ hds)
        obtain ⟨e1, e2⟩ := news_get e
        have bx : b ≠ x := fun z => by rw [z, hx] at e1; cases e1
        rw [news_at e1, upd_ne bx]
        exact same_upd nl _ _ e2

end
end He

namespace He
open PySem PySem.Spec PyProof.Rows L2
/-! ### sorted(d.items()), the keys texts, the values objects -/
section
variable {P : Program} {w : World} {A : Around} {E : Value → Shared → Prop} {s : Shared}
theorem eq_itself {a : Addr} {Q : Bool → Shared → Prop} (h : Q true s) : wpAny (model P w) A (eqBool (.ref a) (.ref a)) Q E s := by
  unfold eqBool
  refine wpAny_holding ?_
  refine wpAny_ite_split (fun _ => ?_) fun n => absurd (beq_self_eq_true _) n
  exact wpAny_bind (wpAny_rule (wpAny_pure h))
/-- a pair of a text and an object -/
def TxPair (h : Heap) (v : Value) (y : Str) (b : Addr) : Prop := ∃ (a : Addr) (t : Tok), v = .ref a ∧ IsTup h a #[.str y t, .ref b]
def headTx (h : Heap) (v : Value) : Str := DT.txOf (DT.seqAt0 h (DT.refOf (some v)))
theorem TxPair.tx {h : Heap} {v : Value} {y : Str} {b : Addr} (x : TxPair h v y b) : headTx h v = y := by
  obtain ⟨a, t, rfl, h1⟩ := x
  show DT.txOf (DT.seqAt0 h a) = y
  rw [DT.seqAt0_of h1]
  rfl
theorem tx_firsts {h : Heap} : ∀ vs : List Value, (∀ v ∈ vs, ∃ y b, TxPair h v y b) → ∃ fs : List Value, PySem.W.KatTups h vs fs ∧ fs.length = vs.length ∧ ∀ f ∈ fs, ∃ y t, f = Value.str y t
  | [], _ => ⟨[], trivial, rfl, fun f hf => nomatch hf⟩
  | v :: vs, x => by
    obtain ⟨fs, k, hl, hi⟩ := tx_firsts vs fun u hu => x u (List.mem_cons_of_mem _ hu)
    obtain ⟨y, b, a, t, rfl, o, ho, hc, n, hd⟩ := x v List.mem_cons_self
    refine ⟨.str y t :: fs, ⟨⟨a, o, _, n, rfl, ho, hc, hd, rfl⟩, k⟩, congrArg (· + 1) hl, fun f hf => ?_⟩
    rcases List.mem_cons.mp hf with rfl | hf
    · exact ⟨y, t, rfl⟩
    · exact hi f hf
theorem tx_kind {vs : List Value} {ρ : Str → Int} (h2 : 2 ≤ vs.length) (x : ∀ v ∈ vs, ∃ y b, TxPair s.heap v y b) (one : ∀ v ∈ vs, ∀ u ∈ vs, headTx s.heap v = headTx s.heap u → v = u)
    (hρ : ∀ v ∈ vs, ∀ u ∈ vs, decide ((headTx s.heap v).cps.toList < (headTx s.heap u).cps.toList) = decide (ρ (headTx s.heap v) < ρ (headTx s.heap u))) (Q : SortKind → Shared → Prop)
    (h : ∀ κ, TS.Cmp P w A s κ (pairsOf vs) (fun v => ρ (headTx s.heap v)) → Q κ s) : wpAny (model P w) A (keyKind' vs.toArray) Q E s := by
  obtain ⟨fs, k, hl, hi⟩ := tx_firsts vs x
  refine PySem.W.kat_kind (T := Value.type "str") k (by omega) (fun f hf => ?_) rfl (h _ ?_)
  · obtain ⟨y, t, rfl⟩ := hi f hf
    exact PySem.W.Looks.now
  · intro p q hp hq Q' E' hQ
    rw [pairsOf_toList] at hp hq
    have mp := (mem_zip_self hp).2
    have mq := (mem_zip_self hq).2
    obtain ⟨y, b, py⟩ := x _ mp
    obtain ⟨z, c, pz⟩ := x _ mq
    have hr := hρ _ mp _ mq
    have hQ2 : Q' (decide (ρ (headTx s.heap p.1) < ρ (headTx s.heap q.1))) s := hQ
    rw [← hr, py.tx, pz.tx] at hQ2
    have same : y = z → b = c := fun e => by
      have e2 := one _ mp _ mq (by rw [py.tx, pz.tx, e])
      obtain ⟨a1, t1, e3, o1, g1, _, n1, d1⟩ := py
      obtain ⟨a2, t2, e4, o2, g2, _, n2, d2⟩ := pz
      rw [e3, e4] at e2
      cases e2
      rw [g1] at g2
      cases g2
      rw [d1] at d2
      cases d2
      rfl
    obtain ⟨a1, t1, e3, o1, g1, _, n1, d1⟩ := py
    obtain ⟨a2, t2, e4, o2, g2, _, n2, d2⟩ := pz
    rw [e3, e4]
    refine PySem.W.kat_lt g1 d1 g2 d2 ?_
    show PySem.W.KatLex P w A _ false Q' [(Value.str y t1, Value.str z t2), (Value.ref b, Value.ref c)] 0 s
    refine PySem.W.kat_cons (PySem.wpAny_eqBool_str ?_)
    by_cases e : y = z
    · obtain rfl := same e
      rw [decide_eq_true e]
      have irr : decide (y.cps.toList < z.cps.toList) = false := by
        rw [e]
        exact decide_eq_false (List.lt_irrefl _)
      rw [irr] at hQ2
      exact PySem.W.kat_yes (PySem.W.kat_cons (eq_itself (PySem.W.kat_yes (PySem.W.kat_nil hQ2))))
    · rw [decide_eq_false e]
      exact PySem.W.kat_no (PyProof.Rows.oneLt_any_str hQ2)
end

/-- how many of l stand ahead -/
def aheadS (y x : Str) : Bool := decide (x.cps.toList < y.cps.toList)
def rankS (l : List Str) (x : Str) : Int := ((l.filter (aheadS x)).length : Nat)
theorem rank_lt {l : List Str} {x y : Str} (hx : x ∈ l) : decide (x.cps.toList < y.cps.toList) = decide (rankS l x < rankS l y) := by
  have mono : ∀ {x y : Str}, ¬ (x.cps.toList < y.cps.toList) → rankS l y ≤ rankS l x := fun {x y} h => by
    unfold rankS
    refine Int.ofNat_le.mpr ?_
    rw [← List.countP_eq_length_filter, ← List.countP_eq_length_filter]
    refine List.countP_mono_left fun z _ hz => ?_
    have hz := of_decide_eq_true hz
    refine decide_eq_true (Decidable.byContradiction fun n => h ?_)
    exact List.lt_of_le_of_lt (List.not_lt.mp n) hz
  by_cases h : x.cps.toList < y.cps.toList
  · rw [decide_eq_true h]
    refine (decide_eq_true ?_).symm
    unfold rankS
    refine Int.ofNat_lt.mpr ?_
    have sub : ∀ m : List Str, (m.filter (aheadS x)).length ≤ (m.filter (aheadS y)).length ∧ (x ∈ m → (m.filter (aheadS x)).length < (m.filter (aheadS y)).length) := by
      intro m
      induction m with
      | nil => exact ⟨Nat.le_refl _, fun z => nomatch z⟩
      | cons z m ih =>
        obtain ⟨i1, i2⟩ := ih
        by_cases q : z.cps.toList < x.cps.toList
        · rw [List.filter_cons_of_pos (show aheadS x z = true from decide_eq_true q), List.filter_cons_of_pos (show aheadS y z = true from decide_eq_true (List.lt_trans q h)), List.length_cons, List.length_cons]
          refine ⟨by omega, fun hm => ?_⟩
          rcases List.mem_cons.mp hm with e | hm
          · rw [e] at q
            exact absurd q (List.lt_irrefl _)
          · have := i2 hm
            omega
        · rw [List.filter_cons_of_neg (show ¬ aheadS x z = true from fun k => q (of_decide_eq_true k))]
          by_cases q2 : z.cps.toList < y.cps.toList
          · rw [List.filter_cons_of_pos (show aheadS y z = true from decide_eq_true q2), List.length_cons]
            exact ⟨by omega, fun _ => by omega⟩
          · rw [List.filter_cons_of_neg (show ¬ aheadS y z = true from fun k => q2 (of_decide_eq_true k))]
            refine ⟨i1, fun hm => ?_⟩
            rcases List.mem_cons.mp hm with e | hm
            · rw [← e] at q2
              exact absurd h q2
            · exact i2 hm
    exact (sub l).2 hx
  · rw [decide_eq_false h]
    refine (decide_eq_false ?_).symm
    have := mono h
    omega
section
variable {P : Program} {w : World}
theorem pairs_get {knd : PySem.KeyKind P w L2.Key} : ∀ {es : List DictEntry} {vs : List (L2.Key × Value)} {j : Nat} {e : DictEntry}, Pairs knd es vs → es[j]? = some e → ∃ kv, vs[j]? = some kv ∧ knd.is kv.1 e.key = true ∧ e.val = kv.2
  | _, _, j, e, .nil, h => by simp at h
  | _, _, 0, e, .cons (kv := kv) a b _, h => by
    cases Option.some.inj h
    exact ⟨kv, rfl, a, b⟩
  | _, _, j + 1, e, .cons _ _ t, h => pairs_get (j := j) t h
theorem pairs_len {knd : PySem.KeyKind P w L2.Key} : ∀ {es : List DictEntry} {vs : List (L2.Key × Value)}, Pairs knd es vs → es.length = vs.length
  | _, _, .nil => rfl
  | _, _, .cons _ _ t => congrArg (· + 1) (pairs_len t)
end
section
variable {X : Cx}
/-- d.items() of a dict with keys that are ints or texts: the view -/
def rItemsK : V → List V → Hp → VK → Prop := fun x xs H Q => ∃ (a : Addr) (kvs : List (L2.Key × V)), x = .ref a ∧ xs = [] ∧ H a = some (.dK kvs) ∧ ∀ p, H p = none → Q (.ref p) (upd H p (DX.itemsO p a))
theorem mt_itemsK : MtR X "dict.items" rItemsK := by
  intro pins s σ H x xs v us Q I rx rxs h
  obtain ⟨d, kvs, rfl, rfl, hd, q⟩ := h
  cases rx
  cases rxs
  obtain ⟨_, nsys, vs, _, o, es, ep, ho, hx, hdat, _⟩ := dk_of I.hok hd
  refine DT.callItems (es := es) (ep := ep) nsys ⟨o, ho, hx, hdat⟩ ?_
  exact ⟨.ref s.heap.objs.size, _, I.laid (t' := s.toks) (fun b u e => Heap.get?_push_of_some _ e) (Nat.le_refl _) (DX.itemsO_ok (Heap.get?_push_size _ rfl)), rfl, q _ (I.hok.fresh (Nat.le_refl _))⟩
abbrev entS (e : Str × Addr) : L2.Key × V := (Sum.inr e.1, V.ref e.2)
/-- sorted(d.items()): pairs, by their texts -/
def rSortItK : List V → Hp → VK → Prop := fun vs H Q => ∃ (p a : Addr) (ks : List (Str × Addr)), vs = [.ref p] ∧ H p = some (DX.itemsO p a) ∧ H a = some (.dK (ks.map entS)) ∧ ks.length < 64 ∧
  ∀ (H' : Hp) (l : Addr) (ps : List (Addr × Str × Addr)), (∀ b o, H b = some o → H' b = some o) → (ps.map (·.2)).Perm ks → (ps.map (·.2.1)).Pairwise (fun x y => ¬ (y.cps.toList < x.cps.toList)) → (ks.map (·.1)).Nodup → H l = none → H' l = some (.lst (ps.map fun z => V.ref z.1)) →
    (∀ z ∈ ps, H' z.1 = some (.tup [.str z.2.1, .ref z.2.2])) → Q (.ref l) H'
theorem kv_get {κ : Type} : ∀ {l : List (κ × V)} {m : List (κ × Value)} {j : Nat} {y : κ × Value}, KV l m → m[j]? = some y → ∃ x, l[j]? = some x ∧ x.1 = y.1 ∧ RelV x.2 y.2
  | _, _, j, y, Paired.nil, h => by simp at h
  | _, _, 0, y, Paired.cons (a := x) f _, h => by
    cases Option.some.inj h
    exact ⟨x, rfl, f⟩
  | _, _, j + 1, y, Paired.cons _ t, h => kv_get (j := j) t h
theorem kv_keys {κ : Type} : ∀ {l : List (κ × V)} {m : List (κ × Value)}, KV l m → l.map (·.1) = m.map (·.1)
  | _, _, Paired.nil => rfl
  | _, _, Paired.cons f t => by rw [List.map_cons, List.map_cons, f.1, kv_keys t]
theorem cr_sortedItemsK (hc : X.calm = true) : CallR X (.builtin "sorted") rSortItK := by
  intro pins s σ H xs us Q I r h
  obtain ⟨p, a, ks, rfl, hp, ha, few, q⟩ := h
  obtain rfl := Vals.ref1 r
  have view : s.heap.IsItemsView p a := (show ObjOk X.prog X.w H s.heap p (DX.itemsO p a) from I.hok p _ hp).1
  obtain ⟨_, nsys, vs, rel, o, es, ep, ho, hx, hdat, _, hps, hnd⟩ := dk_of I.hok ha
  have n1 : ks.length = vs.length := by
    have := Paired.length rel
    rw [List.length_map] at this
    exact this
  have n2 : es.size = vs.length := by rw [← Array.length_toList]; exact pairs_len hps
  have nk : (ks.map (·.1)).Nodup := by
    have e := kv_keys rel
    rw [List.map_map] at e
    rw [← e] at hnd
    have e2 : ((fun x : L2.Key × V => x.1) ∘ entS) = (fun x : Str => (Sum.inr x : L2.Key)) ∘ (·.1) := rfl
    rw [e2, ← List.map_map] at hnd
    exact (List.pairwise_map.mp hnd).imp fun {x y} h e => h (by rw [e])
  refine DT.sortedI (es := es) (ep := ep) (I.ok.hd hc) view ⟨o, ho, hx, hdat⟩ (by rw [sizeLine_eq]; omega) fun h1 tk as old bigger cnt mk => ?_
  have na : as.length = ks.length := by omega
  have ndA : as.Nodup := List.Pairwise.imp (fun z => Nat.ne_of_lt z) mk.rise
  -- what was laid for each entry
  have laid : ∀ (j : Nat) (b : Addr), as[j]? = some b → ∃ (e : Str × Addr) (t : Tok), ks[j]? = some e ∧ h1.get? b = some { cls := .type "tuple", data := .seq #[Value.str e.1 t, Value.ref e.2] } := by
    intro j b hj
    obtain ⟨en, g1, g2⟩ := mk.pairs j b hj
    obtain ⟨kv, g3, g4, g5⟩ := pairs_get (j := j) hps (by rw [Array.getElem?_toList]; exact g1)
    obtain ⟨x, g6, g7, g8⟩ := kv_get rel g3
    rw [List.getElem?_map] at g6
    cases g9 : ks[j]? with
    | none => rw [g9] at g6; cases g6
    | some e =>
      rw [g9] at g6
      cases Option.some.inj g6
      rw [← g7] at g4
      rcases keyIs_shape (show keyIs (Sum.inr e.1) en.key = true from g4) with ⟨i, t, z1, z2⟩ | ⟨y, t, z1, z2⟩
      · cases z1
      · cases z1
        refine ⟨e, t, rfl, ?_⟩
        have z3 : kv.2 = Value.ref e.2 := g8
        rw [g2, z2, g5, z3]
  generalize hD : h1.objs.size = D
  have top : (h1.push { cls := .type "list", data := .seq (as.map Value.ref).toArray }).get? D = some (seqObj "list" (as.map Value.ref).toArray 0) := hD ▸ Heap.get?_push_size _ rfl
  have up1 : ∀ b u, h1.get? b = some u → (h1.push { cls := .type "list", data := .seq (as.map Value.ref).toArray }).get? b = some u := fun b u e => Heap.get?_push_of_some _ e
  have offD : ∀ b u, h1.get? b = some u → b ≠ D := fun b u e => hD ▸ Nat.ne_of_lt (Heap.lt_size e)
  have sD : s.heap.objs.size ≤ D := hD ▸ Nat.le_of_lt bigger
  generalize h1.push { cls := .type "list", data := .seq (as.map Value.ref).toArray } = h2 at top up1 ⊢
  have pin : ∀ (j : Nat) (b : Addr), as[j]? = some b → ∃ e : Str × Addr, ks[j]? = some e ∧ TxPair (TS.midHeap h2 D (as.map Value.ref)) (.ref b) e.1 e.2 := fun j b hj => by
    obtain ⟨e, t, g1, g2⟩ := laid j b hj
    exact ⟨e, g1, b, t, rfl, _, TS.midHeap_old (offD _ _ g2) (up1 _ _ g2), rfl, 0, rfl⟩
  have tx : ∀ (j : Nat) (b : Addr) (e : Str × Addr), as[j]? = some b → ks[j]? = some e → headTx (TS.midHeap h2 D (as.map Value.ref)) (.ref b) = e.1 := fun j b e hj he => by
    obtain ⟨e2, g1, g2⟩ := pin j b hj
    rw [he] at g1
    cases Option.some.inj g1
    exact g2.tx
  have whose : ∀ v ∈ as.map Value.ref, ∃ (j : Nat) (b : Addr) (e : Str × Addr), v = .ref b ∧ as[j]? = some b ∧ ks[j]? = some e := fun v hv => by
    obtain ⟨b, hb, rfl⟩ := List.mem_map.mp hv
    obtain ⟨j, hj⟩ := List.mem_iff_getElem?.mp hb
    obtain ⟨e, _, he, _⟩ := laid j b hj
    exact ⟨j, b, e, rfl, hj, he⟩
  have keyAt : ∀ {j : Nat} {e : Str × Addr}, ks[j]? = some e → (ks.map (·.1))[j]? = some e.1 := fun {j e} h => by rw [List.getElem?_map, h]; rfl
  refine wpAny_call_entry PyProof.Rows.slot_list_sort ⟨_, top, rfl⟩ PyProof.Rows.entry_list_sort
    (SK.plain_sort (s := { s with heap := h2, toks := tk }) (r := fun v => rankS (ks.map (·.1)) (headTx (TS.midHeap h2 D (as.map Value.ref)) v)) top (by rw [List.length_map]; omega) (fun two Qk hQk => ?_) fun ps out o1 o2 o3 => ⟨.none, rfl, ?_⟩) (PyProof.Rows.args_list_sort _)
  · refine tx_kind (s := { s with heap := TS.midHeap h2 D (as.map Value.ref), toks := tk }) (ρ := rankS (ks.map (·.1))) two (fun v hv => ?_) (fun v hv u hu e => ?_) (fun v hv u hu => ?_) Qk hQk
    · obtain ⟨j, b, e, rfl, hj, _⟩ := whose v hv
      obtain ⟨e2, _, g⟩ := pin j b hj
      exact ⟨_, _, g⟩
    · obtain ⟨j, b, e1, rfl, hj, he1⟩ := whose v hv
      obtain ⟨i, c, e2, rfl, hi, he2⟩ := whose u hu
      have e : headTx (TS.midHeap h2 D (as.map Value.ref)) (.ref b) = headTx (TS.midHeap h2 D (as.map Value.ref)) (.ref c) := e
      rw [tx j b e1 hj he1, tx i c e2 hi he2] at e
      have ji : j = i := (List.getElem?_inj (List.getElem?_eq_some_iff.mp (keyAt he1)).1 nk).mp (by rw [keyAt he1, keyAt he2, e])
      subst ji
      rw [hj] at hi
      cases hi
      rfl
    · obtain ⟨j, b, e1, rfl, hj, he1⟩ := whose v hv
      obtain ⟨i, c, e2, rfl, hi, he2⟩ := whose u hu
      have t1 := tx j b e1 hj he1
      have t2 := tx i c e2 hi he2
      show decide ((headTx (TS.midHeap h2 D (as.map Value.ref)) (.ref b)).cps.toList < (headTx (TS.midHeap h2 D (as.map Value.ref)) (.ref c)).cps.toList) = decide (rankS _ (headTx (TS.midHeap h2 D (as.map Value.ref)) (.ref b)) < rankS _ (headTx (TS.midHeap h2 D (as.map Value.ref)) (.ref c)))
      rw [t1, t2]
      exact rank_lt (List.mem_of_getElem? (keyAt he1))
  · show EP X pins σ Q (.ref D) { s with heap := sortedHeap h2 D (as.map Value.ref) out, toks := tk }
    obtain ⟨zs, pz, ez⟩ := perm_lift (fun z : Addr × Str × Addr => (Value.ref z.1, Value.ref z.1)) o2 (as.zip ks) (DX.zip_self Value.ref as ks na)
    have idx : ∀ z ∈ zs, ∃ j : Nat, as[j]? = some z.1 ∧ ks[j]? = some z.2 := fun z hz => by
      obtain ⟨j, hj⟩ := List.mem_iff_getElem?.mp (pz.mem_iff.mp hz)
      exact ⟨j, List.getElem?_zip_eq_some.mp hj⟩
    have outs : out.toList = zs.map fun z => Value.ref z.1 := by
      rw [o1, ← ez, List.map_map]
      rfl
    have perm : (zs.map (·.2)).Perm ks := by
      have e := pz.map (·.2)
      rw [List.map_snd_zip (by omega)] at e
      exact e
    have up : (zs.map (·.2.1)).Pairwise (fun x y => ¬ (y.cps.toList < x.cps.toList)) := by
      rw [← ez, List.pairwise_map] at o3
      rw [List.pairwise_map]
      refine List.Pairwise.imp_of_mem (fun {x y} hx hy h => ?_) o3
      obtain ⟨j, j1, j2⟩ := idx x hx
      obtain ⟨i, i1, i2⟩ := idx y hy
      have h : rankS (ks.map (·.1)) (headTx (TS.midHeap h2 D (as.map Value.ref)) (.ref x.1)) ≤ rankS (ks.map (·.1)) (headTx (TS.midHeap h2 D (as.map Value.ref)) (.ref y.1)) := h
      rw [tx j _ _ j1 j2, tx i _ _ i1 i2] at h
      intro k
      have := rank_lt (l := ks.map (·.1)) (x := y.2.1) (y := x.2.1) (List.mem_of_getElem? (keyAt i2))
      rw [decide_eq_true k] at this
      have := of_decide_eq_true this.symm
      omega
    have later : ∀ b u, b ≠ D → h2.get? b = some u → (sortedHeap h2 D (as.map Value.ref) out).get? b = some u := fun b u nb e => (PyProof.Rows.sortedHeap_old nb (Heap.lt_size e)).trans e
    have kept : ∀ b u, s.heap.get? b = some u → (sortedHeap h2 D (as.map Value.ref) out).get? b = some u := fun b u e => later b u (offD b u (old b u e)) (up1 b u (old b u e))
    obtain ⟨ep2, atD⟩ := PyProof.Rows.sortedHeap_at (vs := as.map Value.ref) (out := out) top
    have freeD : H D = none := I.hok.fresh sD
    have short : (zs.map fun z => V.ref z.1).length ≤ sizeLine := by
      have := perm.length_eq
      rw [List.length_map] at this ⊢
      rw [sizeLine_eq]
      omega
    have vals : Vals (zs.map fun z => V.ref z.1) out.toList := outs ▸ vals_maps (fun z : Addr × Str × Addr => V.ref z.1) (fun z => Value.ref z.1) zs fun _ _ => rfl
    have I2 : Inv X pins σ (upd H D (.lst (zs.map fun z => V.ref z.1))) { s with heap := sortedHeap h2 D (as.map Value.ref) out, toks := tk } :=
      (I.kept (t' := tk) kept).take (t' := tk) (fun b ob _ e => e) (I.fpOk sD freeD) ⟨short, out.toList, ep2, vals, atD⟩
    obtain ⟨H2, I3, g, laidT⟩ := DX.takeT (P := fun b ws => ∃ (j : Nat) (e : Str × Addr), as[j]? = some b ∧ ks[j]? = some e ∧ ws = [.str e.1, .ref e.2]) I as _ I2 ndA fun b hb => by
      obtain ⟨j, hj⟩ := List.mem_iff_getElem?.mp hb
      obtain ⟨e, t, he, hg⟩ := laid j b hj
      have hbl : s.heap.objs.size ≤ b := Nat.le_of_lt (mk.above b hb)
      refine ⟨hbl, ?_, [.str e.1, .ref e.2], ⟨j, e, hj, he, rfl⟩, fun H3 => ⟨by show 2 ≤ sizeLine; rw [sizeLine_eq]; decide, [Value.str e.1 t, Value.ref e.2], .cons ⟨t, rfl⟩ (.cons rfl .nil), _, later _ _ (offD _ _ hg) (up1 _ _ hg), rfl, 0, rfl⟩⟩
      rw [upd_ne (offD _ _ hg)]
      exact I.hok.fresh hbl
    refine ⟨.ref D, H2, I3, rfl, q H2 D zs (fun b u e => g b u (by rw [upd_ne (ne_of_none e freeD)]; exact e)) perm up nk freeD (g _ _ upd_same) fun z hz => ?_⟩
    obtain ⟨i, i1, i2⟩ := idx z hz
    obtain ⟨ws, ⟨j, e, j1, j2, rfl⟩, hH⟩ := laidT z.1 (List.mem_of_getElem? i1)
    have eij : i = j := (List.getElem?_inj (List.getElem?_eq_some_iff.mp i1).1 ndA).mp (i1.trans j1.symm)
    subst eij
    rw [i2] at j2
    cases Option.some.inj j2
    exact hH
end
end He

namespace He
open PySem PySem.Spec PyProof.Rows L2
/-! ### sets of texts, their tables told so that they can be walked -/
def txE (e : Int × Value) : Str := match e.2 with
  | .str x _ => x
  | _ => Str.empty
def OkE (w : World) (e : Int × Value) : Prop := ∃ x t, e.2 = Value.str x t ∧ e.1 = hashStr w x
def putS (xs : List Str) (x : Str) : List Str := if x ∈ xs then xs else xs ++ [x]
structure SetD (w : World) (es : Array (Int × Value)) (t : SetTable) (xs : List Str) : Prop where
  ok : ∀ e ∈ es.toList, OkE w e
  pm : (es.toList.map txE).Perm xs
  nd : xs.Nodup
  few : es.size < scanBound
  fit : t.fits es.size = true
  ris : Ris t.place.toList
  led : w.params.followText "set-order" = true ∨ t.led = true
def SetS (w : World) (h : Heap) (a : Addr) (xs : List Str) : Prop := ∃ ob es ep t, h.get? a = some ob ∧ ob.ExactSet ∧ ob.data = .set es ep t ∧ SetD w es t xs
section
variable {P : Program} {w : World} {h h' : Heap} {a : Addr} {xs : List Str}
theorem SetS.at' (R : SetS w h a xs) (k : ∀ ob, h.get? a = some ob → h'.get? a = some ob) : SetS w h' a xs := by
  obtain ⟨ob, es, ep, t, ho, r⟩ := R
  exact ⟨ob, es, ep, t, k ob ho, r⟩
theorem SetD.size {es : Array (Int × Value)} {t : SetTable} (D : SetD w es t xs) : es.size = xs.length := by rw [← Array.length_toList, ← D.pm.length_eq, List.length_map]
theorem SetD.elems {es : Array (Int × Value)} {t : SetTable} (D : SetD w es t xs) : ElemsOf (strKind P w) es.toList := fun e he => by
  obtain ⟨x, t, h1, h2⟩ := D.ok e he
  exact ⟨⟨x, by rw [h1]; exact strKind_is P w x t, h2⟩, by rw [h1]; rfl⟩
theorem ok_is {e : Int × Value} (g : OkE w e) (x : Str) : (strKind P w).is x e.2 = true ↔ txE e = x := by
  obtain ⟨y, t, h1, _⟩ := g
  unfold txE
  rw [h1]
  show (y == x) = true ↔ y = x
  exact beq_iff_eq
theorem SetD.mem {es : Array (Int × Value)} {t : SetTable} (D : SetD w es t xs) (x : Str) : x ∈ xs ↔ ∃ e ∈ es.toList, (strKind P w).is x e.2 = true := by
  rw [← D.pm.mem_iff, List.mem_map]
  exact ⟨fun ⟨e, he, q⟩ => ⟨e, he, (ok_is (D.ok e he) x).2 q⟩, fun ⟨e, he, q⟩ => ⟨e, he, (ok_is (D.ok e he) x).1 q⟩⟩
theorem setS_fresh (h : Heap) : SetS w (h.push { cls := .type "set", dict := none, data := .set #[] 0 (.fresh 0 0 (!w.params.followText "set-order")) }) h.objs.size [] := by
  have z := setR_fresh (h := h) w
  obtain ⟨o, es, ep, t, ho, hx, hd, g, nd, hm, hb, hf, hn, hr, hl⟩ := z
  have e0 : es = #[] := by
    have := Heap.get?_push_size h (o := { cls := .type "set", dict := none, data := .set #[] 0 (.fresh 0 0 (!w.params.followText "set-order")) }) rfl
    rw [ho] at this
    cases Option.some.inj this
    cases hd
    rfl
  subst e0
  exact ⟨o, #[], ep, t, ho, hx, hd, fun e he => by simp at he, by simp, List.nodup_nil, hb, hf, hr, hl⟩
end
section
variable {P : Program} {w : World} {A : Around} {E : Value → Shared → Prop} {s : Shared} {a : Addr} {xs : List Str}
/-- a table laid anew is stored, and once more if it grows -/
theorem setS_store {g : Bool → Sem Unit} (hg : ∀ (b : Bool) (s1 : Shared) (Z : Unit → Shared → Prop), Z () s1 → wpAny (model P w) A (g b) Z E s1) {ob : Obj} {es : Array (Int × Value)} {ep : Nat} {t : SetTable} (ho : s.heap.get? a = some ob)
    (ex : ob.ExactSet) (hd : ob.data = .set es ep t) {fs : Array (Int × Value)} {u : SetTable} (D : SetD w fs u xs) {dum : Bool} {R : Option Bool → Shared → Prop} (hR : ∀ h', Heap.SameBut a s.heap h' → SetS w h' a xs → R (some true) { s with heap := h' }) :
    wpAny (model P w) A (do
      storeSet a fs u
      if (!dum && u.tooFull) = true then do
        g (relayAll u fs (SetTable.grown fs.size)).2.2
        storeSet a (relayAll u fs (SetTable.grown fs.size)).1 (relayAll u fs (SetTable.grown fs.size)).2.1
        pure (some true)
      else pure (some true)) R E s := by
  refine wpAny_bind (wpAny_storeSet_of ho hd ?_ (fits_of_scanBound D.few))
  have ho1 := store_at (es' := fs) (t' := u) ho hd
  have sb := Heap.SameBut.update s.heap a (Obj.putSet fs u)
  split
  · have rp := relayAll_perm u fs (SetTable.grown fs.size)
    have rf := relayAll_fits u fs (SetTable.grown fs.size)
    have rr := relayAll_ris u fs (SetTable.grown fs.size)
    have rl := relayAll_led u fs (SetTable.grown fs.size)
    generalize relayAll u fs (SetTable.grown fs.size) = Z at rp rf rr rl ⊢
    obtain ⟨f2, u2, gv⟩ := Z
    dsimp only at rp rf rr rl ⊢
    have z2 : f2.size = fs.size := by rw [← Array.length_toList, rp.length_eq, Array.length_toList]
    have few2 : f2.size < scanBound := z2 ▸ D.few
    refine wpAny_bind (hg _ _ _ (wpAny_bind (wpAny_storeSet_of ho1 rfl ?_ (fits_of_scanBound few2))))
    have ho2 := store_at (es' := f2) (t' := u2) ho1 rfl
    exact wpAny_pure (hR _ (sb.trans (Heap.SameBut.update _ a _)) ⟨_, f2, _, u2, ho2, ex, rfl, fun e he => D.ok e (rp.mem_iff.mp he), (rp.map txE).trans D.pm, D.nd, few2, rf, rr, D.led.imp id fun q => by rw [rl]; exact q⟩)
  · exact wpAny_pure (hR _ sb ⟨_, fs, _, u, ho1, ex, rfl, D⟩)
theorem setS_add {x : Str} {tk : Tok} {Q : Value → Shared → Prop} (R : SetS w s.heap a xs) (room : xs.length + 1 < scanBound)
    (hQ : ∀ h', Heap.SameBut a s.heap h' → SetS w h' a (putS xs x) → Q .none { s with heap := h', toks := s.toks + 1 }) : wpAny (model P w) A (call (.builtin "set.add") [.ref a, .str x tk]) Q E s := by
  obtain ⟨ob, es, ep, t, ho, ex, hd, D⟩ := id R
  have isS : s.TypeIs (.ref a) "set" := ⟨ob, ho, ex.1⟩
  refine wpAny_call_entry F.slot_set_add isS F.entry_set_add ?_ (F.args_set_add_2 _ _)
  unfold Builtin.«set.add» Builtin.Frozenset.oneOther
  simp only [List.isEmpty_nil, bind_assoc]
  unfold Builtin.Frozenset.addrOf setAdd
  refine wpAny_bind (wpAny_pure ?_)
  try dsimp only
  refine wpAny_bind (wpAny_pure ?_)
  try dsimp only
  refine wpAny_bind (wpAny_holding (wpAny_bind ((strKind P w).pyHash (strKind_is P w x tk) ?_)))
  have key : (strKind P w).is x (.str x tk) = true := strKind_is P w x tk
  have scn : (Value.str x tk).scannable = true := rfl
  have els := D.elems (P := P)
  have fin : ∀ h', Heap.SameBut a s.heap h' → SetS w h' a (putS xs x) → wpAny (model P w) A.in1 (ret Value.none) (fun r s' => ∃ v, r = .done (.ret v) ∧ Q v s') E { s with heap := h', toks := s.toks + 1 } := fun h' sb q => wpAny_pure ⟨_, rfl, hQ h' sb q⟩
  unfold setAddHashed setAddHashedIn
  refine wpAny_holding (wpAny_bind (wpAny_setState_of (s := { s with toks := s.toks + 1 }) ho hd D.fit ?_))
  dsimp only
  rw [byScan_of scn D.few els]
  simp only [↓reduceIte]
  unfold setAddByScan
  refine wpAny_bind (wpAny_bind (wpAny_rule (wpAny_bind (wpAny_setScan_of (s := { s with toks := s.toks + 1 }) key ho hd D.fit els ?_))))
  cases found : List.findIdx? (fun e => (strKind P w).is x e.2) es.toList with
  | some j =>
    dsimp only
    obtain ⟨jl, jx, _⟩ := List.findIdx?_eq_some_iff_getElem.mp found
    have inx : x ∈ xs := (D.mem (P := P) x).2 ⟨es.toList[j], List.getElem_mem jl, jx⟩
    have same : putS xs x = xs := if_pos inx
    refine wpAny_pure (wpAny_pure ?_)
    exact fin s.heap (Heap.SameBut.refl a s.heap) (by rw [same]; exact R)
  | none =>
    dsimp only
    have notin : x ∉ xs := fun z => by
      obtain ⟨e, he, q⟩ := (D.mem (P := P) x).1 z
      have c := List.findIdx?_eq_none_iff.mp found e he
      rw [q] at c
      cases c
    have more : putS xs x = xs ++ [x] := if_neg notin
    have gw : ∀ (b : Bool) {s1 : Shared} {Z : Unit → Shared → Prop}, Z () s1 → wpAny (model P w) A.in1 (match b with | true => rule "set.scan.the-table-gave-way" | false => pure ()) Z E s1 := fun b s1 Z q => by
      cases b <;> first | exact wpAny_pure q | exact wpAny_rule q
    have lp := layNew_perm t es ((strKind P w).hash x) (.str x tk)
    have lf := layNew_fits t es ((strKind P w).hash x) (.str x tk)
    have lr := layNew_ris t es ((strKind P w).hash x) (.str x tk) D.ris
    have ll := layNew_led t es ((strKind P w).hash x) (.str x tk)
    generalize layNew t es ((strKind P w).hash x) (.str x tk) = Z at lp lf lr ll ⊢
    obtain ⟨fs, u, dum, gv⟩ := Z
    dsimp only at lp lf lr ll ⊢
    rw [Array.toList_push] at lp
    have cp : fs.toList.Perm (((strKind P w).hash x, Value.str x tk) :: es.toList) := lp.trans (List.perm_append_singleton _ _)
    have pm2 : (fs.toList.map txE).Perm (xs ++ [x]) := ((cp.map txE).trans (List.Perm.cons x D.pm)).trans (List.perm_append_singleton _ _).symm
    have zs : fs.size = xs.length + 1 := by rw [← Array.length_toList, ← List.length_map (f := txE), pm2.length_eq, List.length_append]; rfl
    have D2 : SetD w fs u (xs ++ [x]) := by
      refine ⟨fun e he => ?_, pm2, List.nodup_append.mpr ⟨D.nd, by simp, fun b hb c hc e => notin (by rw [← List.mem_singleton.mp hc, ← e]; exact hb)⟩, by rw [zs]; exact room, lf, lr, D.led.imp id fun q => by rw [ll]; exact q⟩
      rcases List.mem_cons.mp (cp.mem_iff.mp he) with q | q
      · rw [q]
        exact ⟨x, tk, rfl, rfl⟩
      · exact D.ok e q
    rw [← more] at D2
    refine wpAny_bind (gw _ ?_)
    split
    · refine wpAny_bind ?_
      rw [hashByValue_scannable 8 scn]
      refine wpAny_pure ?_
      refine setS_store (s := { s with toks := s.toks + 1 }) (xs := putS xs x) (fun b s1 Z q => by cases b <;> first | exact wpAny_pure q | exact wpAny_rule q) ho ex hd (SetD.mk D2.ok D2.pm D2.nd D2.few ?_ ?_ ?_) fun h' sb r => by
        dsimp only
        exact wpAny_pure (fin h' sb r)
      · first | (split <;> first | exact lf | exact SetTable.fits_plain_off lf) | exact lf
      · first | (split <;> exact lr) | exact lr
      · first | (split <;> exact D2.led) | exact D2.led
    · refine wpAny_bind (wpAny_pure ?_)
      simp only [↓reduceIte]
      refine setS_store (s := { s with toks := s.toks + 1 }) (fun b s1 Z q => by cases b <;> first | exact wpAny_pure q | exact wpAny_rule q) ho ex hd D2 fun h' sb r => by
        dsimp only
        exact wpAny_pure (fin h' sb r)
end
end He

namespace He
open PySem PySem.Spec PyProof.Rows L2
/-! ### a set of texts as a tracked thing; sorted of it -/
/-- the set of the texts xs (each once) at a -/
def SetX (w : World) (a : Addr) (xs : List Str) : HO := .ext fun h => SetS w h a xs
theorem setX_ok {w : World} {P : Program} {H : Hp} {h : Heap} {a : Addr} {xs : List Str} (R : SetS w h a xs) : ObjOk P w H h a (SetX w a xs) := by
  have ⟨ob, _, _, _, ho, _⟩ := R
  exact ⟨R, ⟨ob, ho⟩, fun h1 h2 p k => SetS.at' p k⟩
def txV : Value → Str
  | .str x _ => x
  | _ => Str.empty
section
variable {P : Program} {w : World} {A : Around} {E : Value → Shared → Prop} {s : Shared}
theorem sortX_kind {vs : List Value} {l : List Str} (two : 2 ≤ vs.length) (tx : ∀ v ∈ vs, ∃ x t, v = Value.str x t ∧ x ∈ l) (Q : SortKind → Shared → Prop) (h : ∀ κ, TS.Cmp P w A s κ (pairsOf vs) (fun v => rankS l (txV v)) → Q κ s) :
    wpAny (model P w) A (keyKind' vs.toArray) Q E s := by
  refine PySem.W.kas_kind (T := Value.type "str") two (fun v hv => ?_) rfl rfl (h _ ?_)
  · obtain ⟨x, t, rfl, _⟩ := tx v hv
    exact PySem.W.Looks.now
  · intro p q hp hq Q' E' hQ
    rw [pairsOf_toList] at hp hq
    obtain ⟨x, t, e1, m1⟩ := tx _ (mem_zip_self hp).2
    obtain ⟨y, u, e2, m2⟩ := tx _ (mem_zip_self hq).2
    have hQ2 : Q' (decide (rankS l (txV p.1) < rankS l (txV q.1))) s := hQ
    rw [e1, e2] at hQ2 ⊢
    have r := rank_lt (l := l) (x := x) (y := y) m1
    have hQ3 : Q' (decide (rankS l x < rankS l y)) s := hQ2
    rw [← r] at hQ3
    exact PySem.W.kas_lt_str hQ3
theorem sorted_setS {a : Addr} {xs : List Str} {Q : Value → Shared → Prop} (R : SetS w s.heap a xs) (hh : A.handled = none) (few : xs.length < 64)
    (hQ : ∀ (s2 : Shared) (D : Addr) (us : List Value) (c : Nat), (∀ b o, s.heap.get? b = some o → s2.heap.get? b = some o) → s2.gens = s.gens → s2.os = s.os → s.heap.objs.size ≤ D → s2.heap.get? D = some (seqObj "list" us.toArray c) → Vals ((sortG xs).map V.str) us → Q (.ref D) s2) :
    wpAny (model P w) A (call (.builtin "sorted") [.ref a]) Q E s := by
  obtain ⟨ob, es, ep, t, ho, ex, hd, T⟩ := R
  refine Calls.call_function_entry kind_sorted plain_sorted entry_sorted (args_sorted1 _) ?_
  unfold Builtin.«sorted»
  refine wpAny_bind (m := checkCount "sorted" 1 1 _) (wpAny_pure ?_)
  refine wpAny_bind (collect_set (A := A.in1) hh ⟨ob, ho, ex.1, hd⟩ T.fit T.few T.ris T.led fun s1 vs k1 z1 g1 o1 pm => ?_)
  have vl : vs.length = xs.length := by rw [pm.length_eq, List.length_map, Array.length_toList]; exact T.size
  have tx : ∀ v ∈ vs, ∃ x t, v = Value.str x t ∧ x ∈ xs := fun v hv => by
    obtain ⟨e, he, q⟩ := List.mem_map.mp (pm.mem_iff.mp hv)
    obtain ⟨x, tk, h1, _⟩ := T.ok e he
    refine ⟨x, tk, by rw [← q]; exact h1, T.pm.mem_iff.mp (List.mem_map.mpr ⟨e, he, ?_⟩)⟩
    unfold txE
    rw [h1]
  have pv : (vs.map txV).Perm xs := by
    have q := pm.map txV
    rw [List.map_map] at q
    refine q.trans ((List.Perm.of_eq (List.map_congr_left fun e he => ?_)).trans T.pm)
    obtain ⟨x, tk, h1, _⟩ := T.ok e he
    show txV e.2 = txE e
    unfold txE
    rw [h1]
    rfl
  refine wpAny_bind (wpAny_newList ?_ (by rw [vl, sizeLine_eq]; omega))
  have top : (s1.heap.push (seqObj "list" vs.toArray 0)).get? s1.heap.objs.size = some (seqObj "list" vs.toArray 0) := Heap.get?_push_size _ rfl
  refine wpAny_bind (wpAny_holding (wpAny_call_entry slot_list_sort ⟨_, top, rfl⟩ entry_list_sort
    (SK.plain_sort (s := { s1 with heap := s1.heap.push (seqObj "list" vs.toArray 0) }) (r := fun v => rankS xs (txV v)) top (by rw [vl]; exact few) (fun two Qk hQk => sortX_kind (s := { s1 with heap := TS.midHeap (s1.heap.push (seqObj "list" vs.toArray 0)) s1.heap.objs.size vs }) two tx Qk hQk) fun ps out o1' o2 o3 => ⟨_, rfl, ?_⟩) (args_list_sort _)))
  obtain ⟨c, hc⟩ := sortedHeap_at (vs := vs) (out := out) top
  obtain ⟨zs, pz, ez⟩ := perm_lift (fun v : Value => (v, v)) o2 vs (by
    have z : ∀ l : List Value, l.map (fun v => (v, v)) = l.zip l := fun l => by
      induction l with
      | nil => rfl
      | cons v l ih => rw [List.map_cons, ih]; rfl
    exact z vs)
  have outs : out.toList = zs := by
    rw [o1', ← ez, List.map_map]
    exact List.map_id _
  have tz : ∀ v ∈ zs, ∃ x t, v = Value.str x t ∧ x ∈ xs := fun v hv => tx v (pz.mem_iff.mp hv)
  have up : (zs.map txV).Pairwise fun x y => leS x y = true := by
    rw [← ez, List.pairwise_map] at o3
    rw [List.pairwise_map]
    refine List.Pairwise.imp_of_mem (fun {v u} hv hu h => ?_) o3
    obtain ⟨y, _, rfl, my⟩ := tz u hu
    have h : rankS xs (txV v) ≤ rankS xs y := h
    have r := rank_lt (l := xs) (x := y) (y := txV v) my
    show (!ltCps y.cps.toList (txV v).cps.toList) = true
    rw [ltCps_eq, r, decide_eq_false (by omega)]
    rfl
  have srt : zs.map txV = sortG xs := up_one (((pz.map txV).trans pv).trans (sortG_perm xs).symm) up (sortG_up xs)
  have vz : Vals ((sortG xs).map V.str) zs := by
    rw [← srt]
    have go : ∀ l : List Value, (∀ v ∈ l, ∃ x t, v = Value.str x t ∧ x ∈ xs) → Vals ((l.map txV).map V.str) l := fun l => by
      induction l with
      | nil => exact fun _ => .nil
      | cons v l ih =>
        intro hl
        obtain ⟨x, t, e, _⟩ := hl v List.mem_cons_self
        refine .cons ⟨t, ?_⟩ (ih fun u hu => hl u (List.mem_cons_of_mem _ hu))
        rw [e]
        rfl
    exact go zs tz
  refine wpAny_pure ⟨_, rfl, hQ _ s1.heap.objs.size zs c (fun b u e => ?_) g1 o1 z1 ?_ vz⟩
  · have q := k1 b u e
    have lt := Heap.lt_size q
    show (sortedHeap (s1.heap.push (seqObj "list" vs.toArray 0)) s1.heap.objs.size vs out).get? b = some u
    rw [sortedHeap_old (Nat.ne_of_lt lt) (by rw [Heap.size_push]; exact Nat.lt_succ_of_lt lt)]
    exact Heap.get?_push_of_some _ q
  · have e : out = zs.toArray := Array.toList_inj.mp (by rw [outs])
    rw [← e]
    exact hc
end
section
variable {X : Cx}
theorem setX_get {pins : List (Addr × Obj)} {σ : L2.St} {H : Hp} {s : Shared} {a : Addr} {xs : List Str} (I : Inv X pins σ H s) (ha : H a = some (SetX X.w a xs)) : SetS X.w s.heap a xs := (I.hok a _ ha).1
def rSortedX (w : World) : List V → Hp → VK → Prop := fun vs H Q => ∃ (a : Addr) (xs : List Str), vs = [V.ref a] ∧ H a = some (SetX w a xs) ∧ xs.length < 64 ∧ ∀ p, H p = none → Q (.ref p) (upd H p (.lst ((sortG xs).map V.str)))
theorem cr_sortedX (hc : X.calm = true) : CallR X (.builtin "sorted") (rSortedX X.w) := by
  intro pins s σ H vs us Q I r h
  obtain ⟨a, xs, rfl, ha, few, q⟩ := h
  rw [Vals.ref1 r]
  refine sorted_setS (setX_get I ha) (I.ok.hd hc) few fun s2 D zs c k g o hD at_ vz => ?_
  have short : ((sortG xs).map V.str).length ≤ sizeLine := by rw [List.length_map, (sortG_perm xs).length_eq, sizeLine_eq]; omega
  have nD : H D = none := I.hok.fresh hD
  have J : Inv X pins σ (upd H D (.lst ((sortG xs).map V.str))) { s with heap := s2.heap, gens := s2.gens, drawn := s2.drawn, toks := s2.toks } :=
    I.call (ch := []) (Un.laid k hD nD) (I.hok.laid k hD ⟨short, zs, c, vz, at_⟩) (by rw [g]; exact I.bare) (fun _ z => nomatch z)
  have e : s2 = { s with heap := s2.heap, gens := s2.gens, drawn := s2.drawn, toks := s2.toks } := by
    cases s2; cases s; cases o; rfl
  rw [e]
  exact ⟨.ref D, _, J, rfl, q D nD⟩
end
end He

namespace He
open PySem PySem.Spec PyProof.Rows L2
/-! ### {elt for t0 in i0 for t1 in i1 for t2 in i2}, elt a text -/
abbrev C3 (elt t0 i0 t1 i1 t2 i2 : Expr) (scope : Scope) (pos : Pos) : Expr := .SetComp elt [⟨t0, i0, [], 0⟩, ⟨t1, i1, [], 0⟩, ⟨t2, i2, [], 0⟩] scope pos
theorem turn3_a (elt t0 i0 t1 i1 t2 i2 : Expr) (scope : Scope) (pos : Pos) (it acc : Value) (env : Env) : compTurn (C3 elt t0 i0 t1 i1 t2 i2 scope pos) 0 it acc env = (do
    standAt i0.pos
    match ← pyNext it with
    | none => pure (.done .next)
    | some v =>
      letOwnedTupleGo t0 it v
      assign t0 env v
      let y ← eval i1 env
      standAt i1.pos
      let y2 ← foldedSetIterable i1 env y
      let _ ← runOwn (.compStart (C3 elt t0 i0 t1 i1 t2 i2 scope pos) 1 (← holding [y2] (pyIter y2)) acc env) env
      again (.compLoop (C3 elt t0 i0 t1 i1 t2 i2 scope pos) 0 it acc env)) := by rfl
theorem turn3_b (elt t0 i0 t1 i1 t2 i2 : Expr) (scope : Scope) (pos : Pos) (it acc : Value) (env : Env) : compTurn (C3 elt t0 i0 t1 i1 t2 i2 scope pos) 1 it acc env = (do
    standAt i1.pos
    match ← pyNext it with
    | none => pure (.done .next)
    | some v =>
      letOwnedTupleGo t1 it v
      assign t1 env v
      let y ← eval i2 env
      standAt i2.pos
      let y2 ← foldedSetIterable i2 env y
      let _ ← runOwn (.compStart (C3 elt t0 i0 t1 i1 t2 i2 scope pos) 2 (← holding [y2] (pyIter y2)) acc env) env
      again (.compLoop (C3 elt t0 i0 t1 i1 t2 i2 scope pos) 1 it acc env)) := by rfl
theorem turn3_c (elt t0 i0 t1 i1 t2 i2 : Expr) (scope : Scope) (pos : Pos) (it acc : Value) (env : Env) : compTurn (C3 elt t0 i0 t1 i1 t2 i2 scope pos) 2 it acc env = (do
    standAt i2.pos
    match ← pyNext it with
    | none => pure (.done .next)
    | some v =>
      letOwnedTupleGo t2 it v
      assign t2 env v
      (do let y ← eval elt env; standAt elt.pos; let _ ← call (.builtin "set.add") [acc, y])
      again (.compLoop (C3 elt t0 i0 t1 i1 t2 i2 scope pos) 2 it acc env)) := by rfl
section
variable {P : Program} {w : World} {A : Around} {R : Result → Shared → Prop} {s : Shared} {elt t0 i0 t1 i1 t2 i2 : Expr} {scope : Scope} {pos : Pos} {it acc : Value} {env : Env}
/-- nothing is raised -/
abbrev No : Value → Shared → Prop := fun _ _ => False
/-- a clause's turn whose body starts the next clause -/
abbrev TurnTo (P : Program) (w : World) (A : Around) (R : Result → Shared → Prop) (C t i : Expr) (k : Nat) (it acc : Value) (env : Env) (I : Nat → Shared → Prop) : Prop := ∀ n s, I n s → wpAny (model P w) A (pyNext it) (fun r s1 => match r with
  | none => R (.ok .next) s1
  | some v => wpAny (model P w) A (letOwnedTupleGo t it v) (fun _ s2 => wpAny (model P w) A (assign t env v) (fun _ s3 => wpAny (model P w) A (eval i env) (fun y s4 => wpAny (model P w) A (pyIter y) (fun j s5 =>
      codeAny (model P w) A (.compStart C k j acc env) (fun r s6 => (∃ f, r = .ok f) ∧ ∃ m, m < n ∧ I m s6) s5) No s4) No s3) No s2) No s1) No s
theorem loop3_a (fs : ∀ x, foldedSetIterable i1 env x = pure x) (I : Nat → Shared → Prop) (turn : TurnTo P w A R (C3 elt t0 i0 t1 i1 t2 i2 scope pos) t0 i1 1 it acc env I) (n : Nat) (h : I n s) :
    codeAny (model P w) A (.compLoop (C3 elt t0 i0 t1 i1 t2 i2 scope pos) 0 it acc env) R s := by
  refine codeAny_loop rfl I (fun n s hI => ?_) n h
  show wpAny _ A ((compTurn (C3 elt t0 i0 t1 i1 t2 i2 scope pos) 0 it acc env).onRaise (fun x => do noteFrame x env; theTreesLotGoes x)) _ _ s
  refine wpAny_noted ?_
  rw [turn3_a]
  refine wpAny_bind (wpAny_standAt (wpAny_bind (thnF (turn n s hI) fun r s1 h1 => ?_)))
  match r, h1 with
  | none, h1 => exact wpAny_pure h1
  | some v, h1 =>
    refine wpAny_bind (thnF h1 fun _ s2 h2 => wpAny_bind (thnF h2 fun _ s3 h3 => wpAny_bind (thnF h3 fun y s4 h4 => ?_)))
    refine wpAny_bind (wpAny_standAt (wpAny_bind (wpAny_of_eq (fs y) (wpAny_bind (wpAny_holding (thnF h4 fun j s5 h5 => wpAny_bind (wpAny_runOwn ?_)))))))
    rw [Around.mark_none]
    refine codeAny_mono h5 fun r s6 hr => ?_
    obtain ⟨⟨f, rfl⟩, m⟩ := hr
    first
      | exact wpAny_pure ⟨rfl, m⟩
      | exact wpAny_bind (wpAny_pure (wpAny_pure ⟨rfl, m⟩))
theorem loop3_b (fs : ∀ x, foldedSetIterable i2 env x = pure x) (I : Nat → Shared → Prop) (turn : TurnTo P w A R (C3 elt t0 i0 t1 i1 t2 i2 scope pos) t1 i2 2 it acc env I) (n : Nat) (h : I n s) :
    codeAny (model P w) A (.compLoop (C3 elt t0 i0 t1 i1 t2 i2 scope pos) 1 it acc env) R s := by
  refine codeAny_loop rfl I (fun n s hI => ?_) n h
  show wpAny _ A ((compTurn (C3 elt t0 i0 t1 i1 t2 i2 scope pos) 1 it acc env).onRaise (fun x => do noteFrame x env; theTreesLotGoes x)) _ _ s
  refine wpAny_noted ?_
  rw [turn3_b]
  refine wpAny_bind (wpAny_standAt (wpAny_bind (thnF (turn n s hI) fun r s1 h1 => ?_)))
  match r, h1 with
  | none, h1 => exact wpAny_pure h1
  | some v, h1 =>
    refine wpAny_bind (thnF h1 fun _ s2 h2 => wpAny_bind (thnF h2 fun _ s3 h3 => wpAny_bind (thnF h3 fun y s4 h4 => ?_)))
    refine wpAny_bind (wpAny_standAt (wpAny_bind (wpAny_of_eq (fs y) (wpAny_bind (wpAny_holding (thnF h4 fun j s5 h5 => wpAny_bind (wpAny_runOwn ?_)))))))
    rw [Around.mark_none]
    refine codeAny_mono h5 fun r s6 hr => ?_
    obtain ⟨⟨f, rfl⟩, m⟩ := hr
    first
      | exact wpAny_pure ⟨rfl, m⟩
      | exact wpAny_bind (wpAny_pure (wpAny_pure ⟨rfl, m⟩))
theorem loop3_c (I : Nat → Shared → Prop) (turn : ∀ n s, I n s → wpAny (model P w) A (pyNext it) (fun r s1 => match r with
      | none => R (.ok .next) s1
      | some v => wpAny (model P w) A (letOwnedTupleGo t2 it v) (fun _ s2 => wpAny (model P w) A (assign t2 env v) (fun _ s3 => wpAny (model P w) A (eval elt env) (fun y s4 =>
          wpAny (model P w) A (call (.builtin "set.add") [acc, y]) (fun _ s5 => ∃ m, m < n ∧ I m s5) No s4) No s3) No s2) No s1) No s) (n : Nat) (h : I n s) :
    codeAny (model P w) A (.compLoop (C3 elt t0 i0 t1 i1 t2 i2 scope pos) 2 it acc env) R s := by
  refine codeAny_loop rfl I (fun n s hI => ?_) n h
  show wpAny _ A ((compTurn (C3 elt t0 i0 t1 i1 t2 i2 scope pos) 2 it acc env).onRaise (fun x => do noteFrame x env; theTreesLotGoes x)) _ _ s
  refine wpAny_noted ?_
  rw [turn3_c]
  refine wpAny_bind (wpAny_standAt (wpAny_bind (thnF (turn n s hI) fun r s1 h1 => ?_)))
  match r, h1 with
  | none, h1 => exact wpAny_pure h1
  | some v, h1 =>
    refine wpAny_bind (thnF h1 fun _ s2 h2 => wpAny_bind (thnF h2 fun _ s3 h3 => wpAny_bind (wpAny_bind (thnF h3 fun y s4 h4 => wpAny_bind (wpAny_standAt (wpAny_bind (thnF h4 fun _ s5 h5 => ?_)))))))
    exact wpAny_pure (wpAny_pure ⟨rfl, h5⟩)
theorem start3 {k : Nat} (hk : k = 0 ∨ k = 1 ∨ k = 2) (h0 : codeAny (model P w) A (.compLoop (C3 elt t0 i0 t1 i1 t2 i2 scope pos) k it acc env) R s)
    (h : wpAny (model P w) A (pyIter it) (fun j s2 => codeAny (model P w) A (.compLoop (C3 elt t0 i0 t1 i1 t2 i2 scope pos) k j acc env) R s2) No s) : codeAny (model P w) A (.compStart (C3 elt t0 i0 t1 i1 t2 i2 scope pos) k it acc env) R s := by
  have h : ∀ E : Value → Shared → Prop, wpAny (model P w) A (pyIter it) (fun j s2 => codeAny (model P w) A (.compLoop (C3 elt t0 i0 t1 i1 t2 i2 scope pos) k j acc env) R s2) E s := fun E => thnF h fun _ _ q => q
  rcases hk with rfl | rfl | rfl
  all_goals
    refine codeAny_of_tree (wpAny_notedAt (M := model P w) ?_)
    unfold compStart
    show wpAny _ _ (ask >>= _) _ _ s
    refine wpAny_bind (m := ask) (wpAny_askSetting (wpAny_ite ?_))
    split
    · first
        | exact wpAny_bind (wpAny_pure (wpAny_pure ⟨rfl, h0⟩))
        | exact wpAny_pure ⟨rfl, h0⟩
    · refine wpAny_bind (wpAny_rule ?_)
      first
        | (show wpAny _ _ (standAt i0.pos >>= _) _ _ s; exact wpAny_bind (wpAny_standAt (wpAny_bind (wpAny_mono (h _) (fun j s2 q => wpAny_pure ⟨rfl, q⟩) fun _ _ z => z))))
        | (show wpAny _ _ (standAt i1.pos >>= _) _ _ s; exact wpAny_bind (wpAny_standAt (wpAny_bind (wpAny_mono (h _) (fun j s2 q => wpAny_pure ⟨rfl, q⟩) fun _ _ z => z))))
        | (show wpAny _ _ (standAt i2.pos >>= _) _ _ s; exact wpAny_bind (wpAny_standAt (wpAny_bind (wpAny_mono (h _) (fun j s2 q => wpAny_pure ⟨rfl, q⟩) fun _ _ z => z))))
        | exact wpAny_bind (wpAny_standAt (wpAny_bind (wpAny_mono (h _) (fun j s2 q => wpAny_pure ⟨rfl, q⟩) fun _ _ z => z)))
end
end He

namespace He
open PySem PySem.Spec PyProof.Rows L2
/-! ### one clause of a comprehension, whatever the turns do -/
abbrev Bd := L2.St → Hp → (Hp → Prop) → Prop
/-- W leads over J's items: each is stored, then body reaches what the next turn starts from -/
def Steps (J : It) (g : TG) (vs : List Nat) (σ : L2.St) (body : Bd) (done : Hp → Prop) (W : Nat → Nat → Hp → Prop) : Prop := ∀ i m H, W i m H →
  (J.stop i H ∧ done H) ∨ (J.go i H ∧ ∃ N : Hp → Prop, (∀ H', N H' → ∃ m', m' < m ∧ W (i + 1) m' H') ∧ ∀ x H', J.yld i H x H' → g x (wipe σ vs) H' fun σ2 H2 => wipe σ2 vs = wipe σ vs ∧ body σ2 H2 N)
def Lp (J : It) (g : TG) (vs : List Nat) (σ : L2.St) (H1 : Hp) (body : Bd) (done : Hp → Prop) : Prop := ∃ W : Nat → Nat → Hp → Prop, (∃ m, W 0 m H1) ∧ Steps J g vs σ body done W
/-- what σ2 knows outside vs, σ9 knows -/
def Knows (vs : List Nat) (σ2 σ9 : L2.St) : Prop := σ9.length = σ2.length ∧ ∀ (j : Nat) v, (wipe σ2 vs)[j]? = some (some v) → σ9[j]? = some (some v)
theorem knows_self (vs : List Nat) (σ : L2.St) : Knows vs σ σ := ⟨rfl, fun j v e => (wipe_some e).1⟩
theorem knows_in {vs vs1 : List Nat} (hv : ∀ i ∈ vs1, i ∈ vs) {σ : L2.St} : Knows vs σ (wipe σ vs1) := ⟨wipe_length σ vs1, fun j v e => by
  obtain ⟨e1, e2⟩ := wipe_some e
  rw [wipe_out fun z => e2 (hv j z)]
  exact e1⟩
section
variable {Y : Cx}
/-- a turn may start -/
def At (Y : Cx) (pins : List (Addr × Obj)) (vs : List Nat) (σ : L2.St) (tn : Nat → Heap → Prop) (fp : List Addr) (W : Nat → Nat → Hp → Prop) (n : Nat) (s : Shared) : Prop := ∃ i H', Inv Y pins (wipe σ vs) H' s ∧ tn i s.heap ∧ (∀ b ∈ fp, H' b = none) ∧ W i n H'
theorem level {tg : Expr} {J : It} {fp : List Addr} {it : Addr} {tn : Nat → Heap → Prop} {pins : List (Addr × Obj)} {g : TG} {vs : List Nat} {σ : L2.St} {W : Nat → Nat → Hp → Prop} {body : Bd} {done : Hp → Prop}
    (hc : Y.calm = true) (xe : Y.xe = No) (T : Turn Y.prog Y.w Y.K tg J fp it tn) (st : ∀ (σ' : L2.St) (H' : Hp) (s' : Shared), Inv Y pins σ' H' s' → (∀ b ∈ fp, H' b = none) → ∀ b ∈ fp, FpOk Y pins H' b)
    (pg : PG Y tg g) (turn : Steps J g vs σ body done W) (n : Nat) (s : Shared) (h : At Y pins vs σ tn fp W n s) :
    wpAny (model Y.prog Y.w) Y.A (pyNext (.ref it)) (fun r s1 => match r with
      | none => ∃ H', Inv Y pins (wipe σ vs) H' s1 ∧ done H'
      | some v => wpAny (model Y.prog Y.w) Y.A (letOwnedTupleGo tg (.ref it) v) (fun _ s2 => wpAny (model Y.prog Y.w) Y.A (assign tg Y.env v) (fun _ s3 =>
          ∃ (σ2 : L2.St) (H2 : Hp) (N : Hp → Prop) (pins2 : List (Addr × Obj)), Inv Y pins2 σ2 H2 s3 ∧ body σ2 H2 N ∧ ∀ (σ9 : L2.St) (s' : Shared) (H' : Hp), Inv Y pins2 σ9 H' s' → Knows vs σ2 σ9 → N H' → ∃ m, m < n ∧ At Y pins vs σ tn fp W m s') No s2) No s1) No s := by
  obtain ⟨i, H5, I5, st5, n5, w5⟩ := h
  rcases turn i n H5 w5 with ⟨stop, qq⟩ | ⟨go, N, hN, step⟩
  · refine thnF (T.done Y rfl rfl rfl hc i pins s _ H5 (fun _ _ => False) I5 (st _ _ _ I5 n5) st5 stop) fun r s6 ⟨hr, I6⟩ => ?_
    subst hr
    exact ⟨H5, I6, qq⟩
  · refine thnF (T.item Y rfl rfl rfl hc i pins s _ H5 (fun _ _ => False) I5 (st _ _ _ I5 n5) st5 go) fun r s6 ⟨u, hr, h6⟩ => ?_
    subst hr
    refine thnF h6 fun _ s7 ⟨x, H7, I7, r7, y7, st7, n7⟩ => ?_
    have I8 := I7.pinned (st _ _ _ I7 n7) (T.obj _ _ st7)
    have run := pg.run _ s7 _ H7 x u _ I8 r7 (step x H7 y7)
    rw [xe] at run
    refine thnF run fun _ s8 ⟨σ2, H8, I9, kn, b⟩ => ?_
    refine ⟨σ2, H8, N, _, I9, b, fun σ9 s' H' I' k nx => ?_⟩
    obtain ⟨m', hm, w'⟩ := hN H' nx
    have pin' : ∀ b ∈ fp, ∀ o, s7.heap.get? b = some o → s'.heap.get? b = some o ∧ H' b = none := fun b hb o e =>
      let z := I'.pin (b, o) (List.mem_append_right _ (List.mem_append_right _ (mem_pinsAt hb e)))
      ⟨z.1, z.2.1⟩
    refine ⟨m', hm, i + 1, H', I'.unpinned.weak ?_ ?_, T.keep _ _ _ st7 fun b hb o e => (pin' b hb o e).1, fun b hb => ?_, w'⟩
    · rw [k.1, ← wipe_length σ2 vs, kn]
    · intro j v e
      refine k.2 j v ?_
      rw [kn]
      exact e
    · obtain ⟨o, e, _⟩ := T.obj _ _ st7 b hb
      exact (pin' b hb o e).2
/-- what is kept of an iterator that comes within a turn -/
theorem fp_stays {pins : List (Addr × Obj)} {H0 : Hp} {fp : List Addr} (f : ∀ b ∈ fp, FpOk Y pins H0 b) : ∀ (σ' : L2.St) (H' : Hp) (s' : Shared), Inv Y pins σ' H' s' → (∀ b ∈ fp, H' b = none) → ∀ b ∈ fp, FpOk Y pins H' b := fun _ _ _ _ hn b hb => ⟨hn b hb, (f b hb).2⟩
/-- x is put into the new set -/
theorem putS_ok {pins : List (Addr × Obj)} {σ : L2.St} {H : Hp} {s : Shared} {D : Addr} {xs : List Str} {x : Str} {v : Value} {E : Value → Shared → Prop} {Q : Value → Shared → Prop} (I : Inv Y pins σ H s) (hD : H D = some (SetX Y.w D xs)) (room : xs.length + 1 < scanBound) (r : RelV (V.str x) v)
    (h : ∀ s', Inv Y pins σ (upd H D (SetX Y.w D (putS xs x))) s' → Q .none s') : wpAny (model Y.prog Y.w) Y.A (call (.builtin "set.add") [.ref D, v]) Q E s := by
  obtain ⟨t, rfl⟩ := r
  refine setS_add (setX_get I hD) room fun h' sb R => h _ ?_
  refine I.write (by rw [hD]; exact True.intro) (.inl rfl) (fun b u hb q => (sb.2 b hb).trans q) ?_ (setX_ok R)
  obtain ⟨ob, _, _, _, ho, _⟩ := R
  exact ⟨ob, ho⟩
end
end He

namespace He
open PySem PySem.Spec PyProof.Rows L2
/-! ### {text for .. for .. for ..} -/
def tSc3 (w : World) (wi : TI) (g : TG) (wi1 : TI) (g1 : TG) (wi2 : TI) (g2 : TG) (te : TE) (vs vs1 vs2 : List Nat) : TE := fun σ H Q => wi σ H fun J H1 => ∀ D, H1 D = none →
  Lp J g vs σ (upd H1 D (SetX w D [])) (fun σ2 H2 N => wi1 σ2 H2 fun J1 H3 => Lp J1 g1 vs1 σ2 H3 (fun σ3 H4 N1 => wi2 σ3 H4 fun J2 H5 => Lp J2 g2 vs2 σ3 H5 (fun σ4 H6 N2 =>
    te σ4 H6 fun y H7 => ∃ (x : Str) (xs : List Str), y = .str x ∧ H7 D = some (SetX w D xs) ∧ xs.length + 1 < scanBound ∧ N2 (upd H7 D (SetX w D (putS xs x)))) N1) N) fun H => Q (.ref D) H
section
variable {X : Cx}
abbrev Blk (X : Cx) (scope : Scope) (R : Cx → Prop) : Prop := ∀ (s : Shared) (H : Hp) (C : Addr) (cl : List (PySem.Str × Addr)) (fp : List Addr), R (X.blk s H scope (compEnvC scope cl C X.env) fp)
theorem sc3_core {pins : List (Addr × Obj)} {s : Shared} {σ : L2.St} {H : Hp} {Q : VK} {elt t0 i0 t1 i1 t2 i2 : Expr} {scope : Scope} {own : List (PySem.Str × Nat)} {vs1 vs2 : List Nat} {pos pos' : Pos} {wi wi1 wi2 : TI} {g g1 g2 : TG} {te : TE} {use : Option (Value → Sem Unit)} {Qf : Value → Shared → Prop}
    (hc : X.calm = true) (nd : X.N.Nodup) (I : Inv X pins σ H s) (it0 : PI X t0 i0 wi) (ok : BlkOk X.N X.env.scope scope own) (hv1 : ∀ i ∈ vs1, i ∈ own.map (·.2)) (hv2 : ∀ i ∈ vs2, i ∈ vs1)
    (hg : Blk X scope fun Y => PG Y t0 g) (it1 : Blk X scope fun Y => PI Y t1 i1 wi1) (hg1 : Blk X scope fun Y => PG Y t1 g1) (it2 : Blk X scope fun Y => PI Y t2 i2 wi2) (hg2 : Blk X scope fun Y => PG Y t2 g2) (el : Blk X scope fun Y => PE Y elt te)
    (f0 : ∀ x, foldedSetIterable i0 X.env x = pure x) (fs1 : ∀ env x, foldedSetIterable i1 env x = pure x) (fs2 : ∀ env x, foldedSetIterable i2 env x = pure x)
    (h : tSc3 X.w wi g wi1 g1 wi2 g2 te (own.map (·.2)) vs1 vs2 σ H Q)
    (post : ∀ D C s' m H', Inv X pins σ H' s' → Q (.ref D) H' → s'.heap.Ns C m → FpOk X pins H' C → compPost (model X.prog X.w) X.A X.xe use Qf (.ref D) C (.ok .next) s') :
    wpAny (model X.prog X.w) X.A (comprehension (C3 elt t0 i0 t1 i1 t2 i2 scope pos) scope X.env pos' (newSet (.type "set")) false (eval i0 X.env) use) Qf X.xe s := by
  have caught : ∀ y ∈ scope.names, y.2 = .free → ∃ c, X.env.cells.lookup y.1 = some c := fun y hy e =>
    (ok.free y hy e).elim (fun k => I.ok.has _ (.inl k)) fun k => I.ok.has _ (.inr k)
  refine wpAny_comprehension_free (use := use) rfl f0 (closure_ok caught) ok.kind (fun y hy e => by rw [ok.uniq y hy, e]) (thn (it0.run pins s σ H _ I h) fun xv s1 hx => thn hx fun itv s2 h2 => ?_)
  obtain ⟨it, fp, tn, J, H2, e, I2, T, st2, f2, q⟩ := h2
  subst e
  refine PpSet.newSet_ok (newEnv_comp ?_)
  generalize eD : s2.heap.objs.size = D
  obtain ⟨W, ⟨m0, w0⟩, turn⟩ := q D (I2.hok.fresh (Nat.le_of_eq eD))
  generalize es3 : ({ s2 with heap := s2.heap.push { cls := .type "set", dict := none, data := .set #[] 0 (.fresh 0 0 (!X.w.params.followText "set-order")) } } : Shared) = s3
  have h3 : s3.heap = s2.heap.push { cls := .type "set", dict := none, data := .set #[] 0 (.fresh 0 0 (!X.w.params.followText "set-order")) } := by rw [← es3]
  have I3 : Inv X pins σ (upd H2 D (SetX X.w D [])) s3 := by
    rw [← es3]
    refine I2.laid (t' := s2.toks) (fun b o e => Heap.get?_push_of_some _ e) (Nat.le_of_eq eD) ?_
    rw [← eD]
    exact setX_ok (setS_fresh s2.heap)
  have f3 : ∀ b ∈ fp, FpOk X pins (upd H2 D (SetX X.w D [])) b ∧ b < s3.heap.objs.size := fun b hb => by
    obtain ⟨o, e, _⟩ := T.obj _ _ st2 b hb
    have lt := Heap.lt_size e
    refine ⟨⟨?_, (f2 b hb).2⟩, by rw [h3, Heap.size_push]; exact Nat.lt_succ_of_lt lt⟩
    rw [upd_ne (by rw [← eD]; exact Nat.ne_of_lt lt)]
    exact (f2 b hb).1
  have st3 : tn 0 s3.heap := T.keep _ _ _ st2 fun b _ o e => by rw [h3]; exact Heap.get?_push_of_some _ e
  have I4 := block_start I3 ok nd f3
  have p0 := hg s3 (upd H2 D (SetX X.w D [])) s3.heap.objs.size (cellsFrom (s3.heap.objs.size + 1) scope.names (cloFrom X.env.cells scope.names [])) fp
  have q1 := it1 s3 (upd H2 D (SetX X.w D [])) s3.heap.objs.size (cellsFrom (s3.heap.objs.size + 1) scope.names (cloFrom X.env.cells scope.names [])) fp
  have p1 := hg1 s3 (upd H2 D (SetX X.w D [])) s3.heap.objs.size (cellsFrom (s3.heap.objs.size + 1) scope.names (cloFrom X.env.cells scope.names [])) fp
  have q2 := it2 s3 (upd H2 D (SetX X.w D [])) s3.heap.objs.size (cellsFrom (s3.heap.objs.size + 1) scope.names (cloFrom X.env.cells scope.names [])) fp
  have p2 := hg2 s3 (upd H2 D (SetX X.w D [])) s3.heap.objs.size (cellsFrom (s3.heap.objs.size + 1) scope.names (cloFrom X.env.cells scope.names [])) fp
  have pe := el s3 (upd H2 D (SetX X.w D [])) s3.heap.objs.size (cellsFrom (s3.heap.objs.size + 1) scope.names (cloFrom X.env.cells scope.names [])) fp
  show codeAny _ _ (.compStart (C3 elt t0 i0 t1 i1 t2 i2 scope pos) 0 (.ref it) (.ref D) (compEnvC scope (cellsFrom (s3.heap.objs.size + 1) scope.names (cloFrom X.env.cells scope.names [])) s3.heap.objs.size X.env)) (compPost (model X.prog X.w) X.A X.xe use Qf (.ref D) s3.heap.objs.size) { s3 with heap := pushCells (s3.heap.push { cls := .type "dict", data := .dict #[] }) scope.names }
  have n3 : ∀ b ∈ fp, (upd H2 D (SetX X.w D [])) b = none := fun b hb => (f3 b hb).1.1
  generalize ece : compEnvC scope (cellsFrom (s3.heap.objs.size + 1) scope.names (cloFrom X.env.cells scope.names [])) s3.heap.objs.size X.env = ce at I4 p0 q1 p1 q2 p2 pe ⊢
  have cL : ce.locals = s3.heap.objs.size := by subst ece; rfl
  generalize hH3 : upd H2 D (SetX X.w D []) = H3 at I3 I4 p0 q1 p1 q2 p2 pe w0 n3 f3
  generalize es4 : ({ s3 with heap := pushCells (s3.heap.push { cls := .type "dict", data := .dict #[] }) scope.names } : Shared) = s4 at I4 ⊢
  have st4 : tn 0 s4.heap := T.keep _ _ _ st3 fun b _ o e => by rw [← es4]; exact pushCells_keeps _ _ _ _ (Heap.get?_push_of_some _ e)
  generalize hY : X.blk s3 H3 scope ce fp = Y at I4 p0 q1 p1 q2 p2 pe
  have yc : Y.calm = true := by rw [← hY]; exact hc
  have yx : Y.xe = No := by rw [← hY]
  have st : ∀ (σ' : L2.St) (H' : Hp) (s' : Shared), Inv Y [] σ' H' s' → (∀ b ∈ fp, H' b = none) → ∀ b ∈ fp, FpOk Y [] H' b := by
    rw [← hY]
    exact fun σ' H' s' I' hn b hb => ⟨hn b hb, (I'.ok.exf b hb).1, I'.ok.exfs b hb, .inl hb, fun x c e => (I'.ok.exf b hb).2 x c e, fun p hp => absurd (show p ∈ ([] : List (Addr × Obj)) ++ [] from hp) (by simp)⟩
  have e1 : Y.prog = X.prog := by rw [← hY]
  have e2 : Y.w = X.w := by rw [← hY]
  have e3 : Y.K = X.K := by rw [← hY]
  have e4 : Y.A = X.A := by rw [← hY]
  have e5 : Y.env = ce := by rw [← hY]
  -- the end, back among the def's names
  have fin : ∀ (s' : Shared) (H' : Hp), Inv Y [] (wipe σ (own.map (·.2))) H' s' → Q (.ref D) H' → compPost (model X.prog X.w) X.A X.xe use Qf (.ref D) s3.heap.objs.size (.ok .next) s' := fun s' H' I' z => by
    rw [← hY] at I'
    have I7 : Inv X pins σ H' s' := I3.call' (ch := fp) I'.os I'.base I'.hok I'.bare fun b hb => ⟨(f3 b hb).1.2.2.2.1, (f3 b hb).1.2.1, (f3 b hb).1.2.2.2.2.1, (f3 b hb).1.2.2.2.2.2⟩
    have nC : H' s3.heap.objs.size = none := by
      have z : H' ce.locals = none := I'.free
      rw [cL] at z
      exact z
    obtain ⟨m, hn, _⟩ := I'.loc
    have hn : s'.heap.Ns ce.locals m := hn
    rw [cL] at hn
    exact post D s3.heap.objs.size s' m H' I7 z hn (I3.fpOk (Nat.le_refl _) nC)
  clear hY
  have T : Turn Y.prog Y.w Y.K t0 J fp it tn := by rw [e1, e2, e3]; exact T
  rw [← e4, ← e5] at *
  rw [← e1, ← e2] at fin ⊢
  have loop : codeAny (model Y.prog Y.w) Y.A (.compLoop (C3 elt t0 i0 t1 i1 t2 i2 scope pos) 0 (.ref it) (.ref D) Y.env) (compPost (model Y.prog Y.w) Y.A X.xe use Qf (.ref D) s3.heap.objs.size) s4 := by
    refine loop3_a (fs1 _) (At Y [] (own.map (·.2)) σ tn fp W) (fun n s5 h5 => thnF (level yc yx T st p0 turn n s5 h5) fun r s6 h6 => ?_) m0 ⟨0, H3, I4, st4, n3, w0⟩
    match r, h6 with
    | none, ⟨H', I', z⟩ => exact fin s6 H' I' z
    | some v, h6 =>
      refine thnF h6 fun _ s7 h7 => thnF h7 fun _ s8 ⟨σ2, H8, N, pin2, I8, b8, end8⟩ => ?_
      have r1 := q1.run _ s8 σ2 H8 _ I8 b8
      rw [yx] at r1
      refine thnF r1 fun xv s9 hx => thnF hx fun itv s10 h10 => ?_
      obtain ⟨it1, fp1, tn1, J1, H10, ee, I10, T1, st10, f10, W1, ⟨m1, w1⟩, turn1⟩ := h10
      subst ee
      have loop1 : codeAny (model Y.prog Y.w) Y.A (.compLoop (C3 elt t0 i0 t1 i1 t2 i2 scope pos) 1 (.ref it1) (.ref D) Y.env) (fun r s' => (∃ f, r = .ok f) ∧ ∃ m, m < n ∧ At Y [] (own.map (·.2)) σ tn fp W m s') s10 := by
        refine loop3_b (fs2 _) (At Y pin2 vs1 σ2 tn1 fp1 W1) (fun n1 s11 h11 => thnF (level yc yx T1 (fp_stays f10) p1 turn1 n1 s11 h11) fun r s12 h12 => ?_) m1 ⟨0, H10, I10.weak (wipe_length _ _) (fun j v e => (wipe_some e).1), st10, fun b hb => (f10 b hb).1, w1⟩
        match r, h12 with
        | none, ⟨H', I', z⟩ => exact ⟨⟨_, rfl⟩, end8 _ s12 H' I' (knows_in hv1) z⟩
        | some v, h12 =>
          refine thnF h12 fun _ s13 h13 => thnF h13 fun _ s14 ⟨σ3, H14, N1, pin3, I14, b14, end14⟩ => ?_
          have r2 := q2.run _ s14 σ3 H14 _ I14 b14
          rw [yx] at r2
          refine thnF r2 fun xv s15 hx => thnF hx fun itv s16 h16 => ?_
          obtain ⟨it2, fp2, tn2, J2, H16, ee, I16, T2, st16, f16, W2, ⟨m2, w2⟩, turn2⟩ := h16
          subst ee
          have loop2 : codeAny (model Y.prog Y.w) Y.A (.compLoop (C3 elt t0 i0 t1 i1 t2 i2 scope pos) 2 (.ref it2) (.ref D) Y.env) (fun r s' => (∃ f, r = .ok f) ∧ ∃ m, m < n1 ∧ At Y pin2 vs1 σ2 tn1 fp1 W1 m s') s16 := by
            refine loop3_c (At Y pin3 vs2 σ3 tn2 fp2 W2) (fun n2 s17 h17 => thnF (level yc yx T2 (fp_stays f16) p2 turn2 n2 s17 h17) fun r s18 h18 => ?_) m2 ⟨0, H16, I16.weak (wipe_length _ _) (fun j v e => (wipe_some e).1), st16, fun b hb => (f16 b hb).1, w2⟩
            match r, h18 with
            | none, ⟨H', I', z⟩ => exact ⟨⟨_, rfl⟩, end14 _ s18 H' I' (knows_in hv2) z⟩
            | some v, h18 =>
              refine thnF h18 fun _ s19 h19 => thnF h19 fun _ s20 ⟨σ4, H20, N2, pin4, I20, b20, end20⟩ => ?_
              have r3 := pe.run _ s20 σ4 H20 _ I20 b20
              rw [yx] at r3
              refine thnF r3 fun z s21 ⟨y, H21, I21, r21, x, xs, ey, hD21, room, nx⟩ => ?_
              subst ey
              rw [← e2] at hD21 nx
              exact putS_ok I21 hD21 room r21 fun s22 I22 => end20 σ4 s22 _ I22 (knows_self _ _) nx
          exact start3 (.inr (.inr rfl)) loop2 (T2.self Y.A 0 _ _ _ st16 loop2)
      exact start3 (.inr (.inl rfl)) loop1 (T1.self Y.A 0 _ _ _ st10 loop1)
  exact start3 (.inl rfl) loop (T.self Y.A 0 _ _ _ st4 loop)
theorem pe_sc3 {elt t0 i0 t1 i1 t2 i2 : Expr} {scope : Scope} {own : List (PySem.Str × Nat)} {vs1 vs2 : List Nat} {pos : Pos} {wi wi1 wi2 : TI} {g g1 g2 : TG} {te : TE}
    (hc : X.calm = true) (nd : X.N.Nodup) (it0 : PI X t0 i0 wi) (ok : BlkOk X.N X.env.scope scope own) (hv1 : ∀ i ∈ vs1, i ∈ own.map (·.2)) (hv2 : ∀ i ∈ vs2, i ∈ vs1)
    (hg : Blk X scope fun Y => PG Y t0 g) (it1 : Blk X scope fun Y => PI Y t1 i1 wi1) (hg1 : Blk X scope fun Y => PG Y t1 g1) (it2 : Blk X scope fun Y => PI Y t2 i2 wi2) (hg2 : Blk X scope fun Y => PG Y t2 g2) (el : Blk X scope fun Y => PE Y elt te)
    (f0 : ∀ x, foldedSetIterable i0 X.env x = pure x := by intro _; rfl) (fs1 : ∀ env x, foldedSetIterable i1 env x = pure x := by intro _ _; rfl) (fs2 : ∀ env x, foldedSetIterable i2 env x = pure x := by intro _ _; rfl) :
    PE X (C3 elt t0 i0 t1 i1 t2 i2 scope pos) (tSc3 X.w wi g wi1 g1 wi2 g2 te (own.map (·.2)) vs1 vs2) := by
  refine ⟨fun pins s σ H Q I h => ?_⟩
  unfold C3
  rw [PpSet.eval_SetComp]
  refine sc3_core hc nd I it0 ok hv1 hv2 hg it1 hg1 it2 hg2 el f0 fs1 fs2 h fun D C s' m H' I' q hn fr => ⟨m, hn, fun h'' sb => ?_⟩
  obtain ⟨p0, p1, p2, p3, p4, p5⟩ := fr
  have I2 := I'.turned (t' := s'.toks) (fun b o hb e => (sb.2 b hb).trans e) p0 p1 p3 p4 p5
  exact ⟨.ref D, H', I2, rfl, q⟩
end
theorem lp_tup {K : PySem.W.Frag} {a : Addr} {xs : List V} {g : TG} {vs : List Nat} {σ : L2.St} {H1 : Hp} {body : Bd} {done : Hp → Prop} (Pv : Nat → Hp → Prop) (h0 : Pv 0 H1) (hl : ∀ i H, i ≤ xs.length → Pv i H → SqT K H a xs)
    (hs : ∀ i x H, xs[i]? = some x → Pv i H → g x (wipe σ vs) H fun σ2 H2 => wipe σ2 vs = wipe σ vs ∧ body σ2 H2 (Pv (i + 1))) (hd : ∀ H, Pv xs.length H → done H) : Lp (Itt K a) g vs σ H1 body done := by
  refine ⟨fun i m H => m = xs.length - i ∧ i ≤ xs.length ∧ Pv i H, ⟨_, rfl, Nat.zero_le _, h0⟩, fun i m H ⟨em, le, p⟩ => ?_⟩
  subst em
  have sq := hl i H le p
  rcases Nat.lt_or_ge i xs.length with lt | ge
  · refine .inr ⟨⟨xs, xs[i], sq, List.getElem?_eq_getElem lt⟩, Pv (i + 1), fun H' p' => ⟨_, by omega, rfl, lt, p'⟩, fun x H' y => ?_⟩
    obtain ⟨rfl, y⟩ := y
    exact hs i x _ (y xs sq) p
  · obtain rfl := Nat.le_antisymm le ge
    exact .inl ⟨⟨xs, sq, Nat.le_refl _⟩, hd H p⟩
theorem lp_list {K : PySem.W.Frag} {a : Addr} {xs : List V} {g : TG} {vs : List Nat} {σ : L2.St} {H1 : Hp} {body : Bd} {done : Hp → Prop} (Pv : Nat → Hp → Prop) (h0 : Pv 0 H1) (hl : ∀ i H, i ≤ xs.length → Pv i H → SqL K H a xs)
    (hs : ∀ i x H, xs[i]? = some x → Pv i H → g x (wipe σ vs) H fun σ2 H2 => wipe σ2 vs = wipe σ vs ∧ body σ2 H2 (Pv (i + 1))) (hd : ∀ H, Pv xs.length H → done H) : Lp (Itl K a) g vs σ H1 body done := by
  refine ⟨fun i m H => m = xs.length - i ∧ i ≤ xs.length ∧ Pv i H, ⟨_, rfl, Nat.zero_le _, h0⟩, fun i m H ⟨em, le, p⟩ => ?_⟩
  subst em
  have sq := hl i H le p
  rcases Nat.lt_or_ge i xs.length with lt | ge
  · refine .inr ⟨⟨xs, xs[i], sq, List.getElem?_eq_getElem lt⟩, Pv (i + 1), fun H' p' => ⟨_, by omega, rfl, lt, p'⟩, fun x H' y => ?_⟩
    obtain ⟨rfl, y⟩ := y
    exact hs i x _ (y xs sq) p
  · obtain rfl := Nat.le_antisymm le ge
    exact .inl ⟨⟨xs, sq, Nat.le_refl _⟩, hd H p⟩
end He

namespace He
open PySem PySem.Spec PyProof.Rows L2
section
variable {P : Program} {w : World} {K : PySem.W.Frag} {mg : Str → Option Value} {base : Heap}

theorem dp_tup2 {H : Hp} {v : V} {d e : PyData} (h : Dp K H v (.tuple [d, e])) : ∃ a x y, v = .ref a ∧ SqT K H a [x, y] ∧ Dp K H x d ∧ Dp K H y e := by
  cases h with
  | tup hs ha =>
    cases ha with
    | cons h1 h2 =>
      cases h2 with
      | cons h3 h4 =>
        cases h4
        exact ⟨_, _, _, rfl, hs, h1, h3⟩
/-- the class Will with its names -/
structure TxtN (K : PySem.W.Frag) (mg : Str → Option Value) where
  w : TxtW K mg
  nP : Addr
  nF : Addr
  nD : FuncData
  nFn : Fun K "names" "Will.names" sDWillNames nF nD
  nB : Binds K nD ["self"] []
  nM : PropOf K w.t.cWill "names" nP nF
/-! ### all names, each once -/
def addG (xs g : List Str) : List Str := g.foldl putS xs
def addGs (xs : List Str) (gs : List (List Str)) : List Str := gs.foldl addG xs
def addShs (xs : List Str) (shs : List Sh) : List Str := shs.foldl (fun xs s => addGs xs (s.2.map sortG)) xs
def namesM (shs : List Sh) : List Str := addShs [] shs
theorem putS_mem {xs : List Str} {x n : Str} : n ∈ putS xs x ↔ n ∈ xs ∨ n = x := by
  unfold putS
  split
  · rename_i h
    exact ⟨.inl, fun z => z.elim id fun e => e ▸ h⟩
  · rw [List.mem_append, List.mem_singleton]
theorem putS_nd {xs : List Str} {x : Str} (h : xs.Nodup) : (putS xs x).Nodup := by
  unfold putS
  split
  · exact h
  · rename_i k
    exact List.nodup_append.mpr ⟨h, by simp, fun a ha b hb e => k (by rw [← List.mem_singleton.mp hb, ← e]; exact ha)⟩
theorem addG_mem {n : Str} : ∀ {g xs : List Str}, n ∈ addG xs g ↔ n ∈ xs ∨ n ∈ g
  | [], xs => by simp [addG]
  | x :: g, xs => by
    show n ∈ addG (putS xs x) g ↔ _
    rw [addG_mem, putS_mem, List.mem_cons, or_assoc]
theorem addG_nd : ∀ {g xs : List Str}, xs.Nodup → (addG xs g).Nodup
  | [], xs, h => h
  | x :: g, xs, h => addG_nd (g := g) (putS_nd h)
theorem addGs_mem {n : Str} : ∀ {gs : List (List Str)} {xs : List Str}, n ∈ addGs xs gs ↔ n ∈ xs ∨ ∃ g ∈ gs, n ∈ g
  | [], xs => by simp [addGs]
  | g :: gs, xs => by
    show n ∈ addGs (addG xs g) gs ↔ _
    rw [addGs_mem, addG_mem, or_assoc]
    exact ⟨fun h => h.imp id fun h => h.elim (fun z => ⟨g, List.mem_cons_self, z⟩) fun ⟨k, hk, z⟩ => ⟨k, List.mem_cons_of_mem _ hk, z⟩, fun h => h.imp id fun ⟨k, hk, z⟩ => (List.mem_cons.mp hk).elim (fun e => .inl (e ▸ z)) fun hk => .inr ⟨k, hk, z⟩⟩
theorem addGs_nd : ∀ {gs : List (List Str)} {xs : List Str}, xs.Nodup → (addGs xs gs).Nodup
  | [], xs, h => h
  | g :: gs, xs, h => addGs_nd (gs := gs) (addG_nd h)
theorem addShs_mem {n : Str} : ∀ {shs : List Sh} {xs : List Str}, n ∈ addShs xs shs ↔ n ∈ xs ∨ ∃ s ∈ shs, ∃ g ∈ s.2, n ∈ g
  | [], xs => by simp [addShs]
  | s :: shs, xs => by
    show n ∈ addShs (addGs xs (s.2.map sortG)) shs ↔ _
    rw [addShs_mem, addGs_mem, or_assoc]
    have e : (∃ g ∈ s.2.map sortG, n ∈ g) ↔ ∃ g ∈ s.2, n ∈ g := ⟨fun ⟨g, hg, z⟩ => by
      obtain ⟨g0, h0, rfl⟩ := List.mem_map.mp hg
      exact ⟨g0, h0, (sortG_perm g0).mem_iff.mp z⟩, fun ⟨g, hg, z⟩ => ⟨_, List.mem_map.mpr ⟨g, hg, rfl⟩, (sortG_perm g).mem_iff.mpr z⟩⟩
    rw [e]
    exact ⟨fun h => h.imp id fun h => h.elim (fun z => ⟨s, List.mem_cons_self, z⟩) fun ⟨k, hk, z⟩ => ⟨k, List.mem_cons_of_mem _ hk, z⟩, fun h => h.imp id fun ⟨k, hk, z⟩ => (List.mem_cons.mp hk).elim (fun e => .inl (e ▸ z)) fun hk => .inr ⟨k, hk, z⟩⟩
theorem addShs_nd : ∀ {shs : List Sh} {xs : List Str}, xs.Nodup → (addShs xs shs).Nodup
  | [], xs, h => h
  | s :: shs, xs, h => addShs_nd (shs := shs) (addGs_nd h)
theorem namesM_mem {shs : List Sh} {n : Str} : n ∈ namesM shs ↔ ∃ s ∈ shs, ∃ g ∈ s.2, n ∈ g := by
  unfold namesM
  rw [addShs_mem]
  simp
theorem namesM_nd (shs : List Sh) : (namesM shs).Nodup := addShs_nd List.nodup_nil
theorem short_in {xs ns : List Str} (nd : xs.Nodup) (h : ∀ x ∈ xs, x ∈ ns) : xs.length ≤ ns.length := by
  induction xs generalizing ns with
  | nil => exact Nat.zero_le _
  | cons x xs ih =>
    have n2 := List.nodup_cons.mp nd
    have hx := h x List.mem_cons_self
    have r := ih (ns := ns.erase x) n2.2 fun y hy => (List.mem_erase_of_ne (fun e => n2.1 (by rw [← e]; exact hy))).mpr (h y (List.mem_cons_of_mem _ hy))
    rw [List.length_erase_of_mem hx] at r
    have := List.length_pos_of_mem hx
    rw [List.length_cons]
    omega
def spWNames (K : PySem.W.Frag) (C : Addr) : Sp := fun vs H Q _ => ∃ (x : Addr) (shs : List Sh) (ns : List Str), vs = [.ref x] ∧ WillAt K C H x shs ∧ ns.length ≤ 60 ∧ (∀ s ∈ shs, ∀ g ∈ s.2, ∀ n ∈ g, n ∈ ns) ∧
  ∀ r H', Same H H' → H r = none → SqT K H' r ((sortG (namesM shs)).map V.str) → Q (.ref r) H'
theorem ok_wnames (W : TxtN K mg) : FnOk P w K mg base CX0 1 W.nF W.nD ["self"] (spWNames K W.w.t.cWill) := by
  refine W.nFn.ok scDWillNames (fun vs H Q E h => ?_) (fun cdv A outer s H vs Q E hr h => ?_)
  · obtain ⟨x, shs, ns, rfl, _⟩ := h
    rfl
  · obtain ⟨x, shs, ns, rfl, h1, h60, hin, q⟩ := h
    refine ⟨_, (pss_one (ps_ret (pe_callTy cr_tup (by rfl) W.w.t.z_tuple (show bootBuiltins "tuple" = some (.type "tuple") by decide +kernel) (pa_cons (pe_callB (cr_sortedX rfl) (by rfl) W.w.t.z_sorted (show bootBuiltins "sorted" = some (.builtin "sorted") by decide +kernel) (pa_cons
      (pe_sc3 (own := [("_", 1), ("groups", 2), ("group", 3), ("name", 4)]) (vs1 := [3, 4]) (vs2 := [4]) (g := (gTup K 2 (gCons (gName 1) (gCons (gName 2) gNil)))) (g1 := gName 3) (g2 := gName 4) (te := tVar 4) rfl scDWillNames.nd (pi_seq (pe_fld (pv 0) rfl)) (blkOk_by (N := ["self", "_", "groups", "group", "name"]) (sc := defScope sDWillNames) (by decide +kernel)) (by decide) (by decide)
        (fun _ _ _ _ _ => (pg_tup (n := 2) rfl (pgs_cons (pg_name (i := 1) scDWillNames.nd rfl (.inl rfl)) (pgs_cons (pg_name (i := 2) scDWillNames.nd rfl (.inl rfl)) pgs_nil))))
        (fun _ _ _ _ _ => (show PI _ _ _ (iSeq K _) from pi_seq (pv 2))) (fun _ _ _ _ _ => (pg_name (i := 3) scDWillNames.nd rfl (.inl rfl)))
        (fun _ _ _ _ _ => (show PI _ _ _ (iSeq K _) from pi_seq (pv 3))) (fun _ _ _ _ _ => (pg_name (i := 4) scDWillNames.nd rfl (.inl rfl))) (fun _ _ _ _ _ => (pv 4))) pa_nil)) pa_nil)))), ?_⟩
    obtain ⟨dx, t, e1, d1⟩ := h1
    obtain ⟨xs, hs, ha⟩ : ∃ xs, SqT K H t xs ∧ DpAll K H xs (shs.map nSh) := by
      cases d1 with
      | tup h1 h2 => exact ⟨_, h1, h2⟩
    have hxl : xs.length = shs.length := by rw [dpA_len ha, List.length_map]
    simp only [and_assoc, tSeq, tAsg, tOp, tUn, rI, rI0, rU, tVar, tC, gName, L2.start, tIfS, tTest, tB, tCB, tCons, tNil, tIf, tRet, tRetN, tLst, tTup, tNext, tDrop, tNot, tNotV, tAnd, tOr, tAndV, tOrV, tPar, tAug, ipI, rEq, rNe, gSub, rSetL, rIxL, rIxT, tBM, tBM0, rAppend, rPopAt, gTup, gCons, gNil, tCall, tSl, tPart, tNoPart, rSlL, rCat, rEqD, rNeD, rIn, scal, List.map_cons, List.map_nil, List.length_cons, List.length_nil, List.length_map, List.cons_append, List.nil_append, List.append_nil, List.replicate, List.getElem?_cons_zero, List.getElem?_cons_succ, List.set_cons_zero, List.set_cons_succ, Option.some.injEq, exists_eq_left', exists_eq_left, exists_eq_right, exists_and_left, exists_and_right, V.int.injEq, V.ref.injEq, V.str.injEq, V.bl.injEq, reduceCtorEq, false_and, and_false, exists_false, or_false, false_or, true_and, and_true, List.cons.injEq, decide_eq_true_eq, cxOf, if_true, if_false, Bool.false_eq_true, Nat.reduceAdd, Nat.reduceSub, Nat.zero_add, Nat.add_sub_cancel_left, Nat.add_sub_cancel, Nat.sub_self, sFld, tFld, tFor_eq, tLc_eq, iRng1, iRng2, iList, iTup, iEnum, rIsi, rIsiT, iSeq, wipe, tSc3]
    refine ⟨_, _, _, e1, W.w.cl, W.w.nS, _, rfl, t, rfl, _, _, .inr ⟨rfl, hs⟩, fun D nD => ?_⟩
    have keep : ∀ {H7 : Hp} {o : HO}, Same H H7 → Same H (upd H7 D o) := fun s b o e => by rw [upd_ne (ne_of_none e nD)]; exact s b o e
    have take1 : ∀ {α β : Type} (f : β → α → β) (b : β) (l : List α) (i : Nat) (y : α), l[i]? = some y → (l.take (i + 1)).foldl f b = f ((l.take i).foldl f b) y := fun f b l i y e => by
      rw [List.take_add_one, e, List.foldl_append]
      rfl
    refine lp_tup (xs := xs) (fun i H4 => ∃ X : List Str, Same H H4 ∧ H4 D = some (SetX w D X) ∧ X = addShs [] (shs.take i) ∧ X.Nodup ∧ ∀ n ∈ X, n ∈ ns) ⟨[], keep (Same.refl _), upd_same, rfl, List.nodup_nil, fun _ h => nomatch h⟩ (fun i H4 _ ⟨_, s, _⟩ => Same.seqT s hs) ?_ ?_
    · rintro i x2 H4 hx ⟨X, s4, eX, mX, nX, iX⟩
      obtain ⟨dd, ed, hx2⟩ := dpA_get ha hx
      rw [List.getElem?_map] at ed
      obtain ⟨g, eg, rfl⟩ := Option.map_eq_some_iff.mp ed
      obtain ⟨b, v1, v2, rfl, hb, a1, a2⟩ := dp_tup2 hx2
      have gm := List.mem_of_getElem? eg
      have il := (List.getElem?_eq_some_iff.mp eg).1
      cases a2 with
      | @tup ga gxs _ hgs hga =>
      simp only [and_assoc, tSeq, tAsg, tOp, tUn, rI, rI0, rU, tVar, tC, gName, L2.start, tIfS, tTest, tB, tCB, tCons, tNil, tIf, tRet, tRetN, tLst, tTup, tNext, tDrop, tNot, tNotV, tAnd, tOr, tAndV, tOrV, tPar, tAug, ipI, rEq, rNe, gSub, rSetL, rIxL, rIxT, tBM, tBM0, rAppend, rPopAt, gTup, gCons, gNil, tCall, tSl, tPart, tNoPart, rSlL, rCat, rEqD, rNeD, rIn, scal, List.map_cons, List.map_nil, List.length_cons, List.length_nil, List.length_map, List.cons_append, List.nil_append, List.append_nil, List.replicate, List.getElem?_cons_zero, List.getElem?_cons_succ, List.set_cons_zero, List.set_cons_succ, Option.some.injEq, exists_eq_left', exists_eq_left, exists_eq_right, exists_and_left, exists_and_right, V.int.injEq, V.ref.injEq, V.str.injEq, V.bl.injEq, reduceCtorEq, false_and, and_false, exists_false, or_false, false_or, true_and, and_true, List.cons.injEq, decide_eq_true_eq, cxOf, if_true, if_false, Bool.false_eq_true, Nat.reduceAdd, Nat.reduceSub, Nat.zero_add, Nat.add_sub_cancel_left, Nat.add_sub_cancel, Nat.sub_self, sFld, tFld, tFor_eq, tLc_eq, iRng1, iRng2, iList, iTup, iEnum, rIsi, rIsiT, iSeq, wipe, tSc3]
      refine ⟨_, Same.seqT s4 hb, rfl, _, _, rfl, _, _, rfl, rfl, ga, rfl, gxs, _, .inr ⟨rfl, Same.seqT s4 hgs⟩, ?_⟩
      refine lp_tup (xs := gxs) (fun j H5 => ∃ Y : List Str, Same H H5 ∧ H5 D = some (SetX w D Y) ∧ Y = addGs X ((g.2.map sortG).take j) ∧ Y.Nodup ∧ ∀ n ∈ Y, n ∈ ns) ⟨X, s4, eX, rfl, nX, iX⟩ (fun j H5 _ ⟨_, s, _⟩ => Same.seqT s hgs) ?_ ?_
      · rintro j y2 H5 hy ⟨Y, s5, eY, mY, nY, iY⟩
        obtain ⟨dd, ed, hy2⟩ := dpA_get hga hy
        rw [List.getElem?_map] at ed
        obtain ⟨g0, eg0, rfl⟩ := Option.map_eq_some_iff.mp ed
        have g0m := List.mem_of_getElem? eg0
        have jl := (List.getElem?_eq_some_iff.mp eg0).1
        have gg : (g.2.map sortG)[j]? = some (sortG g0) := by rw [List.getElem?_map, eg0]; rfl
        cases hy2 with
        | @tup ka kxs _ hks hka =>
        simp only [and_assoc, tSeq, tAsg, tOp, tUn, rI, rI0, rU, tVar, tC, gName, L2.start, tIfS, tTest, tB, tCB, tCons, tNil, tIf, tRet, tRetN, tLst, tTup, tNext, tDrop, tNot, tNotV, tAnd, tOr, tAndV, tOrV, tPar, tAug, ipI, rEq, rNe, gSub, rSetL, rIxL, rIxT, tBM, tBM0, rAppend, rPopAt, gTup, gCons, gNil, tCall, tSl, tPart, tNoPart, rSlL, rCat, rEqD, rNeD, rIn, scal, List.map_cons, List.map_nil, List.length_cons, List.length_nil, List.length_map, List.cons_append, List.nil_append, List.append_nil, List.replicate, List.getElem?_cons_zero, List.getElem?_cons_succ, List.set_cons_zero, List.set_cons_succ, Option.some.injEq, exists_eq_left', exists_eq_left, exists_eq_right, exists_and_left, exists_and_right, V.int.injEq, V.ref.injEq, V.str.injEq, V.bl.injEq, reduceCtorEq, false_and, and_false, exists_false, or_false, false_or, true_and, and_true, List.cons.injEq, decide_eq_true_eq, cxOf, if_true, if_false, Bool.false_eq_true, Nat.reduceAdd, Nat.reduceSub, Nat.zero_add, Nat.add_sub_cancel_left, Nat.add_sub_cancel, Nat.sub_self, sFld, tFld, tFor_eq, tLc_eq, iRng1, iRng2, iList, iTup, iEnum, rIsi, rIsiT, iSeq, wipe, tSc3]
        refine ⟨kxs, _, .inr ⟨rfl, Same.seqT s5 hks⟩, ?_⟩
        refine lp_tup (xs := kxs) (fun k H6 => ∃ Z : List Str, Same H H6 ∧ H6 D = some (SetX w D Z) ∧ Z = addG Y ((sortG g0).take k) ∧ Z.Nodup ∧ ∀ n ∈ Z, n ∈ ns) ⟨Y, s5, eY, rfl, nY, iY⟩ (fun k H6 _ ⟨_, s, _⟩ => Same.seqT s hks) ?_ ?_
        · rintro k z2 H6 hz ⟨Z, s6, eZ, mZ, nZ, iZ⟩
          obtain ⟨dd, ed, hz2⟩ := dpA_get hka hz
          rw [List.getElem?_map] at ed
          obtain ⟨n, en, rfl⟩ := Option.map_eq_some_iff.mp ed
          have nm := (sortG_perm g0).mem_iff.mp (List.mem_of_getElem? en)
          cases hz2
          simp only [and_assoc, tSeq, tAsg, tOp, tUn, rI, rI0, rU, tVar, tC, gName, L2.start, tIfS, tTest, tB, tCB, tCons, tNil, tIf, tRet, tRetN, tLst, tTup, tNext, tDrop, tNot, tNotV, tAnd, tOr, tAndV, tOrV, tPar, tAug, ipI, rEq, rNe, gSub, rSetL, rIxL, rIxT, tBM, tBM0, rAppend, rPopAt, gTup, gCons, gNil, tCall, tSl, tPart, tNoPart, rSlL, rCat, rEqD, rNeD, rIn, scal, List.map_cons, List.map_nil, List.length_cons, List.length_nil, List.length_map, List.cons_append, List.nil_append, List.append_nil, List.replicate, List.getElem?_cons_zero, List.getElem?_cons_succ, List.set_cons_zero, List.set_cons_succ, Option.some.injEq, exists_eq_left', exists_eq_left, exists_eq_right, exists_and_left, exists_and_right, V.int.injEq, V.ref.injEq, V.str.injEq, V.bl.injEq, reduceCtorEq, false_and, and_false, exists_false, or_false, false_or, true_and, and_true, List.cons.injEq, decide_eq_true_eq, cxOf, if_true, if_false, Bool.false_eq_true, Nat.reduceAdd, Nat.reduceSub, Nat.zero_add, Nat.add_sub_cancel_left, Nat.add_sub_cancel, Nat.sub_self, sFld, tFld, tFor_eq, tLc_eq, iRng1, iRng2, iList, iTup, iEnum, rIsi, rIsiT, iSeq, wipe, tSc3]
          have fewZ := short_in nZ iZ
          have big : 62 < scanBound := by decide
          refine ⟨Z, eZ, by omega, keep s6, putS Z n, upd_same, ?_, putS_nd nZ, fun m hm => (putS_mem.mp hm).elim (iZ m) fun e => e ▸ hin g gm g0 g0m n nm⟩
          unfold addG
          rw [take1 _ _ _ _ _ en, mZ]
          rfl
        · rintro H6 ⟨Z, s6, eZ, mZ, nZ, iZ⟩
          refine ⟨s6, Z, eZ, ?_, nZ, iZ⟩
          unfold addGs
          rw [take1 _ _ _ _ _ gg, mZ, mY]
          have kl : kxs.length = (sortG g0).length := by rw [dpA_len hka, List.length_map]
          rw [kl, List.take_of_length_le (Nat.le_refl _)]
          rfl
      · rintro H5 ⟨Y, s5, eY, mY, nY, iY⟩
        refine ⟨s5, Y, eY, ?_, nY, iY⟩
        unfold addShs
        rw [take1 _ _ _ _ _ eg, mY, mX]
        have kl : gxs.length = (g.2.map sortG).length := by rw [dpA_len hga, List.length_map, List.length_map]
        rw [kl, List.take_of_length_le (Nat.le_refl _)]
        rfl
    · rintro H4 ⟨X, s4, eX, mX, nX, iX⟩
      have fewX := short_in nX iX
      have eN : X = namesM shs := by rw [mX, hxl, List.take_of_length_le (Nat.le_refl _)]; rfl
      refine ⟨D, X, rfl, eX, by omega, fun p np => ⟨p, _, rfl, .inl ⟨sqL_of upd_same, fun l nl => ?_⟩⟩⟩
      have sp := same_upd (o := .lst ((sortG X).map V.str)) np
      refine q l _ ((s4.trans sp).trans (same_upd nl)) ((s4.trans sp).free nl) ?_
      rw [← eN]
      exact sqT_of upd_same

end
end He

namespace He
open PySem PySem.Spec PyProof.Rows L2
/-! ### {text for ..}, and how many such a set has -/
abbrev C1s (elt t0 i0 : Expr) (scope : Scope) (pos : Pos) : Expr := .SetComp elt [⟨t0, i0, [], 0⟩] scope pos
theorem turn1_c (elt t0 i0 : Expr) (scope : Scope) (pos : Pos) (it acc : Value) (env : Env) : compTurn (C1s elt t0 i0 scope pos) 0 it acc env = (do
    standAt i0.pos
    match ← pyNext it with
    | none => pure (.done .next)
    | some v =>
      letOwnedTupleGo t0 it v
      assign t0 env v
      (do let y ← eval elt env; standAt elt.pos; let _ ← call (.builtin "set.add") [acc, y])
      again (.compLoop (C1s elt t0 i0 scope pos) 0 it acc env)) := by rfl
section
variable {P : Program} {w : World} {A : Around} {R : Result → Shared → Prop} {s : Shared} {elt t0 i0 : Expr} {scope : Scope} {pos : Pos} {it acc : Value} {env : Env}
theorem loop1_c (I : Nat → Shared → Prop) (turn : ∀ n s, I n s → wpAny (model P w) A (pyNext it) (fun r s1 => match r with
      | none => R (.ok .next) s1
      | some v => wpAny (model P w) A (letOwnedTupleGo t0 it v) (fun _ s2 => wpAny (model P w) A (assign t0 env v) (fun _ s3 => wpAny (model P w) A (eval elt env) (fun y s4 =>
          wpAny (model P w) A (call (.builtin "set.add") [acc, y]) (fun _ s5 => ∃ m, m < n ∧ I m s5) No s4) No s3) No s2) No s1) No s) (n : Nat) (h : I n s) :
    codeAny (model P w) A (.compLoop (C1s elt t0 i0 scope pos) 0 it acc env) R s := by
  refine codeAny_loop rfl I (fun n s hI => ?_) n h
  show wpAny _ A ((compTurn (C1s elt t0 i0 scope pos) 0 it acc env).onRaise (fun x => do noteFrame x env; theTreesLotGoes x)) _ _ s
  refine wpAny_noted ?_
  rw [turn1_c]
  refine wpAny_bind (wpAny_standAt (wpAny_bind (thnF (turn n s hI) fun r s1 h1 => ?_)))
  match r, h1 with
  | none, h1 => exact wpAny_pure h1
  | some v, h1 =>
    refine wpAny_bind (thnF h1 fun _ s2 h2 => wpAny_bind (thnF h2 fun _ s3 h3 => wpAny_bind (wpAny_bind (thnF h3 fun y s4 h4 => wpAny_bind (wpAny_standAt (wpAny_bind (thnF h4 fun _ s5 h5 => ?_)))))))
    exact wpAny_pure (wpAny_pure ⟨rfl, h5⟩)
theorem start1 (h0 : codeAny (model P w) A (.compLoop (C1s elt t0 i0 scope pos) 0 it acc env) R s)
    (h : wpAny (model P w) A (pyIter it) (fun j s2 => codeAny (model P w) A (.compLoop (C1s elt t0 i0 scope pos) 0 j acc env) R s2) No s) : codeAny (model P w) A (.compStart (C1s elt t0 i0 scope pos) 0 it acc env) R s := by
  have h : ∀ E : Value → Shared → Prop, wpAny (model P w) A (pyIter it) (fun j s2 => codeAny (model P w) A (.compLoop (C1s elt t0 i0 scope pos) 0 j acc env) R s2) E s := fun E => thnF h fun _ _ q => q
  refine codeAny_of_tree (wpAny_notedAt (M := model P w) ?_)
  unfold compStart
  show wpAny _ _ (ask >>= _) _ _ s
  refine wpAny_bind (m := ask) (wpAny_askSetting (wpAny_ite ?_))
  split
  · first
      | exact wpAny_bind (wpAny_pure (wpAny_pure ⟨rfl, h0⟩))
      | exact wpAny_pure ⟨rfl, h0⟩
  · refine wpAny_bind (wpAny_rule ?_)
    first
      | (show wpAny _ _ (standAt i0.pos >>= _) _ _ s; exact wpAny_bind (wpAny_standAt (wpAny_bind (wpAny_mono (h _) (fun j s2 q => wpAny_pure ⟨rfl, q⟩) fun _ _ z => z))))
      | exact wpAny_bind (wpAny_standAt (wpAny_bind (wpAny_mono (h _) (fun j s2 q => wpAny_pure ⟨rfl, q⟩) fun _ _ z => z)))
end
def tSc1 (w : World) (wi : TI) (g : TG) (te : TE) (vs : List Nat) : TE := fun σ H Q => wi σ H fun J H1 => ∀ D, H1 D = none →
  Lp J g vs σ (upd H1 D (SetX w D [])) (fun σ4 H6 N2 => te σ4 H6 fun y H7 => ∃ (x : Str) (xs : List Str), y = .str x ∧ H7 D = some (SetX w D xs) ∧ xs.length + 1 < scanBound ∧ N2 (upd H7 D (SetX w D (putS xs x)))) fun H => Q (.ref D) H
section
variable {X : Cx}
theorem sc1_core {pins : List (Addr × Obj)} {s : Shared} {σ : L2.St} {H : Hp} {Q : VK} {elt t0 i0 : Expr} {scope : Scope} {own : List (PySem.Str × Nat)} {pos pos' : Pos} {wi : TI} {g : TG} {te : TE} {use : Option (Value → Sem Unit)} {Qf : Value → Shared → Prop}
    (hc : X.calm = true) (nd : X.N.Nodup) (I : Inv X pins σ H s) (it0 : PI X t0 i0 wi) (ok : BlkOk X.N X.env.scope scope own)
    (hg : Blk X scope fun Y => PG Y t0 g) (el : Blk X scope fun Y => PE Y elt te)
    (f0 : ∀ x, foldedSetIterable i0 X.env x = pure x)
    (h : tSc1 X.w wi g te (own.map (·.2)) σ H Q)
    (post : ∀ D C s' m H', Inv X pins σ H' s' → Q (.ref D) H' → s'.heap.Ns C m → FpOk X pins H' C → compPost (model X.prog X.w) X.A X.xe use Qf (.ref D) C (.ok .next) s') :
    wpAny (model X.prog X.w) X.A (comprehension (C1s elt t0 i0 scope pos) scope X.env pos' (newSet (.type "set")) false (eval i0 X.env) use) Qf X.xe s := by
  have caught : ∀ y ∈ scope.names, y.2 = .free → ∃ c, X.env.cells.lookup y.1 = some c := fun y hy e =>
    (ok.free y hy e).elim (fun k => I.ok.has _ (.inl k)) fun k => I.ok.has _ (.inr k)
  refine wpAny_comprehension_free (use := use) rfl f0 (closure_ok caught) ok.kind (fun y hy e => by rw [ok.uniq y hy, e]) (thn (it0.run pins s σ H _ I h) fun xv s1 hx => thn hx fun itv s2 h2 => ?_)
  obtain ⟨it, fp, tn, J, H2, e, I2, T, st2, f2, q⟩ := h2
  subst e
  refine PpSet.newSet_ok (newEnv_comp ?_)
  generalize eD : s2.heap.objs.size = D
  obtain ⟨W, ⟨m0, w0⟩, turn⟩ := q D (I2.hok.fresh (Nat.le_of_eq eD))
  generalize es3 : ({ s2 with heap := s2.heap.push { cls := .type "set", dict := none, data := .set #[] 0 (.fresh 0 0 (!X.w.params.followText "set-order")) } } : Shared) = s3
  have h3 : s3.heap = s2.heap.push { cls := .type "set", dict := none, data := .set #[] 0 (.fresh 0 0 (!X.w.params.followText "set-order")) } := by rw [← es3]
  have I3 : Inv X pins σ (upd H2 D (SetX X.w D [])) s3 := by
    rw [← es3]
    refine I2.laid (t' := s2.toks) (fun b o e => Heap.get?_push_of_some _ e) (Nat.le_of_eq eD) ?_
    rw [← eD]
    exact setX_ok (setS_fresh s2.heap)
  have f3 : ∀ b ∈ fp, FpOk X pins (upd H2 D (SetX X.w D [])) b ∧ b < s3.heap.objs.size := fun b hb => by
    obtain ⟨o, e, _⟩ := T.obj _ _ st2 b hb
    have lt := Heap.lt_size e
    refine ⟨⟨?_, (f2 b hb).2⟩, by rw [h3, Heap.size_push]; exact Nat.lt_succ_of_lt lt⟩
    rw [upd_ne (by rw [← eD]; exact Nat.ne_of_lt lt)]
    exact (f2 b hb).1
  have st3 : tn 0 s3.heap := T.keep _ _ _ st2 fun b _ o e => by rw [h3]; exact Heap.get?_push_of_some _ e
  have I4 := block_start I3 ok nd f3
  have p0 := hg s3 (upd H2 D (SetX X.w D [])) s3.heap.objs.size (cellsFrom (s3.heap.objs.size + 1) scope.names (cloFrom X.env.cells scope.names [])) fp
  have pe := el s3 (upd H2 D (SetX X.w D [])) s3.heap.objs.size (cellsFrom (s3.heap.objs.size + 1) scope.names (cloFrom X.env.cells scope.names [])) fp
  show codeAny _ _ (.compStart (C1s elt t0 i0 scope pos) 0 (.ref it) (.ref D) (compEnvC scope (cellsFrom (s3.heap.objs.size + 1) scope.names (cloFrom X.env.cells scope.names [])) s3.heap.objs.size X.env)) (compPost (model X.prog X.w) X.A X.xe use Qf (.ref D) s3.heap.objs.size) { s3 with heap := pushCells (s3.heap.push { cls := .type "dict", data := .dict #[] }) scope.names }
  have n3 : ∀ b ∈ fp, (upd H2 D (SetX X.w D [])) b = none := fun b hb => (f3 b hb).1.1
  generalize ece : compEnvC scope (cellsFrom (s3.heap.objs.size + 1) scope.names (cloFrom X.env.cells scope.names [])) s3.heap.objs.size X.env = ce at I4 p0 pe ⊢
  have cL : ce.locals = s3.heap.objs.size := by subst ece; rfl
  generalize hH3 : upd H2 D (SetX X.w D []) = H3 at I3 I4 p0 pe w0 n3 f3
  generalize es4 : ({ s3 with heap := pushCells (s3.heap.push { cls := .type "dict", data := .dict #[] }) scope.names } : Shared) = s4 at I4 ⊢
  have st4 : tn 0 s4.heap := T.keep _ _ _ st3 fun b _ o e => by rw [← es4]; exact pushCells_keeps _ _ _ _ (Heap.get?_push_of_some _ e)
  generalize hY : X.blk s3 H3 scope ce fp = Y at I4 p0 pe
  have yc : Y.calm = true := by rw [← hY]; exact hc
  have yx : Y.xe = No := by rw [← hY]
  have st : ∀ (σ' : L2.St) (H' : Hp) (s' : Shared), Inv Y [] σ' H' s' → (∀ b ∈ fp, H' b = none) → ∀ b ∈ fp, FpOk Y [] H' b := by
    rw [← hY]
    exact fun σ' H' s' I' hn b hb => ⟨hn b hb, (I'.ok.exf b hb).1, I'.ok.exfs b hb, .inl hb, fun x c e => (I'.ok.exf b hb).2 x c e, fun p hp => absurd (show p ∈ ([] : List (Addr × Obj)) ++ [] from hp) (by simp)⟩
  have e1 : Y.prog = X.prog := by rw [← hY]
  have e2 : Y.w = X.w := by rw [← hY]
  have e3 : Y.K = X.K := by rw [← hY]
  have e4 : Y.A = X.A := by rw [← hY]
  have e5 : Y.env = ce := by rw [← hY]
  -- the end, back among the def's names
  have fin : ∀ (s' : Shared) (H' : Hp), Inv Y [] (wipe σ (own.map (·.2))) H' s' → Q (.ref D) H' → compPost (model X.prog X.w) X.A X.xe use Qf (.ref D) s3.heap.objs.size (.ok .next) s' := fun s' H' I' z => by
    rw [← hY] at I'
    have I7 : Inv X pins σ H' s' := I3.call' (ch := fp) I'.os I'.base I'.hok I'.bare fun b hb => ⟨(f3 b hb).1.2.2.2.1, (f3 b hb).1.2.1, (f3 b hb).1.2.2.2.2.1, (f3 b hb).1.2.2.2.2.2⟩
    have nC : H' s3.heap.objs.size = none := by
      have z : H' ce.locals = none := I'.free
      rw [cL] at z
      exact z
    obtain ⟨m, hn, _⟩ := I'.loc
    have hn : s'.heap.Ns ce.locals m := hn
    rw [cL] at hn
    exact post D s3.heap.objs.size s' m H' I7 z hn (I3.fpOk (Nat.le_refl _) nC)
  clear hY
  have T : Turn Y.prog Y.w Y.K t0 J fp it tn := by rw [e1, e2, e3]; exact T
  rw [← e4, ← e5] at *
  rw [← e1, ← e2] at fin ⊢
  have loop : codeAny (model Y.prog Y.w) Y.A (.compLoop (C1s elt t0 i0 scope pos) 0 (.ref it) (.ref D) Y.env) (compPost (model Y.prog Y.w) Y.A X.xe use Qf (.ref D) s3.heap.objs.size) s4 := by
    refine loop1_c (At Y [] (own.map (·.2)) σ tn fp W) (fun n s5 h5 => thnF (level yc yx T st p0 turn n s5 h5) fun r s6 h6 => ?_) m0 ⟨0, H3, I4, st4, n3, w0⟩
    match r, h6 with
    | none, ⟨H', I', z⟩ => exact fin s6 H' I' z
    | some v, h6 =>
      refine thnF h6 fun _ s19 h19 => thnF h19 fun _ s20 ⟨σ4, H20, N2, pin4, I20, b20, end20⟩ => ?_
      have r3 := pe.run _ s20 σ4 H20 _ I20 b20
      rw [yx] at r3
      refine thnF r3 fun z s21 ⟨y, H21, I21, r21, x, xs, ey, hD21, room, nx⟩ => ?_
      subst ey
      rw [← e2] at hD21 nx
      exact putS_ok I21 hD21 room r21 fun s22 I22 => end20 σ4 s22 _ I22 (knows_self _ _) nx
  exact start1 loop (T.self Y.A 0 _ _ _ st4 loop)
theorem pe_sc1 {elt t0 i0 : Expr} {scope : Scope} {own : List (PySem.Str × Nat)} {pos : Pos} {wi : TI} {g : TG} {te : TE}
    (hc : X.calm = true) (nd : X.N.Nodup) (it0 : PI X t0 i0 wi) (ok : BlkOk X.N X.env.scope scope own)
    (hg : Blk X scope fun Y => PG Y t0 g) (el : Blk X scope fun Y => PE Y elt te)
    (f0 : ∀ x, foldedSetIterable i0 X.env x = pure x := by intro _; rfl) :
    PE X (C1s elt t0 i0 scope pos) (tSc1 X.w wi g te (own.map (·.2))) := by
  refine ⟨fun pins s σ H Q I h => ?_⟩
  unfold C1s
  rw [PpSet.eval_SetComp]
  refine sc1_core hc nd I it0 ok hg el f0 h fun D C s' m H' I' q hn fr => ⟨m, hn, fun h'' sb => ?_⟩
  obtain ⟨p0, p1, p2, p3, p4, p5⟩ := fr
  have I2 := I'.turned (t' := s'.toks) (fun b o hb e => (sb.2 b hb).trans e) p0 p1 p3 p4 p5
  exact ⟨.ref D, H', I2, rfl, q⟩
end

/-- how many texts a set has -/
def rLenX (w : World) : List V → Hp → VK → Prop := fun vs H Q => ∃ (a : Addr) (xs : List Str), vs = [V.ref a] ∧ H a = some (SetX w a xs) ∧ xs.length < 1000 ∧ Q (.int xs.length) H
theorem cr_lenX {X : Cx} : CallR X (.builtin "len") (rLenX X.w) := by
  intro pins s σ H vs us Q I r h
  obtain ⟨a, xs, rfl, ha, few, q⟩ := h
  rw [Vals.ref1 r]
  obtain ⟨ob, es, ep, t, ho, ex, hd, T⟩ := setX_get I ha
  have z := T.size
  refine call_len_set ho ex hd T.fit (by omega) ⟨.int xs.length, H, I.tok _, ⟨_, by rw [z]⟩, q⟩
end He

namespace He
open PySem PySem.Spec PyProof.Rows L2
section
variable {P : Program} {w : World} {K : PySem.W.Frag} {mg : Str → Option Value} {base : Heap}
def rEqNil (K : PySem.W.Frag) : R2 := fun x y H Q => ∃ l e xs, x = .ref l ∧ y = .ref e ∧ SqL K H l xs ∧ SqL K H e [] ∧ Q (.bl xs.isEmpty) H
theorem op_eqNil {X : Cx} (hu : X.A.units + 64 < cLine) : OpR X (compareOp .Eq) (rEqNil X.K) := by
  intro pins s σ H x y v u Q I rx ry h
  obtain ⟨l, e, xs, rfl, rfl, hl, he, q⟩ := h
  cases rx
  cases ry
  obtain ⟨its, r1, p1, _⟩ := I.list hl
  obtain ⟨its2, r2, p2, _⟩ := I.list he
  cases r2
  have hu' : X.A.units < cLine := by omega
  cases r1 with
  | nil => exact SeqAt.RcAt.lists (e := fun _ => true) p1.isList p2.isList rfl hu' (fun j h1 => absurd h1 (by simp)) X.prog X.w X.xe _ ⟨.bl true, H, I, rfl, q⟩
  | cons a b => exact SeqAt.RcAt.lists_lengths p1.isList p2.isList (by simp) hu' X.prog X.w X.xe _ ⟨.bl false, H, I, rfl, q⟩
/-- a comprehension that keeps what passes its test -/
theorem lg_filter {J : It} {n : Nat} {G : Hp → Prop} {Y : Nat → Hp → V → Hp → Prop} (wk : Walk J n G Y) {g : TG} {tt : TT} {te : TE} {vs : List Nat} {σ : L2.St} {H1 : Hp} {D : Addr} {Qd : Hp → Prop} (t : Nat → Bool) (ye : Nat → V) (hn : n < sizeLine) (nD : H1 D = none) (hG : ∀ H, Same H1 H → G H)
    (turn : ∀ (i : Nat) (x : V) (H H' : Hp) (Aq : V → Hp → Prop) (Bq : Hp → Prop), i < n → Same H1 H → H D ≠ none → Y i H x H' → (∀ H4, t i = true → Same H H4 → Aq (ye i) H4) → (∀ H3, t i = false → Same H H3 → Bq H3) →
      g x (wipe σ vs) H' fun σ2 H2 => wipe σ2 vs = wipe σ vs ∧ tt σ2 H2 fun b H3 => if b = true then te σ2 H3 Aq else Bq H3)
    (done : ∀ H, Same H1 H → H D = some (.lst (((List.range n).filter t).map ye)) → Qd H) : LcGoes J g tt te vs σ H1 D Qd := by
  have hl : ∀ i, (((List.range i).filter t).map ye).length ≤ i := fun i => by
    rw [List.length_map]
    exact Nat.le_trans (List.length_filter_le _ _) (by rw [List.length_range]; exact Nat.le_refl _)
  refine lc_it wk (fun i H => Same H1 H ∧ H D = some (.lst (((List.range i).filter t).map ye))) ⟨same_upd nD, upd_same⟩ (fun i H _ h => hG H h.1) (fun i x H H' hi ⟨s1, eD⟩ hY => ?_) (fun H ⟨s1, eD⟩ => done H s1 eD)
  refine turn i x H H' _ _ hi s1 (by rw [eD]; exact fun z => nomatch z) hY (fun H4 ht s4 => ?_) (fun H3 ht s3 => ?_)
  · refine ⟨_, s4 _ _ eD, by have := hl i; omega, fun b o e => by rw [upd_ne (ne_of_none e nD)]; exact s4 _ _ (s1 _ _ e), ?_⟩
    rw [upd_same, List.range_succ, List.filter_append, List.map_append]
    simp [ht]
  · refine ⟨s1.trans s3, ?_⟩
    rw [s3 _ _ eD, List.range_succ, List.filter_append, List.map_append]
    simp [ht]
end
end He

namespace He
open PySem PySem.Spec PyProof.Rows L2
section
variable {P : Program} {w : World} {K : PySem.W.Frag} {mg : Str → Option Value} {base : Heap}
theorem range_pick {α : Type} (g : List α) (d : α) : (List.range g.length).map (fun i => g.getD i d) = g := by
  refine List.ext_getElem? fun i => ?_
  rw [List.getElem?_map]
  by_cases h : i < g.length
  · rw [List.getElem?_range h, List.getElem?_eq_getElem h]
    show some (g.getD i d) = _
    rw [List.getD_eq_getElem?_getD, List.getElem?_eq_getElem h]
    rfl
  · rw [List.getElem?_eq_none (by rw [List.length_range]; omega), List.getElem?_eq_none (by omega)]
    rfl
theorem range_filter {α β : Type} (g : List α) (d : α) (t : α → Bool) (f : α → β) : ((List.range g.length).filter fun i => t (g.getD i d)).map (fun i => f (g.getD i d)) = (g.filter t).map f := by
  conv => rhs; rw [← range_pick g d]
  rw [List.filter_map, List.map_map]
  rfl
/-- a comprehension over items, kept by a test, the values plain -/
theorem lg_keep {α : Type} {H1 : Hp} {a D : Addr} {J : It} {gt : TG} {tt : TT} {te : TE} {vs : List Nat} {σ : L2.St} {Qd : Hp → Prop} (g : List α) (e f : α → V) (t : α → Bool) (hJ : SeqIt K H1 a (g.map e) J) (hn : g.length < sizeLine) (nD : H1 D = none)
    (turn : ∀ (x : α) (H : Hp) (Aq : V → Hp → Prop) (Bq : Hp → Prop), x ∈ g → Same H1 H → H D ≠ none → (∀ H4, t x = true → Same H H4 → Aq (f x) H4) → (∀ H3, t x = false → Same H H3 → Bq H3) →
      gt (e x) (wipe σ vs) H fun σ2 H2 => wipe σ2 vs = wipe σ vs ∧ tt σ2 H2 fun b H3 => if b = true then te σ2 H3 Aq else Bq H3)
    (done : ∀ H, Same H1 H → H D = some (.lst ((g.filter t).map f)) → Qd H) : LcGoes J gt tt te vs σ H1 D Qd := by
  by_cases h0 : g = []
  · subst h0
    rcases hJ with ⟨rfl, hq⟩ | ⟨rfl, hq⟩
    · refine lg_list (xs := []) (fun i H => Same H1 H ∧ H D = some (.lst [])) ⟨same_upd nD, upd_same⟩ (fun i H _ h => h.1.seq hq) (fun i x H h => nomatch h) (fun H h => done H h.1 h.2)
    · refine lg_tup (xs := []) (fun i H => Same H1 H ∧ H D = some (.lst [])) ⟨same_upd nD, upd_same⟩ (fun i H _ h => Same.seqT h.1 hq) (fun i x H h => nomatch h) (fun H h => done H h.1 h.2)
  · obtain ⟨d, hd⟩ := List.exists_mem_of_ne_nil _ h0
    have at_ : ∀ {i : Nat} {v : V}, (g.map e)[i]? = some v → i < g.length ∧ v = e (g.getD i d) ∧ g.getD i d ∈ g := fun {i v} h => by
      rw [List.getElem?_map] at h
      obtain ⟨x, hx, rfl⟩ := Option.map_eq_some_iff.mp h
      have e2 : g.getD i d = x := by rw [List.getD_eq_getElem?_getD, hx]; rfl
      rw [e2]
      exact ⟨(List.getElem?_eq_some_iff.mp hx).1, rfl, List.mem_of_getElem? hx⟩
    have fin : ∀ H, Same H1 H → H D = some (.lst (((List.range (g.map e).length).filter fun i => t (g.getD i d)).map fun i => f (g.getD i d))) → Qd H := fun H s h => by
      rw [List.length_map, range_filter] at h
      exact done H s h
    rcases hJ with ⟨rfl, hq⟩ | ⟨rfl, hq⟩
    · refine lg_filter walk_list (fun i => t (g.getD i d)) (fun i => f (g.getD i d)) (by rw [List.length_map]; exact hn) nD (fun H s => s.seq hq) (fun i x H H' Aq Bq _ s hD hY hA hB => ?_) fin
      obtain ⟨rfl, hx⟩ := hY
      obtain ⟨_, rfl, hm⟩ := at_ hx
      exact turn _ H' Aq Bq hm s hD hA hB
    · refine lg_filter walk_tup (fun i => t (g.getD i d)) (fun i => f (g.getD i d)) (by rw [List.length_map]; exact hn) nD (fun H s => Same.seqT s hq) (fun i x H H' Aq Bq _ s hD hY hA hB => ?_) fin
      obtain ⟨rfl, hx⟩ := hY
      obtain ⟨_, rfl, hm⟩ := at_ hx
      exact turn _ H' Aq Bq hm s hD hA hB
end
end He

namespace He
open PySem PySem.Spec PyProof.Rows L2
section
variable {P : Program} {w : World} {K : PySem.W.Frag} {mg : Str → Option Value} {base : Heap}

/-! ### families: their parts as values -/
def dPer (p : Str × Int) : PyData := .tuple [.str p.1, .int p.2]
def dFct (p : Str × Str) : PyData := .tuple [.str p.1, .str p.2]
/-- a list or a tuple of such things -/
def SqD (K : PySem.W.Frag) (H : Hp) (v : V) (ds : List PyData) : Prop := ∃ a xs, v = .ref a ∧ Sq K H a xs ∧ DpAll K H xs ds
theorem SqD.mono {H H' : Hp} {v : V} {ds : List PyData} (s : Same H H') (h : SqD K H v ds) : SqD K H' v ds := by
  obtain ⟨a, xs, e, h1, h2⟩ := h
  exact ⟨a, xs, e, h1.mono s, dpA_mono s _ _ h2⟩
theorem lp_seq {H0 H1 : Hp} {a : Addr} {xs : List V} {J : It} {g : TG} {vs : List Nat} {σ : L2.St} {body : Bd} {done : Hp → Prop} (hJ : SeqIt K H0 a xs J) (Pv : Nat → Hp → Prop) (h0 : Pv 0 H1) (hl : ∀ i H, i ≤ xs.length → Pv i H → Same H0 H)
    (hs : ∀ i x H, xs[i]? = some x → Pv i H → g x (wipe σ vs) H fun σ2 H2 => wipe σ2 vs = wipe σ vs ∧ body σ2 H2 (Pv (i + 1))) (hd : ∀ H, Pv xs.length H → done H) : Lp J g vs σ H1 body done := by
  rcases hJ with ⟨rfl, hq⟩ | ⟨rfl, hq⟩
  · exact lp_list Pv h0 (fun i H le p => Same.seq (hl i H le p) hq) hs hd
  · exact lp_tup Pv h0 (fun i H le p => Same.seqT (hl i H le p) hq) hs hd
def spDiff (K : PySem.W.Frag) : Sp := fun vs H Q _ => ∃ (v : V) (a : Addr) (xs : List V) (ns : List Str), vs = [v] ∧ v = .ref a ∧ Sq K H a xs ∧ xs.length = ns.length ∧ ns.length ≤ 60 ∧ ns.Nodup ∧
  (∀ (i : Nat) (x : V) (n : Str), xs[i]? = some x → ns[i]? = some n → ∃ b y, x = .ref b ∧ SqT K H b [.str n, y]) ∧ ∀ H', Same H H' → Q (.bl true) H'
theorem ok_diff (T : TxtG K mg) : FnOk P w K mg base CX0 1 T.dHaveDifferentNames.f T.dHaveDifferentNames.fd ["pairs"] (spDiff K) := by
  refine T.dHaveDifferentNames.F.ok scDHaveDifferentNames (fun vs H Q E h => ?_) (fun cdv A outer s H vs Q E hr h => ?_)
  · obtain ⟨v, a, xs, ns, rfl, _⟩ := h
    rfl
  · obtain ⟨v, a, xs, ns, rfl, rfl, hs, hl, h60, nd, hx, q⟩ := h
    refine ⟨_, (pss_one (ps_ret (pe_cmpR op_eq (pe_callB cr_lenX (by rfl) T.z_len (show bootBuiltins "len" = some (.builtin "len") by decide +kernel) (pa_cons (pe_sc1 (own := [("name", 1), ("_", 2)]) (g := (gTup K 2 (gCons (gName 1) (gCons (gName 2) gNil)))) (te := tVar 1) rfl scDHaveDifferentNames.nd (pi_seq (pv 0)) (blkOk_by (N := ["pairs", "name", "_"]) (sc := defScope sDHaveDifferentNames) (by decide +kernel))
   (fun _ _ _ _ _ => (pg_tup (n := 2) rfl (pgs_cons (pg_name (i := 1) scDHaveDifferentNames.nd rfl (.inl rfl)) (pgs_cons (pg_name (i := 2) scDHaveDifferentNames.nd rfl (.inl rfl)) pgs_nil)))) (fun _ _ _ _ _ => (pv 1))) pa_nil)) (pe_callB call_len_seq (by rfl) T.z_len (show bootBuiltins "len" = some (.builtin "len") by decide +kernel) (pa_cons (pv 0) pa_nil)) (nomark _)))), ?_⟩
    simp only [and_assoc, tSeq, tAsg, tOp, tUn, rI, rI0, rU, tVar, tC, gName, L2.start, tIfS, tTest, tB, tCB, tCons, tNil, tIf, tRet, tRetN, tLst, tTup, tNext, tDrop, tNot, tNotV, tAnd, tOr, tAndV, tOrV, tPar, tAug, ipI, rEq, rNe, gSub, rSetL, rIxL, rIxT, tBM, tBM0, rAppend, rPopAt, gTup, gCons, gNil, tCall, tSl, tPart, tNoPart, rSlL, rCat, rEqD, rNeD, rIn, scal, List.map_cons, List.map_nil, List.length_cons, List.length_nil, List.length_map, List.cons_append, List.nil_append, List.append_nil, List.replicate, List.getElem?_cons_zero, List.getElem?_cons_succ, List.set_cons_zero, List.set_cons_succ, Option.some.injEq, exists_eq_left', exists_eq_left, exists_eq_right, exists_and_left, exists_and_right, V.int.injEq, V.ref.injEq, V.str.injEq, V.bl.injEq, reduceCtorEq, false_and, and_false, exists_false, or_false, false_or, true_and, and_true, List.cons.injEq, decide_eq_true_eq, cxOf, if_true, if_false, Bool.false_eq_true, Nat.reduceAdd, Nat.reduceSub, Nat.zero_add, Nat.add_sub_cancel_left, Nat.add_sub_cancel, Nat.sub_self, sFld, tFld, tFor_eq, tLc_eq, iRng1, iRng2, iList, iTup, iEnum, rIsi, rIsiT, iSeq, wipe, tSc1, rLenX, rSum, rNeNil, spIs, rAll]
    obtain ⟨J, hJ⟩ := hs.it
    refine ⟨xs, J, hJ, fun D nD => ?_⟩
    have keep : ∀ {H7 : Hp} {o : HO}, Same H H7 → Same H (upd H7 D o) := fun s b o e => by rw [upd_ne (ne_of_none e nD)]; exact s b o e
    refine lp_seq hJ (fun i H4 => Same H H4 ∧ H4 D = some (SetX w D (ns.take i))) ⟨keep (Same.refl _), upd_same⟩ (fun i H4 _ h => h.1) ?_ ?_
    · rintro i x H4 ex ⟨s4, e4⟩
      obtain ⟨n, en⟩ : ∃ n, ns[i]? = some n := by
        have := (List.getElem?_eq_some_iff.mp ex).1
        exact ⟨ns[i], List.getElem?_eq_getElem (by omega)⟩
      obtain ⟨b, y, rfl, hb⟩ := hx i x n ex en
      simp only [and_assoc, tSeq, tAsg, tOp, tUn, rI, rI0, rU, tVar, tC, gName, L2.start, tIfS, tTest, tB, tCB, tCons, tNil, tIf, tRet, tRetN, tLst, tTup, tNext, tDrop, tNot, tNotV, tAnd, tOr, tAndV, tOrV, tPar, tAug, ipI, rEq, rNe, gSub, rSetL, rIxL, rIxT, tBM, tBM0, rAppend, rPopAt, gTup, gCons, gNil, tCall, tSl, tPart, tNoPart, rSlL, rCat, rEqD, rNeD, rIn, scal, List.map_cons, List.map_nil, List.length_cons, List.length_nil, List.length_map, List.cons_append, List.nil_append, List.append_nil, List.replicate, List.getElem?_cons_zero, List.getElem?_cons_succ, List.set_cons_zero, List.set_cons_succ, Option.some.injEq, exists_eq_left', exists_eq_left, exists_eq_right, exists_and_left, exists_and_right, V.int.injEq, V.ref.injEq, V.str.injEq, V.bl.injEq, reduceCtorEq, false_and, and_false, exists_false, or_false, false_or, true_and, and_true, List.cons.injEq, decide_eq_true_eq, cxOf, if_true, if_false, Bool.false_eq_true, Nat.reduceAdd, Nat.reduceSub, Nat.zero_add, Nat.add_sub_cancel_left, Nat.add_sub_cancel, Nat.sub_self, sFld, tFld, tFor_eq, tLc_eq, iRng1, iRng2, iList, iTup, iEnum, rIsi, rIsiT, iSeq, wipe, tSc1, rLenX, rSum, rNeNil, spIs, rAll]
      have fresh : n ∉ ns.take i := fun h => by
        obtain ⟨j, hj⟩ := List.mem_iff_getElem?.mp h
        rw [List.getElem?_take] at hj
        split at hj
        · rename_i ji
          have := (List.getElem?_inj (List.getElem?_eq_some_iff.mp en).1 nd).mp (en.trans hj.symm)
          omega
        · cases hj
      have pt : putS (ns.take i) n = ns.take (i + 1) := by
        unfold putS
        rw [if_neg fresh, List.take_add_one, en]
        rfl
      have tl : (ns.take i).length ≤ 60 := Nat.le_trans (by rw [List.length_take]; omega) h60
      have big : 62 < scanBound := by decide
      refine ⟨_, Same.seqT s4 hb, rfl, _, _, rfl, _, _, rfl, rfl, n, rfl, ns.take i, e4, by omega, keep s4, ?_⟩
      rw [upd_same, pt]
    · rintro H4 ⟨s4, e4⟩
      rw [hl, List.take_of_length_le (Nat.le_refl _)] at e4
      refine ⟨ns, e4, by omega, xs, hs.mono s4, ?_⟩
      rw [decide_eq_true (by rw [hl])]
      exact q _ s4

end
end He

namespace He
open PySem PySem.Spec PyProof.Rows L2
section
variable {P : Program} {w : World} {K : PySem.W.Frag} {mg : Str → Option Value} {base : Heap}

def spNum (K : PySem.W.Frag) : Sp := fun vs H Q _ => ∃ (m : Int), vs = [.int m] ∧ 0 ≤ m ∧ ∀ H', Same H H' → Q (.bl true) H'
theorem ok_isnum (T : TxtG K mg) : FnOk P w K mg base CX0 2 T.dIsNumber.f T.dIsNumber.fd ["value"] (spNum K) := by
  refine T.dIsNumber.F.ok scDIsNumber (fun vs H Q E h => ?_) (fun cdv A outer s H vs Q E hr h => ?_)
  · obtain ⟨m, rfl, _⟩ := h
    rfl
  · obtain ⟨m, rfl, h0, q⟩ := h
    refine ⟨_, (pss_one (ps_ret (pe_and (pe_call (ok_isint T) (hr.mono (by decide)) (by rfl) T.dIsInteger.g T.dIsInteger.F.kp T.dIsInteger.b .nil pass0 (pa_cons (pv 0) pa_nil)) (pe_one (pe_cmpR op_ge (pv 0) pe_int (nomark _)))))), ?_⟩
    simp only [and_assoc, tSeq, tAsg, tOp, tUn, rI, rI0, rU, tVar, tC, gName, L2.start, tIfS, tTest, tB, tCB, tCons, tNil, tIf, tRet, tRetN, tLst, tTup, tNext, tDrop, tNot, tNotV, tAnd, tOr, tAndV, tOrV, tPar, tAug, ipI, rEq, rNe, gSub, rSetL, rIxL, rIxT, tBM, tBM0, rAppend, rPopAt, gTup, gCons, gNil, tCall, tSl, tPart, tNoPart, rSlL, rCat, rEqD, rNeD, rIn, scal, List.map_cons, List.map_nil, List.length_cons, List.length_nil, List.length_map, List.cons_append, List.nil_append, List.append_nil, List.replicate, List.getElem?_cons_zero, List.getElem?_cons_succ, List.set_cons_zero, List.set_cons_succ, Option.some.injEq, exists_eq_left', exists_eq_left, exists_eq_right, exists_and_left, exists_and_right, V.int.injEq, V.ref.injEq, V.str.injEq, V.bl.injEq, reduceCtorEq, false_and, and_false, exists_false, or_false, false_or, true_and, and_true, List.cons.injEq, decide_eq_true_eq, cxOf, if_true, if_false, Bool.false_eq_true, Nat.reduceAdd, Nat.reduceSub, Nat.zero_add, Nat.add_sub_cancel_left, Nat.add_sub_cancel, Nat.sub_self, sFld, tFld, tFor_eq, tLc_eq, iRng1, iRng2, iList, iTup, iEnum, rIsi, rIsiT, iSeq, wipe, tSc1, rLenX, rSum, rNeNil, rAll, spIs]
    refine ⟨.int m, .int m, trivial, fun H1 s1 => ?_⟩
    rw [show isIntA (.int m) = true from rfl]
    simp only [and_assoc, tSeq, tAsg, tOp, tUn, rI, rI0, rU, tVar, tC, gName, L2.start, tIfS, tTest, tB, tCB, tCons, tNil, tIf, tRet, tRetN, tLst, tTup, tNext, tDrop, tNot, tNotV, tAnd, tOr, tAndV, tOrV, tPar, tAug, ipI, rEq, rNe, gSub, rSetL, rIxL, rIxT, tBM, tBM0, rAppend, rPopAt, gTup, gCons, gNil, tCall, tSl, tPart, tNoPart, rSlL, rCat, rEqD, rNeD, rIn, scal, List.map_cons, List.map_nil, List.length_cons, List.length_nil, List.length_map, List.cons_append, List.nil_append, List.append_nil, List.replicate, List.getElem?_cons_zero, List.getElem?_cons_succ, List.set_cons_zero, List.set_cons_succ, Option.some.injEq, exists_eq_left', exists_eq_left, exists_eq_right, exists_and_left, exists_and_right, V.int.injEq, V.ref.injEq, V.str.injEq, V.bl.injEq, reduceCtorEq, false_and, and_false, exists_false, or_false, false_or, true_and, and_true, List.cons.injEq, decide_eq_true_eq, cxOf, if_true, if_false, Bool.false_eq_true, Nat.reduceAdd, Nat.reduceSub, Nat.zero_add, Nat.add_sub_cancel_left, Nat.add_sub_cancel, Nat.sub_self, sFld, tFld, tFor_eq, tLc_eq, iRng1, iRng2, iList, iTup, iEnum, rIsi, rIsiT, iSeq, wipe, tSc1, rLenX, rSum, rNeNil, rAll]
    rw [decide_eq_true h0]
    exact q _ s1

structure PplOk (ps : List (Str × Int)) : Prop where
  ne : ps ≠ []
  l : ps.length ≤ 60
  nm : ∀ p ∈ ps, nameB p.1 = true ∧ 0 ≤ p.2
  nd : (ps.map (·.1)).Nodup
def adSq (K : PySem.W.Frag) (H : Hp) (v : V) (ds : List AD) : Prop := Av K H v (.lst ds) ∨ Av K H v (.tup ds)
theorem dp_per {H : Hp} {v : V} {p : Str × Int} (h : Dp K H v (dPer p)) : ∃ b, v = .ref b ∧ SqT K H b [.str p.1, .int p.2] := by
  obtain ⟨b, x, y, rfl, hs, h1, h2⟩ := dp_tup2 h
  cases h1
  cases h2
  exact ⟨b, rfl, hs⟩
theorem sq_av {H : Hp} {a : Addr} {xs : List V} {ads : List AD} (hs : Sq K H a xs) (ha : AvAll K H xs ads) (hl : ads.length ≤ 60) (hok : ∀ d ∈ ads, AdOk K d) : ∃ d, Av K H (.ref a) d ∧ AdOk K d ∧ isSeqA d = true := by
  have o : ads.length < 4000 ∧ AdOkA K ads := ⟨by omega, adOkA_of hok⟩
  rcases hs with hs | hs
  · exact ⟨.lst ads, .lst hs ha, o, rfl⟩
  · exact ⟨.tup ads, .tup hs ha, o, rfl⟩
theorem str_ok {x : Str} (h : nameB x = true) : AdOk K (.str x) := Nat.le_trans (name_len h) (by decide)
/-- all of a list of truths -/
theorem all_true {xs : List V} {n : Nat} (hl : xs.length = n) (h : ∀ (i : Nat) (y : V), xs[i]? = some y → y = .bl true) : xs = (List.replicate n true).map V.bl := by
  rw [List.map_replicate]
  refine List.eq_replicate_iff.mpr ⟨hl, fun y hy => ?_⟩
  obtain ⟨i, hi⟩ := List.mem_iff_getElem?.mp hy
  exact h i y hi
def spPpl (K : PySem.W.Frag) : Sp := fun vs H Q _ => ∃ (v : V) (ps : List (Str × Int)), vs = [v] ∧ SqD K H v (ps.map dPer) ∧ PplOk ps ∧ ∀ H', Same H H' → Q (.bl true) H'
theorem ok_ppl (T : TxtG K mg) : FnOk P w K mg base CX0 3 T.dArePeople.f T.dArePeople.fd ["value"] (spPpl K) := by
  refine T.dArePeople.F.ok scDArePeople (fun vs H Q E h => ?_) (fun cdv A outer s H vs Q E hr h => ?_)
  · obtain ⟨v, ps, rfl, _⟩ := h
    rfl
  · obtain ⟨v, ps, rfl, hv, hp, q⟩ := h
    refine ⟨_, (pss_cons (ps_if (PW.pt (pw_or (pt_not (pt_val (pe_call (ok_isseq T) (hr.mono (by decide)) (by rfl) T.dIsSequence.g T.dIsSequence.F.kp T.dIsSequence.b .nil pass0 (pa_cons (pv 0) pa_nil)))) (pw_or1 (pt_cmpR op_eq (pe_callB call_len_seq (by rfl) T.z_len (show bootBuiltins "len" = some (.builtin "len") by decide +kernel) (pa_cons (pv 0) pa_nil)) pe_int (nomark _)))))
      (pss_one (ps_ret pe_bl))
      pss_nil)
      (pss_cons (ps_if (pt_not (pt_val (pe_callB (cr_all rfl) (by rfl) T.z_all (show bootBuiltins "all" = some (.builtin "all") by decide +kernel) (pa_cons (pe_lc (own := [("person", 1)]) (g := (gName 1)) (tt := tYes) rfl scDArePeople.nd (pi_seq (pv 0)) (blkOk_by (N := ["value", "person"]) (sc := defScope sDArePeople) (by decide +kernel)) (fun _ _ _ _ _ => (pg_name (i := 1) scDArePeople.nd rfl (.inl rfl))) (fun _ _ _ _ _ => pts_nil) (fun _ _ _ _ _ => (pe_and (pe_call (ok_ispair T) (hr.mono (by decide)) (by rfl) T.dIsPair.g T.dIsPair.F.kp T.dIsPair.b .nil pass0 (pa_cons (pv 1) pa_nil)) (pe_and (pe_call (ok_isname T) (hr.mono (by decide)) (by rfl) T.dIsName.g T.dIsName.F.kp T.dIsName.b .nil pass0 (pa_cons (pe_ix (show IxR _ (rIxT K) from ix_tup) (pv 1) pe_int (fun _ _ => rfl)) pa_nil)) (pe_one (pe_call (ok_isnum T) (hr.mono (by decide)) (by rfl) T.dIsNumber.g T.dIsNumber.F.kp T.dIsNumber.b .nil pass0 (pa_cons (pe_ix (show IxR _ (rIxT K) from ix_tup) (pv 1) pe_int (fun _ _ => rfl)) pa_nil))))))) pa_nil))))
      (pss_one (ps_ret pe_bl))
      pss_nil)
      (pss_one (ps_ret (pe_call (ok_diff T) (hr.mono (by decide)) (by rfl) T.dHaveDifferentNames.g T.dHaveDifferentNames.F.kp T.dHaveDifferentNames.b .nil pass0 (pa_cons (pv 0) pa_nil)))))), ?_⟩
    simp only [and_assoc, tSeq, tAsg, tOp, tUn, rI, rI0, rU, tVar, tC, gName, L2.start, tIfS, tTest, tB, tCB, tCons, tNil, tIf, tRet, tRetN, tLst, tTup, tNext, tDrop, tNot, tNotV, tAnd, tOr, tAndV, tOrV, tPar, tAug, ipI, rEq, rNe, gSub, rSetL, rIxL, rIxT, tBM, tBM0, rAppend, rPopAt, gTup, gCons, gNil, tCall, tSl, tPart, tNoPart, rSlL, rCat, rEqD, rNeD, rIn, scal, List.map_cons, List.map_nil, List.length_cons, List.length_nil, List.length_map, List.cons_append, List.nil_append, List.append_nil, List.replicate, List.getElem?_cons_zero, List.getElem?_cons_succ, List.set_cons_zero, List.set_cons_succ, Option.some.injEq, exists_eq_left', exists_eq_left, exists_eq_right, exists_and_left, exists_and_right, V.int.injEq, V.ref.injEq, V.str.injEq, V.bl.injEq, reduceCtorEq, false_and, and_false, exists_false, or_false, false_or, true_and, and_true, List.cons.injEq, decide_eq_true_eq, cxOf, if_true, if_false, Bool.false_eq_true, Nat.reduceAdd, Nat.reduceSub, Nat.zero_add, Nat.add_sub_cancel_left, Nat.add_sub_cancel, Nat.sub_self, sFld, tFld, tFor_eq, tLc_eq, iRng1, iRng2, iList, iTup, iEnum, rIsi, rIsiT, iSeq, wipe, tSc1, rLenX, rSum, rNeNil, rAll, spIs, spDiff, spNum]
    obtain ⟨a, xs, rfl, hs, ha⟩ := hv
    have hxl : xs.length = ps.length := by rw [dpA_len ha, List.length_map]
    have hpl := hp.l
    obtain ⟨d, av, ok, sq⟩ := sq_av hs (avA_of _ _ ha) (by rw [adA_map, List.length_map, List.length_map]; omega) (fun d hd => by
      rw [adA_map] at hd
      obtain ⟨d1, h1, rfl⟩ := List.mem_map.mp hd
      obtain ⟨p, hp2, rfl⟩ := List.mem_map.mp h1
      exact ⟨by show 2 < 4000; decide, str_ok (hp.nm p hp2).1, trivial, trivial⟩)
    refine ⟨d, av, ok, fun H1 s1 => ?_⟩
    rw [sq, if_neg (by simp)]
    refine ⟨a, rfl, xs, hs.mono s1, ?_⟩
    have ne := hp.ne
    rw [if_neg (fun z => ne (List.length_eq_zero_iff.mp (by omega)))]
    obtain ⟨J, hJ⟩ := (hs.mono s1).it
    refine ⟨a, rfl, xs, J, hJ, fun D nD => ?_⟩
    refine lg_pure (fun i y H => y = .bl true) hJ (small1000 (by omega)) nD (fun _ _ _ _ _ h => h) (fun i x H2 Φ hx s2 hD hΦ => ?_) (fun ys H2 s2 eD hl2 hY => ?_)
    · obtain ⟨dd, ed, hx2⟩ := dpA_get (dpA_mono (s1.trans s2) _ _ ha) hx
      rw [List.getElem?_map] at ed
      obtain ⟨pp, ep, rfl⟩ := Option.map_eq_some_iff.mp ed
      obtain ⟨g1, g2⟩ := hp.nm pp (List.mem_of_getElem? ep)
      obtain ⟨b, rfl, hb⟩ := dp_per hx2
      simp only [and_assoc, tSeq, tAsg, tOp, tUn, rI, rI0, rU, tVar, tC, gName, L2.start, tIfS, tTest, tB, tCB, tCons, tNil, tIf, tRet, tRetN, tLst, tTup, tNext, tDrop, tNot, tNotV, tAnd, tOr, tAndV, tOrV, tPar, tAug, ipI, rEq, rNe, gSub, rSetL, rIxL, rIxT, tBM, tBM0, rAppend, rPopAt, gTup, gCons, gNil, tCall, tSl, tPart, tNoPart, rSlL, rCat, rEqD, rNeD, rIn, scal, List.map_cons, List.map_nil, List.length_cons, List.length_nil, List.length_map, List.cons_append, List.nil_append, List.append_nil, List.replicate, List.getElem?_cons_zero, List.getElem?_cons_succ, List.set_cons_zero, List.set_cons_succ, Option.some.injEq, exists_eq_left', exists_eq_left, exists_eq_right, exists_and_left, exists_and_right, V.int.injEq, V.ref.injEq, V.str.injEq, V.bl.injEq, reduceCtorEq, false_and, and_false, exists_false, or_false, false_or, true_and, and_true, List.cons.injEq, decide_eq_true_eq, cxOf, if_true, if_false, Bool.false_eq_true, Nat.reduceAdd, Nat.reduceSub, Nat.zero_add, Nat.add_sub_cancel_left, Nat.add_sub_cancel, Nat.sub_self, sFld, tFld, tFor_eq, tLc_eq, iRng1, iRng2, iList, iTup, iEnum, rIsi, rIsiT, iSeq, wipe, tSc1, rLenX, rSum, rNeNil, rAll, spIs, spNum]
      refine ⟨_, av_of _ _ hx2, ⟨by show 2 < 4000; decide, str_ok g1, trivial, trivial⟩, fun H3 s3 => ?_⟩
      rw [show isPairA (ad (dPer pp)) = true from rfl]
      simp only [and_assoc, tSeq, tAsg, tOp, tUn, rI, rI0, rU, tVar, tC, gName, L2.start, tIfS, tTest, tB, tCB, tCons, tNil, tIf, tRet, tRetN, tLst, tTup, tNext, tDrop, tNot, tNotV, tAnd, tOr, tAndV, tOrV, tPar, tAug, ipI, rEq, rNe, gSub, rSetL, rIxL, rIxT, tBM, tBM0, rAppend, rPopAt, gTup, gCons, gNil, tCall, tSl, tPart, tNoPart, rSlL, rCat, rEqD, rNeD, rIn, scal, List.map_cons, List.map_nil, List.length_cons, List.length_nil, List.length_map, List.cons_append, List.nil_append, List.append_nil, List.replicate, List.getElem?_cons_zero, List.getElem?_cons_succ, List.set_cons_zero, List.set_cons_succ, Option.some.injEq, exists_eq_left', exists_eq_left, exists_eq_right, exists_and_left, exists_and_right, V.int.injEq, V.ref.injEq, V.str.injEq, V.bl.injEq, reduceCtorEq, false_and, and_false, exists_false, or_false, false_or, true_and, and_true, List.cons.injEq, decide_eq_true_eq, cxOf, if_true, if_false, Bool.false_eq_true, Nat.reduceAdd, Nat.reduceSub, Nat.zero_add, Nat.add_sub_cancel_left, Nat.add_sub_cancel, Nat.sub_self, sFld, tFld, tFor_eq, tLc_eq, iRng1, iRng2, iList, iTup, iEnum, rIsi, rIsiT, iSeq, wipe, tSc1, rLenX, rSum, rNeNil, rAll, spIs, spNum]
      refine ⟨_, Same.seqT s3 hb, _, rfl, _, .str _, str_ok g1, fun H4 s4 => ?_⟩
      rw [show isNameA (.str pp.1) = true from g1]
      simp only [and_assoc, tSeq, tAsg, tOp, tUn, rI, rI0, rU, tVar, tC, gName, L2.start, tIfS, tTest, tB, tCB, tCons, tNil, tIf, tRet, tRetN, tLst, tTup, tNext, tDrop, tNot, tNotV, tAnd, tOr, tAndV, tOrV, tPar, tAug, ipI, rEq, rNe, gSub, rSetL, rIxL, rIxT, tBM, tBM0, rAppend, rPopAt, gTup, gCons, gNil, tCall, tSl, tPart, tNoPart, rSlL, rCat, rEqD, rNeD, rIn, scal, List.map_cons, List.map_nil, List.length_cons, List.length_nil, List.length_map, List.cons_append, List.nil_append, List.append_nil, List.replicate, List.getElem?_cons_zero, List.getElem?_cons_succ, List.set_cons_zero, List.set_cons_succ, Option.some.injEq, exists_eq_left', exists_eq_left, exists_eq_right, exists_and_left, exists_and_right, V.int.injEq, V.ref.injEq, V.str.injEq, V.bl.injEq, reduceCtorEq, false_and, and_false, exists_false, or_false, false_or, true_and, and_true, List.cons.injEq, decide_eq_true_eq, cxOf, if_true, if_false, Bool.false_eq_true, Nat.reduceAdd, Nat.reduceSub, Nat.zero_add, Nat.add_sub_cancel_left, Nat.add_sub_cancel, Nat.sub_self, sFld, tFld, tFor_eq, tLc_eq, iRng1, iRng2, iList, iTup, iEnum, rIsi, rIsiT, iSeq, wipe, tSc1, rLenX, rSum, rNeNil, rAll, spIs, spNum]
      exact ⟨_, Same.seqT (s3.trans s4) hb, _, rfl, _, rfl, g2, fun H5 s5 => hΦ _ _ ((s3.trans s4).trans s5) rfl⟩
    · have ey := all_true (hl2.trans hxl) hY
      subst ey
      refine ⟨List.replicate ps.length true, sqL_of eD, ?_⟩
      rw [show (List.replicate ps.length true).all id = true from List.all_eq_true.mpr fun b hb => (List.mem_replicate.mp hb).2, if_neg (by simp)]
      have s02 := s1.trans s2
      refine ⟨a, rfl, xs, hs.mono s02, ps.map (·.1), by rw [hxl, List.length_map], by rw [List.length_map]; omega, hp.nd, fun i x n ex en => ?_, fun H3 s3 => q _ (s02.trans s3)⟩
      obtain ⟨dd, ed, hx2⟩ := dpA_get (dpA_mono s02 _ _ ha) ex
      rw [List.getElem?_map] at ed en
      obtain ⟨pp, ep, rfl⟩ := Option.map_eq_some_iff.mp ed
      rw [ep] at en
      cases Option.some.inj en
      obtain ⟨b, rfl, hb⟩ := dp_per hx2
      exact ⟨b, rfl, _, hb⟩

end
end He

namespace He
open PySem PySem.Spec PyProof.Rows L2
section
variable {P : Program} {w : World} {K : PySem.W.Frag} {mg : Str → Option Value} {base : Heap}

/-- the class Will, of no built-in kind -/
structure TxtM (K : PySem.W.Frag) (mg : Str → Option Value) where
  n : TxtN K mg
  nb : NoBuilt K n.w.t.cWill
def spMay (K : PySem.W.Frag) (C : Addr) : Sp := fun vs H Q _ => ∃ (n : Str) (wr na : Addr) (shs : List Sh) (nms : List Str), vs = [.str n, .ref wr, .ref na] ∧ WillAt K C H wr shs ∧ SqL K H na (nms.map V.str) ∧ nms.length ≤ 60 ∧ n ∈ nms ∧ (∀ s ∈ shs, ∀ g ∈ s.2, ∀ m ∈ g, m ∈ nms ∧ m ≠ n) ∧
  ∀ H', Same H H' → Q (.bl true) H'
theorem flat_strs (l : List Str) : (l.map V.str).all flatV = true := by
  rw [List.all_map]
  exact List.all_eq_true.mpr fun _ _ => rfl
theorem inV_strs (n : Str) (ns : List Str) : inV (.str n) (ns.map V.str) = decide (n ∈ ns) := by
  unfold inV
  rw [List.any_map, Bool.eq_iff_iff, List.any_eq_true, decide_eq_true_eq]
  constructor
  · rintro ⟨y, hy, e⟩
    have e : (y == n) = true := e
    rw [← eq_of_beq e]
    exact hy
  · intro h
    exact ⟨n, h, beq_self_eq_true n⟩
theorem ok_may (W : TxtN K mg) : FnOk P w K mg base CX0 3 W.w.t.dMayLeave.f W.w.t.dMayLeave.fd ["name", "will", "names"] (spMay K W.w.t.cWill) := by
  refine W.w.t.dMayLeave.F.ok scDMayLeave (fun vs H Q E h => ?_) (fun cdv A outer s H vs Q E hr h => ?_)
  · obtain ⟨n, wr, na, shs, nms, rfl, _⟩ := h
    rfl
  · obtain ⟨n, wr, na, shs, nms, rfl, hw, hs, hl, hn, hm, q⟩ := h
    refine ⟨_, (pss_cons (ps_if (PW.pt (pw_or (pt_cmpR op_notIn_seq (pv 0) (pv 2) (by rfl)) (pw_or1 (pt_not (pt_val (pe_callB call_isi (by rfl) W.w.t.z_isinstance (show bootBuiltins "isinstance" = some (.builtin "isinstance") by decide +kernel) (pa_cons (pv 1) (pa_cons (pe_glob (v := .ref W.w.t.cWill) (by rfl) W.w.t.gcWill rfl) pa_nil))))))))
      (pss_one (ps_ret pe_bl))
      pss_nil)
      (pss_one (ps_ret (pe_callB (cr_all rfl) (by rfl) W.w.t.z_all (show bootBuiltins "all" = some (.builtin "all") by decide +kernel) (pa_cons (pe_lc (own := [("heir", 3)]) (g := (gName 3)) (tt := tYes) rfl scDMayLeave.nd (pi_seq (pe_prop (pv 1) W.w.cl W.nM (ok_wnames W) (hr.mono (by decide)) W.nB .nil pass0 rfl)) (blkOk_by (N := ["name", "will", "names", "heir"]) (sc := defScope sDMayLeave) (by decide +kernel)) (fun _ _ _ _ _ => (pg_name (i := 3) scDMayLeave.nd rfl (.inl rfl))) (fun _ _ _ _ _ => pts_nil) (fun _ _ _ _ _ => (pe_and (pe_cmpR (show OpR _ (compareOp .In) (rIn K false) from op_in_seq) (pv 3) (pv 2) (by rfl)) (pe_one (pe_cmpR op_ne (pv 3) (pv 0) (nomark _)))))) pa_nil))))), ?_⟩
    simp only [and_assoc, tSeq, tAsg, tOp, tUn, rI, rI0, rU, tVar, tC, gName, L2.start, tIfS, tTest, tB, tCB, tCons, tNil, tIf, tRet, tRetN, tLst, tTup, tNext, tDrop, tNot, tNotV, tAnd, tOr, tAndV, tOrV, tPar, tAug, ipI, rEq, rNe, gSub, rSetL, rIxL, rIxT, tBM, tBM0, rAppend, rPopAt, gTup, gCons, gNil, tCall, tSl, tPart, tNoPart, rSlL, rCat, rEqD, rNeD, rIn, scal, List.map_cons, List.map_nil, List.length_cons, List.length_nil, List.length_map, List.cons_append, List.nil_append, List.append_nil, List.replicate, List.getElem?_cons_zero, List.getElem?_cons_succ, List.set_cons_zero, List.set_cons_succ, Option.some.injEq, exists_eq_left', exists_eq_left, exists_eq_right, exists_and_left, exists_and_right, V.int.injEq, V.ref.injEq, V.str.injEq, V.bl.injEq, reduceCtorEq, false_and, and_false, exists_false, or_false, false_or, true_and, and_true, List.cons.injEq, decide_eq_true_eq, cxOf, if_true, if_false, Bool.false_eq_true, Nat.reduceAdd, Nat.reduceSub, Nat.zero_add, Nat.add_sub_cancel_left, Nat.add_sub_cancel, Nat.sub_self, sFld, tFld, tFor_eq, tLc_eq, iRng1, iRng2, iList, iTup, iEnum, rIsi, rIsiT, iSeq, wipe, tSc1, rLenX, rSum, rNeNil, rAll, tProp, spWNames]
    obtain ⟨wdx, wt, ew, dw⟩ := id hw
    refine ⟨_, .inl hs, rfl, flat_strs _, ?_⟩
    rw [inV_strs, decide_eq_true hn, if_neg (by simp)]
    refine ⟨_, _, .own _, .base (W.w.ty ew), _, W.w.is, ?_⟩
    rw [if_neg (by simp)]
    refine ⟨⟨_, _, ew⟩, shs, hw, nms, hl, fun s hs g hg m hm2 => (hm s hs g hg m hm2).1, fun r H1 s1 nr hr1 => ⟨_, _, .inr ⟨rfl, hr1⟩, fun D nD => ?_⟩⟩
    have few := short_in (namesM_nd shs) (ns := nms) fun x hx => by
      obtain ⟨s, hs, g, hg, h⟩ := namesM_mem.mp hx
      exact (hm s hs g hg x h).1
    have sl : (sortG (namesM shs)).length = (namesM shs).length := (sortG_perm _).length_eq
    refine lg_pure (fun i y H => y = .bl true) (.inr ⟨rfl, hr1⟩) (small1000 (by rw [List.length_map]; omega)) nD (fun _ _ _ _ _ h => h) (fun i x H2 Φ hx s2 hD hΦ => ?_) (fun ys H2 s2 eD hl2 hY => ?_)
    · rw [List.getElem?_map] at hx
      obtain ⟨m, em, rfl⟩ := Option.map_eq_some_iff.mp hx
      obtain ⟨s, hs3, g, hg, h⟩ := namesM_mem.mp ((sortG_perm _).mem_iff.mp (List.mem_of_getElem? em))
      obtain ⟨m1, m2⟩ := hm s hs3 g hg m h
      simp only [and_assoc, tSeq, tAsg, tOp, tUn, rI, rI0, rU, tVar, tC, gName, L2.start, tIfS, tTest, tB, tCB, tCons, tNil, tIf, tRet, tRetN, tLst, tTup, tNext, tDrop, tNot, tNotV, tAnd, tOr, tAndV, tOrV, tPar, tAug, ipI, rEq, rNe, gSub, rSetL, rIxL, rIxT, tBM, tBM0, rAppend, rPopAt, gTup, gCons, gNil, tCall, tSl, tPart, tNoPart, rSlL, rCat, rEqD, rNeD, rIn, scal, List.map_cons, List.map_nil, List.length_cons, List.length_nil, List.length_map, List.cons_append, List.nil_append, List.append_nil, List.replicate, List.getElem?_cons_zero, List.getElem?_cons_succ, List.set_cons_zero, List.set_cons_succ, Option.some.injEq, exists_eq_left', exists_eq_left, exists_eq_right, exists_and_left, exists_and_right, V.int.injEq, V.ref.injEq, V.str.injEq, V.bl.injEq, reduceCtorEq, false_and, and_false, exists_false, or_false, false_or, true_and, and_true, List.cons.injEq, decide_eq_true_eq, cxOf, if_true, if_false, Bool.false_eq_true, Nat.reduceAdd, Nat.reduceSub, Nat.zero_add, Nat.add_sub_cancel_left, Nat.add_sub_cancel, Nat.sub_self, sFld, tFld, tFor_eq, tLc_eq, iRng1, iRng2, iList, iTup, iEnum, rIsi, rIsiT, iSeq, wipe, tSc1, rLenX, rSum, rNeNil, rAll, tProp]
      refine ⟨_, .inl ((s1.trans s2).seq hs), rfl, flat_strs _, ?_⟩
      rw [inV_strs, decide_eq_true m1]
      simp only [and_assoc, tSeq, tAsg, tOp, tUn, rI, rI0, rU, tVar, tC, gName, L2.start, tIfS, tTest, tB, tCB, tCons, tNil, tIf, tRet, tRetN, tLst, tTup, tNext, tDrop, tNot, tNotV, tAnd, tOr, tAndV, tOrV, tPar, tAug, ipI, rEq, rNe, gSub, rSetL, rIxL, rIxT, tBM, tBM0, rAppend, rPopAt, gTup, gCons, gNil, tCall, tSl, tPart, tNoPart, rSlL, rCat, rEqD, rNeD, rIn, scal, List.map_cons, List.map_nil, List.length_cons, List.length_nil, List.length_map, List.cons_append, List.nil_append, List.append_nil, List.replicate, List.getElem?_cons_zero, List.getElem?_cons_succ, List.set_cons_zero, List.set_cons_succ, Option.some.injEq, exists_eq_left', exists_eq_left, exists_eq_right, exists_and_left, exists_and_right, V.int.injEq, V.ref.injEq, V.str.injEq, V.bl.injEq, reduceCtorEq, false_and, and_false, exists_false, or_false, false_or, true_and, and_true, List.cons.injEq, decide_eq_true_eq, cxOf, if_true, if_false, Bool.false_eq_true, Nat.reduceAdd, Nat.reduceSub, Nat.zero_add, Nat.add_sub_cancel_left, Nat.add_sub_cancel, Nat.sub_self, sFld, tFld, tFor_eq, tLc_eq, iRng1, iRng2, iList, iTup, iEnum, rIsi, rIsiT, iSeq, wipe, tSc1, rLenX, rSum, rNeNil, rAll, tProp]
      rw [decide_eq_false m2]
      exact hΦ _ _ (Same.refl _) rfl
    · have ey := all_true hl2 hY
      subst ey
      refine ⟨_, sqL_of eD, ?_⟩
      rw [show (List.replicate _ true).all id = true from List.all_eq_true.mpr fun b hb => (List.mem_replicate.mp hb).2]
      exact q _ (s1.trans s2)

/-- the wills of a family: pairs of a name and a will -/
def WlsD (K : PySem.W.Frag) (C : Addr) (H : Hp) (xs : List V) (ws : List (Str × List Sh)) : Prop := xs.length = ws.length ∧ ∀ (i : Nat) (x : V) (w : Str × List Sh), xs[i]? = some x → ws[i]? = some w → ∃ b wr, x = .ref b ∧ SqT K H b [.str w.1, .ref wr] ∧ WillAt K C H wr w.2
theorem WlsD.mono {C : Addr} {H H' : Hp} {xs : List V} {ws : List (Str × List Sh)} (s : Same H H') (h : WlsD K C H xs ws) : WlsD K C H' xs ws := ⟨h.1, fun i x w e1 e2 => by
  obtain ⟨b, wr, e, h1, h2⟩ := h.2 i x w e1 e2
  exact ⟨b, wr, e, Same.seqT s h1, h2.mono s⟩⟩
structure WlsOk (nms : List Str) (ws : List (Str × List Sh)) : Prop where
  l : ws.length ≤ 60
  nm : ∀ w ∈ ws, nameB w.1 = true ∧ w.1 ∈ nms ∧ ∀ s ∈ w.2, ∀ g ∈ s.2, ∀ m ∈ g, m ∈ nms ∧ m ≠ w.1
  nd : (ws.map (·.1)).Nodup
def spWls (K : PySem.W.Frag) (C : Addr) : Sp := fun vs H Q _ => ∃ (a na : Addr) (xs : List V) (ws : List (Str × List Sh)) (nms : List Str), vs = [.ref a, .ref na] ∧ Sq K H a xs ∧ WlsD K C H xs ws ∧ SqL K H na (nms.map V.str) ∧ nms.length ≤ 60 ∧ WlsOk nms ws ∧ ∀ H', Same H H' → Q (.bl true) H'
theorem ok_wls (W : TxtM K mg) : FnOk P w K mg base CX0 4 W.n.w.t.dAreWills.f W.n.w.t.dAreWills.fd ["value", "names"] (spWls K W.n.w.t.cWill) := by
  refine W.n.w.t.dAreWills.F.ok scDAreWills (fun vs H Q E h => ?_) (fun cdv A outer s H vs Q E hr h => ?_)
  · obtain ⟨a, na, xs, ws, nms, rfl, _⟩ := h
    rfl
  · obtain ⟨a, na, xs, ws, nms, rfl, hs, hw, hn, hl, ok, q⟩ := h
    refine ⟨_, (pss_cons (ps_if (pt_not (pt_val (pe_call (ok_isseq W.n.w.t) (hr.mono (by decide)) (by rfl) W.n.w.t.dIsSequence.g W.n.w.t.dIsSequence.F.kp W.n.w.t.dIsSequence.b .nil pass0 (pa_cons (pv 0) pa_nil))))
      (pss_one (ps_ret pe_bl))
      pss_nil)
      (pss_cons (ps_if (pt_not (pt_val (pe_callB (cr_all rfl) (by rfl) W.n.w.t.z_all (show bootBuiltins "all" = some (.builtin "all") by decide +kernel) (pa_cons (pe_lc (own := [("entry", 2)]) (g := (gName 2)) (tt := tYes) rfl scDAreWills.nd (pi_seq (pv 0)) (blkOk_by (N := ["value", "names", "entry"]) (sc := defScope sDAreWills) (by decide +kernel)) (fun _ _ _ _ _ => (pg_name (i := 2) scDAreWills.nd rfl (.inl rfl))) (fun _ _ _ _ _ => pts_nil) (fun _ _ _ _ _ => (pe_and (pe_call (ok_ispair W.n.w.t) (hr.mono (by decide)) (by rfl) W.n.w.t.dIsPair.g W.n.w.t.dIsPair.F.kp W.n.w.t.dIsPair.b .nil pass0 (pa_cons (pv 2) pa_nil)) (pe_one (pe_call (ok_may W.n) (hr.mono (by decide)) (by rfl) W.n.w.t.dMayLeave.g W.n.w.t.dMayLeave.F.kp W.n.w.t.dMayLeave.b .nil pass0 (pa_cons (pe_ix (show IxR _ (rIxT K) from ix_tup) (pv 2) pe_int (fun _ _ => rfl)) (pa_cons (pe_ix (show IxR _ (rIxT K) from ix_tup) (pv 2) pe_int (fun _ _ => rfl)) (pa_cons (pv 1) pa_nil)))))))) pa_nil))))
      (pss_one (ps_ret pe_bl))
      pss_nil)
      (pss_one (ps_ret (pe_call (ok_diff W.n.w.t) (hr.mono (by decide)) (by rfl) W.n.w.t.dHaveDifferentNames.g W.n.w.t.dHaveDifferentNames.F.kp W.n.w.t.dHaveDifferentNames.b .nil pass0 (pa_cons (pv 0) pa_nil)))))), ?_⟩
    simp only [and_assoc, tSeq, tAsg, tOp, tUn, rI, rI0, rU, tVar, tC, gName, L2.start, tIfS, tTest, tB, tCB, tCons, tNil, tIf, tRet, tRetN, tLst, tTup, tNext, tDrop, tNot, tNotV, tAnd, tOr, tAndV, tOrV, tPar, tAug, ipI, rEq, rNe, gSub, rSetL, rIxL, rIxT, tBM, tBM0, rAppend, rPopAt, gTup, gCons, gNil, tCall, tSl, tPart, tNoPart, rSlL, rCat, rEqD, rNeD, rIn, scal, List.map_cons, List.map_nil, List.length_cons, List.length_nil, List.length_map, List.cons_append, List.nil_append, List.append_nil, List.replicate, List.getElem?_cons_zero, List.getElem?_cons_succ, List.set_cons_zero, List.set_cons_succ, Option.some.injEq, exists_eq_left', exists_eq_left, exists_eq_right, exists_and_left, exists_and_right, V.int.injEq, V.ref.injEq, V.str.injEq, V.bl.injEq, reduceCtorEq, false_and, and_false, exists_false, or_false, false_or, true_and, and_true, List.cons.injEq, decide_eq_true_eq, cxOf, if_true, if_false, Bool.false_eq_true, Nat.reduceAdd, Nat.reduceSub, Nat.zero_add, Nat.add_sub_cancel_left, Nat.add_sub_cancel, Nat.sub_self, sFld, tFld, tFor_eq, tLc_eq, iRng1, iRng2, iList, iTup, iEnum, rIsi, rIsiT, iSeq, wipe, tSc1, rLenX, rSum, rNeNil, rAll, tProp, spIs, spDiff]
    have hwl := hw.1
    have okl := ok.l
    have get : ∀ {i : Nat} {x : V}, xs[i]? = some x → ∃ w ∈ ws, ws[i]? = some w ∧ ∃ b wr, x = .ref b ∧ SqT K H b [.str w.1, .ref wr] ∧ WillAt K W.n.w.t.cWill H wr w.2 := fun {i x} ex => by
      have := (List.getElem?_eq_some_iff.mp ex).1
      have ew : ws[i]? = some ws[i] := List.getElem?_eq_getElem (by omega)
      exact ⟨ws[i], List.mem_of_getElem? ew, ew, hw.2 i x _ ex ew⟩
    have pav : ∀ {H' : Hp} {b wr : Addr} {n : Str} {shs : List Sh}, SqT K H' b [.str n, .ref wr] → WillAt K W.n.w.t.cWill H' wr shs → Av K H' (.ref b) (.tup [.str n, .ins W.n.w.t.cWill]) := fun h1 h2 => by
      obtain ⟨dx, t, e, d⟩ := h2
      exact .tup h1 (.cons (.str _) (.cons (.ins e (W.n.w.ty e)) .nil))
    have ads : ∃ ads : List AD, AvAll K H xs ads ∧ ads.length = xs.length ∧ ∀ d ∈ ads, AdOk K d := by
      have go : ∀ (l : List V), (∀ x ∈ l, ∃ n, nameB n = true ∧ Av K H x (.tup [.str n, .ins W.n.w.t.cWill])) → ∃ ads : List AD, AvAll K H l ads ∧ ads.length = l.length ∧ ∀ d ∈ ads, AdOk K d := by
        intro l
        induction l with
        | nil => exact fun _ => ⟨[], .nil, rfl, fun _ h => nomatch h⟩
        | cons x l ih =>
          intro h
          obtain ⟨n, h1, h2⟩ := h x List.mem_cons_self
          obtain ⟨ads, i1, i2, i3⟩ := ih fun y hy => h y (List.mem_cons_of_mem _ hy)
          exact ⟨_ :: ads, .cons h2 i1, by rw [List.length_cons, List.length_cons, i2], fun d hd => (List.mem_cons.mp hd).elim (fun e => e ▸ ⟨by show 2 < 4000; decide, str_ok h1, W.nb, trivial⟩) (i3 d)⟩
      refine go xs fun x hx => ?_
      obtain ⟨i, ei⟩ := List.mem_iff_getElem?.mp hx
      obtain ⟨w, wm, ew, b, wr, rfl, h1, h2⟩ := get ei
      exact ⟨w.1, (ok.nm w wm).1, pav h1 h2⟩
    obtain ⟨ads, ha, hal, hao⟩ := ads
    obtain ⟨d, av, dok, sq⟩ := sq_av hs ha (by omega) hao
    refine ⟨d, av, dok, fun H1 s1 => ?_⟩
    rw [sq, if_neg (by simp)]
    obtain ⟨J, hJ⟩ := (hs.mono s1).it
    refine ⟨xs, J, hJ, fun D nD => ?_⟩
    refine lg_pure (fun i y H => y = .bl true) hJ (small1000 (by omega)) nD (fun _ _ _ _ _ h => h) (fun i x H2 Φ hx s2 hD hΦ => ?_) (fun ys H2 s2 eD hl2 hY => ?_)
    · obtain ⟨w, wm, ew, b, wr, rfl, h1, h2⟩ := get hx
      have s02 := s1.trans s2
      obtain ⟨k1, k2, k3⟩ := ok.nm w wm
      simp only [and_assoc, tSeq, tAsg, tOp, tUn, rI, rI0, rU, tVar, tC, gName, L2.start, tIfS, tTest, tB, tCB, tCons, tNil, tIf, tRet, tRetN, tLst, tTup, tNext, tDrop, tNot, tNotV, tAnd, tOr, tAndV, tOrV, tPar, tAug, ipI, rEq, rNe, gSub, rSetL, rIxL, rIxT, tBM, tBM0, rAppend, rPopAt, gTup, gCons, gNil, tCall, tSl, tPart, tNoPart, rSlL, rCat, rEqD, rNeD, rIn, scal, List.map_cons, List.map_nil, List.length_cons, List.length_nil, List.length_map, List.cons_append, List.nil_append, List.append_nil, List.replicate, List.getElem?_cons_zero, List.getElem?_cons_succ, List.set_cons_zero, List.set_cons_succ, Option.some.injEq, exists_eq_left', exists_eq_left, exists_eq_right, exists_and_left, exists_and_right, V.int.injEq, V.ref.injEq, V.str.injEq, V.bl.injEq, reduceCtorEq, false_and, and_false, exists_false, or_false, false_or, true_and, and_true, List.cons.injEq, decide_eq_true_eq, cxOf, if_true, if_false, Bool.false_eq_true, Nat.reduceAdd, Nat.reduceSub, Nat.zero_add, Nat.add_sub_cancel_left, Nat.add_sub_cancel, Nat.sub_self, sFld, tFld, tFor_eq, tLc_eq, iRng1, iRng2, iList, iTup, iEnum, rIsi, rIsiT, iSeq, wipe, tSc1, rLenX, rSum, rNeNil, rAll, tProp, spIs, spMay]
      refine ⟨_, pav (Same.seqT s02 h1) (h2.mono s02), ⟨by show 2 < 4000; decide, str_ok k1, W.nb, trivial⟩, fun H3 s3 => ?_⟩
      rw [show isPairA (.tup [.str w.1, .ins W.n.w.t.cWill]) = true from rfl]
      have s03 := s02.trans s3
      simp only [and_assoc, tSeq, tAsg, tOp, tUn, rI, rI0, rU, tVar, tC, gName, L2.start, tIfS, tTest, tB, tCB, tCons, tNil, tIf, tRet, tRetN, tLst, tTup, tNext, tDrop, tNot, tNotV, tAnd, tOr, tAndV, tOrV, tPar, tAug, ipI, rEq, rNe, gSub, rSetL, rIxL, rIxT, tBM, tBM0, rAppend, rPopAt, gTup, gCons, gNil, tCall, tSl, tPart, tNoPart, rSlL, rCat, rEqD, rNeD, rIn, scal, List.map_cons, List.map_nil, List.length_cons, List.length_nil, List.length_map, List.cons_append, List.nil_append, List.append_nil, List.replicate, List.getElem?_cons_zero, List.getElem?_cons_succ, List.set_cons_zero, List.set_cons_succ, Option.some.injEq, exists_eq_left', exists_eq_left, exists_eq_right, exists_and_left, exists_and_right, V.int.injEq, V.ref.injEq, V.str.injEq, V.bl.injEq, reduceCtorEq, false_and, and_false, exists_false, or_false, false_or, true_and, and_true, List.cons.injEq, decide_eq_true_eq, cxOf, if_true, if_false, Bool.false_eq_true, Nat.reduceAdd, Nat.reduceSub, Nat.zero_add, Nat.add_sub_cancel_left, Nat.add_sub_cancel, Nat.sub_self, sFld, tFld, tFor_eq, tLc_eq, iRng1, iRng2, iList, iTup, iEnum, rIsi, rIsiT, iSeq, wipe, tSc1, rLenX, rSum, rNeNil, rAll, tProp, spIs, spMay]
      have t3 := Same.seqT s03 h1
      exact ⟨_, t3, _, rfl, _, t3, _, rfl, w.1, rfl, wr, rfl, w.2, h2.mono s03, nms, s03.seq hn, hl, k2, k3, fun H4 s4 => hΦ _ _ (s3.trans s4) rfl⟩
    · have ey := all_true (hl2.trans hwl) hY
      subst ey
      refine ⟨_, sqL_of eD, ?_⟩
      rw [show (List.replicate ws.length true).all id = true from List.all_eq_true.mpr fun b hb => (List.mem_replicate.mp hb).2, if_neg (by simp)]
      have s02 := s1.trans s2
      refine ⟨xs, hs.mono s02, ws.map (·.1), by rw [hwl, List.length_map], by rw [List.length_map]; omega, ok.nd, fun i x n ex en => ?_, fun H3 s3 => q _ (s02.trans s3)⟩
      obtain ⟨w, wm, ew, b, wr, rfl, h1, h2⟩ := get ex
      rw [List.getElem?_map, ew] at en
      cases Option.some.inj en
      exact ⟨b, rfl, _, Same.seqT s02 h1⟩

end
end He

namespace He
open PySem PySem.Spec PyProof.Rows L2
section
variable {P : Program} {w : World} {K : PySem.W.Frag} {mg : Str → Option Value} {base : Heap}

def spFct1 (K : PySem.W.Frag) : Sp := fun vs H Q _ => ∃ (f t : Str) (a : Addr) (ds : List Str), vs = [.str f, .str t, .ref a] ∧ SqL K H a (ds.map V.str) ∧ f ∈ ds ∧ t ∈ ds ∧ f ≠ t ∧ Q (.bl true) H
theorem ok_fct1 (T : TxtG K mg) : FnOk P w K mg base CX0 1 T.dIsFact.f T.dIsFact.fd ["first", "then", "dead"] (spFct1 K) := by
  refine T.dIsFact.F.ok scDIsFact (fun vs H Q E h => ?_) (fun cdv A outer s H vs Q E hr h => ?_)
  · obtain ⟨f, t, a, ds, rfl, _⟩ := h
    rfl
  · obtain ⟨f, t, a, ds, rfl, hs, h1, h2, h3, q⟩ := h
    refine ⟨_, (pss_one (ps_ret (pe_and (pe_cmpR op_in_seq (pv 0) (pv 2) (by rfl)) (pe_and (pe_cmpR op_in_seq (pv 1) (pv 2) (by rfl)) (pe_one (pe_cmpR op_ne (pv 0) (pv 1) (nomark _))))))), ?_⟩
    simp only [and_assoc, tSeq, tAsg, tOp, tUn, rI, rI0, rU, tVar, tC, gName, L2.start, tIfS, tTest, tB, tCB, tCons, tNil, tIf, tRet, tRetN, tLst, tTup, tNext, tDrop, tNot, tNotV, tAnd, tOr, tAndV, tOrV, tPar, tAug, ipI, rEq, rNe, gSub, rSetL, rIxL, rIxT, tBM, tBM0, rAppend, rPopAt, gTup, gCons, gNil, tCall, tSl, tPart, tNoPart, rSlL, rCat, rEqD, rNeD, rIn, scal, List.map_cons, List.map_nil, List.length_cons, List.length_nil, List.length_map, List.cons_append, List.nil_append, List.append_nil, List.replicate, List.getElem?_cons_zero, List.getElem?_cons_succ, List.set_cons_zero, List.set_cons_succ, Option.some.injEq, exists_eq_left', exists_eq_left, exists_eq_right, exists_and_left, exists_and_right, V.int.injEq, V.ref.injEq, V.str.injEq, V.bl.injEq, reduceCtorEq, false_and, and_false, exists_false, or_false, false_or, true_and, and_true, List.cons.injEq, decide_eq_true_eq, cxOf, if_true, if_false, Bool.false_eq_true, Nat.reduceAdd, Nat.reduceSub, Nat.zero_add, Nat.add_sub_cancel_left, Nat.add_sub_cancel, Nat.sub_self, sFld, tFld, tFor_eq, tLc_eq, iRng1, iRng2, iList, iTup, iEnum, rIsi, rIsiT, iSeq, wipe, tSc1, rLenX, rSum, rNeNil, rAll]
    refine ⟨_, .inl hs, rfl, flat_strs _, ?_⟩
    rw [inV_strs, decide_eq_true h1]
    simp only [and_assoc, tSeq, tAsg, tOp, tUn, rI, rI0, rU, tVar, tC, gName, L2.start, tIfS, tTest, tB, tCB, tCons, tNil, tIf, tRet, tRetN, tLst, tTup, tNext, tDrop, tNot, tNotV, tAnd, tOr, tAndV, tOrV, tPar, tAug, ipI, rEq, rNe, gSub, rSetL, rIxL, rIxT, tBM, tBM0, rAppend, rPopAt, gTup, gCons, gNil, tCall, tSl, tPart, tNoPart, rSlL, rCat, rEqD, rNeD, rIn, scal, List.map_cons, List.map_nil, List.length_cons, List.length_nil, List.length_map, List.cons_append, List.nil_append, List.append_nil, List.replicate, List.getElem?_cons_zero, List.getElem?_cons_succ, List.set_cons_zero, List.set_cons_succ, Option.some.injEq, exists_eq_left', exists_eq_left, exists_eq_right, exists_and_left, exists_and_right, V.int.injEq, V.ref.injEq, V.str.injEq, V.bl.injEq, reduceCtorEq, false_and, and_false, exists_false, or_false, false_or, true_and, and_true, List.cons.injEq, decide_eq_true_eq, cxOf, if_true, if_false, Bool.false_eq_true, Nat.reduceAdd, Nat.reduceSub, Nat.zero_add, Nat.add_sub_cancel_left, Nat.add_sub_cancel, Nat.sub_self, sFld, tFld, tFor_eq, tLc_eq, iRng1, iRng2, iList, iTup, iEnum, rIsi, rIsiT, iSeq, wipe, tSc1, rLenX, rSum, rNeNil, rAll]
    refine ⟨_, .inl hs, rfl, flat_strs _, ?_⟩
    rw [inV_strs, decide_eq_true h2]
    simp only [and_assoc, tSeq, tAsg, tOp, tUn, rI, rI0, rU, tVar, tC, gName, L2.start, tIfS, tTest, tB, tCB, tCons, tNil, tIf, tRet, tRetN, tLst, tTup, tNext, tDrop, tNot, tNotV, tAnd, tOr, tAndV, tOrV, tPar, tAug, ipI, rEq, rNe, gSub, rSetL, rIxL, rIxT, tBM, tBM0, rAppend, rPopAt, gTup, gCons, gNil, tCall, tSl, tPart, tNoPart, rSlL, rCat, rEqD, rNeD, rIn, scal, List.map_cons, List.map_nil, List.length_cons, List.length_nil, List.length_map, List.cons_append, List.nil_append, List.append_nil, List.replicate, List.getElem?_cons_zero, List.getElem?_cons_succ, List.set_cons_zero, List.set_cons_succ, Option.some.injEq, exists_eq_left', exists_eq_left, exists_eq_right, exists_and_left, exists_and_right, V.int.injEq, V.ref.injEq, V.str.injEq, V.bl.injEq, reduceCtorEq, false_and, and_false, exists_false, or_false, false_or, true_and, and_true, List.cons.injEq, decide_eq_true_eq, cxOf, if_true, if_false, Bool.false_eq_true, Nat.reduceAdd, Nat.reduceSub, Nat.zero_add, Nat.add_sub_cancel_left, Nat.add_sub_cancel, Nat.sub_self, sFld, tFld, tFor_eq, tLc_eq, iRng1, iRng2, iList, iTup, iEnum, rIsi, rIsiT, iSeq, wipe, tSc1, rLenX, rSum, rNeNil, rAll]
    rw [decide_eq_false h3]
    exact q

theorem dp_fct {H : Hp} {v : V} {p : Str × Str} (h : Dp K H v (dFct p)) : ∃ b, v = .ref b ∧ SqT K H b [.str p.1, .str p.2] := by
  obtain ⟨b, x, y, rfl, hs, h1, h2⟩ := dp_tup2 h
  cases h1
  cases h2
  exact ⟨b, rfl, hs⟩
/-- facts about such people -/
structure FctOk (ds : List Str) (fs : List (Str × Str)) : Prop where
  l : fs.length ≤ 60
  ok : ∀ f ∈ fs, f.1 ∈ ds ∧ f.2 ∈ ds ∧ f.1 ≠ f.2
  nm : ∀ f ∈ fs, nameB f.1 = true ∧ nameB f.2 = true
def spFct (K : PySem.W.Frag) : Sp := fun vs H Q _ => ∃ (a da : Addr) (xs : List V) (fs : List (Str × Str)) (ds : List Str), vs = [.ref a, .ref da] ∧ Sq K H a xs ∧ DpAll K H xs (fs.map dFct) ∧ SqL K H da (ds.map V.str) ∧ FctOk ds fs ∧ ∀ H', Same H H' → Q (.bl true) H'
theorem ok_fct (T : TxtG K mg) : FnOk P w K mg base CX0 3 T.dAreFacts.f T.dAreFacts.fd ["value", "dead"] (spFct K) := by
  refine T.dAreFacts.F.ok scDAreFacts (fun vs H Q E h => ?_) (fun cdv A outer s H vs Q E hr h => ?_)
  · obtain ⟨a, da, xs, fs, ds, rfl, _⟩ := h
    rfl
  · obtain ⟨a, da, xs, fs, ds, rfl, hs, ha, hd, ok, q⟩ := h
    refine ⟨_, (pss_one (ps_ret (pe_and (pe_call (ok_isseq T) (hr.mono (by decide)) (by rfl) T.dIsSequence.g T.dIsSequence.F.kp T.dIsSequence.b .nil pass0 (pa_cons (pv 0) pa_nil)) (pe_one (pe_callB (cr_all rfl) (by rfl) T.z_all (show bootBuiltins "all" = some (.builtin "all") by decide +kernel) (pa_cons (pe_lc (own := [("fact", 2)]) (g := (gName 2)) (tt := tYes) rfl scDAreFacts.nd (pi_seq (pv 0)) (blkOk_by (N := ["value", "dead", "fact"]) (sc := defScope sDAreFacts) (by decide +kernel)) (fun _ _ _ _ _ => (pg_name (i := 2) scDAreFacts.nd rfl (.inl rfl))) (fun _ _ _ _ _ => pts_nil) (fun _ _ _ _ _ => (pe_and (pe_call (ok_ispair T) (hr.mono (by decide)) (by rfl) T.dIsPair.g T.dIsPair.F.kp T.dIsPair.b .nil pass0 (pa_cons (pv 2) pa_nil)) (pe_one (pe_call (ok_fct1 T) (hr.mono (by decide)) (by rfl) T.dIsFact.g T.dIsFact.F.kp T.dIsFact.b .nil pass0 (pa_cons (pe_ix (show IxR _ (rIxT K) from ix_tup) (pv 2) pe_int (fun _ _ => rfl)) (pa_cons (pe_ix (show IxR _ (rIxT K) from ix_tup) (pv 2) pe_int (fun _ _ => rfl)) (pa_cons (pv 1) pa_nil)))))))) pa_nil)))))), ?_⟩
    simp only [and_assoc, tSeq, tAsg, tOp, tUn, rI, rI0, rU, tVar, tC, gName, L2.start, tIfS, tTest, tB, tCB, tCons, tNil, tIf, tRet, tRetN, tLst, tTup, tNext, tDrop, tNot, tNotV, tAnd, tOr, tAndV, tOrV, tPar, tAug, ipI, rEq, rNe, gSub, rSetL, rIxL, rIxT, tBM, tBM0, rAppend, rPopAt, gTup, gCons, gNil, tCall, tSl, tPart, tNoPart, rSlL, rCat, rEqD, rNeD, rIn, scal, List.map_cons, List.map_nil, List.length_cons, List.length_nil, List.length_map, List.cons_append, List.nil_append, List.append_nil, List.replicate, List.getElem?_cons_zero, List.getElem?_cons_succ, List.set_cons_zero, List.set_cons_succ, Option.some.injEq, exists_eq_left', exists_eq_left, exists_eq_right, exists_and_left, exists_and_right, V.int.injEq, V.ref.injEq, V.str.injEq, V.bl.injEq, reduceCtorEq, false_and, and_false, exists_false, or_false, false_or, true_and, and_true, List.cons.injEq, decide_eq_true_eq, cxOf, if_true, if_false, Bool.false_eq_true, Nat.reduceAdd, Nat.reduceSub, Nat.zero_add, Nat.add_sub_cancel_left, Nat.add_sub_cancel, Nat.sub_self, sFld, tFld, tFor_eq, tLc_eq, iRng1, iRng2, iList, iTup, iEnum, rIsi, rIsiT, iSeq, wipe, tSc1, rLenX, rSum, rNeNil, rAll, spIs, spFct1]
    have fl := ok.l
    have xl : xs.length = fs.length := by rw [dpA_len ha, List.length_map]
    have f1 : ∀ {f : Str × Str}, f ∈ fs → AdOk K (ad (dFct f)) := fun hf => ⟨by show 2 < 4000; decide, str_ok (ok.nm _ hf).1, str_ok (ok.nm _ hf).2, trivial⟩
    obtain ⟨d, av, dok, sq⟩ := sq_av hs (avA_of _ _ ha) (by rw [adA_map, List.length_map, List.length_map]; omega) (fun d hd => by
      rw [adA_map] at hd
      obtain ⟨d1, h1, rfl⟩ := List.mem_map.mp hd
      obtain ⟨f, hf, rfl⟩ := List.mem_map.mp h1
      exact f1 hf)
    refine ⟨d, av, dok, fun H1 s1 => ?_⟩
    rw [sq]
    simp only [and_assoc, tSeq, tAsg, tOp, tUn, rI, rI0, rU, tVar, tC, gName, L2.start, tIfS, tTest, tB, tCB, tCons, tNil, tIf, tRet, tRetN, tLst, tTup, tNext, tDrop, tNot, tNotV, tAnd, tOr, tAndV, tOrV, tPar, tAug, ipI, rEq, rNe, gSub, rSetL, rIxL, rIxT, tBM, tBM0, rAppend, rPopAt, gTup, gCons, gNil, tCall, tSl, tPart, tNoPart, rSlL, rCat, rEqD, rNeD, rIn, scal, List.map_cons, List.map_nil, List.length_cons, List.length_nil, List.length_map, List.cons_append, List.nil_append, List.append_nil, List.replicate, List.getElem?_cons_zero, List.getElem?_cons_succ, List.set_cons_zero, List.set_cons_succ, Option.some.injEq, exists_eq_left', exists_eq_left, exists_eq_right, exists_and_left, exists_and_right, V.int.injEq, V.ref.injEq, V.str.injEq, V.bl.injEq, reduceCtorEq, false_and, and_false, exists_false, or_false, false_or, true_and, and_true, List.cons.injEq, decide_eq_true_eq, cxOf, if_true, if_false, Bool.false_eq_true, Nat.reduceAdd, Nat.reduceSub, Nat.zero_add, Nat.add_sub_cancel_left, Nat.add_sub_cancel, Nat.sub_self, sFld, tFld, tFor_eq, tLc_eq, iRng1, iRng2, iList, iTup, iEnum, rIsi, rIsiT, iSeq, wipe, tSc1, rLenX, rSum, rNeNil, rAll, spIs, spFct1]
    obtain ⟨J, hJ⟩ := (hs.mono s1).it
    refine ⟨xs, J, hJ, fun D nD => ?_⟩
    refine lg_pure (fun i y H => y = .bl true) hJ (small1000 (by omega)) nD (fun _ _ _ _ _ h => h) (fun i x H2 Φ hx s2 hD hΦ => ?_) (fun ys H2 s2 eD hl2 hY => ?_)
    · have s02 := s1.trans s2
      obtain ⟨dd, ed, hx2⟩ := dpA_get (dpA_mono s02 _ _ ha) hx
      rw [List.getElem?_map] at ed
      obtain ⟨f, ef, rfl⟩ := Option.map_eq_some_iff.mp ed
      have fm := List.mem_of_getElem? ef
      obtain ⟨g1, g2, g3⟩ := ok.ok f fm
      obtain ⟨b, rfl, hb⟩ := dp_fct hx2
      simp only [and_assoc, tSeq, tAsg, tOp, tUn, rI, rI0, rU, tVar, tC, gName, L2.start, tIfS, tTest, tB, tCB, tCons, tNil, tIf, tRet, tRetN, tLst, tTup, tNext, tDrop, tNot, tNotV, tAnd, tOr, tAndV, tOrV, tPar, tAug, ipI, rEq, rNe, gSub, rSetL, rIxL, rIxT, tBM, tBM0, rAppend, rPopAt, gTup, gCons, gNil, tCall, tSl, tPart, tNoPart, rSlL, rCat, rEqD, rNeD, rIn, scal, List.map_cons, List.map_nil, List.length_cons, List.length_nil, List.length_map, List.cons_append, List.nil_append, List.append_nil, List.replicate, List.getElem?_cons_zero, List.getElem?_cons_succ, List.set_cons_zero, List.set_cons_succ, Option.some.injEq, exists_eq_left', exists_eq_left, exists_eq_right, exists_and_left, exists_and_right, V.int.injEq, V.ref.injEq, V.str.injEq, V.bl.injEq, reduceCtorEq, false_and, and_false, exists_false, or_false, false_or, true_and, and_true, List.cons.injEq, decide_eq_true_eq, cxOf, if_true, if_false, Bool.false_eq_true, Nat.reduceAdd, Nat.reduceSub, Nat.zero_add, Nat.add_sub_cancel_left, Nat.add_sub_cancel, Nat.sub_self, sFld, tFld, tFor_eq, tLc_eq, iRng1, iRng2, iList, iTup, iEnum, rIsi, rIsiT, iSeq, wipe, tSc1, rLenX, rSum, rNeNil, rAll, spIs, spFct1]
      refine ⟨_, av_of _ _ hx2, f1 fm, fun H3 s3 => ?_⟩
      rw [show isPairA (ad (dFct f)) = true from rfl]
      simp only [and_assoc, tSeq, tAsg, tOp, tUn, rI, rI0, rU, tVar, tC, gName, L2.start, tIfS, tTest, tB, tCB, tCons, tNil, tIf, tRet, tRetN, tLst, tTup, tNext, tDrop, tNot, tNotV, tAnd, tOr, tAndV, tOrV, tPar, tAug, ipI, rEq, rNe, gSub, rSetL, rIxL, rIxT, tBM, tBM0, rAppend, rPopAt, gTup, gCons, gNil, tCall, tSl, tPart, tNoPart, rSlL, rCat, rEqD, rNeD, rIn, scal, List.map_cons, List.map_nil, List.length_cons, List.length_nil, List.length_map, List.cons_append, List.nil_append, List.append_nil, List.replicate, List.getElem?_cons_zero, List.getElem?_cons_succ, List.set_cons_zero, List.set_cons_succ, Option.some.injEq, exists_eq_left', exists_eq_left, exists_eq_right, exists_and_left, exists_and_right, V.int.injEq, V.ref.injEq, V.str.injEq, V.bl.injEq, reduceCtorEq, false_and, and_false, exists_false, or_false, false_or, true_and, and_true, List.cons.injEq, decide_eq_true_eq, cxOf, if_true, if_false, Bool.false_eq_true, Nat.reduceAdd, Nat.reduceSub, Nat.zero_add, Nat.add_sub_cancel_left, Nat.add_sub_cancel, Nat.sub_self, sFld, tFld, tFor_eq, tLc_eq, iRng1, iRng2, iList, iTup, iEnum, rIsi, rIsiT, iSeq, wipe, tSc1, rLenX, rSum, rNeNil, rAll, spIs, spFct1]
      have t3 := Same.seqT s3 hb
      exact ⟨_, t3, _, rfl, _, t3, _, rfl, f.1, rfl, f.2, rfl, ds, (s02.trans s3).seq hd, g1, g2, g3, hΦ _ _ s3 rfl⟩
    · have ey := all_true (hl2.trans xl) hY
      subst ey
      refine ⟨_, sqL_of eD, ?_⟩
      rw [show (List.replicate fs.length true).all id = true from List.all_eq_true.mpr fun b hb => (List.mem_replicate.mp hb).2]
      exact q _ (s1.trans s2)

/-! ### an order that keeps facts -/
def waitM (fs : List (Str × Str)) (left : List Str) : List Str := (fs.filter fun f => decide (f.1 ∈ left)).map (·.2)
def freeM (fs : List (Str × Str)) (left : List Str) : List Str := left.filter fun n => decide (n ∉ waitM fs left)
def restM (fs : List (Str × Str)) (left : List Str) : List Str := left.filter fun n => decide (n ∈ waitM fs left)
def lineM (fs : List (Str × Str)) : Nat → List Str → List Str → Option (List Str)
  | _, [], pl => some pl
  | 0, _ :: _, _ => none
  | n + 1, x :: l, pl => if freeM fs (x :: l) = [] then none else lineM fs n (restM fs (x :: l)) (pl ++ freeM fs (x :: l))
theorem split_len (fs : List (Str × Str)) (left : List Str) : (freeM fs left).length + (restM fs left).length = left.length := by
  unfold freeM restM
  generalize waitM fs left = wt
  induction left with
  | nil => rfl
  | cons x l ih =>
    by_cases hx : x ∈ wt
    · rw [List.filter_cons_of_neg (by simpa using hx), List.filter_cons_of_pos (by simpa using hx), List.length_cons, List.length_cons]
      omega
    · rw [List.filter_cons_of_pos (by simpa using hx), List.filter_cons_of_neg (by simpa using hx), List.length_cons, List.length_cons]
      omega
theorem rest_lt {fs : List (Str × Str)} {left : List Str} (h : freeM fs left ≠ []) : (restM fs left).length < left.length := by
  have e := split_len fs left
  have := List.length_pos_iff.mpr h
  omega
def spLine (K : PySem.W.Frag) : Sp := fun vs H Q _ => ∃ (na a : Addr) (ns : List Str) (xs : List V) (fs : List (Str × Str)), vs = [.ref na, .ref a] ∧ Sq K H na (ns.map V.str) ∧ Sq K H a xs ∧ DpAll K H xs (fs.map dFct) ∧ ns.length ≤ 60 ∧ fs.length ≤ 60 ∧
  (lineM fs ns.length ns [] = none → ∀ H', Same H H' → Q .non H') ∧ (∀ pl, lineM fs ns.length ns [] = some pl → ∀ r H', Same H H' → H r = none → H' r = some (.lst (pl.map V.str)) → Q (.ref r) H')
theorem ok_line (T : TxtG K mg) : FnOk P w K mg base CX0 1 T.dLineUp.f T.dLineUp.fd ["names", "facts"] (spLine K) := by
  refine T.dLineUp.F.ok scDLineUp (fun vs H Q E h => ?_) (fun cdv A outer s H vs Q E hr h => ?_)
  · obtain ⟨na, a, ns, xs, fs, rfl, _⟩ := h
    rfl
  · obtain ⟨na, a, ns, xs, fs, rfl, hs, hx, ha, h60, f60, qN, qS⟩ := h
    refine ⟨_, (pss_cons (ps_set (i := 2) scDLineUp.nd rfl (.inr rfl) (pe_callTy call_list_of (by rfl) T.z_list (show bootBuiltins "list" = some (.type "list") by decide +kernel) (pa_cons (pv 0) pa_nil)))
      (pss_cons (ps_set (i := 3) scDLineUp.nd rfl (.inl rfl) (pe_lst pa_nil))
      (pss_cons (ps_while PassesOwn.never (pt_truth (pv 2) (by intro _; rfl))
      (pss_cons (ps_set (i := 4) scDLineUp.nd rfl (.inr rfl) (pe_lc (own := [("first", 5), ("then", 6)]) (g := (gTup K 2 (gCons (gName 5) (gCons (gName 6) gNil)))) rfl scDLineUp.nd (pi_seq (pv 1)) (blkOk_by (N := ["names", "facts", "left", "placed", "waiting", "first", "then", "free", "name"]) (sc := defScope sDLineUp) (by decide +kernel)) (fun _ _ _ _ _ => (pg_tup (n := 2) rfl (pgs_cons (pg_name (i := 5) scDLineUp.nd rfl (.inl rfl)) (pgs_cons (pg_name (i := 6) scDLineUp.nd rfl (.inl rfl)) pgs_nil)))) (fun _ _ _ _ _ => (pts_one (pt_cmpR (show OpR _ (compareOp .In) (rIn K false) from op_in_seq) (pv 5) (pv 2) (by rfl)))) (fun _ _ _ _ _ => (pv 6))))
      (pss_cons (ps_setLc (i := 7) (own := [("name", 8)]) (g := (gName 8)) rfl scDLineUp.nd rfl rfl (sw_true rfl rfl rfl (by decide +kernel)) (pi_list (pv 2)) (blkOk_by (N := ["names", "facts", "left", "placed", "waiting", "first", "then", "free", "name"]) (sc := defScope sDLineUp) (by decide +kernel)) (fun _ _ _ _ _ => (pg_name (i := 8) scDLineUp.nd rfl (.inl rfl))) (fun _ _ _ _ _ => (pts_one (pt_cmpR (show OpR _ (compareOp .NotIn) (rIn K true) from op_notIn_seq) (pv 8) (pv 4) (by rfl)))) (fun _ _ _ _ _ => (pv 8)))
      (pss_cons (ps_if (pt_not (pt_truth (pv 7) (by intro _; rfl)))
      (pss_one (ps_ret pe_non))
      pss_nil)
      (pss_cons (ps_set (i := 3) scDLineUp.nd rfl (.inl rfl) (pe_op op_cat (pv 3) (pv 7)))
      (pss_one (ps_set (i := 2) scDLineUp.nd rfl (.inr rfl) (pe_lc (own := [("name", 8)]) (g := (gName 8)) rfl scDLineUp.nd (pi_list (pv 2)) (blkOk_by (N := ["names", "facts", "left", "placed", "waiting", "first", "then", "free", "name"]) (sc := defScope sDLineUp) (by decide +kernel)) (fun _ _ _ _ _ => (pg_name (i := 8) scDLineUp.nd rfl (.inl rfl))) (fun _ _ _ _ _ => (pts_one (pt_cmpR (show OpR _ (compareOp .In) (rIn K false) from op_in_seq) (pv 8) (pv 4) (by rfl)))) (fun _ _ _ _ _ => (pv 8))))))))))
      (pss_one (ps_ret (pv 3)))))), ?_⟩
    simp only [and_assoc, tSeq, tAsg, tOp, tUn, rI, rI0, rU, tVar, tC, gName, L2.start, tIfS, tTest, tB, tCB, tCons, tNil, tIf, tRet, tRetN, tLst, tTup, tNext, tDrop, tNot, tNotV, tAnd, tOr, tAndV, tOrV, tPar, tAug, ipI, rEq, rNe, gSub, rSetL, rIxL, rIxT, tBM, tBM0, rAppend, rPopAt, gTup, gCons, gNil, tCall, tSl, tPart, tNoPart, rSlL, rCat, rEqD, rNeD, rIn, scal, List.map_cons, List.map_nil, List.length_cons, List.length_nil, List.length_map, List.cons_append, List.nil_append, List.append_nil, List.replicate, List.getElem?_cons_zero, List.getElem?_cons_succ, List.set_cons_zero, List.set_cons_succ, Option.some.injEq, exists_eq_left', exists_eq_left, exists_eq_right, exists_and_left, exists_and_right, V.int.injEq, V.ref.injEq, V.str.injEq, V.bl.injEq, reduceCtorEq, false_and, and_false, exists_false, or_false, false_or, true_and, and_true, List.cons.injEq, decide_eq_true_eq, cxOf, if_true, if_false, Bool.false_eq_true, Nat.reduceAdd, Nat.reduceSub, Nat.zero_add, Nat.add_sub_cancel_left, Nat.add_sub_cancel, Nat.sub_self, sFld, tFld, tFor_eq, tLc_eq, iRng1, iRng2, iList, iTup, iEnum, rIsi, rIsiT, iSeq, wipe, tSc1, rLenX, rSum, rNeNil, rAll]
    have nl60 : ns.length ≤ 60 := h60
    have xl : xs.length = fs.length := by rw [dpA_len ha, List.length_map]
    refine ⟨_, hs, fun l nl => ⟨Nat.zero_le _, fun p np => ?_⟩⟩
    have sl := same_upd (o := .lst (ns.map V.str)) nl
    have el : upd H l (.lst (ns.map V.str)) l = some (.lst (ns.map V.str)) := upd_same
    generalize upd H l (.lst (ns.map V.str)) = H1 at sl el np ⊢
    have sp := same_upd (o := .lst ([] : List V)) np
    have ep : upd H1 p (.lst ([] : List V)) p = some (.lst []) := upd_same
    generalize upd H1 p (.lst ([] : List V)) = H2 at sp ep ⊢
    have nil_ : ∀ (n : Nat) (pl : List Str), lineM fs n [] pl = some pl := fun n pl => by cases n <;> rfl
    refine while_by (fun σ H' => ∃ (lA pA : Addr) (left pl : List Str) (n : Nat) (o4 o5 o6 o7 o8 : Option V), σ = [some (.ref na), some (.ref a), some (.ref lA), some (.ref pA), o4, o5, o6, o7, o8] ∧ Same H H' ∧ H' lA = some (.lst (left.map V.str)) ∧ H' pA = some (.lst (pl.map V.str)) ∧ H pA = none ∧ left.length ≤ n ∧ lineM fs n left pl = lineM fs ns.length ns [] ∧ left.length ≤ 60 ∧ pl.length + left.length ≤ 60)
      (fun σ H' => match σ with
        | [_, _, some (.ref lA), _, _, _, _, _, _] => match H' lA with
          | some (.lst xs) => xs.length
          | _ => 0
        | _ => 0) ⟨l, p, ns, [], ns.length, _, _, _, _, _, rfl, sl.trans sp, sp _ _ el, ep, sl.free np, Nat.le_refl _, rfl, h60, by simpa using h60⟩ ?_ ?_
    · rintro σ H3 ⟨lA, pA, left, pl, n, o4, o5, o6, o7, o8, rfl, s3, eL, eP, nP, hn, hR, hL, hS⟩
      simp only [and_assoc, tSeq, tAsg, tOp, tUn, rI, rI0, rU, tVar, tC, gName, L2.start, tIfS, tTest, tB, tCB, tCons, tNil, tIf, tRet, tRetN, tLst, tTup, tNext, tDrop, tNot, tNotV, tAnd, tOr, tAndV, tOrV, tPar, tAug, ipI, rEq, rNe, gSub, rSetL, rIxL, rIxT, tBM, tBM0, rAppend, rPopAt, gTup, gCons, gNil, tCall, tSl, tPart, tNoPart, rSlL, rCat, rEqD, rNeD, rIn, scal, List.map_cons, List.map_nil, List.length_cons, List.length_nil, List.length_map, List.cons_append, List.nil_append, List.append_nil, List.replicate, List.getElem?_cons_zero, List.getElem?_cons_succ, List.set_cons_zero, List.set_cons_succ, Option.some.injEq, exists_eq_left', exists_eq_left, exists_eq_right, exists_and_left, exists_and_right, V.int.injEq, V.ref.injEq, V.str.injEq, V.bl.injEq, reduceCtorEq, false_and, and_false, exists_false, or_false, false_or, true_and, and_true, List.cons.injEq, decide_eq_true_eq, cxOf, if_true, if_false, Bool.false_eq_true, Nat.reduceAdd, Nat.reduceSub, Nat.zero_add, Nat.add_sub_cancel_left, Nat.add_sub_cancel, Nat.sub_self, sFld, tFld, tFor_eq, tLc_eq, iRng1, iRng2, iList, iTup, iEnum, rIsi, rIsiT, iSeq, wipe, tSc1, rLenX, rSum, rNeNil, rAll]
      refine ⟨!(left.map V.str).isEmpty, .inl ⟨_, sqL_of eL, rfl⟩, ?_⟩
      cases left with
      | nil =>
        rw [if_neg (by simp)]
        rw [nil_] at hR
        exact qS pl hR.symm pA H3 s3 nP eP
      | cons x0 l0 =>
        rw [if_pos (by rfl)]
        obtain ⟨left, hleft⟩ : ∃ left, left = x0 :: l0 := ⟨_, rfl⟩
        obtain ⟨J, hJ⟩ := (hx.mono s3).it
        refine ⟨xs, J, hJ, fun D nD => ?_⟩
        have dI : (Str × Str) := ("", "")
        have at_ : ∀ {i : Nat} {v : V} {H' : Hp}, Same H3 H' → xs[i]? = some v → ∃ b, v = .ref b ∧ SqT K H' b [.str (fs.getD i dI).1, .str (fs.getD i dI).2] := fun {i v H'} s e => by
          obtain ⟨d, ed, hd⟩ := dpA_get (dpA_mono (s3.trans s) _ _ ha) e
          rw [List.getElem?_map] at ed
          obtain ⟨f, ef, rfl⟩ := Option.map_eq_some_iff.mp ed
          have e2 : fs.getD i dI = f := by rw [List.getD_eq_getElem?_getD, ef]; rfl
          rw [e2]
          exact dp_fct hd
        have one : ∀ (i : Nat) (x : V) (H' : Hp) (Aq : V → Hp → Prop) (Bq : Hp → Prop), Same H3 H' → xs[i]? = some x → (decide ((fs.getD i dI).1 ∈ left) = true → Aq (.str (fs.getD i dI).2) H') → (decide ((fs.getD i dI).1 ∈ left) = false → Bq H') →
            gTup K 2 (gCons (gName 5) (gCons (gName 6) gNil)) x (wipe [some (.ref na), some (.ref a), some (.ref lA), some (.ref pA), o4, o5, o6, o7, o8] [5, 6]) H' fun σ2 H2 => wipe σ2 [5, 6] = wipe [some (.ref na), some (.ref a), some (.ref lA), some (.ref pA), o4, o5, o6, o7, o8] [5, 6] ∧ tTest (tOp (rIn K false) (tVar 5) (tVar 2)) σ2 H2 fun b H3 => if b = true then tVar 6 σ2 H3 Aq else Bq H3 := fun i x H' Aq Bq s e hA hB => by
          obtain ⟨b, rfl, hb⟩ := at_ s e
          simp only [and_assoc, tSeq, tAsg, tOp, tUn, rI, rI0, rU, tVar, tC, gName, L2.start, tIfS, tTest, tB, tCB, tCons, tNil, tIf, tRet, tRetN, tLst, tTup, tNext, tDrop, tNot, tNotV, tAnd, tOr, tAndV, tOrV, tPar, tAug, ipI, rEq, rNe, gSub, rSetL, rIxL, rIxT, tBM, tBM0, rAppend, rPopAt, gTup, gCons, gNil, tCall, tSl, tPart, tNoPart, rSlL, rCat, rEqD, rNeD, rIn, scal, List.map_cons, List.map_nil, List.length_cons, List.length_nil, List.length_map, List.cons_append, List.nil_append, List.append_nil, List.replicate, List.getElem?_cons_zero, List.getElem?_cons_succ, List.set_cons_zero, List.set_cons_succ, Option.some.injEq, exists_eq_left', exists_eq_left, exists_eq_right, exists_and_left, exists_and_right, V.int.injEq, V.ref.injEq, V.str.injEq, V.bl.injEq, reduceCtorEq, false_and, and_false, exists_false, or_false, false_or, true_and, and_true, List.cons.injEq, decide_eq_true_eq, cxOf, if_true, if_false, Bool.false_eq_true, Nat.reduceAdd, Nat.reduceSub, Nat.zero_add, Nat.add_sub_cancel_left, Nat.add_sub_cancel, Nat.sub_self, sFld, tFld, tFor_eq, tLc_eq, iRng1, iRng2, iList, iTup, iEnum, rIsi, rIsiT, iSeq, wipe, tSc1, rLenX, rSum, rNeNil, rAll]
          refine ⟨_, hb, rfl, _, _, rfl, _, _, rfl, rfl, _, .inl (sqL_of (s _ _ eL)), rfl, flat_strs _, ?_⟩
          rw [inV_strs, ← hleft]
          cases h : decide ((fs.getD i dI).1 ∈ left) with
          | true =>
            rw [if_pos rfl]
            exact hA h
          | false =>
            rw [if_neg (by simp)]
            exact hB h
        have wt : ∀ (H' : Hp), ((List.range xs.length).filter fun i => decide ((fs.getD i dI).1 ∈ left)).map (fun i => V.str (fs.getD i dI).2) = (waitM fs left).map V.str := fun _ => by
          rw [xl, range_filter fs dI (fun f => decide (f.1 ∈ left)) (fun f => V.str f.2)]
          unfold waitM
          rw [List.map_map]
          rfl
        have xn : xs.length < sizeLine := small1000 (by omega)
        have ln : left.length < sizeLine := small1000 (by rw [hleft]; omega)
        rw [← hleft] at eL hL hS hR hn
        -- who waits
        have goes : ∀ (Qd : Hp → Prop), (∀ H4, Same H3 H4 → H4 D = some (.lst ((waitM fs left).map V.str)) → Qd H4) → LcGoes J (gTup K 2 (gCons (gName 5) (gCons (gName 6) gNil))) (tTest (tOp (rIn K false) (tVar 5) (tVar 2))) (tVar 6) [5, 6] [some (.ref na), some (.ref a), some (.ref lA), some (.ref pA), o4, o5, o6, o7, o8] H3 D Qd := fun Qd hQ => by
          rcases hJ with ⟨rfl, hq⟩ | ⟨rfl, hq⟩
          · refine lg_filter walk_list (fun i => decide ((fs.getD i dI).1 ∈ left)) (fun i => V.str (fs.getD i dI).2) xn nD (fun H s => s.seq hq) (fun i x H H' Aq Bq _ s hD hY hA hB => ?_) (fun H4 s4 e4 => hQ H4 s4 (by rw [← wt H4]; exact e4))
            obtain ⟨rfl, hx⟩ := hY
            exact one i x H' Aq Bq s hx (fun h => hA _ h (Same.refl _)) (fun h => hB _ h (Same.refl _))
          · refine lg_filter walk_tup (fun i => decide ((fs.getD i dI).1 ∈ left)) (fun i => V.str (fs.getD i dI).2) xn nD (fun H s => Same.seqT s hq) (fun i x H H' Aq Bq _ s hD hY hA hB => ?_) (fun H4 s4 e4 => hQ H4 s4 (by rw [← wt H4]; exact e4))
            obtain ⟨rfl, hx⟩ := hY
            exact one i x H' Aq Bq s hx (fun h => hA _ h (Same.refl _)) (fun h => hB _ h (Same.refl _))
        refine goes _ fun H4 s4 e4 => ⟨⟨_, sqL_of (s4 _ _ eL)⟩, fun D1 nD1 => ?_⟩
        have eL4 := s4 _ _ eL
        refine lg_keep left V.str V.str (fun n => decide (n ∉ waitM fs left)) (.inl ⟨rfl, sqL_of eL4⟩) ln nD1 (fun n H5 Aq Bq hm s5 hD hA hB => ?_) (fun H5 s5 e5 => ?_)
        · simp only [and_assoc, tSeq, tAsg, tOp, tUn, rI, rI0, rU, tVar, tC, gName, L2.start, tIfS, tTest, tB, tCB, tCons, tNil, tIf, tRet, tRetN, tLst, tTup, tNext, tDrop, tNot, tNotV, tAnd, tOr, tAndV, tOrV, tPar, tAug, ipI, rEq, rNe, gSub, rSetL, rIxL, rIxT, tBM, tBM0, rAppend, rPopAt, gTup, gCons, gNil, tCall, tSl, tPart, tNoPart, rSlL, rCat, rEqD, rNeD, rIn, scal, List.map_cons, List.map_nil, List.length_cons, List.length_nil, List.length_map, List.cons_append, List.nil_append, List.append_nil, List.replicate, List.getElem?_cons_zero, List.getElem?_cons_succ, List.set_cons_zero, List.set_cons_succ, Option.some.injEq, exists_eq_left', exists_eq_left, exists_eq_right, exists_and_left, exists_and_right, V.int.injEq, V.ref.injEq, V.str.injEq, V.bl.injEq, reduceCtorEq, false_and, and_false, exists_false, or_false, false_or, true_and, and_true, List.cons.injEq, decide_eq_true_eq, cxOf, if_true, if_false, Bool.false_eq_true, Nat.reduceAdd, Nat.reduceSub, Nat.zero_add, Nat.add_sub_cancel_left, Nat.add_sub_cancel, Nat.sub_self, sFld, tFld, tFor_eq, tLc_eq, iRng1, iRng2, iList, iTup, iEnum, rIsi, rIsiT, iSeq, wipe, tSc1, rLenX, rSum, rNeNil, rAll]
          refine ⟨_, .inl (sqL_of (s5 _ _ e4)), rfl, flat_strs _, ?_⟩
          rw [inV_strs]
          by_cases h : n ∈ waitM fs left
          · rw [decide_eq_true h, if_neg (by simp)]
            exact hB _ (decide_eq_false (fun z => z h)) (Same.refl _)
          · rw [decide_eq_false h, if_pos (by rfl)]
            exact hA _ (decide_eq_true h) (Same.refl _)
        · have e5 : H5 D1 = some (.lst ((freeM fs left).map V.str)) := e5
          have s35 := s4.trans s5
          refine ⟨!((freeM fs left).map V.str).isEmpty, .inl ⟨_, sqL_of e5, rfl⟩, ?_⟩
          by_cases hf : freeM fs left = []
          · rw [hf, if_pos (by rfl)]
            refine qN ?_ _ (s3.trans s35)
            rw [← hR, hleft]
            rw [hleft] at hf hn
            cases n with
            | zero => exact absurd hn (by simp)
            | succ n =>
              show (if freeM fs (x0 :: l0) = [] then none else _) = none
              rw [if_pos hf]
          · have lt := rest_lt hf
            have fr : (freeM fs left).length + (restM fs left).length ≤ left.length + (restM fs left).length := Nat.add_le_add_right (List.length_filter_le _ _) _
            have both : (freeM fs left).length + (restM fs left).length = left.length := split_len fs left
            rw [if_neg (by cases h : freeM fs left with | nil => exact absurd h hf | cons _ _ => simp)]
            refine ⟨_, s35 _ _ eP, _, e5, by rw [List.length_map, List.length_map]; exact Nat.le_trans (show pl.length + (freeM fs left).length ≤ 1000 by omega) (by decide), fun p2 np2 => ?_⟩
            have s6 := same_upd (o := .lst (pl.map V.str ++ (freeM fs left).map V.str)) np2
            have e6 : upd H5 p2 (.lst (pl.map V.str ++ (freeM fs left).map V.str)) p2 = some (.lst (pl.map V.str ++ (freeM fs left).map V.str)) := upd_same
            generalize upd H5 p2 (.lst (pl.map V.str ++ (freeM fs left).map V.str)) = H6 at s6 e6 ⊢
            rw [← List.map_append] at e6
            have s36 := s35.trans s6
            have eL6 := s36 _ _ eL
            refine ⟨⟨_, sqL_of eL6⟩, fun D2 nD2 => ?_⟩
            refine lg_keep left V.str V.str (fun n => decide (n ∈ waitM fs left)) (.inl ⟨rfl, sqL_of eL6⟩) ln nD2 (fun n H7 Aq Bq hm s7 hD hA hB => ?_) (fun H7 s7 e7 => ?_)
            · simp only [and_assoc, tSeq, tAsg, tOp, tUn, rI, rI0, rU, tVar, tC, gName, L2.start, tIfS, tTest, tB, tCB, tCons, tNil, tIf, tRet, tRetN, tLst, tTup, tNext, tDrop, tNot, tNotV, tAnd, tOr, tAndV, tOrV, tPar, tAug, ipI, rEq, rNe, gSub, rSetL, rIxL, rIxT, tBM, tBM0, rAppend, rPopAt, gTup, gCons, gNil, tCall, tSl, tPart, tNoPart, rSlL, rCat, rEqD, rNeD, rIn, scal, List.map_cons, List.map_nil, List.length_cons, List.length_nil, List.length_map, List.cons_append, List.nil_append, List.append_nil, List.replicate, List.getElem?_cons_zero, List.getElem?_cons_succ, List.set_cons_zero, List.set_cons_succ, Option.some.injEq, exists_eq_left', exists_eq_left, exists_eq_right, exists_and_left, exists_and_right, V.int.injEq, V.ref.injEq, V.str.injEq, V.bl.injEq, reduceCtorEq, false_and, and_false, exists_false, or_false, false_or, true_and, and_true, List.cons.injEq, decide_eq_true_eq, cxOf, if_true, if_false, Bool.false_eq_true, Nat.reduceAdd, Nat.reduceSub, Nat.zero_add, Nat.add_sub_cancel_left, Nat.add_sub_cancel, Nat.sub_self, sFld, tFld, tFor_eq, tLc_eq, iRng1, iRng2, iList, iTup, iEnum, rIsi, rIsiT, iSeq, wipe, tSc1, rLenX, rSum, rNeNil, rAll]
              refine ⟨_, .inl (sqL_of (s7 _ _ (s6 _ _ (s5 _ _ e4)))), rfl, flat_strs _, ?_⟩
              rw [inV_strs]
              by_cases h : n ∈ waitM fs left
              · rw [decide_eq_true h, if_pos rfl]
                exact hA _ (decide_eq_true h) (Same.refl _)
              · rw [decide_eq_false h, if_neg (by simp)]
                exact hB _ (decide_eq_false h) (Same.refl _)
            · have e7 : H7 D2 = some (.lst ((restM fs left).map V.str)) := e7
              have s37 := s36.trans s7
              refine ⟨s3.trans s37, ⟨restM fs left, e7, pl ++ freeM fs left, s7 _ _ e6, (s3.trans s35).free np2, n - 1, by omega, ?_, by omega, by rw [List.length_append]; omega⟩, ?_⟩
              · rw [← hR]
                rw [hleft] at hf hn ⊢
                cases n with
                | zero => exact absurd hn (by simp)
                | succ n =>
                  show _ = (if freeM fs (x0 :: l0) = [] then none else lineM fs n (restM fs (x0 :: l0)) (pl ++ freeM fs (x0 :: l0)))
                  rw [if_neg hf]
                  rfl
              · rw [e7, eL]
                show ((restM fs left).map V.str).length < (left.map V.str).length
                rw [List.length_map, List.length_map]
                exact lt
    · intro σ H1 Q1 Q2 hQ h
      obtain ⟨v, hv, k, ht, q⟩ := h
      exact ⟨v, hv, k, ht, hQ _ _ q⟩

end
end He

namespace He
open PySem PySem.Spec PyProof.Rows L2
section
variable {P : Program} {w : World} {K : PySem.W.Frag} {mg : Str → Option Value} {base : Heap}

theorem ys_map {α : Type} {ys : List V} {g : List α} {f : α → V} (hl : ys.length = g.length) (h : ∀ (i : Nat) (y : V), ys[i]? = some y → ∃ n, g[i]? = some n ∧ y = f n) : ys = g.map f := by
  refine List.ext_getElem? fun i => ?_
  rw [List.getElem?_map]
  cases e : ys[i]? with
  | none =>
    rw [List.getElem?_eq_none (by have := List.getElem?_eq_none_iff.mp e; omega)]
    rfl
  | some y =>
    obtain ⟨n, e2, rfl⟩ := h i y e
    rw [e2]
    rfl
theorem tup_of {H : Hp} {a : Addr} {xs : List V} {Q : VK} (h : Sq K H a xs) (g : ∀ H' v, Same H H' → Q v H') : rTupOf K [.ref a] H Q := by
  rcases h with h | h
  · exact ⟨a, xs, rfl, .inl ⟨h, fun l nl => g _ _ (same_upd nl)⟩⟩
  · exact ⟨a, xs, rfl, .inr ⟨h, g _ _ (Same.refl _)⟩⟩
/-- the class Family, and the error InvalidFamily -/
structure TxtF (K : PySem.W.Frag) (mg : Str → Option Value) where
  m : TxtM K mg
  cl : Cls K m.n.w.t.cFamily
  nP : NoAttr K m.n.w.t.cFamily "people"
  nW : NoAttr K m.n.w.t.cFamily "wills"
  nF : NoAttr K m.n.w.t.cFamily "facts"
  iV : List V
  iF : Addr
  iD : FuncData
  iFn : FunD K "__init__" "Family.__init__" (defArgs sDFamilyInit) (defBody sDFamilyInit) (defScope sDFamilyInit) iV [] iF iD
  iB : L2.Binds K iD ["self", "people", "wills", "facts"] []
  iM : Mk K m.n.w.t.cFamily iF
  oe : OexC K m.n.w.t.cInvalidFamily
  xF : Addr
  xD : FuncData
  xFn : Fun K "__init__" "InvalidFamily.__init__" sDInvalidFamilyInit xF xD
  xB : L2.Binds K xD ["self", "word"] []
  xI : PySem.W.findIn K (.ref m.n.w.t.cInvalidFamily) "__init__" = some (some (.ref xF))
  xT : PySem.W.typeIn K (.ref xF) = some (.type "function")
  xN : PySem.W.findIn K (.ref m.n.w.t.cInvalidFamily) "word" = some none
  xf : XfC K m.n.w.t.cInvalidFamily
  self : PySem.W.exmOne K (.ref m.n.w.t.cInvalidFamily) (.ref m.n.w.t.cInvalidFamily) = some true
  isx : L2.ExcC K m.n.w.t.cInvalidFamily
  k1 : PySem.W.kitOne K (.ref m.n.w.t.cInvalidFamily) (.ref m.n.w.t.cHeirError) = some true
  k2 : PySem.W.kitOne K (.ref m.n.w.t.cInvalidFamily) (.ref m.n.w.t.cInvalidWill) = some false
def spXI (C : Addr) (f : Str) : Sp := fun vs H Q _ => ∃ (a : Addr) (v : V), vs = [.ref a, v] ∧ H a = some (exo a C none) ∧ ∀ dx, H dx = none → dx ≠ a → Q .non (upd (upd H dx (exd dx [(f, v)])) a (exo a C (some dx)))
theorem ok_ifinit (X : TxtF K mg) : FnOk P w K mg base CX0 1 X.xF X.xD ["self", "word"] (spXI X.m.n.w.t.cInvalidFamily "word") := by
  refine X.xFn.ok scDInvalidFamilyInit (fun vs H Q E h => ?_) (fun cdv A outer s H vs Q E hr h => ?_)
  · obtain ⟨a, v, rfl, _⟩ := h
    rfl
  · obtain ⟨a, v, rfl, e, q⟩ := h
    refine ⟨_, (pss_one (ps_ost (pv 0) (pv 1))), ?_⟩
    simp only [and_assoc, tSeq, tAsg, tOp, tUn, rI, rI0, rU, tVar, tC, gName, L2.start, tIfS, tTest, tB, tCB, tCons, tNil, tIf, tRet, tRetN, tLst, tTup, tNext, tDrop, tNot, tNotV, tAnd, tOr, tAndV, tOrV, tPar, tAug, ipI, rEq, rNe, gSub, rSetL, rIxL, rIxT, tBM, tBM0, rAppend, rPopAt, gTup, gCons, gNil, tCall, tSl, tPart, tNoPart, rSlL, rCat, rEqD, rNeD, rIn, scal, List.map_cons, List.map_nil, List.length_cons, List.length_nil, List.length_map, List.cons_append, List.nil_append, List.append_nil, List.replicate, List.getElem?_cons_zero, List.getElem?_cons_succ, List.set_cons_zero, List.set_cons_succ, Option.some.injEq, exists_eq_left', exists_eq_left, exists_eq_right, exists_and_left, exists_and_right, V.int.injEq, V.ref.injEq, V.str.injEq, V.bl.injEq, reduceCtorEq, false_and, and_false, exists_false, or_false, false_or, true_and, and_true, List.cons.injEq, decide_eq_true_eq, cxOf, if_true, if_false, Bool.false_eq_true, Nat.reduceAdd, Nat.reduceSub, Nat.zero_add, Nat.add_sub_cancel_left, Nat.add_sub_cancel, Nat.sub_self, sFld, tFld, tFor_eq, tLc_eq, iRng1, iRng2, iList, iTup, iEnum, rIsi, rIsiT, iSeq, wipe, tSc1, rLenX, rSum, rNeNil, rAll, tMkO, tOst, tNever, sFld, tFld]
    exact ⟨_, X.oe, X.xN, .inl ⟨e, q⟩⟩
/-- a family of good parts is made, or has a ring -/
def spFInit (K : PySem.W.Frag) (C CW CT : Addr) : Sp := fun vs H Q E => ∃ (x dx pa wa fa : Addr) (pxs wxs fxs : List V) (ps : List (Str × Int)) (ws : List (Str × List Sh)) (fs : List (Str × Str)), vs = [.ref x, .ref pa, .ref wa, .ref fa] ∧ H x = some (.ins C dx []) ∧
  (Sq K H pa pxs ∧ DpAll K H pxs (ps.map dPer) ∧ PplOk ps) ∧ (Sq K H wa wxs ∧ WlsD K CW H wxs ws ∧ WlsOk (ps.map (·.1)) ws) ∧ (Sq K H fa fxs ∧ DpAll K H fxs (fs.map dFct) ∧ FctOk (ws.map (·.1)) fs) ∧
  (lineM fs (ws.map (·.1)).length (ws.map (·.1)) [] = none → ∀ e H', Same H H' → H e = none → H' e = some (.xd [("word", .str "ring")]) → E (.ref CT) (some e) H') ∧
  (lineM fs (ws.map (·.1)).length (ws.map (·.1)) [] ≠ none → ∀ H', (∀ b o, b ≠ x → H b = some o → H' b = some o) → Q .non H')
theorem ok_finit (X : TxtF K mg) : FnOk P w K mg base (L2.CX P w) 6 X.iF X.iD ["self", "people", "wills", "facts"] (spFInit K X.m.n.w.t.cFamily X.m.n.w.t.cWill X.m.n.w.t.cInvalidFamily) := by
  refine X.iFn.ok scDFamilyInit (fun vs H Q E h => ?_) (fun cdv A outer s H vs Q E hr h => ?_)
  · obtain ⟨x, dx, pa, wa, fa, pxs, wxs, fxs, ps, ws, fs, rfl, _⟩ := h
    rfl
  · obtain ⟨x, dx, pa, wa, fa, pxs, wxs, fxs, ps, ws, fs, rfl, hx, ⟨p1, p2, p3⟩, ⟨w1, w2, w3⟩, ⟨f1, f2, f3⟩, qE, qG⟩ := h
    refine ⟨_, (pss_cons (ps_if (pt_not (pt_val (pe_call (ok_ppl X.m.n.w.t) (hr.mono (by decide)) (by rfl) X.m.n.w.t.dArePeople.g X.m.n.w.t.dArePeople.F.kp X.m.n.w.t.dArePeople.b .nil pass0 (pa_cons (pv 1) pa_nil))))
      (pss_one ps_never)
      pss_nil)
      (pss_cons (ps_if (pt_not (pt_val (pe_call (ok_wls X.m) (hr.mono (by decide)) (by rfl) X.m.n.w.t.dAreWills.g X.m.n.w.t.dAreWills.F.kp X.m.n.w.t.dAreWills.b .nil pass0 (pa_cons (pv 2) (pa_cons (pe_lc (own := [("name", 4), ("_", 5)]) (g := (gTup K 2 (gCons (gName 4) (gCons (gName 5) gNil)))) (tt := tYes) rfl scDFamilyInit.nd (pi_seq (pv 1)) (blkOk_by (N := ["self", "people", "wills", "facts", "name", "_", "dead"]) (sc := defScope sDFamilyInit) (by decide +kernel)) (fun _ _ _ _ _ => (pg_tup (n := 2) rfl (pgs_cons (pg_name (i := 4) scDFamilyInit.nd rfl (.inl rfl)) (pgs_cons (pg_name (i := 5) scDFamilyInit.nd rfl (.inl rfl)) pgs_nil)))) (fun _ _ _ _ _ => pts_nil) (fun _ _ _ _ _ => (pv 4))) pa_nil)))))
      (pss_one ps_never)
      pss_nil)
      (pss_cons (ps_setLc (i := 6) (own := [("name", 4), ("_", 5)]) (g := (gTup K 2 (gCons (gName 4) (gCons (gName 5) gNil)))) (tt := tYes) rfl scDFamilyInit.nd rfl rfl (sw_true rfl rfl rfl (by decide +kernel)) (pi_seq (pv 2)) (blkOk_by (N := ["self", "people", "wills", "facts", "name", "_", "dead"]) (sc := defScope sDFamilyInit) (by decide +kernel)) (fun _ _ _ _ _ => (pg_tup (n := 2) rfl (pgs_cons (pg_name (i := 4) scDFamilyInit.nd rfl (.inl rfl)) (pgs_cons (pg_name (i := 5) scDFamilyInit.nd rfl (.inl rfl)) pgs_nil)))) (fun _ _ _ _ _ => pts_nil) (fun _ _ _ _ _ => (pv 4)))
      (pss_cons (ps_if (pt_not (pt_val (pe_call (ok_fct X.m.n.w.t) (hr.mono (by decide)) (by rfl) X.m.n.w.t.dAreFacts.g X.m.n.w.t.dAreFacts.F.kp X.m.n.w.t.dAreFacts.b .nil pass0 (pa_cons (pv 3) (pa_cons (pv 6) pa_nil)))))
      (pss_one ps_never)
      pss_nil)
      (pss_cons (ps_if (pt_cmpR op_isN (pe_call (ok_line X.m.n.w.t) (hr.mono (by decide)) (by rfl) X.m.n.w.t.dLineUp.g X.m.n.w.t.dLineUp.F.kp X.m.n.w.t.dLineUp.b .nil pass0 (pa_cons (pv 6) (pa_cons (pv 3) pa_nil))) pe_non (nomark _))
      (pss_one (ps_raise rfl (takes_of rfl rfl rfl rfl) (pmk_oex X.oe X.xI X.xT (ok_ifinit X) (hr.mono (by decide)) X.xB .nil pass0 (by rfl) X.m.n.w.t.gcInvalidFamily (pa_cons pe_str pa_nil))))
      pss_nil)
      (pss_cons (ps_fld (pv 0) (pe_callTy cr_tup (by rfl) X.m.n.w.t.z_tuple (show bootBuiltins "tuple" = some (.type "tuple") by decide +kernel) (pa_cons (pv 1) pa_nil)) rfl)
      (pss_cons (ps_fld (pv 0) (pe_callTy cr_tup (by rfl) X.m.n.w.t.z_tuple (show bootBuiltins "tuple" = some (.type "tuple") by decide +kernel) (pa_cons (pv 2) pa_nil)) rfl)
      (pss_one (ps_fld (pv 0) (pe_callTy cr_tup (by rfl) X.m.n.w.t.z_tuple (show bootBuiltins "tuple" = some (.type "tuple") by decide +kernel) (pa_cons (pv 3) pa_nil)) rfl))))))))), ?_⟩
    simp only [and_assoc, tSeq, tAsg, tOp, tUn, rI, rI0, rU, tVar, tC, gName, L2.start, tIfS, tTest, tB, tCB, tCons, tNil, tIf, tRet, tRetN, tLst, tTup, tNext, tDrop, tNot, tNotV, tAnd, tOr, tAndV, tOrV, tPar, tAug, ipI, rEq, rNe, gSub, rSetL, rIxL, rIxT, tBM, tBM0, rAppend, rPopAt, gTup, gCons, gNil, tCall, tSl, tPart, tNoPart, rSlL, rCat, rEqD, rNeD, rIn, scal, List.map_cons, List.map_nil, List.length_cons, List.length_nil, List.length_map, List.cons_append, List.nil_append, List.append_nil, List.replicate, List.getElem?_cons_zero, List.getElem?_cons_succ, List.set_cons_zero, List.set_cons_succ, Option.some.injEq, exists_eq_left', exists_eq_left, exists_eq_right, exists_and_left, exists_and_right, V.int.injEq, V.ref.injEq, V.str.injEq, V.bl.injEq, reduceCtorEq, false_and, and_false, exists_false, or_false, false_or, true_and, and_true, List.cons.injEq, decide_eq_true_eq, cxOf, if_true, if_false, Bool.false_eq_true, Nat.reduceAdd, Nat.reduceSub, Nat.zero_add, Nat.add_sub_cancel_left, Nat.add_sub_cancel, Nat.sub_self, sFld, tFld, tFor_eq, tLc_eq, iRng1, iRng2, iList, iTup, iEnum, rIsi, rIsiT, iSeq, wipe, tSc1, rLenX, rSum, rNeNil, rAll, tMkO, tOst, tNever, sFld, tFld, spPpl, spWls, spFct, spLine, spXI]
    have pxl : pxs.length = ps.length := by rw [dpA_len p2, List.length_map]
    have wxl := w2.1
    have p60 := p3.l
    have w60 := w3.l
    have f60 := f3.l
    refine ⟨ps, ⟨pa, pxs, rfl, p1, p2⟩, p3, fun H1 s1 => ?_⟩
    rw [if_neg (by simp)]
    obtain ⟨J1, hJ1⟩ := (p1.mono s1).it
    refine ⟨pxs, J1, hJ1, fun D1 nD1 => ?_⟩
    refine lg_pure (fun i y H => ∃ p, ps[i]? = some p ∧ y = .str p.1) hJ1 (small1000 (by omega)) nD1 (fun _ _ _ _ _ h => h) (fun i x2 H2 Φ hx2 s2 hD hΦ => ?_) (fun ys H2 s2 eD hl2 hY => ?_)
    · obtain ⟨dd, ed, hd⟩ := dpA_get (dpA_mono (s1.trans s2) _ _ p2) hx2
      rw [List.getElem?_map] at ed
      obtain ⟨pp, ep, rfl⟩ := Option.map_eq_some_iff.mp ed
      obtain ⟨b, rfl, hb⟩ := dp_per hd
      simp only [and_assoc, tSeq, tAsg, tOp, tUn, rI, rI0, rU, tVar, tC, gName, L2.start, tIfS, tTest, tB, tCB, tCons, tNil, tIf, tRet, tRetN, tLst, tTup, tNext, tDrop, tNot, tNotV, tAnd, tOr, tAndV, tOrV, tPar, tAug, ipI, rEq, rNe, gSub, rSetL, rIxL, rIxT, tBM, tBM0, rAppend, rPopAt, gTup, gCons, gNil, tCall, tSl, tPart, tNoPart, rSlL, rCat, rEqD, rNeD, rIn, scal, List.map_cons, List.map_nil, List.length_cons, List.length_nil, List.length_map, List.cons_append, List.nil_append, List.append_nil, List.replicate, List.getElem?_cons_zero, List.getElem?_cons_succ, List.set_cons_zero, List.set_cons_succ, Option.some.injEq, exists_eq_left', exists_eq_left, exists_eq_right, exists_and_left, exists_and_right, V.int.injEq, V.ref.injEq, V.str.injEq, V.bl.injEq, reduceCtorEq, false_and, and_false, exists_false, or_false, false_or, true_and, and_true, List.cons.injEq, decide_eq_true_eq, cxOf, if_true, if_false, Bool.false_eq_true, Nat.reduceAdd, Nat.reduceSub, Nat.zero_add, Nat.add_sub_cancel_left, Nat.add_sub_cancel, Nat.sub_self, sFld, tFld, tFor_eq, tLc_eq, iRng1, iRng2, iList, iTup, iEnum, rIsi, rIsiT, iSeq, wipe, tSc1, rLenX, rSum, rNeNil, rAll, tMkO, tOst, tNever, sFld, tFld]
      exact ⟨_, hb, rfl, _, _, rfl, _, _, rfl, rfl, hΦ _ _ (Same.refl _) ⟨pp, ep, rfl⟩⟩
    · have ey : ys = (ps.map (·.1)).map V.str := by
        rw [List.map_map]
        exact ys_map (f := fun p : Str × Int => V.str p.1) (by rw [hl2, pxl]) hY
      subst ey
      have s02 := s1.trans s2
      have ps60 : (ps.map (·.1)).length ≤ 60 := by rw [List.length_map]; omega
      refine ⟨wxs, w1.mono s02, ws, w2.mono s02, ps.map (·.1), sqL_of eD, ps60, w3, fun H3 s3 => ?_⟩
      rw [if_neg (by simp)]
      have s03 := s02.trans s3
      obtain ⟨J2, hJ2⟩ := (w1.mono s03).it
      refine ⟨wxs, J2, hJ2, fun D2 nD2 => ?_⟩
      refine lg_pure (fun i y H => ∃ p, ws[i]? = some p ∧ y = .str p.1) hJ2 (small1000 (by omega)) nD2 (fun _ _ _ _ _ h => h) (fun i x2 H4 Φ hx2 s4 hD hΦ => ?_) (fun ys H4 s4 eD4 hl4 hY => ?_)
      · have := (List.getElem?_eq_some_iff.mp hx2).1
        have ew : ws[i]? = some ws[i] := List.getElem?_eq_getElem (by omega)
        obtain ⟨b, wr, rfl, hb, _⟩ := (w2.mono (s03.trans s4)).2 i x2 _ hx2 ew
        simp only [and_assoc, tSeq, tAsg, tOp, tUn, rI, rI0, rU, tVar, tC, gName, L2.start, tIfS, tTest, tB, tCB, tCons, tNil, tIf, tRet, tRetN, tLst, tTup, tNext, tDrop, tNot, tNotV, tAnd, tOr, tAndV, tOrV, tPar, tAug, ipI, rEq, rNe, gSub, rSetL, rIxL, rIxT, tBM, tBM0, rAppend, rPopAt, gTup, gCons, gNil, tCall, tSl, tPart, tNoPart, rSlL, rCat, rEqD, rNeD, rIn, scal, List.map_cons, List.map_nil, List.length_cons, List.length_nil, List.length_map, List.cons_append, List.nil_append, List.append_nil, List.replicate, List.getElem?_cons_zero, List.getElem?_cons_succ, List.set_cons_zero, List.set_cons_succ, Option.some.injEq, exists_eq_left', exists_eq_left, exists_eq_right, exists_and_left, exists_and_right, V.int.injEq, V.ref.injEq, V.str.injEq, V.bl.injEq, reduceCtorEq, false_and, and_false, exists_false, or_false, false_or, true_and, and_true, List.cons.injEq, decide_eq_true_eq, cxOf, if_true, if_false, Bool.false_eq_true, Nat.reduceAdd, Nat.reduceSub, Nat.zero_add, Nat.add_sub_cancel_left, Nat.add_sub_cancel, Nat.sub_self, sFld, tFld, tFor_eq, tLc_eq, iRng1, iRng2, iList, iTup, iEnum, rIsi, rIsiT, iSeq, wipe, tSc1, rLenX, rSum, rNeNil, rAll, tMkO, tOst, tNever, sFld, tFld]
        exact ⟨_, hb, rfl, _, _, rfl, _, _, rfl, rfl, hΦ _ _ (Same.refl _) ⟨_, ew, rfl⟩⟩
      · have ey : ys = (ws.map (·.1)).map V.str := by
          rw [List.map_map]
          exact ys_map (f := fun p : Str × List Sh => V.str p.1) (by rw [hl4, wxl]) hY
        subst ey
        have s04 := s03.trans s4
        obtain ⟨ds, hds⟩ : ∃ ds, ds = ws.map (·.1) := ⟨_, rfl⟩
        have dl : ds.length ≤ 60 := by rw [hds, List.length_map]; omega
        rw [← hds] at eD4 f3 qE qG
        refine ⟨fxs, f1.mono s04, fs, dpA_mono s04 _ _ f2, ds, sqL_of (by rw [hds]; exact hds ▸ eD4), f3, fun H5 s5 => ?_⟩
        rw [if_neg (by simp)]
        have s05 := s04.trans s5
        refine ⟨ds, .inl (sqL_of (s5 _ _ eD4)), fxs, f1.mono s05, fs, dpA_mono s05 _ _ f2, dl, f60, fun hN H6 s6 => ⟨by decide, fun a na => ⟨upd_same, fun dx2 nd hda => ⟨dx2, upd_same, _, by rw [upd_ne hda, upd_same], by rw [upd_ne hda] at nd; exact nd, ?_⟩⟩⟩, fun pl hS r H6 s6 nr er => ?_⟩
        · rw [upd_ne hda] at nd
          have s06 := s05.trans s6
          refine qE hN dx2 _ (fun b o e => ?_) (s06.free nd) upd_same
          have e4 := s06 _ _ e
          have hbd : b ≠ dx2 := ne_of_none e4 nd
          have hba : b ≠ a := ne_of_none e4 na
          rw [upd_ne hbd, del_ne hba, upd_ne hba, upd_ne hbd, upd_ne hba]
          exact e4
        · have s06 := s05.trans s6
          have qG := qG (fun z => by rw [z] at hS; cases hS)
          have off : ∀ b o, b ≠ x → H b = some o → H6 b = some o := fun b o _ e => s06 b o e
          have hx6 := s06 _ _ hx
          have step : ∀ (Hc : Hp) (v : V) (fl : List (Str × V)) (f : Str), (∀ b o, b ≠ x → H b = some o → Hc b = some o) → (∀ b o, b ≠ x → H b = some o → upd Hc x (.ins X.m.n.w.t.cFamily dx (putF f v fl)) b = some o) := fun Hc v fl f h b o hb e => by
            rw [upd_ne hb]
            exact h b o hb e
          have keepR : ∀ (Hc : Hp) (a : Addr) (o : HO), (∀ C d f, o ≠ .ins C d f) → (∀ b o, b ≠ x → H b = some o → Hc b = some o) → Rd H a o → Rd Hc a o := fun Hc a o ne h r => by
            have ax : a ≠ x := fun z => by
              rw [z] at r
              rcases r with r | ⟨u, r⟩ <;> rw [hx] at r
              · exact ne _ _ _ (Option.some.inj r).symm
              · cases r
            exact r.imp (h a _ ax) fun ⟨u, r⟩ => ⟨u, h a _ ax r⟩
          have keepS : ∀ (Hc : Hp) (a : Addr) (xs : List V), (∀ b o, b ≠ x → H b = some o → Hc b = some o) → Sq K H a xs → Sq K Hc a xs := fun Hc a xs h hs =>
            hs.imp (fun z => z.imp (keepR Hc a _ (fun _ _ _ z => nomatch z) h) id) (fun z => z.imp (keepR Hc a _ (fun _ _ _ z => nomatch z) h) id)
          refine tup_of (keepS H6 pa pxs off p1) fun H7 v7 s7 => ?_
          have off7 : ∀ b o, b ≠ x → H b = some o → H7 b = some o := fun b o hb e => s7 _ _ (off b o hb e)
          refine ⟨_, _, _, s7 _ _ hx6, X.cl, X.nP, by decide, ?_⟩
          have off8 := step H7 v7 [] "people" off7
          have hx8 : upd H7 x (.ins X.m.n.w.t.cFamily dx (putF "people" v7 [])) x = some (.ins X.m.n.w.t.cFamily dx (putF "people" v7 [])) := upd_same
          have l8 := length_putF "people" v7 []
          generalize putF "people" v7 [] = g8 at off8 hx8 l8 ⊢
          generalize upd H7 x (.ins X.m.n.w.t.cFamily dx g8) = H8 at off8 hx8 ⊢
          refine tup_of (keepS H8 wa wxs off8 w1) fun H9 v9 s9 => ?_
          have off9 : ∀ b o, b ≠ x → H b = some o → H9 b = some o := fun b o hb e => s9 _ _ (off8 b o hb e)
          have l8 : g8.length ≤ 1 := l8
          refine ⟨_, _, _, s9 _ _ hx8, X.cl, X.nW, by omega, ?_⟩
          have off10 := step H9 v9 g8 "wills" off9
          have hx10 : upd H9 x (.ins X.m.n.w.t.cFamily dx (putF "wills" v9 g8)) x = some (.ins X.m.n.w.t.cFamily dx (putF "wills" v9 g8)) := upd_same
          have l10 := length_putF "wills" v9 g8
          generalize putF "wills" v9 g8 = g10 at off10 hx10 l10 ⊢
          generalize upd H9 x (.ins X.m.n.w.t.cFamily dx g10) = H10 at off10 hx10 ⊢
          refine tup_of (keepS H10 fa fxs off10 f1) fun H11 v11 s11 => ?_
          have off11 : ∀ b o, b ≠ x → H b = some o → H11 b = some o := fun b o hb e => s11 _ _ (off10 b o hb e)
          refine ⟨_, _, _, s11 _ _ hx10, X.cl, X.nF, by omega, ?_⟩
          exact qG _ (step H11 v11 g10 "facts" off11)

end
end He

namespace He
open PySem PySem.Spec PyProof.Rows L2
section
variable {P : Program} {w : World} {K : PySem.W.Frag} {mg : Str → Option Value} {base : Heap}

/-- isinstance(e, c), e the caught exception with its dict -/
def rIsEd (K : PySem.W.Frag) (D a : Addr) (cls : Value) (d : Option Addr) : List V → Hp → VK → Prop := fun xs H Q => ∃ (c : V) (cv : Value) (b : Bool) (dd : Addr) (fs : List (Str × V)), xs = [.ref a, c] ∧ cls = .ref D ∧ d = some dd ∧ H dd = some (.xd fs) ∧ (∀ u, RelV c u → u = cv) ∧ PySem.W.kitOne K (.ref D) cv = some b ∧ Q (.bl b) H
theorem call_isEd {X : Cx} {a D : Addr} {oe : Obj} {cls : Value} {d : Option Addr} {pn : List (Addr × Obj)} (C : ExcC X.K D) (hz : Zc cls d oe) (hf : ∃ vs, oe.data = .fields vs) : CallR (X.suite a ((a, oe) :: pn)) (.builtin "isinstance") (rIsEd X.K D a cls d) := by
  intro pins s σ H xs us Q I r h
  obtain ⟨c, cv, b, dd, fs, rfl, rfl, rfl, ed, hcv, e, q⟩ := h
  cases r with
  | cons rx rr =>
    cases rr with
    | cons rt rr =>
      cases rr
      cases rx
      have ec := hcv _ rt
      subst ec
      obtain ⟨hget, _⟩ := I.pin (a, oe) (List.mem_append.mpr (.inl List.mem_cons_self))
      obtain ⟨vs, hv⟩ := hf
      have hx : ObjOk X.prog X.w H s.heap dd (.xd fs) := I.hok dd _ ed
      obtain ⟨mA, hns, hr⟩ := hx
      obtain ⟨od, ho, hl⟩ := lookIn_ns hns
      have J : PySem.W.InstAt s.heap a oe D (some od) := ⟨hget, hz.1, by unfold PySem.W.notCls; rw [hv] <;> rfl, by rw [hz.2]; exact ho⟩
      have hcl : (PySem.W.clsIn X.K D).isSome = true := by
        have := C.hd
        unfold PySem.W.hasDictIn at this
        cases hc : PySem.W.clsIn X.K D with
        | none => rw [hc] at this; cases this
        | some cd => rfl
      exact PySem.W.kia_one (PySem.W.kitx_exc hcl C.hg C.hk C.hs C.ha C.hn C.ht C.hm) I.kIn J e (fun z => nomatch z) fun tk => ⟨.bl b, H, I.kept (t' := tk) fun _ _ z => z, rfl, q⟩

/-- C(e, ..) within a try -/
def tMakeS (C : Addr) (sp : Sp) (E : L2.St → XK) (t : TA) : TE := fun σ H Q => t σ H fun vs H1 => ∀ x dx, H1 x = none → H1 dx = none → dx ≠ x → sp (.ref x :: vs) (upd (upd H1 dx (.own x)) x (.ins C dx [])) (fun v H2 => v = .non ∧ Q (.ref x) H2) (E σ)
section
variable {X : Cx} {CX : CXT} {k : Nat} {f C : Addr} {fd : FuncData} {ps : List Str} {sp : Sp} {E : L2.St → XK} {x : Str} {p pos : Pos} {e : Expr} {es : List Expr} {t : TA}
theorem pe_makeS (M : Mk X.K C f) (F : FnOk X.prog X.w X.K X.mg X.base CX k f fd ps sp) (hr : Room (k + 1) X.A) (hg : Gl X x) (hm : X.mg x = some (.ref C)) (hb : L2.Binds X.K fd ps []) (hx : ∀ σ, PassesAt CX X σ (E σ))
    (ha : PA X (e :: es) t) (hdb : (x == ("__debug__" : Str)) = false := by decide) (he : starEach (e :: es) X.env = (false, eval e X.env) :: starEach es X.env := by rfl) (hpl : (backTo pos (starEach es X.env)).any (·.1) = false := by rfl) :
    PE X (.Call (.Name x p) (e :: es) [] pos) (tMakeS C sp E t) := by
  refine ⟨fun pins s σ H Q I h => ?_⟩
  refine wpAny_Call_Name_kw (ld_glob I hg hm ?_ hdb)
  refine PySem.W.callWith_K (h₀ := X.base) I.ok.mod.kin M.kp (thn (ha.run pos pins s σ H _ I h) fun us s1 ⟨vs, H1, I1, r, q⟩ => ⟨I1.kIn, ?_⟩) he hpl
  have hq := q (s1.heap.objs.size + 1) s1.heap.objs.size (I1.hok.fresh (Nat.le_succ _)) (I1.hok.fresh (Nat.le_refl _)) (Nat.ne_of_lt (Nat.lt_succ_self _))
  have I2 := Inv.made (C := C) I1; have r2 : Vals (V.ref (s1.heap.objs.size + 1) :: vs) (Value.ref (s1.heap.objs.size + 1) :: us) := .cons rfl r
  have hl : (Value.ref (s1.heap.objs.size + 1) :: us).length = ps.length := by
    have e := r2.length; rw [F.len _ _ _ _ hq] at e; exact e.symm
  have hbb := hb _ (Value.ref (s1.heap.objs.size + 1) :: us) I2.kIn (by rw [List.append_nil]; exact hl)
  rw [List.append_nil] at hbb
  refine wpAny_call (make_map (f := f) I1.kIn M.makes M.init (beq_iff_eq.mp M.fn) (codeAny_mono (F.run _ X.stack _ _ ⟨Value.ref (s1.heap.objs.size + 1) :: us, []⟩ (Value.ref (s1.heap.objs.size + 1) :: us) _ _ (E σ) (hr.make C us []) (I2.env0.make C us []) hbb r2 hq) fun r s' hq' => ?_))
  cases r with
  | error e => exact hx σ pins _ _ e s' I2 hq'
  | ok fl =>
    cases fl with
    | ret u => obtain ⟨v, H', I3, rv, ev, q3⟩ := I2.after hq'; subst ev; exact ⟨rv, ⟨V.ref (s1.heap.objs.size + 1), H', I3, rfl, q3⟩⟩
    | next => exact False.elim hq'
    | brk => exact False.elim hq'
    | cont => exact False.elim hq'
end

/-- what is heard of a family of good parts -/
def spHeard (K : PySem.W.Frag) (CW : Addr) : Sp := fun vs H Q _ => ∃ (pa wa fa : Addr) (pxs wxs fxs : List V) (ps : List (Str × Int)) (ws : List (Str × List Sh)) (fs : List (Str × Str)), vs = [.ref pa, .ref wa, .ref fa] ∧
  (Sq K H pa pxs ∧ DpAll K H pxs (ps.map dPer) ∧ PplOk ps) ∧ (Sq K H wa wxs ∧ WlsD K CW H wxs ws ∧ WlsOk (ps.map (·.1)) ws) ∧ (Sq K H fa fxs ∧ DpAll K H fxs (fs.map dFct) ∧ FctOk (ws.map (·.1)) fs) ∧
  ∀ H', Same H H' → Q (if lineM fs (ws.map (·.1)).length (ws.map (·.1)) [] = none then .str "ring" else .non) H'
theorem ok_heard (X : TxtF K mg) : FnOk P w K mg base CX0 8 X.m.n.w.t.dLawHeard.f X.m.n.w.t.dLawHeard.fd ["_law_people", "_law_wills", "_law_facts"] (spHeard K X.m.n.w.t.cWill) := by
  refine X.m.n.w.t.dLawHeard.F.ok scDLawHeard (fun vs H Q E h => ?_) (fun cdv A outer s H vs Q E hr h => ?_)
  · obtain ⟨pa, wa, fa, pxs, wxs, fxs, ps, ws, fs, rfl, _⟩ := h
    rfl
  · obtain ⟨pa, wa, fa, pxs, wxs, fxs, ps, ws, fs, rfl, ⟨p1, p2, p3⟩, ⟨w1, w2, w3⟩, ⟨f1, f2, f3⟩, q⟩ := h
    refine ⟨_, (pss_cons (ps_set (i := 3) scDLawHeard.nd rfl (.inl rfl) pe_non)
      (pss_cons (ps_try_as (i := 4) (tb := fun W => tDrop (tMakeS X.m.n.w.t.cFamily (spFInit K X.m.n.w.t.cFamily X.m.n.w.t.cWill X.m.n.w.t.cInvalidFamily) (WE W) (tCons (tVar 0) (tCons (tVar 1) (tCons (tVar 2) tNil)))))
        (ts := fun a cls d => tAsg (tIf (tB (tCB (rIsEd K X.m.n.w.t.cInvalidFamily a cls d) (tCons (tVar 4) (tCons (tC (.ref X.m.n.w.t.cHeirError)) tNil)))) (tXf a cls d X.m.n.w.t.cInvalidFamily "word" (tVar 4)) (tC (.str "other"))) (gName 3))
        (Wout := fun _ _ _ _ => False) rfl rfl scDLawHeard.nd rfl rfl ⟨rfl, by decide, Or.inl X.m.n.w.t.gcInvalidFamily⟩ takes0
        (fun W pn xe tk _ => pss_one (ps_expr (by exact (pe_makeS X.iM (ok_finit X) (hr.mono (by decide)) (by rfl) X.m.n.w.t.gcFamily X.iB (fun σ => passAt tk σ) (pa_cons (pv 0) (pa_cons (pv 1) (pa_cons (pv 2) pa_nil)))))))
        (fun a oe cls d pn hz hf => pss_one (ps_set (i := 3) scDLawHeard.nd rfl (.inl rfl) (by exact (pe_ifExp (pt_val (pe_callB (call_isEd X.isx hz hf) (by rfl) X.m.n.w.t.z_isinstance (show bootBuiltins "isinstance" = some (.builtin "isinstance") by decide +kernel) (pa_cons (pv 4) (pa_cons (pe_glob (v := .ref X.m.n.w.t.cHeirError) (by rfl) X.m.n.w.t.gcHeirError rfl) pa_nil)))) (pe_xf X.xf X.xN hz hf (pv 4)) pe_str)))))
      (pss_one (ps_ret (pv 3))))), ?_⟩
    simp only [and_assoc, tSeq, tAsg, tOp, tUn, rI, rI0, rU, tVar, tC, gName, L2.start, tIfS, tTest, tB, tCB, tCons, tNil, tIf, tRet, tRetN, tLst, tTup, tNext, tDrop, tNot, tNotV, tAnd, tOr, tAndV, tOrV, tPar, tAug, ipI, rEq, rNe, gSub, rSetL, rIxL, rIxT, tBM, tBM0, rAppend, rPopAt, gTup, gCons, gNil, tCall, tSl, tPart, tNoPart, rSlL, rCat, rEqD, rNeD, rIn, scal, List.map_cons, List.map_nil, List.length_cons, List.length_nil, List.length_map, List.cons_append, List.nil_append, List.append_nil, List.replicate, List.getElem?_cons_zero, List.getElem?_cons_succ, List.set_cons_zero, List.set_cons_succ, Option.some.injEq, exists_eq_left', exists_eq_left, exists_eq_right, exists_and_left, exists_and_right, V.int.injEq, V.ref.injEq, V.str.injEq, V.bl.injEq, reduceCtorEq, false_and, and_false, exists_false, or_false, false_or, true_and, and_true, List.cons.injEq, decide_eq_true_eq, cxOf, if_true, if_false, Bool.false_eq_true, Nat.reduceAdd, Nat.reduceSub, Nat.zero_add, Nat.add_sub_cancel_left, Nat.add_sub_cancel, Nat.sub_self, sFld, tFld, tFor_eq, tLc_eq, iRng1, iRng2, iList, iTup, iEnum, rIsi, rIsiT, iSeq, wipe, tMake, tNever, tMakeS, wAs, rIsEd, tXf, spFInit]
    intro x dx nx ndx hne
    have sH : Same H (upd (upd H dx (.own x)) x (.ins X.m.n.w.t.cFamily dx [])) := (same_upd ndx).trans (same_upd (by rw [upd_ne (Ne.symm hne)]; exact nx))
    have ex0 : upd (upd H dx (.own x)) x (.ins X.m.n.w.t.cFamily dx []) x = some (.ins X.m.n.w.t.cFamily dx []) := upd_same
    generalize upd (upd H dx (.own x)) x (.ins X.m.n.w.t.cFamily dx []) = Hi at sH ex0 ⊢
    rw [List.length_map] at q
    refine ⟨⟨dx, ex0⟩, pxs, p1.mono sH, wxs, fxs, ps, dpA_mono sH _ _ p2, p3, w1.mono sH, ws, w2.mono sH, w3, f1.mono sH, fs, dpA_mono sH _ _ f2, f3, fun hN e H' s' ne ee => ⟨true, X.self, fun _ a na => ⟨⟨_, ee⟩, .ref X.m.n.w.t.cHeirError, fun u hu => hu, true, X.k1, ?_⟩, fun h => nomatch h⟩, fun hN H' k => ?_⟩
    · rw [if_pos rfl]
      have := q H' (sH.trans s')
      rw [if_pos hN] at this
      exact ⟨_, ee, _, rfl, this⟩
    · have := q H' (fun b o eb => k b o (ne_of_none eb nx) (sH _ _ eb))
      rw [if_neg hN] at this
      exact this

end
end He

/-! enumerate(t), t a tuple -/
namespace EnT
open PySem PySem.Spec PyProof.Rows
open PySem.Sem (wp)
open PySem.AutoSeq1 (wpAny_loadPart')
theorem meets_enumT (l : Addr) (items : Array Value) (n : Nat) (dct : Option Addr) (sl : Array (Option Value)) :
    Meets (Builtin.«enumerate.__new__» ⟨[.type "enumerate", .ref l], []⟩) (fun _ R s => s.heap.get? l = some { cls := .type "tuple", dict := dct, data := .seq items n, slots := sl } ∧
      R (.ok (.ret (.ref (s.heap.push { cls := .type "tuple_iterator", data := .fields #[.ref l, .int 0 0] }).objs.size)))
        { s with heap := (s.heap.push { cls := .type "tuple_iterator", data := .fields #[.ref l, .int 0 0] }).push { cls := .type "enumerate", data := .fields #[.none, .bool false, .ref s.heap.objs.size, rawInt 0, .none, .none] } }) :=
  .of_wp fun prog w A R s h => by
    obtain ⟨hp, g, d, tk, os⟩ := s; obtain ⟨hl, h⟩ := h; have hsub := sub_enumerate
    have hL : Heap.IsTuple (Shared.heap ⟨hp, g, d, tk, os⟩) l items := ⟨_, hl, rfl, n, rfl⟩
    wp_walk using wpAny_loadPart' hl; refine wpAny_stack_any fun st => wpAny_pure ?_
    split
    · rename_i c _ _ _ _ _; cases (c == Value.type "enumerate")
      · wp_walk using wpAny_loadPart' hl, wpAny_pyIter_tuple hL; exact ⟨_, rfl, h⟩
      · wp_walk using wpAny_loadPart' hl, wpAny_pyIter_tuple hL; exact ⟨_, rfl, h⟩
    · wp_walk using wpAny_loadPart' hl, wpAny_pyIter_tuple hL; exact ⟨_, rfl, h⟩
section
variable {prog : Program} {w : World} {A : Around} {E : Value → Shared → Prop} {s : Shared}
theorem call_enumT {l : Addr} {items : Array Value} {Q : Value → Shared → Prop} (hL : s.heap.IsTuple l items)
    (h : ∀ h', IsEnum h' (s.heap.objs.size + 1) s.heap.objs.size 0 .none → h'.IsTupleIter s.heap.objs.size l 0 → h'.objs.size = s.heap.objs.size + 2 →
      (∀ b o, s.heap.get? b = some o → h'.get? b = some o) → Q (.ref (s.heap.objs.size + 1)) { s with heap := h' }) : wpAny (model prog w) A (call (.type "enumerate") [.ref l]) Q E s := by
  obtain ⟨⟨c, dct, dt, sl⟩, hl, hc, n, hd⟩ := hL
  replace hc : c = .type "tuple" := hc
  replace hd : dt = .seq items n := hd
  subst hc hd
  refine callType_new F.called_enumerate (by decide) (F.typeCall_enumerate_1 _) (F.newCall_enumerate_1 _) (fun obj => F.args_object_init_2 obj _) F.entry_enumerate_new (meets_enumT l items n dct sl) ⟨hl, ?_⟩
  have hz : (s.heap.push { cls := .type "tuple_iterator", data := .fields #[.ref l, .int 0 0] }).objs.size = s.heap.objs.size + 1 := Heap.size_push ..
  show _ ∧ _
  rw [hz]
  have he : IsEnum ((s.heap.push { cls := .type "tuple_iterator", data := .fields #[.ref l, .int 0 0] }).push { cls := .type "enumerate", data := .fields #[.none, .bool false, .ref s.heap.objs.size, rawInt 0, .none, .none] }) (s.heap.objs.size + 1) s.heap.objs.size 0 .none := by
    have := Heap.get?_push_size (s.heap.push { cls := .type "tuple_iterator", data := .fields #[.ref l, .int 0 0] }) (o := { cls := .type "enumerate", data := .fields #[.none, .bool false, .ref s.heap.objs.size, rawInt 0, .none, .none] }) rfl
    rw [hz] at this; exact this
  exact ⟨⟨_, he, rfl⟩, h _ he ⟨_, Heap.get?_push_of_some _ (Heap.get?_push_size _ rfl), rfl, rfl⟩ (by rw [Heap.size_push, hz]) fun b o x => Heap.get?_push_of_some _ (Heap.get?_push_of_some _ x)⟩
theorem next_endT {e it l : Addr} {i : Nat} {items : Array Value} {old : Value} {Q : Option Value → Shared → Prop} (hh : A.handled = none) (he : IsEnum s.heap e it i old) (hit : s.heap.IsTupleIter it l i) (hl : s.heap.IsTuple l items) (hx : items[i]? = none)
    (hQ : ∀ h', Heap.ExtBut it s.heap h' → Q none { s with heap := h' }) : wpAny (model prog w) A (pyNext (.ref e)) Q E s := by
  have hT : s.TypeIs (.ref e) "enumerate" := ⟨_, he, rfl⟩; unfold pyNext
  refine wpAny_bind (wpAny_attempt (wpAny_callSpecial?_slot (name := Str.ofString "__next__") hT F.slot_enumerate_next (wpAny_call_entry F.slot_enumerate_next hT F.entry_enumerate_next ?_ (F.args_enumerate_next_1 _))))
  show wpAny _ _ (field (.ref e) 2 >>= _) _ _ _; refine wpAny_bind (wpAny_field he rfl (x := .ref it) rfl ?_); refine wpAny_bind (wpAny_nextOf_tuple_end hh hit hl hx fun h' x he' hx' => ?_)
  obtain ⟨o, ho, hc⟩ := hx'; refine wpAny_bind (wpAny_isInstance (T := "StopIteration") (b := true) ⟨o, ho, hc⟩ isSubtype_stop ?_); exact wpAny_pure (hQ _ he')
end
end EnT
namespace He
open PySem PySem.Spec PyProof.Rows L2
/-- the tuple at a at each turn, each item in a new pair -/
def Iten (K : PySem.W.Frag) (a : Addr) : It :=
  ⟨fun i H => ∃ (xs : List V) (x : V), SqT K H a xs ∧ xs[i]? = some x, fun i H v H' => ∃ T x, v = .ref T ∧ H T = none ∧ H' = upd H T (.tup [.int (i : Nat), x]) ∧ ∀ xs, SqT K H a xs → xs[i]? = some x, fun i H => ∃ xs : List V, SqT K H a xs ∧ xs.length ≤ i⟩
theorem turn_enumT {P : Program} {w : World} {K : PySem.W.Frag} {elts : List Expr} {kk : Nat} {tpos : Pos} (a e it : Addr) :
    Turn P w K (.Tuple elts kk tpos) (Iten K a) [e, it] e (fun i h => (∃ old, IsEnum h e it ((i : Nat) : Int) old) ∧ h.IsTupleIter it a i ∧ e ≠ it) where
  mem := by simp
  obj := fun i h st b hb => by
    obtain ⟨⟨old, he⟩, ⟨o, ho, hc, hd⟩, _⟩ := st
    rcases (show b = e ∨ b = it by simpa using hb) with z | z
    · rw [z]; exact ⟨_, he, fun v q => nomatch q⟩
    · rw [z]; exact ⟨o, ho, fun v q => by rw [hd] at q; cases q⟩
  keep := fun i h h' st k => let ⟨⟨old, he⟩, hi, hne⟩ := st; ⟨⟨old, k e (by simp) _ he⟩, (let ⟨o, ho, hc, hd⟩ := hi; ⟨o, k it (by simp) o ho, hc, hd⟩), hne⟩
  item := by
    intro X hP hw hK hc i pins s σ H E I hf st hg
    subst hP hw hK
    obtain ⟨⟨old, he⟩, hit, hne⟩ := st
    obtain ⟨xs, x, hq, hx⟩ := hg
    obtain ⟨its, rv, p, hz⟩ := I.tuple hq
    obtain ⟨u, hu, ru⟩ := rv.get hx
    have hel : e < s.heap.objs.size := Heap.lt_size he
    have hil : it < s.heap.objs.size := by obtain ⟨_, q, _⟩ := hit; exact Heap.lt_size q
    have hp : s.heap.IsTuple a its.toArray := p
    have hai : a ≠ it := fun z => by
      obtain ⟨o, ho, h1, _⟩ := id hp
      obtain ⟨o2, ho2, h2, _⟩ := id hit
      rw [z, ho2] at ho
      rw [Option.some.inj ho, h1] at h2
      exact absurd h2 (by decide)
    have hea : e ≠ a := fun z => by
      obtain ⟨o, ho, h1, _⟩ := id hp
      rw [← z] at ho
      have he2 : s.heap.get? e = some _ := he
      rw [he2] at ho
      rw [← Option.some.inj ho] at h1
      have h3 : Value.type "enumerate" = Value.type "tuple" := h1
      exact absurd h3 (by decide)
    refine wpAny_pyNext_enum_itemD (Draws.tuple (A := X.A.in1) (I.ok.hd hc) it a hai its.toArray) he ⟨hit, hp⟩ (by have := (List.getElem?_eq_some_iff.mp hu).1; simpa using this) hne (by simp [hne, hea]) fun y h' tk hy ho hst' hT hsz hk => ?_
    have hyu : y = u := by
      have : its.toArray[i]? = some u := by simpa using hu
      rw [this] at hy
      exact (Option.some.inj hy).symm
    subst hyu
    refine ⟨_, rfl, wpAny_letOwnedTupleGo_enum (s := { s with heap := h', toks := tk + 1 }) ho fun h'' he' sb => ?_⟩
    have hT2 : h''.get? s.heap.objs.size = some { cls := .type "tuple", data := .seq #[.int i tk, y] } := (sb.2 _ (Nat.ne_of_gt hel)).trans hT
    have new : ObjOk X.prog X.w (upd H s.heap.objs.size (.tup [.int (i : Nat), x])) h'' s.heap.objs.size (.tup [.int (i : Nat), x]) := ⟨by show 2 ≤ sizeLine; decide, [.int i tk, y], .cons ⟨_, rfl⟩ (.cons ru .nil), ⟨_, hT2, rfl, _, rfl⟩⟩
    have I1 : Inv X pins σ (upd H s.heap.objs.size (.tup [.int (i : Nat), x])) { s with heap := h'', toks := tk + 1 } := I.turnedNew (ch := [e, it]) (fun b ob hb q => (sb.2 b (fun z => hb (by simp [z]))).trans (hk b ob (fun z => hb (by simp [z])) (fun z => hb (by simp [z])) q)) hf (Nat.le_refl _) new
    refine ⟨.ref s.heap.objs.size, _, I1, rfl, ⟨_, x, rfl, I.hok.fresh (Nat.le_refl _), rfl, fun ys hy => ?_⟩, ⟨⟨y, ?_⟩, ?_, hne⟩, fun b hb => ?_⟩
    · rw [I.tuple_inj hy hq]; exact hx
    · rw [show ((i + 1 : Nat) : Int) = (i : Int) + 1 by omega]; exact he'
    · obtain ⟨o, ho, r⟩ := hst'.1
      exact ⟨o, (sb.2 it (Ne.symm hne)).trans ho, r⟩
    · have hb' : b < s.heap.objs.size := by
        rcases (show b = e ∨ b = it by simpa using hb) with z | z
        · rw [z]; exact hel
        · rw [z]; exact hil
      rw [upd_ne (Nat.ne_of_lt hb')]; exact (hf b hb).1
  done := by
    intro X hP hw hK hc i pins s σ H E I hf st hg
    subst hP hw hK
    obtain ⟨⟨old, he⟩, hit, hne⟩ := st
    obtain ⟨xs, hq, hx⟩ := hg
    obtain ⟨its, rv, p, hz⟩ := I.tuple hq
    obtain ⟨f0, f1, f2, f3, f4, f5⟩ := hf it (by simp)
    have hl := rv.length
    exact EnT.next_endT (I.ok.hd hc) he hit p (by simp; omega) fun h' eb => ⟨rfl, I.turned (t' := s.toks) (fun b o hb q => eb b o hb q) f0 f1 f3 f4 f5⟩
  self := fun A i s Q E st h => let ⟨⟨_, he⟩, _⟩ := st; wpAny_pyIter_enum he h
end He

namespace He
open PySem PySem.Spec PyProof.Rows L2
section
variable {P : Program} {w : World} {K : PySem.W.Frag} {mg : Str → Option Value} {base : Heap}
def EnQ (K : PySem.W.Frag) (H : Hp) (a : Addr) (xs : List V) (J : It) : Prop := (J = Ite K a ∧ SqL K H a xs) ∨ (J = Iten K a ∧ SqT K H a xs)
def iEnumQ (K : PySem.W.Frag) (ta : TA) : TI := fun σ H R => ta σ H fun vs H1 => ∃ a xs J, vs = [.ref a] ∧ EnQ K H1 a xs J ∧ R J H1
theorem pi_enumQ {X : Cx} {e : Expr} {ta : TA} {p pos tpos : Pos} {elts : List Expr} {kk : Nat} (hg : Gl X "enumerate") (hm : X.mg "enumerate" = none) (ha : PA X [e] ta) (hs : starEach [e] X.env = [(false, eval e X.env)] := by rfl) :
    PI X (.Tuple elts kk tpos) (.Call (.Name "enumerate" p) [e] [] pos) (iEnumQ X.K ta) := by
  refine ⟨fun pins s σ H R I h => ?_⟩
  refine Call_ (ld_blt I hg hm boot_enumerate (PyProof.Rows.callWith_type1 (thn (ha.run pos pins s σ H _ I h) fun us s1 ⟨vs, H1, I1, r1, q1⟩ => ?_) hs rfl))
  obtain ⟨a, xs, J, ex, hq, q⟩ := q1
  subst ex
  cases r1 with
  | cons r rr =>
    cases rr
    cases r
    have fin : ∀ b ∈ [s1.heap.objs.size + 1, s1.heap.objs.size], FpOk X pins H1 b := fun b hb => by
      have hle : s1.heap.objs.size ≤ b := by
        rcases (show b = s1.heap.objs.size + 1 ∨ b = s1.heap.objs.size by simpa using hb) with z | z
        · rw [z]; exact Nat.le_add_right _ _
        · rw [z]; exact Nat.le_refl _
      exact I1.fpOk hle (I1.hok.fresh hle)
    rcases hq with ⟨rfl, hq⟩ | ⟨rfl, hq⟩
    · obtain ⟨its, rv, p', hz⟩ := I1.list hq
      refine call_enumerate_list p'.isList fun h' he hit hsz hk => wpAny_pyIter_enum he ?_
      have I2 : Inv X pins σ H1 { s1 with heap := h' } := I1.kept (t' := s1.toks) hk
      exact ⟨s1.heap.objs.size + 1, [s1.heap.objs.size + 1, s1.heap.objs.size], _, _, H1, rfl, I2, turn_enum a (s1.heap.objs.size + 1) s1.heap.objs.size, ⟨⟨.none, he⟩, hit, Nat.succ_ne_self _⟩, fin, q⟩
    · obtain ⟨its, rv, p', hz⟩ := I1.tuple hq
      refine EnT.call_enumT p' fun h' he hit hsz hk => wpAny_pyIter_enum he ?_
      have I2 : Inv X pins σ H1 { s1 with heap := h' } := I1.kept (t' := s1.toks) hk
      exact ⟨s1.heap.objs.size + 1, [s1.heap.objs.size + 1, s1.heap.objs.size], _, _, H1, rfl, I2, turn_enumT a (s1.heap.objs.size + 1) s1.heap.objs.size, ⟨⟨.none, he⟩, hit, Nat.succ_ne_self _⟩, fin, q⟩
theorem walk_enumT {K : PySem.W.Frag} {a : Addr} {xs : List V} : Walk (Iten K a) xs.length (fun H => SqT K H a xs) (YPair (fun i => some (.int (i : Nat))) (fun i => xs[i]?)) := by
  refine ⟨fun i _ hi q => ⟨xs, xs[i], q, by simp [hi]⟩, fun _ q => ⟨xs, q, Nat.le_refl _⟩, fun i H v H' _ q y => ?_⟩
  obtain ⟨T, x, h1, h2, h3, h4⟩ := y
  exact ⟨T, .int (i : Nat), x, h1, h2, h3, rfl, h4 xs q⟩
theorem fg_enumQ {H1 : Hp} {a : Addr} {xs : List V} {J : It} {g : TG} {tb : TS} {D : Ends} {σ : L2.St} (hJ : EnQ K H1 a xs J) (Pv : Nat → L2.St → Hp → Prop) (h0 : Pv 0 σ H1) (hG : ∀ i σ H, Pv i σ H → Same H1 H)
    (hs : ∀ (i : Nat) (x : V) (T : Addr) σ H, xs[i]? = some x → Pv i σ H → H T = none → g (.ref T) σ (upd H T (.tup [.int (i : Nat), x])) fun σ2 H2 => tb { D with nx := Pv (i + 1), ct := Pv (i + 1), bk := D.nx } σ2 H2) (hd : ∀ σ H, Pv xs.length σ H → D.nx σ H) : ForGoes J g tb D σ H1 := by
  rcases hJ with ⟨rfl, hq⟩ | ⟨rfl, hq⟩
  · refine for_it (walk_enum (K := K) (a := a) (xs := xs)) Pv h0 (fun i σ H _ p => (hG i σ H p).seq hq) (fun i x σ H H' hi hp y => ?_) hd
    obtain ⟨T, x1, y1, rfl, hn, rfl, h1, h2⟩ := y
    cases Option.some.inj h1
    exact hs i y1 T σ H h2 hp hn
  · refine for_it (walk_enumT (K := K) (a := a) (xs := xs)) Pv h0 (fun i σ H _ p => Same.seqT (hG i σ H p) hq) (fun i x σ H H' hi hp y => ?_) hd
    obtain ⟨T, x1, y1, rfl, hn, rfl, h1, h2⟩ := y
    cases Option.some.inj h1
    exact hs i y1 T σ H h2 hp hn
end
end He

namespace He
open PySem PySem.Spec PyProof.Rows L2
section
variable {P : Program} {w : World} {K : PySem.W.Frag} {mg : Str → Option Value} {base : Heap}

/-! ### the law's own look -/
def iterR (fs : List (Str × Str)) : Nat → List Str → List Str
  | 0, left => left
  | n + 1, left => iterR fs n (restM fs left)
theorem free_mem {fs : List (Str × Str)} {left : List Str} {n : Str} : n ∈ freeM fs left ↔ n ∈ left ∧ n ∉ waitM fs left := by
  unfold freeM
  rw [List.mem_filter, decide_eq_true_eq]
theorem rest_of (fs : List (Str × Str)) (left : List Str) : restM fs left = left.filter fun n => decide (n ∉ freeM fs left) := by
  unfold restM
  refine List.filter_congr fun n hn => ?_
  by_cases h : n ∈ waitM fs left
  · have z : n ∉ freeM fs left := fun z => (free_mem.mp z).2 h
    simp [h, z]
  · have z : n ∈ freeM fs left := free_mem.mpr ⟨hn, h⟩
    simp [h, z]
theorem rest_nil (fs : List (Str × Str)) : restM fs [] = [] := rfl
theorem iter_nil (fs : List (Str × Str)) : ∀ n, iterR fs n [] = []
  | 0 => rfl
  | n + 1 => iter_nil fs n
/-- somebody is left just if no order keeps the facts -/
theorem iter_line (fs : List (Str × Str)) : ∀ (n : Nat) (left pl : List Str), left.length ≤ n → (iterR fs n left ≠ [] ↔ lineM fs n left pl = none)
  | n, [], pl, _ => by
    rw [iter_nil]
    cases n <;> simp [lineM]
  | 0, x :: l, pl, h => absurd h (by simp)
  | n + 1, x :: l, pl, h => by
    show iterR fs n (restM fs (x :: l)) ≠ [] ↔ (if freeM fs (x :: l) = [] then none else lineM fs n (restM fs (x :: l)) (pl ++ freeM fs (x :: l))) = none
    by_cases hf : freeM fs (x :: l) = []
    · rw [if_pos hf]
      have e : restM fs (x :: l) = x :: l := by
        rw [rest_of, hf, List.filter_eq_self]
        intro n _
        exact decide_eq_true (by simp)
      have stay : ∀ k, iterR fs k (x :: l) = x :: l := fun k => by
        induction k with
        | zero => rfl
        | succ k ih =>
          show iterR fs k (restM fs (x :: l)) = _
          rw [e, ih]
      rw [e, stay]
      simp
    · rw [if_neg hf]
      have lt := rest_lt hf
      exact iter_line fs n _ _ (by omega)
theorem wait_mem {fs : List (Str × Str)} {left : List Str} {n : Str} : n ∈ waitM fs left ↔ ∃ f ∈ fs, f.2 = n ∧ f.1 ∈ left := by
  unfold waitM
  rw [List.mem_map]
  constructor
  · rintro ⟨f, hf, e⟩
    obtain ⟨h1, h2⟩ := List.mem_filter.mp hf
    exact ⟨f, h1, e, of_decide_eq_true h2⟩
  · rintro ⟨f, hf, e, h⟩
    exact ⟨f, List.mem_filter.mpr ⟨hf, decide_eq_true h⟩, e⟩
def spRing (K : PySem.W.Frag) : Sp := fun vs H Q _ => ∃ (na a : Addr) (ns : List Str) (xs : List V) (fs : List (Str × Str)), vs = [.ref na, .ref a] ∧ SqL K H na (ns.map V.str) ∧ SqL K H a xs ∧ DpAll K H xs (fs.map dFct) ∧ ns.length ≤ 60 ∧ fs.length ≤ 60 ∧
  ∀ H', Same H H' → Q (.bl (decide (lineM fs ns.length ns [] = none))) H'
theorem ok_ring (T : TxtG K mg) : FnOk P w K mg base CX0 1 T.dLawHasRing.f T.dLawHasRing.fd ["_law_dead", "_law_facts"] (spRing K) := by
  refine T.dLawHasRing.F.ok scDLawHasRing (fun vs H Q E h => ?_) (fun cdv A outer s H vs Q E hr h => ?_)
  · obtain ⟨na, a, ns, xs, fs, rfl, _⟩ := h
    rfl
  · obtain ⟨na, a, ns, xs, fs, rfl, hs, hx, ha, h60, f60, q⟩ := h
    refine ⟨_, (pss_cons (ps_set (i := 2) scDLawHasRing.nd rfl (.inr rfl) (pe_callTy call_list_of (by rfl) T.z_list (show bootBuiltins "list" = some (.type "list") by decide +kernel) (pa_cons (pv 0) pa_nil)))
      (pss_cons (ps_for PassesOwn.never rfl (pi_range1 (by rfl) T.z_range (pa_cons (pe_callB call_lenL (by rfl) T.z_len (show bootBuiltins "len" = some (.builtin "len") by decide +kernel) (pa_cons (pv 0) pa_nil)) pa_nil)) (pg_name (i := 3) scDLawHasRing.nd rfl (.inl rfl))
      (pss_cons (ps_set (i := 4) scDLawHasRing.nd rfl (.inr rfl) (pe_lc (own := [("_law_name", 5)]) (g := (gName 5)) rfl scDLawHasRing.nd (pi_list (pv 2)) (blkOk_by (N := ["_law_dead", "_law_facts", "_law_left", "_law_turn", "_law_free", "_law_name", "_law_first", "_law_then"]) (sc := defScope sDLawHasRing) (by decide +kernel)) (fun _ _ _ _ _ => (pg_name (i := 5) scDLawHasRing.nd rfl (.inr rfl))) (fun _ _ _ _ _ => (pts_one (pt_cmpR (show OpR _ (compareOp .Eq) (rEqNil K) from op_eqNil hr.units) (pe_lc (own := [("_law_first", 6), ("_law_then", 7)]) (g := (gTup K 2 (gCons (gName 6) (gCons (gName 7) gNil)))) rfl scDLawHasRing.nd (show PI _ _ _ (iList K _) from (pi_list (pv 1))) (blkOk_by (by rfl)) (fun _ _ _ _ _ => (pg_tup (n := 2) rfl (pgs_cons (pg_name (i := 6) scDLawHasRing.nd rfl (.inl rfl)) (pgs_cons (pg_name (i := 7) scDLawHasRing.nd rfl (.inl rfl)) pgs_nil)))) (fun _ _ _ _ _ => (pts_one (PW.pt (pw_and (pt_cmpR op_eq (pv 7) (pv 5) (nomark _)) (pw_and1 (pt_cmpR (show OpR _ (compareOp .In) (rIn K false) from op_in_seq) (pv 6) (pv 2) (by rfl))))))) (fun _ _ _ _ _ => pe_int)) (pe_lst pa_nil) (nomark _)))) (fun _ _ _ _ _ => (pv 5))))
      (pss_one (ps_set (i := 2) scDLawHasRing.nd rfl (.inr rfl) (pe_lc (own := [("_law_name", 5)]) (g := (gName 5)) rfl scDLawHasRing.nd (pi_list (pv 2)) (blkOk_by (N := ["_law_dead", "_law_facts", "_law_left", "_law_turn", "_law_free", "_law_name", "_law_first", "_law_then"]) (sc := defScope sDLawHasRing) (by decide +kernel)) (fun _ _ _ _ _ => (pg_name (i := 5) scDLawHasRing.nd rfl (.inl rfl))) (fun _ _ _ _ _ => (pts_one (pt_cmpR (show OpR _ (compareOp .NotIn) (rIn K true) from op_notIn_seq) (pv 5) (pv 4) (by rfl)))) (fun _ _ _ _ _ => (pv 5)))))))
      (pss_one (ps_ret (pe_cmpR (op_neNil hr.units) (pv 2) (pe_lst pa_nil) (nomark _)))))), ?_⟩
    simp only [and_assoc, tSeq, tAsg, tOp, tUn, rI, rI0, rU, tVar, tC, gName, L2.start, tIfS, tTest, tB, tCB, tCons, tNil, tIf, tRet, tRetN, tLst, tTup, tNext, tDrop, tNot, tNotV, tAnd, tOr, tAndV, tOrV, tPar, tAug, ipI, rEq, rNe, gSub, rSetL, rIxL, rIxT, tBM, tBM0, rAppend, rPopAt, gTup, gCons, gNil, tCall, tSl, tPart, tNoPart, rSlL, rCat, rEqD, rNeD, rIn, scal, List.map_cons, List.map_nil, List.length_cons, List.length_nil, List.length_map, List.cons_append, List.nil_append, List.append_nil, List.replicate, List.getElem?_cons_zero, List.getElem?_cons_succ, List.set_cons_zero, List.set_cons_succ, Option.some.injEq, exists_eq_left', exists_eq_left, exists_eq_right, exists_and_left, exists_and_right, V.int.injEq, V.ref.injEq, V.str.injEq, V.bl.injEq, reduceCtorEq, false_and, and_false, exists_false, or_false, false_or, true_and, and_true, List.cons.injEq, decide_eq_true_eq, cxOf, if_true, if_false, Bool.false_eq_true, Nat.reduceAdd, Nat.reduceSub, Nat.zero_add, Nat.add_sub_cancel_left, Nat.add_sub_cancel, Nat.sub_self, sFld, tFld, tFor_eq, tLc_eq, iRng1, iRng2, iList, iTup, iEnum, rIsi, rIsiT, iSeq, wipe, rNeNil, rEqNil]
    have xl : xs.length = fs.length := by rw [dpA_len ha, List.length_map]
    refine ⟨_, .inl hs, fun l nl => ?_⟩
    have sl := same_upd (o := .lst (ns.map V.str)) nl
    have el : upd H l (.lst (ns.map V.str)) l = some (.lst (ns.map V.str)) := upd_same
    generalize upd H l (.lst (ns.map V.str)) = H1 at sl el ⊢
    refine ⟨_, sl.seq hs, by omega, by rw [List.length_map]; omega, ?_⟩
    rw [List.length_map, Int.toNat_natCast]
    refine fg_range (fun k σ H' => ∃ (lA : Addr) (left : List Str) (o3 o4 o5 o6 o7 : Option V), σ = [some (.ref na), some (.ref a), some (.ref lA), o3, o4, o5, o6, o7] ∧ Same H H' ∧ H' lA = some (.lst (left.map V.str)) ∧ left.length ≤ 60 ∧ iterR fs (ns.length - k) left = iterR fs ns.length ns)
      ⟨l, ns, _, _, _, _, _, rfl, sl, el, h60, rfl⟩ ?_ ?_
    · rintro k σ H3 hk ⟨lA, left, o3, o4, o5, o6, o7, rfl, s3, eL, hL, hR⟩
      simp only [and_assoc, tSeq, tAsg, tOp, tUn, rI, rI0, rU, tVar, tC, gName, L2.start, tIfS, tTest, tB, tCB, tCons, tNil, tIf, tRet, tRetN, tLst, tTup, tNext, tDrop, tNot, tNotV, tAnd, tOr, tAndV, tOrV, tPar, tAug, ipI, rEq, rNe, gSub, rSetL, rIxL, rIxT, tBM, tBM0, rAppend, rPopAt, gTup, gCons, gNil, tCall, tSl, tPart, tNoPart, rSlL, rCat, rEqD, rNeD, rIn, scal, List.map_cons, List.map_nil, List.length_cons, List.length_nil, List.length_map, List.cons_append, List.nil_append, List.append_nil, List.replicate, List.getElem?_cons_zero, List.getElem?_cons_succ, List.set_cons_zero, List.set_cons_succ, Option.some.injEq, exists_eq_left', exists_eq_left, exists_eq_right, exists_and_left, exists_and_right, V.int.injEq, V.ref.injEq, V.str.injEq, V.bl.injEq, reduceCtorEq, false_and, and_false, exists_false, or_false, false_or, true_and, and_true, List.cons.injEq, decide_eq_true_eq, cxOf, if_true, if_false, Bool.false_eq_true, Nat.reduceAdd, Nat.reduceSub, Nat.zero_add, Nat.add_sub_cancel_left, Nat.add_sub_cancel, Nat.sub_self, sFld, tFld, tFor_eq, tLc_eq, iRng1, iRng2, iList, iTup, iEnum, rIsi, rIsiT, iSeq, wipe, rNeNil, rEqNil]
      have ln : left.length < sizeLine := small1000 (by omega)
      refine ⟨⟨_, sqL_of eL⟩, fun D nD => ?_⟩
      have dI : (Str × Str) := ("", "")
      refine lg_keep left V.str V.str (fun n => decide (n ∉ waitM fs left)) (.inl ⟨rfl, sqL_of eL⟩) ln nD (fun n H4 Aq Bq hm s4 hD hA hB => ?_) (fun H4 s4 e4 => ?_)
      · simp only [and_assoc, tSeq, tAsg, tOp, tUn, rI, rI0, rU, tVar, tC, gName, L2.start, tIfS, tTest, tB, tCB, tCons, tNil, tIf, tRet, tRetN, tLst, tTup, tNext, tDrop, tNot, tNotV, tAnd, tOr, tAndV, tOrV, tPar, tAug, ipI, rEq, rNe, gSub, rSetL, rIxL, rIxT, tBM, tBM0, rAppend, rPopAt, gTup, gCons, gNil, tCall, tSl, tPart, tNoPart, rSlL, rCat, rEqD, rNeD, rIn, scal, List.map_cons, List.map_nil, List.length_cons, List.length_nil, List.length_map, List.cons_append, List.nil_append, List.append_nil, List.replicate, List.getElem?_cons_zero, List.getElem?_cons_succ, List.set_cons_zero, List.set_cons_succ, Option.some.injEq, exists_eq_left', exists_eq_left, exists_eq_right, exists_and_left, exists_and_right, V.int.injEq, V.ref.injEq, V.str.injEq, V.bl.injEq, reduceCtorEq, false_and, and_false, exists_false, or_false, false_or, true_and, and_true, List.cons.injEq, decide_eq_true_eq, cxOf, if_true, if_false, Bool.false_eq_true, Nat.reduceAdd, Nat.reduceSub, Nat.zero_add, Nat.add_sub_cancel_left, Nat.add_sub_cancel, Nat.sub_self, sFld, tFld, tFor_eq, tLc_eq, iRng1, iRng2, iList, iTup, iEnum, rIsi, rIsiT, iSeq, wipe, rNeNil, rEqNil]
        refine ⟨⟨_, (s3.trans s4).seq hx⟩, fun D2 nD2 => ?_⟩
        refine lg_filter walk_list (fun i => decide ((fs.getD i dI).2 = n) && decide ((fs.getD i dI).1 ∈ left)) (fun _ => .int 1) (small1000 (by omega)) nD2 (fun H s => (s3.trans (s4.trans s)).seq hx) (fun i x H5 H6 Aq2 Bq2 _ s5 hD5 hY hA2 hB2 => ?_) (fun H5 s5 e5 => ?_)
        · obtain ⟨rfl, hx2⟩ := hY
          obtain ⟨d, ed, hd⟩ := dpA_get (dpA_mono ((s3.trans s4).trans s5) _ _ ha) hx2
          rw [List.getElem?_map] at ed
          obtain ⟨f, ef, rfl⟩ := Option.map_eq_some_iff.mp ed
          have e2 : fs.getD i dI = f := by rw [List.getD_eq_getElem?_getD, ef]; rfl
          rw [e2] at hA2 hB2
          obtain ⟨b, rfl, hb⟩ := dp_fct hd
          simp only [and_assoc, tSeq, tAsg, tOp, tUn, rI, rI0, rU, tVar, tC, gName, L2.start, tIfS, tTest, tB, tCB, tCons, tNil, tIf, tRet, tRetN, tLst, tTup, tNext, tDrop, tNot, tNotV, tAnd, tOr, tAndV, tOrV, tPar, tAug, ipI, rEq, rNe, gSub, rSetL, rIxL, rIxT, tBM, tBM0, rAppend, rPopAt, gTup, gCons, gNil, tCall, tSl, tPart, tNoPart, rSlL, rCat, rEqD, rNeD, rIn, scal, List.map_cons, List.map_nil, List.length_cons, List.length_nil, List.length_map, List.cons_append, List.nil_append, List.append_nil, List.replicate, List.getElem?_cons_zero, List.getElem?_cons_succ, List.set_cons_zero, List.set_cons_succ, Option.some.injEq, exists_eq_left', exists_eq_left, exists_eq_right, exists_and_left, exists_and_right, V.int.injEq, V.ref.injEq, V.str.injEq, V.bl.injEq, reduceCtorEq, false_and, and_false, exists_false, or_false, false_or, true_and, and_true, List.cons.injEq, decide_eq_true_eq, cxOf, if_true, if_false, Bool.false_eq_true, Nat.reduceAdd, Nat.reduceSub, Nat.zero_add, Nat.add_sub_cancel_left, Nat.add_sub_cancel, Nat.sub_self, sFld, tFld, tFor_eq, tLc_eq, iRng1, iRng2, iList, iTup, iEnum, rIsi, rIsiT, iSeq, wipe, rNeNil, rEqNil]
          refine ⟨_, hb, rfl, _, _, rfl, _, _, rfl, rfl, ?_⟩
          refine ⟨rfl, ?_⟩
          by_cases h1 : f.2 = n
          · rw [if_pos (by rw [h1])]
            refine ⟨_, .inl (sqL_of (s5 _ _ (s4 _ _ eL))), rfl, flat_strs _, ?_⟩
            rw [inV_strs]
            by_cases h2 : f.1 ∈ left
            · rw [decide_eq_true h2, if_pos rfl]
              exact hA2 _ (by rw [decide_eq_true h1, decide_eq_true h2]; rfl) (Same.refl _)
            · rw [decide_eq_false h2, if_neg (by simp)]
              exact hB2 _ (by rw [decide_eq_false h2, Bool.and_false]) (Same.refl _)
          · rw [if_neg (fun z => h1 (V.str.inj z))]
            exact hB2 _ (by rw [decide_eq_false h1, Bool.false_and]) (Same.refl _)
        · refine ⟨Nat.zero_le _, fun p np => ⟨_, (same_upd np).seq (sqL_of e5), sqL_of upd_same, ?_⟩⟩
          have s45 : Same H4 (upd H5 p (.lst [])) := s5.trans (same_upd np)
          rw [xl, range_filter fs dI (fun f => decide (f.2 = n) && decide (f.1 ∈ left)) (fun _ => V.int 1), List.isEmpty_map]
          by_cases h : n ∈ waitM fs left
          · obtain ⟨f, hf, h1, h2⟩ := wait_mem.mp h
            have mem : f ∈ fs.filter fun f => decide (f.2 = n) && decide (f.1 ∈ left) := List.mem_filter.mpr ⟨hf, by rw [decide_eq_true h1, decide_eq_true h2]; rfl⟩
            have e0 : (fs.filter fun f => decide (f.2 = n) && decide (f.1 ∈ left)).isEmpty = false := by
              cases hh : fs.filter fun f => decide (f.2 = n) && decide (f.1 ∈ left) with
              | nil => rw [hh] at mem; cases mem
              | cons _ _ => rfl
            rw [e0, if_neg (by simp)]
            exact hB _ (decide_eq_false (fun z => z h)) s45
          · have e0 : (fs.filter fun f => decide (f.2 = n) && decide (f.1 ∈ left)) = [] := List.filter_eq_nil_iff.mpr fun f hf z => h (wait_mem.mpr (by
              rw [Bool.and_eq_true, decide_eq_true_eq, decide_eq_true_eq] at z
              exact ⟨f, hf, z.1, z.2⟩))
            rw [e0, if_pos (show ([] : List (Str × Str)).isEmpty = true from rfl)]
            exact hA _ (decide_eq_true h) s45
      · have e4 : H4 D = some (.lst ((freeM fs left).map V.str)) := e4
        have eL4 := s4 _ _ eL
        refine ⟨⟨_, sqL_of eL4⟩, fun D1 nD1 => ?_⟩
        refine lg_keep left V.str V.str (fun n => decide (n ∉ freeM fs left)) (.inl ⟨rfl, sqL_of eL4⟩) ln nD1 (fun n H5 Aq Bq hm s5 hD hA hB => ?_) (fun H5 s5 e5 => ?_)
        · simp only [and_assoc, tSeq, tAsg, tOp, tUn, rI, rI0, rU, tVar, tC, gName, L2.start, tIfS, tTest, tB, tCB, tCons, tNil, tIf, tRet, tRetN, tLst, tTup, tNext, tDrop, tNot, tNotV, tAnd, tOr, tAndV, tOrV, tPar, tAug, ipI, rEq, rNe, gSub, rSetL, rIxL, rIxT, tBM, tBM0, rAppend, rPopAt, gTup, gCons, gNil, tCall, tSl, tPart, tNoPart, rSlL, rCat, rEqD, rNeD, rIn, scal, List.map_cons, List.map_nil, List.length_cons, List.length_nil, List.length_map, List.cons_append, List.nil_append, List.append_nil, List.replicate, List.getElem?_cons_zero, List.getElem?_cons_succ, List.set_cons_zero, List.set_cons_succ, Option.some.injEq, exists_eq_left', exists_eq_left, exists_eq_right, exists_and_left, exists_and_right, V.int.injEq, V.ref.injEq, V.str.injEq, V.bl.injEq, reduceCtorEq, false_and, and_false, exists_false, or_false, false_or, true_and, and_true, List.cons.injEq, decide_eq_true_eq, cxOf, if_true, if_false, Bool.false_eq_true, Nat.reduceAdd, Nat.reduceSub, Nat.zero_add, Nat.add_sub_cancel_left, Nat.add_sub_cancel, Nat.sub_self, sFld, tFld, tFor_eq, tLc_eq, iRng1, iRng2, iList, iTup, iEnum, rIsi, rIsiT, iSeq, wipe, rNeNil, rEqNil]
          refine ⟨_, .inl (sqL_of (s5 _ _ e4)), rfl, flat_strs _, ?_⟩
          rw [inV_strs]
          by_cases h : n ∈ freeM fs left
          · rw [decide_eq_true h, if_neg (by simp)]
            exact hB _ (decide_eq_false (fun z => z h)) (Same.refl _)
          · rw [decide_eq_false h, if_pos (by rfl)]
            exact hA _ (decide_eq_true h) (Same.refl _)
        · rw [← rest_of] at e5
          have le : (restM fs left).length ≤ left.length := List.length_filter_le _ _
          refine ⟨s3.trans (s4.trans s5), restM fs left, e5, by omega, ?_⟩
          rw [← hR]
          obtain ⟨j, hj⟩ : ∃ j, ns.length - k = j + 1 := ⟨ns.length - k - 1, by omega⟩
          rw [hj, show ns.length - (k + 1) = j by omega]
          rfl
    · rintro σ H3 ⟨lA, left, o3, o4, o5, o6, o7, rfl, s3, eL, hL, hR⟩
      simp only [and_assoc, tSeq, tAsg, tOp, tUn, rI, rI0, rU, tVar, tC, gName, L2.start, tIfS, tTest, tB, tCB, tCons, tNil, tIf, tRet, tRetN, tLst, tTup, tNext, tDrop, tNot, tNotV, tAnd, tOr, tAndV, tOrV, tPar, tAug, ipI, rEq, rNe, gSub, rSetL, rIxL, rIxT, tBM, tBM0, rAppend, rPopAt, gTup, gCons, gNil, tCall, tSl, tPart, tNoPart, rSlL, rCat, rEqD, rNeD, rIn, scal, List.map_cons, List.map_nil, List.length_cons, List.length_nil, List.length_map, List.cons_append, List.nil_append, List.append_nil, List.replicate, List.getElem?_cons_zero, List.getElem?_cons_succ, List.set_cons_zero, List.set_cons_succ, Option.some.injEq, exists_eq_left', exists_eq_left, exists_eq_right, exists_and_left, exists_and_right, V.int.injEq, V.ref.injEq, V.str.injEq, V.bl.injEq, reduceCtorEq, false_and, and_false, exists_false, or_false, false_or, true_and, and_true, List.cons.injEq, decide_eq_true_eq, cxOf, if_true, if_false, Bool.false_eq_true, Nat.reduceAdd, Nat.reduceSub, Nat.zero_add, Nat.add_sub_cancel_left, Nat.add_sub_cancel, Nat.sub_self, sFld, tFld, tFor_eq, tLc_eq, iRng1, iRng2, iList, iTup, iEnum, rIsi, rIsiT, iSeq, wipe, rNeNil, rEqNil]
      refine ⟨Nat.zero_le _, fun p np => ⟨_, (same_upd np).seq (sqL_of eL), sqL_of upd_same, ?_⟩⟩
      rw [Nat.sub_self] at hR
      have hR : left = iterR fs ns.length ns := hR
      have z := iter_line fs ns.length ns [] (Nat.le_refl _)
      rw [← hR] at z
      rw [List.isEmpty_map]
      have := q _ (s3.trans (same_upd (o := .lst []) np))
      cases left with
      | nil =>
        rw [decide_eq_false (fun h => absurd (z.mpr h) (by simp))] at this
        exact this
      | cons x l0 =>
        rw [decide_eq_true (z.mp (by simp))] at this
        exact this

end
end He

namespace He
open PySem PySem.Spec PyProof.Rows L2
/-! ### rings, whatever the order of the people -/
theorem wait_perm {fs : List (Str × Str)} {l l' : List Str} (p : l.Perm l') : waitM fs l = waitM fs l' := by
  unfold waitM
  congr 1
  exact List.filter_congr fun f _ => by rw [decide_eq_decide]; exact p.mem_iff
theorem iter_perm {fs : List (Str × Str)} : ∀ {n : Nat} {l l' : List Str}, l.Perm l' → (iterR fs n l).Perm (iterR fs n l')
  | 0, _, _, p => p
  | n + 1, l, l', p => by
    refine iter_perm (n := n) ?_
    unfold restM
    rw [wait_perm p]
    exact p.filter _
theorem ring_perm {fs : List (Str × Str)} {l l' : List Str} (p : l.Perm l') : (lineM fs l.length l [] = none) ↔ (lineM fs l'.length l' [] = none) := by
  rw [← iter_line fs l.length l [] (Nat.le_refl _), ← iter_line fs l'.length l' [] (Nat.le_refl _), p.length_eq]
  have q := iter_perm (fs := fs) (n := l'.length) p
  exact ⟨fun h z => h (by rw [z] at q; exact q.eq_nil), fun h z => h (by rw [z] at q; exact q.symm.eq_nil)⟩
/-- neighbours in an order, the first m of them -/
def nexts (o : List Str) (m : Nat) : List (Str × Str) := (List.range m).map fun j => (o.getD j "", o.getD (j + 1) "")
theorem nexts_mem {o : List Str} {m : Nat} {f : Str × Str} (h : f ∈ nexts o m) (hm : m < o.length) : ∃ j, j < m ∧ o[j]? = some f.1 ∧ o[j + 1]? = some f.2 := by
  obtain ⟨j, hj, rfl⟩ := List.mem_map.mp h
  have jm := List.mem_range.mp hj
  have e1 : o[j]? = some (o.getD j "") := by rw [List.getD_eq_getElem?_getD, List.getElem?_eq_getElem (by omega)]; rfl
  have e2 : o[j + 1]? = some (o.getD (j + 1) "") := by rw [List.getD_eq_getElem?_getD, List.getElem?_eq_getElem (by omega)]; rfl
  exact ⟨j, jm, e1, e2⟩
theorem nexts_has {o : List Str} {m j : Nat} (hj : j < m) (hm : m < o.length) : ∃ a b, o[j]? = some a ∧ o[j + 1]? = some b ∧ (a, b) ∈ nexts o m := by
  have e1 : o[j]? = some o[j] := List.getElem?_eq_getElem (by omega)
  have e2 : o[j + 1]? = some o[j + 1] := List.getElem?_eq_getElem (by omega)
  refine ⟨_, _, e1, e2, List.mem_map.mpr ⟨j, List.mem_range.mpr hj, ?_⟩⟩
  rw [List.getD_eq_getElem?_getD, List.getD_eq_getElem?_getD, e1, e2]
  rfl
theorem free_in {o : List Str} (nd : o.Nodup) {m : Nat} (hm : m < o.length) {l : List Str} : ∀ (j : Nat) (x : Str), x ∈ l → o[j]? = some x → ∃ y, y ∈ freeM (nexts o m) l
  | j, x, hx, ej => by
    by_cases h : x ∈ waitM (nexts o m) l
    · obtain ⟨f, hf, e1, e2⟩ := wait_mem.mp h
      obtain ⟨i, im, g1, g2⟩ := nexts_mem hf hm
      have ij : i + 1 = j := (List.getElem?_inj (List.getElem?_eq_some_iff.mp g2).1 nd).mp (by rw [g2, ej, e1])
      have : i < j := by omega
      exact free_in nd hm i f.1 e2 g1
    · exact ⟨x, free_mem.mpr ⟨hx, h⟩⟩
  termination_by j => j
theorem line_iter {o : List Str} (nd : o.Nodup) {m : Nat} (hm : m < o.length) : ∀ (n : Nat) (l : List Str), l.length ≤ n → (∀ x ∈ l, x ∈ o) → iterR (nexts o m) n l = []
  | 0, l, h, _ => show l = [] from List.length_eq_zero_iff.mp (Nat.le_zero.mp h)
  | n + 1, l, h, hl => by
    show iterR (nexts o m) n (restM (nexts o m) l) = []
    refine line_iter nd hm n _ ?_ fun x hx => hl x (List.mem_filter.mp hx).1
    cases l with
    | nil => exact Nat.zero_le _
    | cons x l0 =>
      obtain ⟨j, ej⟩ := List.mem_iff_getElem?.mp (hl x List.mem_cons_self)
      obtain ⟨y, hy⟩ := free_in nd hm j x (List.mem_cons_self (l := l0)) ej
      have := rest_lt (fs := nexts o m) (left := x :: l0) (fun z => by rw [z] at hy; cases hy)
      omega
theorem line_ok {o : List Str} (nd : o.Nodup) {m : Nat} (hm : m < o.length) {l : List Str} (hl : ∀ x ∈ l, x ∈ o) : lineM (nexts o m) l.length l [] ≠ none := fun z =>
  (iter_line _ l.length l [] (Nat.le_refl _)).mpr z (line_iter nd hm _ _ (Nat.le_refl _) hl)
theorem ring_in {o : List Str} {m : Nat} (hm : m < o.length) {a b : Str} (e0 : o[0]? = some a) (em : o[m]? = some b) : ∀ (n : Nat) (l : List Str), (∀ j, j ≤ m → ∀ x, o[j]? = some x → x ∈ l) → a ∈ iterR (nexts o m ++ [(b, a)]) n l
  | 0, l, h => h 0 (Nat.zero_le _) a e0
  | n + 1, l, h => by
    refine ring_in hm e0 em n _ fun j jm x ex => ?_
    refine List.mem_filter.mpr ⟨h j jm x ex, decide_eq_true (wait_mem.mpr ?_)⟩
    cases j with
    | zero =>
      refine ⟨(b, a), List.mem_append_right _ (List.mem_singleton.mpr rfl), ?_, h m (Nat.le_refl _) b em⟩
      rw [e0] at ex
      exact Option.some.inj ex
    | succ i =>
      obtain ⟨c, d, g1, g2, g3⟩ := nexts_has (o := o) (m := m) (j := i) (by omega) hm
      rw [g2] at ex
      exact ⟨(c, d), List.mem_append_left _ g3, Option.some.inj ex, h i (by omega) c g1⟩
theorem ring_line {o : List Str} {m : Nat} (hm : m < o.length) {a b : Str} (e0 : o[0]? = some a) (em : o[m]? = some b) {l : List Str} (hl : ∀ x ∈ o, x ∈ l) : lineM (nexts o m ++ [(b, a)]) l.length l [] = none := by
  refine (iter_line _ l.length l [] (Nat.le_refl _)).mp fun z => ?_
  have := ring_in hm e0 em l.length l fun j _ x ex => hl x (List.mem_of_getElem? ex)
  rw [z] at this
  cases this
theorem fct_nexts {o ds : List Str} (nd : o.Nodup) {m : Nat} (hm : m < o.length) (m60 : m ≤ 50) (hs : ∀ x ∈ o, x ∈ ds) (hn : ∀ x ∈ o, nameB x = true) : FctOk ds (nexts o m) := by
  refine ⟨by unfold nexts; rw [List.length_map, List.length_range]; omega, fun f hf => ?_, fun f hf => ?_⟩
  · obtain ⟨j, jm, g1, g2⟩ := nexts_mem hf hm
    refine ⟨hs _ (List.mem_of_getElem? g1), hs _ (List.mem_of_getElem? g2), fun e => ?_⟩
    have := (List.getElem?_inj (List.getElem?_eq_some_iff.mp g1).1 nd).mp (g1.trans (by rw [e]; exact g2.symm))
    omega
  · obtain ⟨j, jm, g1, g2⟩ := nexts_mem hf hm
    exact ⟨hn _ (List.mem_of_getElem? g1), hn _ (List.mem_of_getElem? g2)⟩
theorem fct_more {ds : List Str} {fs : List (Str × Str)} {a b : Str} (h : FctOk ds fs) (l : fs.length < 60) (ha : a ∈ ds) (hb : b ∈ ds) (ne : a ≠ b) (na : nameB a = true) (nb : nameB b = true) : FctOk ds (fs ++ [(a, b)]) := by
  refine ⟨by rw [List.length_append]; exact l, fun f hf => ?_, fun f hf => ?_⟩ <;> rcases List.mem_append.mp hf with hf | hf
  · exact h.ok f hf
  · rw [List.mem_singleton.mp hf]; exact ⟨ha, hb, ne⟩
  · exact h.nm f hf
  · rw [List.mem_singleton.mp hf]; exact ⟨na, nb⟩
theorem FctOk.perm {ds ds' : List Str} {fs : List (Str × Str)} (h : FctOk ds fs) (p : ∀ x ∈ ds, x ∈ ds') : FctOk ds' fs := ⟨h.l, fun f hf => let ⟨a, b, c⟩ := h.ok f hf; ⟨p _ a, p _ b, c⟩, h.nm⟩
end He

namespace He
open PySem PySem.Spec PyProof.Rows L2
section
variable {P : Program} {w : World} {K : PySem.W.Frag} {mg : Str → Option Value} {base : Heap}

/-! ### what hangs on no list -/
def TI (Ha Hb : Hp) : Prop := ∀ b u, (∀ xs, u ≠ HO.lst xs) → Ha b = some u → Hb b = some u
theorem TI.of {Ha Hb : Hp} (s : Same Ha Hb) : TI Ha Hb := fun b u _ e => s b u e
theorem TI.trans {Ha Hb Hc : Hp} (x : TI Ha Hb) (y : TI Hb Hc) : TI Ha Hc := fun b u n e => y b u n (x b u n e)
theorem TI.bx {p : Addr} {Ha Hb : Hp} (hb : Box Ha p) (B : Bx p Ha Hb) : TI Ha Hb := fun b u n e => by
  have bp : b ≠ p := fun z => by
    obtain ⟨_, _, e2, _⟩ := hb
    rw [z, e2] at e
    exact n _ (Option.some.inj e).symm
  have := B.2 b u (by rw [hide_ne bp]; exact e)
  rw [hide_ne bp] at this
  exact this
theorem TI.lst {H : Hp} {f : Addr} {xs ys : List V} (e : H f = some (.lst xs)) : TI H (upd H f (.lst ys)) := fun b u n eb => by
  have bf : b ≠ f := fun z => by
    rw [z, e] at eb
    exact n _ (Option.some.inj eb).symm
  rw [upd_ne bf]
  exact eb
theorem sqT_ti {Ha Hb : Hp} {a : Addr} {xs : List V} (t : TI Ha Hb) (h : SqT K Ha a xs) : SqT K Hb a xs :=
  h.imp (fun r => r.imp (t a _ fun _ z => nomatch z) fun ⟨o, r⟩ => ⟨o, t a _ (fun _ z => nomatch z) r⟩) id
mutual
def noL : PyData → Bool
  | .list _ => false
  | .dict _ => false
  | .tuple ds => noLA ds
  | _ => true
def noLA : List PyData → Bool
  | [] => true
  | d :: ds => noL d && noLA ds
end
mutual
theorem dp_ti {K : PySem.W.Frag} {H H' : Hp} (s : TI H H') : ∀ (d : PyData) (v : V), noL d = true → Dp K H v d → Dp K H' v d
  | .none, _, _, h => by cases h; exact .non
  | .bool b, _, _, h => by cases h; exact .bl b
  | .int i, _, _, h => by cases h; exact .int i
  | .str x, _, _, h => by cases h; exact .str x
  | .list ds, _, n, _ => nomatch n
  | .tuple ds, _, n, h => by
    cases h with
    | tup hs ha => exact .tup (sqT_ti s hs) (dpA_ti s ds _ n ha)
  | .dict _, _, n, _ => nomatch n
theorem dpA_ti {K : PySem.W.Frag} {H H' : Hp} (s : TI H H') : ∀ (ds : List PyData) (vs : List V), noLA ds = true → DpAll K H vs ds → DpAll K H' vs ds
  | [], _, _, h => by cases h; exact .nil
  | d :: ds, _, n, h => by
    have n2 : (noL d && noLA ds) = true := n
    rw [Bool.and_eq_true] at n2
    cases h with
    | cons a b => exact .cons (dp_ti s d _ n2.1 a) (dpA_ti s ds _ n2.2 b)
end
theorem noLA_of {ds : List PyData} (h : ∀ d ∈ ds, noL d = true) : noLA ds = true := by
  induction ds with
  | nil => rfl
  | cons d ds ih =>
    show (noL d && noLA ds) = true
    rw [h d List.mem_cons_self, ih fun e he => h e (List.mem_cons_of_mem _ he)]
    rfl
theorem noL_per (ps : List (Str × Int)) : noLA (ps.map dPer) = true := noLA_of fun d hd => by
  obtain ⟨p, _, rfl⟩ := List.mem_map.mp hd
  rfl
theorem noL_fct (fs : List (Str × Str)) : noLA (fs.map dFct) = true := noLA_of fun d hd => by
  obtain ⟨p, _, rfl⟩ := List.mem_map.mp hd
  rfl
def shsD : List Sh := [(1, [])]
theorem okD : WOk shsD := by
  refine ⟨by simp [shsD], by decide, ?_, ?_⟩ <;> (intro s hs; obtain rfl := List.mem_singleton.mp hs)
  · exact ⟨⟨by decide, fun g hg => nomatch hg⟩, by decide, fun g hg => nomatch hg⟩
  · decide
theorem will_ti {C : Addr} {H H' : Hp} {x : Addr} (t : TI H H') (h : WillAt K C H x shsD) : WillAt K C H' x shsD := by
  obtain ⟨dx, y, e, d⟩ := h
  exact ⟨dx, y, t x _ (fun _ z => nomatch z) e, dp_ti t _ _ rfl d⟩
theorem wls_ti {C : Addr} {H H' : Hp} {xs : List V} {ms : List Str} (t : TI H H') (h : WlsD K C H xs (ms.map fun n => (n, shsD))) : WlsD K C H' xs (ms.map fun n => (n, shsD)) := ⟨h.1, fun i x w e1 e2 => by
  obtain ⟨b, wr, e, h1, h2⟩ := h.2 i x w e1 e2
  rw [List.getElem?_map] at e2
  obtain ⟨n, _, rfl⟩ := Option.map_eq_some_iff.mp e2
  exact ⟨b, wr, e, sqT_ti t h1, will_ti t h2⟩⟩
theorem same_hide {H H' : Hp} {d : Addr} (n : H d = none) (s : Same H H') : Same H (hide d H') := fun b o e => by
  rw [hide_ne (ne_of_none e n)]
  exact s b o e
theorem go_init {C : Addr} {H : Hp} {Q : VK} {x dx : Addr} {v : V} {shs : List Sh} (h : H x = some (.ins C dx [])) (hv : Av K H v (adWill shs)) (hw : WOk shs)
    (q : ∀ t H', (∀ b o, b ≠ x → H b = some o → H' b = some o) → H' x = some (.ins C dx [("shares", .ref t)]) → Dp K (news H H') (.ref t) (nWill shs) → Q .non H') : spWInit K C [.ref x, v] H Q E0 := by
  unfold spWInit
  exact ⟨x, dx, v, shs, rfl, h, hv, hw, q⟩
theorem go_make {C l : Addr} {H : Hp} {Q : Addr → Hp → Prop} {shs : List Sh} (hv : Av K H (.ref l) (adWill shs)) (hw : WOk shs) (q : ∀ x H', Same H H' → WillAt K C H' x shs → Q x H') :
    ∀ x dx, H x = none → H dx = none → dx ≠ x → spWInit K C [.ref x, .ref l] (upd (upd H dx (.own x)) x (.ins C dx [])) (fun v H2 => v = .non ∧ Q x H2) E0 := by
  intro x dx nx ndx hne
  have sH : Same H (upd (upd H dx (.own x)) x (.ins C dx [])) := (same_upd ndx).trans (same_upd (by rw [upd_ne (Ne.symm hne)]; exact nx))
  have ex0 : upd (upd H dx (.own x)) x (.ins C dx []) x = some (.ins C dx []) := upd_same
  generalize upd (upd H dx (.own x)) x (.ins C dx []) = Hi at sH ex0 ⊢
  refine go_init (shs := shs) ex0 (av_mono sH _ _ hv) hw fun t H6 k6 e6 d6 => ⟨rfl, ?_⟩
  have s6 : Same H H6 := fun b o e => k6 b o (ne_of_none e nx) (sH _ _ e)
  have n6 : Same (news Hi H6) H6 := fun b o e => (news_get e).2
  exact q x H6 s6 ⟨dx, t, e6, dp_mono n6 _ _ d6⟩
theorem Names.some {ns ms : List Str} (h : Names ns) (nd : ms.Nodup) (hs : ∀ n ∈ ms, n ∈ ns) : Names ms := ⟨nd, fun n hn => h.nm n (hs n hn), by
  obtain ⟨pl, hp, hin⟩ := h.pl
  exact ⟨pl, hp, fun n hn => hin n (hs n hn)⟩⟩
theorem perm_of_map {α β : Type} (f : α → β) {es m : List β} (p : es.Perm m) : ∀ {l : List α}, m = l.map f → ∃ l' : List α, l'.Perm l ∧ es = l'.map f := by
  induction p with
  | nil =>
    intro l h
    exact ⟨[], by rw [List.map_eq_nil_iff.mp h.symm], rfl⟩
  | cons x _ ih =>
    intro l h
    obtain ⟨a, l0, rfl, e1, e2⟩ := List.map_eq_cons_iff.mp h.symm
    obtain ⟨l', p', e'⟩ := ih e2.symm
    exact ⟨a :: l', p'.cons a, by rw [List.map_cons, e1, e']⟩
  | swap x y l =>
    intro l h
    obtain ⟨a, l0, rfl, e1, e2⟩ := List.map_eq_cons_iff.mp h.symm
    obtain ⟨b, l1, rfl, e3, e4⟩ := List.map_eq_cons_iff.mp e2
    exact ⟨b :: a :: l1, List.Perm.swap _ _ _, by rw [List.map_cons, List.map_cons, e1, e3, e4]⟩
  | trans _ _ i j =>
    intro l h
    obtain ⟨l1, p1, e1⟩ := j h
    obtain ⟨l2, p2, e2⟩ := i e1
    exact ⟨l2, p2.trans p1, e2⟩
theorem dpA_take {K : PySem.W.Frag} {H : Hp} : ∀ (k : Nat) {vs : List V} {ds : List PyData}, DpAll K H vs ds → DpAll K H (vs.take k) (ds.take k)
  | 0, _, _, _ => .nil
  | _ + 1, _, _, .nil => .nil
  | k + 1, _, _, .cons a b => .cons a (dpA_take k b)
theorem nexts_take (o : List Str) (a b : Nat) : (nexts o a).take b = nexts o (min b a) := by
  unfold nexts
  rw [← List.map_take, List.take_range]
theorem nexts_succ (o : List Str) (i : Nat) : nexts o (i + 1) = nexts o i ++ [(o.getD i "", o.getD (i + 1) "")] := by
  unfold nexts
  rw [List.range_succ, List.map_append]
  rfl
def spLaw (K : PySem.W.Frag) : Sp := fun vs H Q _ => ∃ (a : Addr) (ns : List Int), vs = [.ref a] ∧ SqL K H a (ns.map V.int) ∧ ns.length ≤ 63 ∧ ∀ H', Q (.bl true) H'
theorem ok_law (X : TxtF K mg) : FnOk P w K mg base CX0 12 X.m.n.w.t.dLaw.f X.m.n.w.t.dLaw.fd ["_law_script"] (spLaw K) := by
  refine X.m.n.w.t.dLaw.F.ok scDLaw (fun vs H Q E h => ?_) (fun cdv A outer s H vs Q E hr h => ?_)
  · obtain ⟨a, ns, rfl, _⟩ := h
    rfl
  · obtain ⟨a, ns, rfl, hs, hn, q⟩ := h
    refine ⟨_, (pss_cons (ps_for PassesOwn.never rfl (pi_range1 (by rfl) X.m.n.w.t.z_range (pa_cons (pe_callB (call_max2 rfl) (by rfl) X.m.n.w.t.z_max (show bootBuiltins "max" = some (.builtin "max") by decide +kernel) (pa_cons pe_int (pa_cons (pe_callB (call_min2 rfl) (by rfl) X.m.n.w.t.z_min (show bootBuiltins "min" = some (.builtin "min") by decide +kernel) (pa_cons pe_int (pa_cons (pe_callB call_lenL (by rfl) X.m.n.w.t.z_len (show bootBuiltins "len" = some (.builtin "len") by decide +kernel) (pa_cons (pv 0) pa_nil)) pa_nil))) pa_nil))) pa_nil)) (pg_name (i := 1) scDLaw.nd rfl (.inl rfl))
      (pss_cons (ps_set (i := 2) scDLaw.nd rfl (.inl rfl) (pe_call (ok_seed X.m.n.w.t) (hr.mono (by decide)) (by rfl) X.m.n.w.t.dLawSeed.g X.m.n.w.t.dLawSeed.F.kp X.m.n.w.t.dLawSeed.b .nil pass0 (pa_cons (pv 0) (pa_cons (pv 1) pa_nil))))
      (pss_one (ps_for PassesOwn.never rfl (pi_range1 (by rfl) X.m.n.w.t.z_range (pa_cons pe_int pa_nil)) (pg_name (i := 3) scDLaw.nd rfl (.inl rfl))
      (pss_cons (ps_set (i := 4) scDLaw.nd rfl (.inl rfl) (pe_call (ok_names X.m.n.w.t) (hr.mono (by decide)) (by rfl) X.m.n.w.t.dLawNames.g X.m.n.w.t.dLawNames.F.kp X.m.n.w.t.dLawNames.b .nil pass0 (pa_cons (pv 2) (pa_cons pe_int pa_nil))))
      (pss_cons (ps_set (i := 5) scDLaw.nd rfl (.inl rfl) (pe_slice sl_list (pv 4) po_none (po_some (pe_op op_add pe_int (pe_call (ok_choose X.m.n.w.t) (hr.mono (by decide)) (by rfl) X.m.n.w.t.dLawChoose.g X.m.n.w.t.dLawChoose.F.kp X.m.n.w.t.dLawChoose.b .nil pass0 (pa_cons (pv 2) (pa_cons pe_int pa_nil)))))))
      (pss_cons (ps_par (i := 6) (j := 7) (by rfl) scDLaw.nd rfl rfl (by decide) rfl rfl (pa_cons (pe_lc (own := [("_law_name", 8)]) (g := (gName 8)) (tt := tYes) rfl scDLaw.nd (pi_list (pv 4)) (blkOk_by (N := ["_law_script", "_law_k", "_law_box", "_law_turn", "_law_names_here", "_law_dead", "_law_people", "_law_wills", "_law_name", "_law_facts", "_law_more", "_law_pair", "_law_order", "_law_line", "_law_spot"]) (sc := defScope sDLaw) (by decide +kernel)) (fun _ _ _ _ _ => (pg_name (i := 8) scDLaw.nd rfl (.inl rfl))) (fun _ _ _ _ _ => pts_nil) (fun _ _ _ _ _ => (pe_tup (pa_cons (pv 8) (pa_cons pe_int pa_nil))))) (pa_cons (pe_lc (own := [("_law_name", 8)]) (g := (gName 8)) (tt := tYes) rfl scDLaw.nd (pi_list (pe_call (ok_mixed X.m.n.w.t) (hr.mono (by decide)) (by rfl) X.m.n.w.t.dLawMixed.g X.m.n.w.t.dLawMixed.F.kp X.m.n.w.t.dLawMixed.b .nil pass0 (pa_cons (pv 2) (pa_cons (pv 5) pa_nil)))) (blkOk_by (N := ["_law_script", "_law_k", "_law_box", "_law_turn", "_law_names_here", "_law_dead", "_law_people", "_law_wills", "_law_name", "_law_facts", "_law_more", "_law_pair", "_law_order", "_law_line", "_law_spot"]) (sc := defScope sDLaw) (by decide +kernel)) (fun _ _ _ _ _ => (pg_name (i := 8) scDLaw.nd rfl (.inl rfl))) (fun _ _ _ _ _ => pts_nil) (fun _ _ _ _ _ => (pe_tup (pa_cons (pv 8) (pa_cons (pe_make X.m.n.w.iM (ok_winit X.m.n.w) (hr.mono (by decide)) (by rfl) X.m.n.w.t.gcWill X.m.n.w.iB .nil pass0 (pa_cons (pe_lst (pa_cons (pe_tup (pa_cons pe_int (pa_cons (pe_lst pa_nil) pa_nil))) pa_nil)) pa_nil)) pa_nil))))) pa_nil)) (by rfl))
      (pss_cons (ps_set (i := 9) scDLaw.nd rfl (.inl rfl) (pe_lst pa_nil))
      (pss_cons (ps_for PassesOwn.never rfl (pi_range1 (by rfl) X.m.n.w.t.z_range (pa_cons (pe_call (ok_choose X.m.n.w.t) (hr.mono (by decide)) (by rfl) X.m.n.w.t.dLawChoose.g X.m.n.w.t.dLawChoose.F.kp X.m.n.w.t.dLawChoose.b .nil pass0 (pa_cons (pv 2) (pa_cons pe_int pa_nil))) pa_nil)) (pg_name (i := 10) scDLaw.nd rfl (.inl rfl))
      (pss_cons (ps_set (i := 11) scDLaw.nd rfl (.inl rfl) (pe_slice sl_list (pe_call (ok_mixed X.m.n.w.t) (hr.mono (by decide)) (by rfl) X.m.n.w.t.dLawMixed.g X.m.n.w.t.dLawMixed.F.kp X.m.n.w.t.dLawMixed.b .nil pass0 (pa_cons (pv 2) (pa_cons (pv 5) pa_nil))) po_none (po_some pe_int)))
      (pss_one (ps_expr (pe_bm PySem.F.plainAttrs_list PySem.F.slot_list_append PySem.F.type_list_append mt_append (pv 9) (pa_cons (pe_tup (pa_cons (pe_ix ix_list (pv 11) pe_int (fun _ _ => rfl)) (pa_cons (pe_ix ix_list (pv 11) pe_int (fun _ _ => rfl)) pa_nil))) pa_nil))))))
      (pss_cons (ps_if (pt_cmpR op_ne (pe_call (ok_heard X) (hr.mono (by decide)) (by rfl) X.m.n.w.t.dLawHeard.g X.m.n.w.t.dLawHeard.F.kp X.m.n.w.t.dLawHeard.b .nil pass0 (pa_cons (pv 6) (pa_cons (pv 7) (pa_cons (pv 9) pa_nil)))) (pe_ifExp (pt_val (pe_call (ok_ring X.m.n.w.t) (hr.mono (by decide)) (by rfl) X.m.n.w.t.dLawHasRing.g X.m.n.w.t.dLawHasRing.F.kp X.m.n.w.t.dLawHasRing.b .nil pass0 (pa_cons (pv 5) (pa_cons (pv 9) pa_nil)))) pe_str pe_non) (nomark _))
      (pss_one (ps_ret pe_bl))
      pss_nil)
      (pss_cons (ps_set (i := 12) scDLaw.nd rfl (.inr rfl) (pe_call (ok_mixed X.m.n.w.t) (hr.mono (by decide)) (by rfl) X.m.n.w.t.dLawMixed.g X.m.n.w.t.dLawMixed.F.kp X.m.n.w.t.dLawMixed.b .nil pass0 (pa_cons (pv 2) (pa_cons (pv 5) pa_nil))))
      (pss_cons (ps_set (i := 13) scDLaw.nd rfl (.inl rfl) (pe_slice sl_list (pe_lc (own := [("_law_spot", 14)]) (g := (gName 14)) (tt := tYes) rfl scDLaw.nd (pi_range1 (by rfl) X.m.n.w.t.z_range (pa_cons (pe_op op_sub (pe_callB (show CallR _ (.builtin "len") (rLenL K) from call_lenL) (by rfl) X.m.n.w.t.z_len (show bootBuiltins "len" = some (.builtin "len") by decide +kernel) (pa_cons (pv 12) pa_nil)) pe_int) pa_nil)) (blkOk_by (N := ["_law_script", "_law_k", "_law_box", "_law_turn", "_law_names_here", "_law_dead", "_law_people", "_law_wills", "_law_name", "_law_facts", "_law_more", "_law_pair", "_law_order", "_law_line", "_law_spot"]) (sc := defScope sDLaw) (by decide +kernel)) (fun _ _ _ _ _ => (pg_name (i := 14) scDLaw.nd rfl (.inl rfl))) (fun _ _ _ _ _ => pts_nil) (fun _ _ _ _ _ => (pe_tup (pa_cons (pe_ix (show IxR _ (rIxL K) from ix_list) (pv 12) (pv 14) (fun _ _ => rfl)) (pa_cons (pe_ix (show IxR _ (rIxL K) from ix_list) (pv 12) (pe_op op_add (pv 14) pe_int) (fun _ _ => rfl)) pa_nil))))) po_none (po_some pe_int)))
      (pss_cons (ps_if (pt_cmpR op_notN (pe_call (ok_heard X) (hr.mono (by decide)) (by rfl) X.m.n.w.t.dLawHeard.g X.m.n.w.t.dLawHeard.F.kp X.m.n.w.t.dLawHeard.b .nil pass0 (pa_cons (pv 6) (pa_cons (pv 7) (pa_cons (pv 13) pa_nil)))) pe_non (nomark _))
      (pss_one (ps_ret pe_bl))
      pss_nil)
      (pss_one (ps_if (pt_cmpR op_ne (pe_call (ok_heard X) (hr.mono (by decide)) (by rfl) X.m.n.w.t.dLawHeard.g X.m.n.w.t.dLawHeard.F.kp X.m.n.w.t.dLawHeard.b .nil pass0 (pa_cons (pv 6) (pa_cons (pv 7) (pa_cons (pe_op op_cat (pv 13) (pe_lst (pa_cons (pe_tup (pa_cons (pe_ix ix_list (pv 12) (pe_callB call_lenL (by rfl) X.m.n.w.t.z_len (show bootBuiltins "len" = some (.builtin "len") by decide +kernel) (pa_cons (pv 13) pa_nil)) (fun _ _ => rfl)) (pa_cons (pe_ix ix_list (pv 12) pe_int (fun _ _ => rfl)) pa_nil))) pa_nil))) pa_nil)))) pe_str (nomark _))
      (pss_one (ps_ret pe_bl))
      pss_nil)))))))))))))))
      (pss_one (ps_ret pe_bl))), ?_⟩
    simp only [and_assoc, tSeq, tAsg, tOp, tUn, rI, rI0, rU, tVar, tC, gName, L2.start, tIfS, tTest, tB, tCB, tCons, tNil, tIf, tRet, tRetN, tLst, tTup, tNext, tDrop, tNot, tNotV, tAnd, tOr, tAndV, tOrV, tPar, tAug, ipI, rEq, rNe, gSub, rSetL, rIxL, rIxT, tBM, tBM0, rAppend, rPopAt, gTup, gCons, gNil, tCall, tSl, tPart, tNoPart, rSlL, rCat, rEqD, rNeD, rIn, scal, List.map_cons, List.map_nil, List.length_cons, List.length_nil, List.length_map, List.cons_append, List.nil_append, List.append_nil, List.replicate, List.getElem?_cons_zero, List.getElem?_cons_succ, List.set_cons_zero, List.set_cons_succ, Option.some.injEq, exists_eq_left', exists_eq_left, exists_eq_right, exists_and_left, exists_and_right, V.int.injEq, V.ref.injEq, V.str.injEq, V.bl.injEq, reduceCtorEq, false_and, and_false, exists_false, or_false, false_or, true_and, and_true, List.cons.injEq, decide_eq_true_eq, cxOf, if_true, if_false, Bool.false_eq_true, Nat.reduceAdd, Nat.reduceSub, Nat.zero_add, Nat.add_sub_cancel_left, Nat.add_sub_cancel, Nat.sub_self, sFld, tFld, tFor_eq, tLc_eq, iRng1, iRng2, iList, iTup, iEnum, rIsi, rIsiT, iSeq, wipe, rNeNil, rEqNil, tMake, spMixed]
    obtain ⟨n, hn4, hnn⟩ : ∃ n : Nat, n ≤ 4 ∧ (if (if ((List.map V.int ns).length : Int) < 4 then ((List.map V.int ns).length : Int) else 4) > 2 then if ((List.map V.int ns).length : Int) < 4 then ((List.map V.int ns).length : Int) else 4 else 2) = (n : Int) := by
      refine ⟨(if (if ((List.map V.int ns).length : Int) < 4 then ((List.map V.int ns).length : Int) else 4) > 2 then if ((List.map V.int ns).length : Int) < 4 then ((List.map V.int ns).length : Int) else 4 else 2).toNat, ?_, ?_⟩ <;> (repeat' split) <;> omega
    refine ⟨_, hs, by rw [hnn]; omega, by rw [hnn]; omega, ?_⟩
    rw [hnn, Int.toNat_natCast]
    refine fg_range (fun i σ H2 => ∃ (r : List (Option V)), σ = some (.ref a) :: r ∧ r.length = 14 ∧ Same H H2) ⟨_, rfl, rfl, Same.refl H⟩ ?_ ?_
    · rintro i σ H2 hi ⟨r, rfl, hr14, s2⟩
      obtain ⟨o1, o2, o3, o4, o5, o6, o7, o8, o9, o10, o11, o12, o13, o14, rfl⟩ : ∃ o1 o2 o3 o4 o5 o6 o7 o8 o9 o10 o11 o12 o13 o14, r = [o1, o2, o3, o4, o5, o6, o7, o8, o9, o10, o11, o12, o13, o14] := by
        match r, hr14 with
        | [o1, o2, o3, o4, o5, o6, o7, o8, o9, o10, o11, o12, o13, o14], _ => exact ⟨_, _, _, _, _, _, _, _, _, _, _, _, _, _, rfl⟩
      simp only [and_assoc, tSeq, tAsg, tOp, tUn, rI, rI0, rU, tVar, tC, gName, L2.start, tIfS, tTest, tB, tCB, tCons, tNil, tIf, tRet, tRetN, tLst, tTup, tNext, tDrop, tNot, tNotV, tAnd, tOr, tAndV, tOrV, tPar, tAug, ipI, rEq, rNe, gSub, rSetL, rIxL, rIxT, tBM, tBM0, rAppend, rPopAt, gTup, gCons, gNil, tCall, tSl, tPart, tNoPart, rSlL, rCat, rEqD, rNeD, rIn, scal, List.map_cons, List.map_nil, List.length_cons, List.length_nil, List.length_map, List.cons_append, List.nil_append, List.append_nil, List.replicate, List.getElem?_cons_zero, List.getElem?_cons_succ, List.set_cons_zero, List.set_cons_succ, Option.some.injEq, exists_eq_left', exists_eq_left, exists_eq_right, exists_and_left, exists_and_right, V.int.injEq, V.ref.injEq, V.str.injEq, V.bl.injEq, reduceCtorEq, false_and, and_false, exists_false, or_false, false_or, true_and, and_true, List.cons.injEq, decide_eq_true_eq, cxOf, if_true, if_false, Bool.false_eq_true, Nat.reduceAdd, Nat.reduceSub, Nat.zero_add, Nat.add_sub_cancel_left, Nat.add_sub_cancel, Nat.sub_self, sFld, tFld, tFor_eq, tLc_eq, iRng1, iRng2, iList, iTup, iEnum, rIsi, rIsiT, iSeq, wipe, rNeNil, rEqNil, tMake, spMixed, spSeed]
      refine ⟨ns, i, by omega, by omega, s2.seq hs, hn, fun b0 b1 p np h0 h1 h2 => ⟨by decide, by decide, ?_⟩⟩
      have hb1 : Box (upd H2 p (.lst [.int b0, .int b1])) p := ⟨b0, b1, upd_same, h0, h1, h2⟩
      have s21 := same_upd (o := .lst [.int b0, .int b1]) np
      generalize upd H2 p (.lst [.int b0, .int b1]) = H1 at hb1 s21 ⊢
      refine fg_range (fun j σ H3 => ∃ (r : List (Option V)), σ = some (.ref a) :: some (.int (0 + ↑i)) :: some (.ref p) :: r ∧ r.length = 12 ∧ Bx p H1 H3) ⟨_, rfl, rfl, .refl hb1⟩ ?_ ?_
      · rintro j σ H3 hj ⟨r, rfl, hr12, B3⟩
        obtain ⟨o3, o4, o5, o6, o7, o8, o9, o10, o11, o12, o13, o14, rfl⟩ : ∃ o3 o4 o5 o6 o7 o8 o9 o10 o11 o12 o13 o14, r = [o3, o4, o5, o6, o7, o8, o9, o10, o11, o12, o13, o14] := by
          match r, hr12 with
          | [o3, o4, o5, o6, o7, o8, o9, o10, o11, o12, o13, o14], _ => exact ⟨_, _, _, _, _, _, _, _, _, _, _, _, rfl⟩
        simp only [and_assoc, tSeq, tAsg, tOp, tUn, rI, rI0, rU, tVar, tC, gName, L2.start, tIfS, tTest, tB, tCB, tCons, tNil, tIf, tRet, tRetN, tLst, tTup, tNext, tDrop, tNot, tNotV, tAnd, tOr, tAndV, tOrV, tPar, tAug, ipI, rEq, rNe, gSub, rSetL, rIxL, rIxT, tBM, tBM0, rAppend, rPopAt, gTup, gCons, gNil, tCall, tSl, tPart, tNoPart, rSlL, rCat, rEqD, rNeD, rIn, scal, List.map_cons, List.map_nil, List.length_cons, List.length_nil, List.length_map, List.cons_append, List.nil_append, List.append_nil, List.replicate, List.getElem?_cons_zero, List.getElem?_cons_succ, List.set_cons_zero, List.set_cons_succ, Option.some.injEq, exists_eq_left', exists_eq_left, exists_eq_right, exists_and_left, exists_and_right, V.int.injEq, V.ref.injEq, V.str.injEq, V.bl.injEq, reduceCtorEq, false_and, and_false, exists_false, or_false, false_or, true_and, and_true, List.cons.injEq, decide_eq_true_eq, cxOf, if_true, if_false, Bool.false_eq_true, Nat.reduceAdd, Nat.reduceSub, Nat.zero_add, Nat.add_sub_cancel_left, Nat.add_sub_cancel, Nat.sub_self, sFld, tFld, tFor_eq, tLc_eq, iRng1, iRng2, iList, iTup, iEnum, rIsi, rIsiT, iSeq, wipe, rNeNil, rEqNil, tMake, spMixed, spNames]
        refine ⟨9, rfl, B3.1, by decide, fun nms u H4 B4 nm nl nu eu => ?_⟩
        simp only [and_assoc, tSeq, tAsg, tOp, tUn, rI, rI0, rU, tVar, tC, gName, L2.start, tIfS, tTest, tB, tCB, tCons, tNil, tIf, tRet, tRetN, tLst, tTup, tNext, tDrop, tNot, tNotV, tAnd, tOr, tAndV, tOrV, tPar, tAug, ipI, rEq, rNe, gSub, rSetL, rIxL, rIxT, tBM, tBM0, rAppend, rPopAt, gTup, gCons, gNil, tCall, tSl, tPart, tNoPart, rSlL, rCat, rEqD, rNeD, rIn, scal, List.map_cons, List.map_nil, List.length_cons, List.length_nil, List.length_map, List.cons_append, List.nil_append, List.append_nil, List.replicate, List.getElem?_cons_zero, List.getElem?_cons_succ, List.set_cons_zero, List.set_cons_succ, Option.some.injEq, exists_eq_left', exists_eq_left, exists_eq_right, exists_and_left, exists_and_right, V.int.injEq, V.ref.injEq, V.str.injEq, V.bl.injEq, reduceCtorEq, false_and, and_false, exists_false, or_false, false_or, true_and, and_true, List.cons.injEq, decide_eq_true_eq, cxOf, if_true, if_false, Bool.false_eq_true, Nat.reduceAdd, Nat.reduceSub, Nat.zero_add, Nat.add_sub_cancel_left, Nat.add_sub_cancel, Nat.sub_self, sFld, tFld, tFor_eq, tLc_eq, iRng1, iRng2, iList, iTup, iEnum, rIsi, rIsiT, iSeq, wipe, rNeNil, rEqNil, tMake, spMixed, spChoose]
        have up : u ≠ p := fun z => by obtain ⟨_, _, e, _⟩ := B3.1; rw [z, e] at nu; cases nu
        refine ⟨B4.1, by decide, by decide, fun c H5 B5 c0 c1 => ⟨_, sqL_of (B5.get up eu), fun p1 np1 => ?_⟩⟩
        obtain ⟨m, hm⟩ : ∃ m : Nat, 2 + c = (m : Int) := ⟨(2 + c).toNat, by omega⟩
        have eu5 := B5.get up eu
        rw [hm, cut_to, ← List.map_take]
        obtain ⟨dd, hdd⟩ : ∃ dd, dd = nms.take m := ⟨_, rfl⟩
        rw [← hdd]
        have ddl : dd.length = m := by rw [hdd, List.length_take, nl]; omega
        have ndd : Names dd := nm.some (by rw [hdd]; exact nm.nd.sublist (List.take_sublist _ _)) fun n hn => by rw [hdd] at hn; exact List.mem_of_mem_take hn
        have ddin : ∀ n ∈ dd, n ∈ nms := fun n hn => by rw [hdd] at hn; exact List.mem_of_mem_take hn
        have sp1 := same_upd (o := .lst (dd.map V.str)) np1
        have ep1 : upd H5 p1 (.lst (dd.map V.str)) p1 = some (.lst (dd.map V.str)) := upd_same
        have p1p : p1 ≠ p := fun z => by obtain ⟨_, _, e, _⟩ := B5.1; rw [z, e] at np1; cases np1
        have B56 : Bx p H5 (upd H5 p1 (.lst (dd.map V.str))) := .of B5.1 sp1
        generalize upd H5 p1 (.lst (dd.map V.str)) = H6 at sp1 ep1 B56 ⊢
        have eu6 := sp1 _ _ eu5
        refine ⟨⟨_, sqL_of eu6⟩, fun D nD => ?_⟩
        have Dp' : D ≠ p := fun z => by obtain ⟨_, _, e, _⟩ := B56.1; rw [z, e] at nD; cases nD
        refine lg_pure (fun i y H => ∃ n, nms[i]? = some n ∧ Dp K H y (dPer (n, 1))) (.inl ⟨rfl, sqL_of eu6⟩) (small1000 (by rw [List.length_map]; omega)) nD (fun i y H H' s h => let ⟨n, e1, e2⟩ := h; ⟨n, e1, dp_mono s _ _ e2⟩) (fun k x H7 Φ hx s7 hD hΦ => ?_) (fun ys H7 s7 eD hl7 hY => ?_)
        · rw [List.getElem?_map] at hx
          obtain ⟨n, en, rfl⟩ := Option.map_eq_some_iff.mp hx
          simp only [and_assoc, tSeq, tAsg, tOp, tUn, rI, rI0, rU, tVar, tC, gName, L2.start, tIfS, tTest, tB, tCB, tCons, tNil, tIf, tRet, tRetN, tLst, tTup, tNext, tDrop, tNot, tNotV, tAnd, tOr, tAndV, tOrV, tPar, tAug, ipI, rEq, rNe, gSub, rSetL, rIxL, rIxT, tBM, tBM0, rAppend, rPopAt, gTup, gCons, gNil, tCall, tSl, tPart, tNoPart, rSlL, rCat, rEqD, rNeD, rIn, scal, List.map_cons, List.map_nil, List.length_cons, List.length_nil, List.length_map, List.cons_append, List.nil_append, List.append_nil, List.replicate, List.getElem?_cons_zero, List.getElem?_cons_succ, List.set_cons_zero, List.set_cons_succ, Option.some.injEq, exists_eq_left', exists_eq_left, exists_eq_right, exists_and_left, exists_and_right, V.int.injEq, V.ref.injEq, V.str.injEq, V.bl.injEq, reduceCtorEq, false_and, and_false, exists_false, or_false, false_or, true_and, and_true, List.cons.injEq, decide_eq_true_eq, cxOf, if_true, if_false, Bool.false_eq_true, Nat.reduceAdd, Nat.reduceSub, Nat.zero_add, Nat.add_sub_cancel_left, Nat.add_sub_cancel, Nat.sub_self, sFld, tFld, tFor_eq, tLc_eq, iRng1, iRng2, iList, iTup, iEnum, rIsi, rIsiT, iSeq, wipe, rNeNil, rEqNil, tMake, spMixed]
          refine ⟨by decide, fun pt npt => hΦ _ _ (same_upd npt) ⟨n, en, ?_⟩⟩
          have ptD : pt ≠ D := fun z => hD (by rw [← z]; exact npt)
          exact .tup (sqT_of (by rw [hide_ne ptD, upd_same])) (.cons (.str _) (.cons (.int _) .nil))
        · rw [List.length_map] at hl7
          have hpp : DpAll K H7 ys ((nms.map fun n => (n, (1 : Int))).map dPer) := dpA_mono hide_le _ _ (dp_list (by rw [hl7, List.length_map, List.length_map]) fun i y e => by
            obtain ⟨n, e1, e2⟩ := hY i y e
            exact ⟨_, by rw [List.getElem?_map, List.getElem?_map, e1]; rfl, e2⟩)
          have B67 : Bx p H6 H7 := .of B56.1 s7
          have ep7 := s7 _ _ ep1
          refine ⟨B67.1, dd.map V.str, sqL_of (by rw [hide_ne p1p]; exact ep7), by rw [List.length_map]; omega, fun zs rm H8 B8 pm nrm erm => ?_⟩
          obtain ⟨ms, rfl, pms⟩ := perm_str pm
          have rmp : rm ≠ p := fun z => by obtain ⟨_, _, e, _⟩ := B67.1; rw [z, e] at nrm; cases nrm
          refine ⟨⟨_, sqL_of erm⟩, fun D1 nD1 => ?_⟩
          have eD8 := B8.get Dp' eD
          have pp8 := dpA_ti (TI.bx B67.1 B8) _ _ (noL_per _) hpp
          have ep8 := B8.get p1p ep7
          have msl : ms.length = m := by rw [pms.length_eq, ddl]
          refine lg_pure (fun i y H => ∃ n, ms[i]? = some n ∧ ∃ b wr, y = .ref b ∧ SqT K H b [.str n, .ref wr] ∧ WillAt K X.m.n.w.t.cWill H wr shsD) (.inl ⟨rfl, sqL_of erm⟩) (small1000 (by rw [List.length_map]; omega)) nD1 (fun i y H H' s h => let ⟨n, e1, b, wr, e2, e3, e4⟩ := h; ⟨n, e1, b, wr, e2, Same.seqT s e3, e4.mono s⟩) (fun k x H9 Φ hx s9 hD hΦ => ?_) (fun ws H9 s9 eD1 hl9 hY9 => ?_)
          · rw [List.getElem?_map] at hx
            obtain ⟨n, en, rfl⟩ := Option.map_eq_some_iff.mp hx
            simp only [and_assoc, tSeq, tAsg, tOp, tUn, rI, rI0, rU, tVar, tC, gName, L2.start, tIfS, tTest, tB, tCB, tCons, tNil, tIf, tRet, tRetN, tLst, tTup, tNext, tDrop, tNot, tNotV, tAnd, tOr, tAndV, tOrV, tPar, tAug, ipI, rEq, rNe, gSub, rSetL, rIxL, rIxT, tBM, tBM0, rAppend, rPopAt, gTup, gCons, gNil, tCall, tSl, tPart, tNoPart, rSlL, rCat, rEqD, rNeD, rIn, scal, List.map_cons, List.map_nil, List.length_cons, List.length_nil, List.length_map, List.cons_append, List.nil_append, List.append_nil, List.replicate, List.getElem?_cons_zero, List.getElem?_cons_succ, List.set_cons_zero, List.set_cons_succ, Option.some.injEq, exists_eq_left', exists_eq_left, exists_eq_right, exists_and_left, exists_and_right, V.int.injEq, V.ref.injEq, V.str.injEq, V.bl.injEq, reduceCtorEq, false_and, and_false, exists_false, or_false, false_or, true_and, and_true, List.cons.injEq, decide_eq_true_eq, cxOf, if_true, if_false, Bool.false_eq_true, Nat.reduceAdd, Nat.reduceSub, Nat.zero_add, Nat.add_sub_cancel_left, Nat.add_sub_cancel, Nat.sub_self, sFld, tFld, tFor_eq, tLc_eq, iRng1, iRng2, iList, iTup, iEnum, rIsi, rIsiT, iSeq, wipe, rNeNil, rEqNil, tMake, spMixed]
            refine ⟨Nat.zero_le _, fun q0 n0 => ⟨by decide, fun q1 n1 => ⟨by decide, fun q2 n2 => ?_⟩⟩⟩
            have t0 := same_upd (o := .lst ([] : List V)) n0
            have e0 : upd H9 q0 (.lst ([] : List V)) q0 = some (.lst []) := upd_same
            generalize upd H9 q0 (.lst ([] : List V)) = Hq0 at t0 e0 n1 n2 ⊢
            have t1 := same_upd (o := .tup [V.int 1, V.ref q0]) n1
            have e1 : upd Hq0 q1 (.tup [V.int 1, V.ref q0]) q1 = some (.tup [V.int 1, V.ref q0]) := upd_same
            generalize upd Hq0 q1 (.tup [V.int 1, V.ref q0]) = Hq1 at t1 e1 n2 ⊢
            have t2 := same_upd (o := .lst [V.ref q1]) n2
            have e2 : upd Hq1 q2 (.lst [V.ref q1]) q2 = some (.lst [V.ref q1]) := upd_same
            generalize upd Hq1 q2 (.lst [V.ref q1]) = Hq2 at t2 e2 ⊢
            have hv : Av K Hq2 (.ref q2) (adWill shsD) := .lst (sqL_of e2) (.cons (.tup (sqT_of (t2 _ _ e1)) (.cons (.int 1) (.cons (.lst (sqL_of (t2 _ _ (t1 _ _ e0))) .nil) .nil))) .nil)
            intro x dx nx ndx hne
            have sH : Same Hq2 (upd (upd Hq2 dx (.own x)) x (.ins X.m.n.w.t.cWill dx [])) := (same_upd ndx).trans (same_upd (by rw [upd_ne (Ne.symm hne)]; exact nx))
            have ex0 : upd (upd Hq2 dx (.own x)) x (.ins X.m.n.w.t.cWill dx []) x = some (.ins X.m.n.w.t.cWill dx []) := upd_same
            generalize upd (upd Hq2 dx (.own x)) x (.ins X.m.n.w.t.cWill dx []) = Hi at sH ex0 ⊢
            have s9q := (t0.trans t1).trans t2
            refine go_init (shs := shsD) ex0 (av_mono sH _ _ hv) okD fun t H10 k10 e10 d10 => ⟨rfl, by decide, fun pt npt => ?_⟩
            have s910 : Same H9 H10 := fun b o e => k10 b o (ne_of_none (s9q _ _ e) nx) (sH _ _ (s9q _ _ e))
            have nDi : Hi D1 ≠ none := fun z => by
              cases hh : H9 D1 with
              | none => exact hD hh
              | some o => rw [(s9q.trans sH) _ _ hh] at z; cases z
            have n10D : H10 D1 ≠ none := fun z => by
              cases hh : H9 D1 with
              | none => exact hD hh
              | some o => rw [s910 _ _ hh] at z; cases z
            have ptD : pt ≠ D1 := fun z => n10D (by rw [← z]; exact npt)
            have xD : x ≠ D1 := fun z => by
              cases hh : H9 D1 with
              | none => exact hD hh
              | some o => rw [z, s9q _ _ hh] at nx; cases nx
            have xpt : x ≠ pt := fun z => by rw [← z, e10] at npt; cases npt
            refine hΦ _ _ (s910.trans (same_upd npt)) ⟨n, en, pt, x, rfl, sqT_of (by rw [hide_ne ptD, upd_same]), dx, t, by rw [hide_ne xD, upd_ne xpt]; exact e10, dp_mono (fun b o e => ?_) _ _ d10⟩
            obtain ⟨g1, g2⟩ := news_get e
            rw [hide_ne (fun z => nDi (by rw [← z]; exact g1))]
            exact same_upd npt _ _ g2
          · rw [List.length_map] at hl9
            have hww : WlsD K X.m.n.w.t.cWill H9 ws (ms.map fun n => (n, shsD)) := ⟨by rw [hl9, List.length_map], fun i x w e1 e2 => by
              obtain ⟨n, g1, b, wr, g2, g3, g4⟩ := hY9 i x e1
              rw [List.getElem?_map, g1] at e2
              cases Option.some.inj e2
              exact ⟨b, wr, g2, Same.seqT hide_le g3, g4.mono hide_le⟩⟩
            have D1p : D1 ≠ p := fun z => by obtain ⟨_, _, e, _⟩ := B8.1; rw [z, e] at nD1; cases nD1
            have B89 : Bx p H8 H9 := .of B8.1 s9
            have B39 := (((((B4.trans B5).trans B56).trans B67).trans B8).trans B89)
            have eD9 := s9 _ _ eD8
            have ep9 := s9 _ _ ep8
            have pp9 := dpA_mono s9 _ _ pp8
            refine ⟨Nat.zero_le _, fun f nf => ⟨B89.1.same (same_upd nf), by decide, by decide, fun c2 H11 B11 c20 c21 => ⟨by omega, by omega, ?_⟩⟩⟩
            have fp : f ≠ p := fun z => by obtain ⟨_, _, e, _⟩ := B89.1; rw [z, e] at nf; cases nf
            have B911 : Bx p H9 H11 := (Bx.of B89.1 (same_upd nf)).trans B11
            have ef11 : H11 f = some (.lst []) := B11.get fp upd_same
            obtain ⟨k2, hk2⟩ : ∃ k2 : Nat, c2 = (k2 : Int) := ⟨c2.toNat, by omega⟩
            rw [hk2, Int.toNat_natCast]
            refine fg_range (fun k σ H => ∃ (o8 o10 o11 o12 o13 o14 : Option V) (fvs : List V) (fs : List (Str × Str)), σ = [some (.ref a), some (.int (0 + ↑i)), some (.ref p), some (.int (0 + ↑j)), some (.ref u), some (.ref p1), some (.ref D), some (.ref D1), o8, some (.ref f), o10, o11, o12, o13, o14] ∧ Bx p H9 H ∧ H f = some (.lst fvs) ∧ DpAll K H fvs (fs.map dFct) ∧ FctOk dd fs ∧ fs.length ≤ k)
              ⟨_, _, _, _, _, _, [], [], rfl, B911, ef11, .nil, ⟨by decide, (fun _ h => nomatch h), (fun _ h => nomatch h)⟩, Nat.le_refl _⟩ ?_ ?_
            · rintro k σ H12 hk ⟨o8, o10, o11, o12, o13, o14, fvs, fs, rfl, B12, ef, hf, okf, lf⟩
              simp only [and_assoc, tSeq, tAsg, tOp, tUn, rI, rI0, rU, tVar, tC, gName, L2.start, tIfS, tTest, tB, tCB, tCons, tNil, tIf, tRet, tRetN, tLst, tTup, tNext, tDrop, tNot, tNotV, tAnd, tOr, tAndV, tOrV, tPar, tAug, ipI, rEq, rNe, gSub, rSetL, rIxL, rIxT, tBM, tBM0, rAppend, rPopAt, gTup, gCons, gNil, tCall, tSl, tPart, tNoPart, rSlL, rCat, rEqD, rNeD, rIn, scal, List.map_cons, List.map_nil, List.length_cons, List.length_nil, List.length_map, List.cons_append, List.nil_append, List.append_nil, List.replicate, List.getElem?_cons_zero, List.getElem?_cons_succ, List.set_cons_zero, List.set_cons_succ, Option.some.injEq, exists_eq_left', exists_eq_left, exists_eq_right, exists_and_left, exists_and_right, V.int.injEq, V.ref.injEq, V.str.injEq, V.bl.injEq, reduceCtorEq, false_and, and_false, exists_false, or_false, false_or, true_and, and_true, List.cons.injEq, decide_eq_true_eq, cxOf, if_true, if_false, Bool.false_eq_true, Nat.reduceAdd, Nat.reduceSub, Nat.zero_add, Nat.add_sub_cancel_left, Nat.add_sub_cancel, Nat.sub_self, sFld, tFld, tFor_eq, tLc_eq, iRng1, iRng2, iList, iTup, iEnum, rIsi, rIsiT, iSeq, wipe, rNeNil, rEqNil, tMake, spMixed]
              have ep12 := B12.get p1p ep9
              refine ⟨B12.1, dd.map V.str, sqL_of (by rw [hide_ne p1p]; exact ep12), by rw [List.length_map]; omega, fun zs r2 H13 B13 pm2 nr2 er2 => ?_⟩
              obtain ⟨ks, rfl, pks⟩ := perm_str pm2
              have ksl : ks.length = m := by rw [pks.length_eq, ddl]
              obtain ⟨k0, k1, kr, hks⟩ : ∃ k0 k1 kr, ks = k0 :: k1 :: kr := by
                match ks, ksl with
                | [], h => exact absurd h (by simp; omega)
                | [_], h => exact absurd h (by simp; omega)
                | x :: y :: l, _ => exact ⟨x, y, l, rfl⟩
              have cut2 : cutV (ks.map V.str) none (some 2) = [V.str k0, V.str k1] := by
                have := cut_to (ks.map V.str) 2
                rw [hks] at this ⊢
                exact this
              have knd : ks.Nodup := pks.nodup_iff.mpr ndd.nd
              have k0d : k0 ∈ dd := pks.mem_iff.mp (by rw [hks]; exact List.mem_cons_self)
              have k1d : k1 ∈ dd := pks.mem_iff.mp (by rw [hks]; exact List.mem_cons_of_mem _ List.mem_cons_self)
              have k01 : k0 ≠ k1 := fun z => by
                rw [hks, z] at knd
                exact (List.nodup_cons.mp knd).1 List.mem_cons_self
              refine ⟨_, sqL_of er2, fun pa npa => ?_⟩
              rw [cut2]
              have fl : fvs.length = fs.length := by rw [dpA_len hf, List.length_map]
              have ef13 := B13.get fp ef
              have ta := same_upd (o := .lst [V.str k0, V.str k1]) npa
              have ea : upd H13 pa (.lst [V.str k0, V.str k1]) pa = some (.lst [V.str k0, V.str k1]) := upd_same
              generalize upd H13 pa (.lst [V.str k0, V.str k1]) = Ha at ta ea ⊢
              refine ⟨.inl ⟨rfl, _, sqL_of (ta _ _ ef13)⟩, _, sqL_of ea, _, atI_nat (j := 0) rfl, _, sqL_of ea, _, atI_nat (j := 1) rfl, by decide, fun pb npb => ?_⟩
              have tb := same_upd (o := .tup [V.str k0, V.str k1]) npb
              have eb : upd Ha pb (.tup [V.str k0, V.str k1]) pb = some (.tup [V.str k0, V.str k1]) := upd_same
              have pbf : pb ≠ f := fun z => by rw [z, ta _ _ ef13] at npb; cases npb
              generalize upd Ha pb (.tup [V.str k0, V.str k1]) = Hb at tb eb ⊢
              have tab := ta.trans tb
              have efb := tab _ _ ef13
              have B9b : Bx p H9 Hb := (B12.trans B13).trans (.of B13.1 tab)
              have ti : TI H12 (upd Hb f (.lst (fvs ++ [V.ref pb]))) := ((TI.bx B12.1 B13).trans (TI.of tab)).trans (TI.lst efb)
              have hk8 : k < 8 := by omega
              refine ⟨fvs, efb, small1000 (by omega), B9b.mut nf fp, fvs ++ [V.ref pb], upd_same, fs ++ [(k0, k1)], ?_, fct_more okf (by omega) k0d k1d k01 (ndd.nm _ k0d) (ndd.nm _ k1d), by rw [List.length_append]; exact Nat.succ_le_succ lf⟩
              rw [List.map_append]
              exact dpA_append (dpA_ti ti _ _ (noL_fct _) hf) (.cons (.tup (sqT_of (by rw [upd_ne pbf]; exact eb)) (.cons (.str _) (.cons (.str _) .nil))) .nil)
            · rintro σ H12 ⟨o8, o10, o11, o12, o13, o14, fvs, fs, rfl, B12, ef, hf, okf, lf⟩
              simp only [and_assoc, tSeq, tAsg, tOp, tUn, rI, rI0, rU, tVar, tC, gName, L2.start, tIfS, tTest, tB, tCB, tCons, tNil, tIf, tRet, tRetN, tLst, tTup, tNext, tDrop, tNot, tNotV, tAnd, tOr, tAndV, tOrV, tPar, tAug, ipI, rEq, rNe, gSub, rSetL, rIxL, rIxT, tBM, tBM0, rAppend, rPopAt, gTup, gCons, gNil, tCall, tSl, tPart, tNoPart, rSlL, rCat, rEqD, rNeD, rIn, scal, List.map_cons, List.map_nil, List.length_cons, List.length_nil, List.length_map, List.cons_append, List.nil_append, List.append_nil, List.replicate, List.getElem?_cons_zero, List.getElem?_cons_succ, List.set_cons_zero, List.set_cons_succ, Option.some.injEq, exists_eq_left', exists_eq_left, exists_eq_right, exists_and_left, exists_and_right, V.int.injEq, V.ref.injEq, V.str.injEq, V.bl.injEq, reduceCtorEq, false_and, and_false, exists_false, or_false, false_or, true_and, and_true, List.cons.injEq, decide_eq_true_eq, cxOf, if_true, if_false, Bool.false_eq_true, Nat.reduceAdd, Nat.reduceSub, Nat.zero_add, Nat.add_sub_cancel_left, Nat.add_sub_cancel, Nat.sub_self, sFld, tFld, tFor_eq, tLc_eq, iRng1, iRng2, iList, iTup, iEnum, rIsi, rIsiT, iSeq, wipe, rNeNil, rEqNil, tMake, spMixed, spHeard, spRing]
              have B12' := B12
              have wsn : (ms.map fun n => (n, shsD)).map (fun x => x.fst) = ms := by
                rw [List.map_map]
                exact List.map_id _
              have psn : (nms.map fun n => (n, (1 : Int))).map (fun x => x.fst) = nms := by
                rw [List.map_map]
                exact List.map_id _
              have ppl : PplOk (nms.map fun n => (n, (1 : Int))) := by
                refine ⟨fun z => ?_, by rw [List.length_map]; omega, fun q hq => ?_, ?_⟩
                · rw [List.map_eq_nil_iff] at z
                  rw [z] at nl
                  cases nl
                · obtain ⟨n, hn, rfl⟩ := List.mem_map.mp hq
                  exact ⟨nm.nm n hn, (by decide : (0 : Int) ≤ 1)⟩
                · rw [show (nms.map fun n => (n, (1 : Int))).map (·.1) = nms from psn]
                  exact nm.nd
              have wlo : WlsOk nms (ms.map fun n => (n, shsD)) := by
                refine ⟨by rw [List.length_map]; omega, fun q hq => ?_, ?_⟩
                · obtain ⟨n, hn, rfl⟩ := List.mem_map.mp hq
                  have hd := pms.mem_iff.mp hn
                  refine ⟨ndd.nm n hd, ddin n hd, fun s hs g hg => ?_⟩
                  obtain rfl := List.mem_singleton.mp hs
                  cases hg
                · rw [show (ms.map fun n => (n, shsD)).map (·.1) = ms from wsn]
                  exact pms.nodup_iff.mpr ndd.nd
              have okm : ∀ {fs : List (Str × Str)}, FctOk dd fs → FctOk ms fs := fun h => h.perm fun x hx => pms.mem_iff.mpr hx
              have rp := ring_perm (fs := fs) pms
              have eD12 := B12.get Dp' eD9
              have eD112 := B12.get D1p eD1
              have pp12 := dpA_ti (TI.bx B89.1 B12) _ _ (noL_per _) pp9
              have ww12 := wls_ti (TI.bx B89.1 B12) hww
              refine ⟨ys, .inl (sqL_of eD12), ws, fvs, nms.map fun n => (n, (1 : Int)), pp12, ppl, .inl (sqL_of eD112), ms.map fun n => (n, shsD), ww12, by rw [psn]; exact wlo, .inl (sqL_of ef), fs, hf, by rw [wsn]; exact okm okf, fun H13 s13 => ⟨dd, sqL_of (s13 _ _ (B12.get p1p ep9)), fvs, sqL_of (s13 _ _ ef), fs, dpA_mono s13 _ _ hf, by omega, okf.l, fun H14 s14 => ?_⟩⟩
              have s124 := s13.trans s14
              have B14 : Bx p H9 H14 := B12.trans (.of B12.1 s124)
              have ep14 := B14.get p1p ep9
              rw [wsn, List.length_map]
              rcases Classical.em (lineM fs dd.length dd [] = none) with hR | hR
              · rw [if_pos hR, if_pos (rp.mpr hR)]
                refine ⟨rfl, ?_⟩
                rw [if_neg (by simp)]
                refine ⟨B14.1, dd.map V.str, sqL_of (by rw [hide_ne p1p]; exact ep14), by rw [List.length_map]; omega, fun zs ro H15 B15 pmo nro ero => ?_⟩
                obtain ⟨od, rfl, pod⟩ := perm_str pmo
                have odl : od.length = m := by rw [pod.length_eq, ddl]
                have ondd : od.Nodup := pod.nodup_iff.mpr ndd.nd
                have oin : ∀ x ∈ od, x ∈ dd := fun x hx => pod.mem_iff.mp hx
                have B15' := B14.trans B15
                refine ⟨ro, _, rfl, sqL_of ero, _, rfl, by rw [List.length_map]; omega, by rw [List.length_map]; omega, fun D3 nD3 => ?_⟩
                have tn : (((od.map V.str).length : Int) - 1).toNat = m - 1 := by rw [List.length_map]; omega
                rw [tn]
                have gd : ∀ j, j < m → (od.map V.str)[j]? = some (V.str (od.getD j "")) := fun j hj => by
                  rw [List.getElem?_map, List.getD_eq_getElem?_getD, List.getElem?_eq_getElem (by omega)]
                  rfl
                refine lg_range (fun i H => Same H15 H ∧ ∃ lvs, H D3 = some (.lst lvs) ∧ DpAll K (hide D3 H) lvs ((nexts od i).map dFct)) ⟨same_upd nD3, [], upd_same, .nil⟩ (fun i H hi ⟨sI, lvs, eI, dI⟩ => ?_) (fun H16 ⟨s16, lvs, eI, dI⟩ => ?_)
                · simp only [and_assoc, tSeq, tAsg, tOp, tUn, rI, rI0, rU, tVar, tC, gName, L2.start, tIfS, tTest, tB, tCB, tCons, tNil, tIf, tRet, tRetN, tLst, tTup, tNext, tDrop, tNot, tNotV, tAnd, tOr, tAndV, tOrV, tPar, tAug, ipI, rEq, rNe, gSub, rSetL, rIxL, rIxT, tBM, tBM0, rAppend, rPopAt, gTup, gCons, gNil, tCall, tSl, tPart, tNoPart, rSlL, rCat, rEqD, rNeD, rIn, scal, List.map_cons, List.map_nil, List.length_cons, List.length_nil, List.length_map, List.cons_append, List.nil_append, List.append_nil, List.replicate, List.getElem?_cons_zero, List.getElem?_cons_succ, List.set_cons_zero, List.set_cons_succ, Option.some.injEq, exists_eq_left', exists_eq_left, exists_eq_right, exists_and_left, exists_and_right, V.int.injEq, V.ref.injEq, V.str.injEq, V.bl.injEq, reduceCtorEq, false_and, and_false, exists_false, or_false, false_or, true_and, and_true, List.cons.injEq, decide_eq_true_eq, cxOf, if_true, if_false, Bool.false_eq_true, Nat.reduceAdd, Nat.reduceSub, Nat.zero_add, Nat.add_sub_cancel_left, Nat.add_sub_cancel, Nat.sub_self, sFld, tFld, tFor_eq, tLc_eq, iRng1, iRng2, iList, iTup, iEnum, rIsi, rIsiT, iSeq, wipe, rNeNil, rEqNil, tMake, spMixed]
                  have lvl : lvs.length = i := by rw [dpA_len dI, List.length_map]; unfold nexts; rw [List.length_map, List.length_range]
                  refine ⟨_, sqL_of (sI _ _ ero), _, by rw [Int.zero_add]; exact atI_nat (gd i (by omega)), _, sqL_of (sI _ _ ero), _, by rw [Int.zero_add]; exact atI_nat (j := i + 1) (gd (i + 1) (by omega)), by decide, fun pt npt => ?_⟩
                  have ptD : pt ≠ D3 := fun z => by rw [z, eI] at npt; cases npt
                  have sJ := same_upd (o := .tup [V.str (od.getD i ""), V.str (od.getD (i + 1) "")]) npt
                  refine ⟨lvs, sJ _ _ eI, small1000 (by omega), ?_⟩
                  have keep3 : Same H15 (upd (upd H pt (.tup [V.str (od.getD i ""), V.str (od.getD (i + 1) "")])) D3 (.lst (lvs ++ [V.ref pt]))) := fun b o e => by
                    rw [upd_ne (ne_of_none e nD3)]
                    exact sJ _ _ (sI _ _ e)
                  refine ⟨keep3, _, upd_same, ?_⟩
                  rw [nexts_succ, List.map_append]
                  exact dpA_append (dpA_mono ((hide_same sJ).trans hide_upd) _ _ dI) (.cons (.tup (sqT_of (by rw [hide_ne ptD, upd_ne ptD, upd_same])) (.cons (.str _) (.cons (.str _) .nil))) .nil)
                · obtain ⟨mm, hmm⟩ : ∃ mm, mm = min 7 (m - 1) := ⟨_, rfl⟩
                  have mm1 : mm < m := by omega
                  have mm2 : 1 ≤ mm := by omega
                  have lvl : lvs.length = m - 1 := by rw [dpA_len dI, List.length_map]; unfold nexts; rw [List.length_map, List.length_range]
                  refine ⟨lvs, sqL_of eI, fun p5 np5 => ?_⟩
                  rw [show (some (7 : Int)) = some ((7 : Nat) : Int) from rfl, cut_to]
                  have s5 := same_upd (o := .lst (lvs.take 7)) np5
                  have e5 : upd H16 p5 (.lst (lvs.take 7)) p5 = some (.lst (lvs.take 7)) := upd_same
                  generalize upd H16 p5 (.lst (lvs.take 7)) = H17 at s5 e5 ⊢
                  have s157 := s16.trans s5
                  have hl17 : DpAll K H17 (lvs.take 7) ((nexts od mm).map dFct) := by
                    have z := dpA_take 7 (dpA_mono (hide_le.trans s5) _ _ dI)
                    rw [← List.map_take, nexts_take, ← hmm] at z
                    exact z
                  have tl : (lvs.take 7).length = mm := by rw [List.length_take]; omega
                  have B17 : Bx p H9 H17 := B15'.trans (.of B15'.1 s157)
                  have pp17 := dpA_ti (TI.bx B89.1 B17) _ _ (noL_per _) pp9
                  have ww17 := wls_ti (TI.bx B89.1 B17) hww
                  have eD17 := B17.get Dp' eD9
                  have eD117 := B17.get D1p eD1
                  have oml : mm < od.length := by omega
                  have okl : FctOk dd (nexts od mm) := fct_nexts ondd oml (by omega) oin fun x hx => ndd.nm x (oin x hx)
                  have msod : ∀ x ∈ ms, x ∈ od := fun x hx => pod.mem_iff.mpr (pms.mem_iff.mp hx)
                  refine ⟨ys, .inl (sqL_of eD17), ws, lvs.take 7, nms.map fun n => (n, (1 : Int)), pp17, ppl, .inl (sqL_of eD117), ms.map fun n => (n, shsD), ww17, by rw [psn]; exact wlo, .inl (sqL_of e5), nexts od mm, hl17, by rw [wsn]; exact okm okl, fun H18 s18 => ?_⟩
                  rw [wsn, List.length_map, if_neg (line_ok ondd oml msod), if_neg (by simp)]
                  have ero18 := s18 _ _ (s157 _ _ ero)
                  refine ⟨_, sqL_of (s18 _ _ e5), _, sqL_of ero18, V.str (od.getD mm ""), by rw [tl]; exact atI_nat (gd mm (by omega)), _, sqL_of ero18, V.str (od.getD 0 ""), atI_nat (j := 0) (gd 0 (by omega)), by decide, fun pt2 npt2 => ⟨by decide, fun pl2 npl2 => ?_⟩⟩
                  have sa := same_upd (o := .tup [V.str (od.getD mm ""), V.str (od.getD 0 "")]) npt2
                  have ea : upd H18 pt2 (.tup [V.str (od.getD mm ""), V.str (od.getD 0 "")]) pt2 = some (.tup [V.str (od.getD mm ""), V.str (od.getD 0 "")]) := upd_same
                  generalize upd H18 pt2 (.tup [V.str (od.getD mm ""), V.str (od.getD 0 "")]) = Ha at sa ea npl2 ⊢
                  have sb := same_upd (o := .lst [V.ref pt2]) npl2
                  have eb : upd Ha pl2 (.lst [V.ref pt2]) pl2 = some (.lst [V.ref pt2]) := upd_same
                  generalize upd Ha pl2 (.lst [V.ref pt2]) = Hb at sb eb ⊢
                  have sab := sa.trans sb
                  refine ⟨_, sab _ _ (s18 _ _ e5), _, eb, by rw [tl]; exact Nat.le_trans (show mm + 1 ≤ 1000 by omega) (by decide), fun p6 np6 => ?_⟩
                  have sc := same_upd (o := .lst (lvs.take 7 ++ [V.ref pt2])) np6
                  have ec : upd Hb p6 (.lst (lvs.take 7 ++ [V.ref pt2])) p6 = some (.lst (lvs.take 7 ++ [V.ref pt2])) := upd_same
                  generalize upd Hb p6 (.lst (lvs.take 7 ++ [V.ref pt2])) = Hc at sc ec ⊢
                  have s17c := ((s18.trans sab).trans sc)
                  have Bc : Bx p H9 Hc := B17.trans (.of B17.1 s17c)
                  have ppc := dpA_mono s17c _ _ pp17
                  have wwc := ww17.mono s17c
                  have g0 : od[0]? = some (od.getD 0 "") := by rw [List.getD_eq_getElem?_getD, List.getElem?_eq_getElem (by omega)]; rfl
                  have gm : od[mm]? = some (od.getD mm "") := by rw [List.getD_eq_getElem?_getD, List.getElem?_eq_getElem oml]; rfl
                  have i0 := oin _ (List.mem_of_getElem? g0)
                  have im := oin _ (List.mem_of_getElem? gm)
                  have ne0 : od.getD mm "" ≠ od.getD 0 "" := fun z => by
                    have := (List.getElem?_inj (List.getElem?_eq_some_iff.mp gm).1 ondd).mp (gm.trans (by rw [z]; exact g0.symm))
                    omega
                  have okr := fct_more okl (by unfold nexts; rw [List.length_map, List.length_range]; omega) im i0 ne0 (ndd.nm _ im) (ndd.nm _ i0)
                  have hlc : DpAll K Hc (lvs.take 7 ++ [V.ref pt2]) ((nexts od mm ++ [(od.getD mm "", od.getD 0 "")]).map dFct) := by
                    rw [List.map_append]
                    exact dpA_append (dpA_mono s17c _ _ hl17) (.cons (.tup (sqT_of (sc _ _ (sb _ _ ea))) (.cons (.str _) (.cons (.str _) .nil))) .nil)
                  refine ⟨ys, .inl (sqL_of (s17c _ _ eD17)), ws, lvs.take 7 ++ [V.ref pt2], nms.map fun n => (n, (1 : Int)), ppc, ppl, .inl (sqL_of (s17c _ _ eD117)), ms.map fun n => (n, shsD), wwc, by rw [psn]; exact wlo, .inl (sqL_of ec), nexts od mm ++ [(od.getD mm "", od.getD 0 "")], hlc, by rw [wsn]; exact okm okr, fun H19 s19 => ?_⟩
                  rw [wsn, List.length_map, if_pos (ring_line oml g0 gm fun x hx => pms.mem_iff.mpr (oin x hx))]
                  refine ⟨rfl, ?_⟩
                  rw [if_neg (by simp)]
                  exact (B3.trans B39).trans (Bc.trans (.of Bc.1 s19))
              · rw [if_neg hR, if_neg (fun z => hR (rp.mp z))]
                refine ⟨rfl, ?_⟩
                rw [if_neg (by simp)]
                refine ⟨B14.1, dd.map V.str, sqL_of (by rw [hide_ne p1p]; exact ep14), by rw [List.length_map]; omega, fun zs ro H15 B15 pmo nro ero => ?_⟩
                obtain ⟨od, rfl, pod⟩ := perm_str pmo
                have odl : od.length = m := by rw [pod.length_eq, ddl]
                have ondd : od.Nodup := pod.nodup_iff.mpr ndd.nd
                have oin : ∀ x ∈ od, x ∈ dd := fun x hx => pod.mem_iff.mp hx
                have B15' := B14.trans B15
                refine ⟨ro, _, rfl, sqL_of ero, _, rfl, by rw [List.length_map]; omega, by rw [List.length_map]; omega, fun D3 nD3 => ?_⟩
                have tn : (((od.map V.str).length : Int) - 1).toNat = m - 1 := by rw [List.length_map]; omega
                rw [tn]
                have gd : ∀ j, j < m → (od.map V.str)[j]? = some (V.str (od.getD j "")) := fun j hj => by
                  rw [List.getElem?_map, List.getD_eq_getElem?_getD, List.getElem?_eq_getElem (by omega)]
                  rfl
                refine lg_range (fun i H => Same H15 H ∧ ∃ lvs, H D3 = some (.lst lvs) ∧ DpAll K (hide D3 H) lvs ((nexts od i).map dFct)) ⟨same_upd nD3, [], upd_same, .nil⟩ (fun i H hi ⟨sI, lvs, eI, dI⟩ => ?_) (fun H16 ⟨s16, lvs, eI, dI⟩ => ?_)
                · simp only [and_assoc, tSeq, tAsg, tOp, tUn, rI, rI0, rU, tVar, tC, gName, L2.start, tIfS, tTest, tB, tCB, tCons, tNil, tIf, tRet, tRetN, tLst, tTup, tNext, tDrop, tNot, tNotV, tAnd, tOr, tAndV, tOrV, tPar, tAug, ipI, rEq, rNe, gSub, rSetL, rIxL, rIxT, tBM, tBM0, rAppend, rPopAt, gTup, gCons, gNil, tCall, tSl, tPart, tNoPart, rSlL, rCat, rEqD, rNeD, rIn, scal, List.map_cons, List.map_nil, List.length_cons, List.length_nil, List.length_map, List.cons_append, List.nil_append, List.append_nil, List.replicate, List.getElem?_cons_zero, List.getElem?_cons_succ, List.set_cons_zero, List.set_cons_succ, Option.some.injEq, exists_eq_left', exists_eq_left, exists_eq_right, exists_and_left, exists_and_right, V.int.injEq, V.ref.injEq, V.str.injEq, V.bl.injEq, reduceCtorEq, false_and, and_false, exists_false, or_false, false_or, true_and, and_true, List.cons.injEq, decide_eq_true_eq, cxOf, if_true, if_false, Bool.false_eq_true, Nat.reduceAdd, Nat.reduceSub, Nat.zero_add, Nat.add_sub_cancel_left, Nat.add_sub_cancel, Nat.sub_self, sFld, tFld, tFor_eq, tLc_eq, iRng1, iRng2, iList, iTup, iEnum, rIsi, rIsiT, iSeq, wipe, rNeNil, rEqNil, tMake, spMixed]
                  have lvl : lvs.length = i := by rw [dpA_len dI, List.length_map]; unfold nexts; rw [List.length_map, List.length_range]
                  refine ⟨_, sqL_of (sI _ _ ero), _, by rw [Int.zero_add]; exact atI_nat (gd i (by omega)), _, sqL_of (sI _ _ ero), _, by rw [Int.zero_add]; exact atI_nat (j := i + 1) (gd (i + 1) (by omega)), by decide, fun pt npt => ?_⟩
                  have ptD : pt ≠ D3 := fun z => by rw [z, eI] at npt; cases npt
                  have sJ := same_upd (o := .tup [V.str (od.getD i ""), V.str (od.getD (i + 1) "")]) npt
                  refine ⟨lvs, sJ _ _ eI, small1000 (by omega), ?_⟩
                  have keep3 : Same H15 (upd (upd H pt (.tup [V.str (od.getD i ""), V.str (od.getD (i + 1) "")])) D3 (.lst (lvs ++ [V.ref pt]))) := fun b o e => by
                    rw [upd_ne (ne_of_none e nD3)]
                    exact sJ _ _ (sI _ _ e)
                  refine ⟨keep3, _, upd_same, ?_⟩
                  rw [nexts_succ, List.map_append]
                  exact dpA_append (dpA_mono ((hide_same sJ).trans hide_upd) _ _ dI) (.cons (.tup (sqT_of (by rw [hide_ne ptD, upd_ne ptD, upd_same])) (.cons (.str _) (.cons (.str _) .nil))) .nil)
                · obtain ⟨mm, hmm⟩ : ∃ mm, mm = min 7 (m - 1) := ⟨_, rfl⟩
                  have mm1 : mm < m := by omega
                  have mm2 : 1 ≤ mm := by omega
                  have lvl : lvs.length = m - 1 := by rw [dpA_len dI, List.length_map]; unfold nexts; rw [List.length_map, List.length_range]
                  refine ⟨lvs, sqL_of eI, fun p5 np5 => ?_⟩
                  rw [show (some (7 : Int)) = some ((7 : Nat) : Int) from rfl, cut_to]
                  have s5 := same_upd (o := .lst (lvs.take 7)) np5
                  have e5 : upd H16 p5 (.lst (lvs.take 7)) p5 = some (.lst (lvs.take 7)) := upd_same
                  generalize upd H16 p5 (.lst (lvs.take 7)) = H17 at s5 e5 ⊢
                  have s157 := s16.trans s5
                  have hl17 : DpAll K H17 (lvs.take 7) ((nexts od mm).map dFct) := by
                    have z := dpA_take 7 (dpA_mono (hide_le.trans s5) _ _ dI)
                    rw [← List.map_take, nexts_take, ← hmm] at z
                    exact z
                  have tl : (lvs.take 7).length = mm := by rw [List.length_take]; omega
                  have B17 : Bx p H9 H17 := B15'.trans (.of B15'.1 s157)
                  have pp17 := dpA_ti (TI.bx B89.1 B17) _ _ (noL_per _) pp9
                  have ww17 := wls_ti (TI.bx B89.1 B17) hww
                  have eD17 := B17.get Dp' eD9
                  have eD117 := B17.get D1p eD1
                  have oml : mm < od.length := by omega
                  have okl : FctOk dd (nexts od mm) := fct_nexts ondd oml (by omega) oin fun x hx => ndd.nm x (oin x hx)
                  have msod : ∀ x ∈ ms, x ∈ od := fun x hx => pod.mem_iff.mpr (pms.mem_iff.mp hx)
                  refine ⟨ys, .inl (sqL_of eD17), ws, lvs.take 7, nms.map fun n => (n, (1 : Int)), pp17, ppl, .inl (sqL_of eD117), ms.map fun n => (n, shsD), ww17, by rw [psn]; exact wlo, .inl (sqL_of e5), nexts od mm, hl17, by rw [wsn]; exact okm okl, fun H18 s18 => ?_⟩
                  rw [wsn, List.length_map, if_neg (line_ok ondd oml msod), if_neg (by simp)]
                  have ero18 := s18 _ _ (s157 _ _ ero)
                  refine ⟨_, sqL_of (s18 _ _ e5), _, sqL_of ero18, V.str (od.getD mm ""), by rw [tl]; exact atI_nat (gd mm (by omega)), _, sqL_of ero18, V.str (od.getD 0 ""), atI_nat (j := 0) (gd 0 (by omega)), by decide, fun pt2 npt2 => ⟨by decide, fun pl2 npl2 => ?_⟩⟩
                  have sa := same_upd (o := .tup [V.str (od.getD mm ""), V.str (od.getD 0 "")]) npt2
                  have ea : upd H18 pt2 (.tup [V.str (od.getD mm ""), V.str (od.getD 0 "")]) pt2 = some (.tup [V.str (od.getD mm ""), V.str (od.getD 0 "")]) := upd_same
                  generalize upd H18 pt2 (.tup [V.str (od.getD mm ""), V.str (od.getD 0 "")]) = Ha at sa ea npl2 ⊢
                  have sb := same_upd (o := .lst [V.ref pt2]) npl2
                  have eb : upd Ha pl2 (.lst [V.ref pt2]) pl2 = some (.lst [V.ref pt2]) := upd_same
                  generalize upd Ha pl2 (.lst [V.ref pt2]) = Hb at sb eb ⊢
                  have sab := sa.trans sb
                  refine ⟨_, sab _ _ (s18 _ _ e5), _, eb, by rw [tl]; exact Nat.le_trans (show mm + 1 ≤ 1000 by omega) (by decide), fun p6 np6 => ?_⟩
                  have sc := same_upd (o := .lst (lvs.take 7 ++ [V.ref pt2])) np6
                  have ec : upd Hb p6 (.lst (lvs.take 7 ++ [V.ref pt2])) p6 = some (.lst (lvs.take 7 ++ [V.ref pt2])) := upd_same
                  generalize upd Hb p6 (.lst (lvs.take 7 ++ [V.ref pt2])) = Hc at sc ec ⊢
                  have s17c := ((s18.trans sab).trans sc)
                  have Bc : Bx p H9 Hc := B17.trans (.of B17.1 s17c)
                  have ppc := dpA_mono s17c _ _ pp17
                  have wwc := ww17.mono s17c
                  have g0 : od[0]? = some (od.getD 0 "") := by rw [List.getD_eq_getElem?_getD, List.getElem?_eq_getElem (by omega)]; rfl
                  have gm : od[mm]? = some (od.getD mm "") := by rw [List.getD_eq_getElem?_getD, List.getElem?_eq_getElem oml]; rfl
                  have i0 := oin _ (List.mem_of_getElem? g0)
                  have im := oin _ (List.mem_of_getElem? gm)
                  have ne0 : od.getD mm "" ≠ od.getD 0 "" := fun z => by
                    have := (List.getElem?_inj (List.getElem?_eq_some_iff.mp gm).1 ondd).mp (gm.trans (by rw [z]; exact g0.symm))
                    omega
                  have okr := fct_more okl (by unfold nexts; rw [List.length_map, List.length_range]; omega) im i0 ne0 (ndd.nm _ im) (ndd.nm _ i0)
                  have hlc : DpAll K Hc (lvs.take 7 ++ [V.ref pt2]) ((nexts od mm ++ [(od.getD mm "", od.getD 0 "")]).map dFct) := by
                    rw [List.map_append]
                    exact dpA_append (dpA_mono s17c _ _ hl17) (.cons (.tup (sqT_of (sc _ _ (sb _ _ ea))) (.cons (.str _) (.cons (.str _) .nil))) .nil)
                  refine ⟨ys, .inl (sqL_of (s17c _ _ eD17)), ws, lvs.take 7 ++ [V.ref pt2], nms.map fun n => (n, (1 : Int)), ppc, ppl, .inl (sqL_of (s17c _ _ eD117)), ms.map fun n => (n, shsD), wwc, by rw [psn]; exact wlo, .inl (sqL_of ec), nexts od mm ++ [(od.getD mm "", od.getD 0 "")], hlc, by rw [wsn]; exact okm okr, fun H19 s19 => ?_⟩
                  rw [wsn, List.length_map, if_pos (ring_line oml g0 gm fun x hx => pms.mem_iff.mpr (oin x hx))]
                  refine ⟨rfl, ?_⟩
                  rw [if_neg (by simp)]
                  exact (B3.trans B39).trans (Bc.trans (.of Bc.1 s19))
      · rintro σ H3 ⟨r, rfl, hr13, B3⟩
        refine ⟨_, rfl, by simp [hr13], fun b o e => ?_⟩
        have nb : b ≠ p := fun z => by rw [z, s2.free np] at e; cases e
        exact B3.get nb (s21 _ _ (s2 _ _ e))
    · rintro σ H2 ⟨r, rfl, hr14, s2⟩
      obtain ⟨o1, o2, o3, o4, o5, o6, o7, o8, o9, o10, o11, o12, o13, o14, rfl⟩ : ∃ o1 o2 o3 o4 o5 o6 o7 o8 o9 o10 o11 o12 o13 o14, r = [o1, o2, o3, o4, o5, o6, o7, o8, o9, o10, o11, o12, o13, o14] := by
        match r, hr14 with
        | [o1, o2, o3, o4, o5, o6, o7, o8, o9, o10, o11, o12, o13, o14], _ => exact ⟨_, _, _, _, _, _, _, _, _, _, _, _, _, _, rfl⟩
      simp only [and_assoc, tSeq, tAsg, tOp, tUn, rI, rI0, rU, tVar, tC, gName, L2.start, tIfS, tTest, tB, tCB, tCons, tNil, tIf, tRet, tRetN, tLst, tTup, tNext, tDrop, tNot, tNotV, tAnd, tOr, tAndV, tOrV, tPar, tAug, ipI, rEq, rNe, gSub, rSetL, rIxL, rIxT, tBM, tBM0, rAppend, rPopAt, gTup, gCons, gNil, tCall, tSl, tPart, tNoPart, rSlL, rCat, rEqD, rNeD, rIn, scal, List.map_cons, List.map_nil, List.length_cons, List.length_nil, List.length_map, List.cons_append, List.nil_append, List.append_nil, List.replicate, List.getElem?_cons_zero, List.getElem?_cons_succ, List.set_cons_zero, List.set_cons_succ, Option.some.injEq, exists_eq_left', exists_eq_left, exists_eq_right, exists_and_left, exists_and_right, V.int.injEq, V.ref.injEq, V.str.injEq, V.bl.injEq, reduceCtorEq, false_and, and_false, exists_false, or_false, false_or, true_and, and_true, List.cons.injEq, decide_eq_true_eq, cxOf, if_true, if_false, Bool.false_eq_true, Nat.reduceAdd, Nat.reduceSub, Nat.zero_add, Nat.add_sub_cancel_left, Nat.add_sub_cancel, Nat.sub_self, sFld, tFld, tFor_eq, tLc_eq, iRng1, iRng2, iList, iTup, iEnum, rIsi, rIsiT, iSeq, wipe, rNeNil, rEqNil, tMake, spMixed]
      exact q _

end
end He

namespace He
open PySem PySem.Spec PyProof.Rows L2
section
variable {P : Program} {w : World} {K : PySem.W.Frag} {mg : Str → Option Value} {base : Heap}
end
theorem kit_tyn {K : PySem.W.Frag} {a : Addr} {T : String} (m : PySem.W.kitMeta T = true) (e : PySem.W.subIn K (.ref a) (.type T) = some false) : PySem.W.kitOne K (.ref a) (.type T) = some false := by
  unfold PySem.W.kitOne
  have z : ¬ ((Value.ref a == Value.type T) = true) := fun z => nomatch (beq_iff_eq.mp z)
  rw [if_neg z]
  show (if PySem.W.kitMeta T = true then PySem.W.subIn K (.ref a) (.type T) else none) = some false
  rw [if_pos m]
  exact e
theorem fam_binds {K : PySem.W.Frag} {e1 e2 f : Addr} {fd : FuncData} (F : FunD K "__init__" "Family.__init__" (defArgs sDFamilyInit) (defBody sDFamilyInit) (defScope sDFamilyInit) [V.ref e1, V.ref e2] [] f fd) : L2.Binds K fd ["self", "people", "wills", "facts"] [] := by
  obtain ⟨ds, h, hb⟩ := F.binds1 (ps := ["self", "people", "wills", "facts"]) 4 2 (by simp) (by rfl) fun T kV doc pm an cdv ct us its h1 h2 => match us, h1, its, h2 with
    | [_, _, _, _], _, [_, _], _ => ⟨_, rfl, rfl⟩
  cases h
  exact hb
theorem kit_cls {K : PySem.W.Frag} {a b : Addr} {r : Bool} (i : PySem.W.isClsIn K b = true) (t : PySem.W.typeIn K (.ref b) = some (.type "type")) (e : PySem.W.subIn K (.ref a) (.ref b) = some r) : PySem.W.kitCls K (.ref a) (.ref b) = some r := by
  have i' : (PySem.W.clsIn K b).isSome = true := i
  show (if ((PySem.W.clsIn K b).isSome && PySem.W.typeIn K (.ref b) == some (.type "type")) = true then PySem.W.subIn K (.ref a) (.ref b) else none) = some r
  rw [i', t, if_pos (by rfl)]
  exact e
theorem kit_yes {K : PySem.W.Frag} {a b : Addr} (i : PySem.W.isClsIn K b = true) (t : PySem.W.typeIn K (.ref b) = some (.type "type")) (e : PySem.W.subIn K (.ref a) (.ref b) = some true) : PySem.W.kitOne K (.ref a) (.ref b) = some true := by
  unfold PySem.W.kitOne
  split
  · rfl
  · exact kit_cls i t e
theorem kit_no {K : PySem.W.Frag} {a b : Addr} (h : PySem.W.subIn K (.ref a) (.ref a) = some true) (i : PySem.W.isClsIn K b = true) (t : PySem.W.typeIn K (.ref b) = some (.type "type")) (e : PySem.W.subIn K (.ref a) (.ref b) = some false) : PySem.W.kitOne K (.ref a) (.ref b) = some false := by
  unfold PySem.W.kitOne
  split
  · rename_i z
    have z' := Value.ref.inj (beq_iff_eq.mp z)
    subst z'
    rw [h] at e
    cases e
  · exact kit_cls i t e
set_option maxHeartbeats 0 in
theorem all_mk {l : PySem.W.OpenLaw} {w : World} {K : PySem.W.Frag} {h : Heap} {mg : Str → Option Value} {fa cHeirError cInvalidWill cInvalidFamily cInvalidText cNoName cWill cFamily f0 f1 f2 f3 f4 f5 f6 f17 f18 f19 f20 f21 f22 f31 f32 f33 f34 f35 f36 f37 f38 f39 f40 f41 f42 f43 f44 f45 f46 f47 f48 u_LINE_WORDS f11 f15 f16 f12 rP f13 pP13 f23 dT e1 e2 f8 : Addr} {rRest : List Value} {pL13 : List Value} {dT2 : Option Addr} {nT : Nat} {slT : Array (Option Value)} {nmI qI : Str} {NI : Addr} {bsI : List Value} {snI : List Str} {subI : List Value} {abI : Bool} {colI : Option Bool} {ddI : Option Addr} {k0I k1I k2I k3I k5I : Option Value} (X : K.In h) (G : h.Ns mainGlobals mg) (hfa : mg "law" = some (.ref fa))
    {od0 an0 od1 an1 od2 an2 od3 an3 od4 an4 od5 an5 od6 an6 od17 an17 od18 an18 od19 an19 od20 an20 od21 an21 od22 an22 od31 an31 od32 an32 od33 an33 od34 an34 od35 an35 od36 an36 od37 an37 od38 an38 od39 an39 od40 an40 od41 an41 od42 an42 od43 an43 od44 an44 od45 an45 od46 an46 od47 an47 od48 an48 od11 an11 od15 an15 od16 an16 od12 an12 od13 an13 od23 an23 od8 an8 : Option Addr} {sl0 sl1 sl2 sl3 sl4 sl5 sl6 sl17 sl18 sl19 sl20 sl21 sl22 sl31 sl32 sl33 sl34 sl35 sl36 sl37 sl38 sl39 sl40 sl41 sl42 sl43 sl44 sl45 sl46 sl47 sl48 sl11 sl15 sl16 sl12 sl13 sl23 sl8 : Array (Option Value)} {oc0 kV0 dc0 pm0 cd0 ct0 oc1 kV1 dc1 pm1 cd1 ct1 oc2 kV2 dc2 pm2 cd2 ct2 oc3 kV3 dc3 pm3 cd3 ct3 oc4 kV4 dc4 pm4 cd4 ct4 oc5 kV5 dc5 pm5 cd5 ct5 oc6 kV6 dc6 pm6 cd6 ct6 oc17 kV17 dc17 pm17 cd17 ct17 oc18 kV18 dc18 pm18 cd18 ct18 oc19 kV19 dc19 pm19 cd19 ct19 oc20 kV20 dc20 pm20 cd20 ct20 oc21 kV21 dc21 pm21 cd21 ct21 oc22 kV22 dc22 pm22 cd22 ct22 oc31 kV31 dc31 pm31 cd31 ct31 oc32 kV32 dc32 pm32 cd32 ct32 oc33 kV33 dc33 pm33 cd33 ct33 oc34 kV34 dc34 pm34 cd34 ct34 oc35 kV35 dc35 pm35 cd35 ct35 oc36 kV36 dc36 pm36 cd36 ct36 oc37 kV37 dc37 pm37 cd37 ct37 oc38 kV38 dc38 pm38 cd38 ct38 oc39 kV39 dc39 pm39 cd39 ct39 oc40 kV40 dc40 pm40 cd40 ct40 oc41 kV41 dc41 pm41 cd41 ct41 oc42 kV42 dc42 pm42 cd42 ct42 oc43 kV43 dc43 pm43 cd43 ct43 oc44 kV44 dc44 pm44 cd44 ct44 oc45 kV45 dc45 pm45 cd45 ct45 oc46 kV46 dc46 pm46 cd46 ct46 oc47 kV47 dc47 pm47 cd47 ct47 oc48 kV48 dc48 pm48 cd48 ct48 oc11 kV11 dc11 pm11 cd11 ct11 oc15 kV15 dc15 pm15 cd15 ct15 oc16 kV16 dc16 pm16 cd16 ct16 oc12 kV12 dc12 pm12 cd12 ct12 oc13 kV13 dc13 pm13 cd13 ct13 oc23 kV23 dc23 pm23 cd23 ct23 oc8 kV8 dc8 pm8 cd8 ct8 : Value} {t_CROWN t_LONGEST_NAME t_WEIGHT_DIGITS t_AMOUNT_DIGITS : Tok}
    (gHeirError : PySem.W.nsIn K mainGlobals "HeirError" = some (some (.ref cHeirError)))
    (gInvalidWill : PySem.W.nsIn K mainGlobals "InvalidWill" = some (some (.ref cInvalidWill)))
    (gInvalidFamily : PySem.W.nsIn K mainGlobals "InvalidFamily" = some (some (.ref cInvalidFamily)))
    (gInvalidText : PySem.W.nsIn K mainGlobals "InvalidText" = some (some (.ref cInvalidText)))
    (gNoName : PySem.W.nsIn K mainGlobals "NoName" = some (some (.ref cNoName)))
    (gWill : PySem.W.nsIn K mainGlobals "Will" = some (some (.ref cWill)))
    (gFamily : PySem.W.nsIn K mainGlobals "Family" = some (some (.ref cFamily)))
    (a0 : PySem.W.nsIn K mainGlobals "is_integer" = some (some (.ref f0)))
    (l0 : K.lookup f0 = some ⟨oc0, od0, .func (PySem.W.fnOf "is_integer" "is_integer" (defArgs sDIsInteger) (defBody sDIsInteger) (defScope sDIsInteger) .none kV0 dc0 pm0 an0 cd0 ct0), sl0⟩)
    (c0 : PySem.W.codeIn K cd0 "is_integer" = true)
    (k0 : PySem.W.keepIn K (.ref f0) = true)
    (a1 : PySem.W.nsIn K mainGlobals "is_number" = some (some (.ref f1)))
    (l1 : K.lookup f1 = some ⟨oc1, od1, .func (PySem.W.fnOf "is_number" "is_number" (defArgs sDIsNumber) (defBody sDIsNumber) (defScope sDIsNumber) .none kV1 dc1 pm1 an1 cd1 ct1), sl1⟩)
    (c1 : PySem.W.codeIn K cd1 "is_number" = true)
    (k1 : PySem.W.keepIn K (.ref f1) = true)
    (a2 : PySem.W.nsIn K mainGlobals "is_name" = some (some (.ref f2)))
    (l2 : K.lookup f2 = some ⟨oc2, od2, .func (PySem.W.fnOf "is_name" "is_name" (defArgs sDIsName) (defBody sDIsName) (defScope sDIsName) .none kV2 dc2 pm2 an2 cd2 ct2), sl2⟩)
    (c2 : PySem.W.codeIn K cd2 "is_name" = true)
    (k2 : PySem.W.keepIn K (.ref f2) = true)
    (a3 : PySem.W.nsIn K mainGlobals "is_sequence" = some (some (.ref f3)))
    (l3 : K.lookup f3 = some ⟨oc3, od3, .func (PySem.W.fnOf "is_sequence" "is_sequence" (defArgs sDIsSequence) (defBody sDIsSequence) (defScope sDIsSequence) .none kV3 dc3 pm3 an3 cd3 ct3), sl3⟩)
    (c3 : PySem.W.codeIn K cd3 "is_sequence" = true)
    (k3 : PySem.W.keepIn K (.ref f3) = true)
    (a4 : PySem.W.nsIn K mainGlobals "is_pair" = some (some (.ref f4)))
    (l4 : K.lookup f4 = some ⟨oc4, od4, .func (PySem.W.fnOf "is_pair" "is_pair" (defArgs sDIsPair) (defBody sDIsPair) (defScope sDIsPair) .none kV4 dc4 pm4 an4 cd4 ct4), sl4⟩)
    (c4 : PySem.W.codeIn K cd4 "is_pair" = true)
    (k4 : PySem.W.keepIn K (.ref f4) = true)
    (a5 : PySem.W.nsIn K mainGlobals "read_number" = some (some (.ref f5)))
    (l5 : K.lookup f5 = some ⟨oc5, od5, .func (PySem.W.fnOf "read_number" "read_number" (defArgs sDReadNumber) (defBody sDReadNumber) (defScope sDReadNumber) .none kV5 dc5 pm5 an5 cd5 ct5), sl5⟩)
    (c5 : PySem.W.codeIn K cd5 "read_number" = true)
    (k5 : PySem.W.keepIn K (.ref f5) = true)
    (a6 : PySem.W.nsIn K mainGlobals "line_up" = some (some (.ref f6)))
    (l6 : K.lookup f6 = some ⟨oc6, od6, .func (PySem.W.fnOf "line_up" "line_up" (defArgs sDLineUp) (defBody sDLineUp) (defScope sDLineUp) .none kV6 dc6 pm6 an6 cd6 ct6), sl6⟩)
    (c6 : PySem.W.codeIn K cd6 "line_up" = true)
    (k6 : PySem.W.keepIn K (.ref f6) = true)
    (a17 : PySem.W.nsIn K mainGlobals "_are_shares" = some (some (.ref f17)))
    (l17 : K.lookup f17 = some ⟨oc17, od17, .func (PySem.W.fnOf "_are_shares" "_are_shares" (defArgs sDAreShares) (defBody sDAreShares) (defScope sDAreShares) .none kV17 dc17 pm17 an17 cd17 ct17), sl17⟩)
    (c17 : PySem.W.codeIn K cd17 "_are_shares" = true)
    (k17 : PySem.W.keepIn K (.ref f17) = true)
    (a18 : PySem.W.nsIn K mainGlobals "_is_share" = some (some (.ref f18)))
    (l18 : K.lookup f18 = some ⟨oc18, od18, .func (PySem.W.fnOf "_is_share" "_is_share" (defArgs sDIsShare) (defBody sDIsShare) (defScope sDIsShare) .none kV18 dc18 pm18 an18 cd18 ct18), sl18⟩)
    (c18 : PySem.W.codeIn K cd18 "_is_share" = true)
    (k18 : PySem.W.keepIn K (.ref f18) = true)
    (a19 : PySem.W.nsIn K mainGlobals "_is_group" = some (some (.ref f19)))
    (l19 : K.lookup f19 = some ⟨oc19, od19, .func (PySem.W.fnOf "_is_group" "_is_group" (defArgs sDIsGroup) (defBody sDIsGroup) (defScope sDIsGroup) .none kV19 dc19 pm19 an19 cd19 ct19), sl19⟩)
    (c19 : PySem.W.codeIn K cd19 "_is_group" = true)
    (k19 : PySem.W.keepIn K (.ref f19) = true)
    (a20 : PySem.W.nsIn K mainGlobals "_lots" = some (some (.ref f20)))
    (l20 : K.lookup f20 = some ⟨oc20, od20, .func (PySem.W.fnOf "_lots" "_lots" (defArgs sDLots) (defBody sDLots) (defScope sDLots) .none kV20 dc20 pm20 an20 cd20 ct20), sl20⟩)
    (c20 : PySem.W.codeIn K cd20 "_lots" = true)
    (k20 : PySem.W.keepIn K (.ref f20) = true)
    (a21 : PySem.W.nsIn K mainGlobals "_share_text" = some (some (.ref f21)))
    (l21 : K.lookup f21 = some ⟨oc21, od21, .func (PySem.W.fnOf "_share_text" "_share_text" (defArgs sDShareText) (defBody sDShareText) (defScope sDShareText) .none kV21 dc21 pm21 an21 cd21 ct21), sl21⟩)
    (c21 : PySem.W.codeIn K cd21 "_share_text" = true)
    (k21 : PySem.W.keepIn K (.ref f21) = true)
    (a22 : PySem.W.nsIn K mainGlobals "_read_share" = some (some (.ref f22)))
    (l22 : K.lookup f22 = some ⟨oc22, od22, .func (PySem.W.fnOf "_read_share" "_read_share" (defArgs sDReadShare) (defBody sDReadShare) (defScope sDReadShare) .none kV22 dc22 pm22 an22 cd22 ct22), sl22⟩)
    (c22 : PySem.W.codeIn K cd22 "_read_share" = true)
    (k22 : PySem.W.keepIn K (.ref f22) = true)
    (a31 : PySem.W.nsIn K mainGlobals "_are_people" = some (some (.ref f31)))
    (l31 : K.lookup f31 = some ⟨oc31, od31, .func (PySem.W.fnOf "_are_people" "_are_people" (defArgs sDArePeople) (defBody sDArePeople) (defScope sDArePeople) .none kV31 dc31 pm31 an31 cd31 ct31), sl31⟩)
    (c31 : PySem.W.codeIn K cd31 "_are_people" = true)
    (k31 : PySem.W.keepIn K (.ref f31) = true)
    (a32 : PySem.W.nsIn K mainGlobals "_are_wills" = some (some (.ref f32)))
    (l32 : K.lookup f32 = some ⟨oc32, od32, .func (PySem.W.fnOf "_are_wills" "_are_wills" (defArgs sDAreWills) (defBody sDAreWills) (defScope sDAreWills) .none kV32 dc32 pm32 an32 cd32 ct32), sl32⟩)
    (c32 : PySem.W.codeIn K cd32 "_are_wills" = true)
    (k32 : PySem.W.keepIn K (.ref f32) = true)
    (a33 : PySem.W.nsIn K mainGlobals "_may_leave" = some (some (.ref f33)))
    (l33 : K.lookup f33 = some ⟨oc33, od33, .func (PySem.W.fnOf "_may_leave" "_may_leave" (defArgs sDMayLeave) (defBody sDMayLeave) (defScope sDMayLeave) .none kV33 dc33 pm33 an33 cd33 ct33), sl33⟩)
    (c33 : PySem.W.codeIn K cd33 "_may_leave" = true)
    (k33 : PySem.W.keepIn K (.ref f33) = true)
    (a34 : PySem.W.nsIn K mainGlobals "_have_different_names" = some (some (.ref f34)))
    (l34 : K.lookup f34 = some ⟨oc34, od34, .func (PySem.W.fnOf "_have_different_names" "_have_different_names" (defArgs sDHaveDifferentNames) (defBody sDHaveDifferentNames) (defScope sDHaveDifferentNames) .none kV34 dc34 pm34 an34 cd34 ct34), sl34⟩)
    (c34 : PySem.W.codeIn K cd34 "_have_different_names" = true)
    (k34 : PySem.W.keepIn K (.ref f34) = true)
    (a35 : PySem.W.nsIn K mainGlobals "_are_facts" = some (some (.ref f35)))
    (l35 : K.lookup f35 = some ⟨oc35, od35, .func (PySem.W.fnOf "_are_facts" "_are_facts" (defArgs sDAreFacts) (defBody sDAreFacts) (defScope sDAreFacts) .none kV35 dc35 pm35 an35 cd35 ct35), sl35⟩)
    (c35 : PySem.W.codeIn K cd35 "_are_facts" = true)
    (k35 : PySem.W.keepIn K (.ref f35) = true)
    (a36 : PySem.W.nsIn K mainGlobals "_is_fact" = some (some (.ref f36)))
    (l36 : K.lookup f36 = some ⟨oc36, od36, .func (PySem.W.fnOf "_is_fact" "_is_fact" (defArgs sDIsFact) (defBody sDIsFact) (defScope sDIsFact) .none kV36 dc36 pm36 an36 cd36 ct36), sl36⟩)
    (c36 : PySem.W.codeIn K cd36 "_is_fact" = true)
    (k36 : PySem.W.keepIn K (.ref f36) = true)
    (a37 : PySem.W.nsIn K mainGlobals "_found" = some (some (.ref f37)))
    (l37 : K.lookup f37 = some ⟨oc37, od37, .func (PySem.W.fnOf "_found" "_found" (defArgs sDFound) (defBody sDFound) (defScope sDFound) .none kV37 dc37 pm37 an37 cd37 ct37), sl37⟩)
    (c37 : PySem.W.codeIn K cd37 "_found" = true)
    (k37 : PySem.W.keepIn K (.ref f37) = true)
    (a38 : PySem.W.nsIn K mainGlobals "_read_line" = some (some (.ref f38)))
    (l38 : K.lookup f38 = some ⟨oc38, od38, .func (PySem.W.fnOf "_read_line" "_read_line" (defArgs sDReadLine) (defBody sDReadLine) (defScope sDReadLine) .none kV38 dc38 pm38 an38 cd38 ct38), sl38⟩)
    (c38 : PySem.W.codeIn K cd38 "_read_line" = true)
    (k38 : PySem.W.keepIn K (.ref f38) = true)
    (a39 : PySem.W.nsIn K mainGlobals "_read_told" = some (some (.ref f39)))
    (l39 : K.lookup f39 = some ⟨oc39, od39, .func (PySem.W.fnOf "_read_told" "_read_told" (defArgs sDReadTold) (defBody sDReadTold) (defScope sDReadTold) .none kV39 dc39 pm39 an39 cd39 ct39), sl39⟩)
    (c39 : PySem.W.codeIn K cd39 "_read_told" = true)
    (k39 : PySem.W.keepIn K (.ref f39) = true)
    (a40 : PySem.W.nsIn K mainGlobals "_read_will" = some (some (.ref f40)))
    (l40 : K.lookup f40 = some ⟨oc40, od40, .func (PySem.W.fnOf "_read_will" "_read_will" (defArgs sDReadWill) (defBody sDReadWill) (defScope sDReadWill) .none kV40 dc40 pm40 an40 cd40 ct40), sl40⟩)
    (c40 : PySem.W.codeIn K cd40 "_read_will" = true)
    (k40 : PySem.W.keepIn K (.ref f40) = true)
    (a41 : PySem.W.nsIn K mainGlobals "_law_seed" = some (some (.ref f41)))
    (l41 : K.lookup f41 = some ⟨oc41, od41, .func (PySem.W.fnOf "_law_seed" "_law_seed" (defArgs sDLawSeed) (defBody sDLawSeed) (defScope sDLawSeed) .none kV41 dc41 pm41 an41 cd41 ct41), sl41⟩)
    (c41 : PySem.W.codeIn K cd41 "_law_seed" = true)
    (k41 : PySem.W.keepIn K (.ref f41) = true)
    (a42 : PySem.W.nsIn K mainGlobals "_law_choose" = some (some (.ref f42)))
    (l42 : K.lookup f42 = some ⟨oc42, od42, .func (PySem.W.fnOf "_law_choose" "_law_choose" (defArgs sDLawChoose) (defBody sDLawChoose) (defScope sDLawChoose) .none kV42 dc42 pm42 an42 cd42 ct42), sl42⟩)
    (c42 : PySem.W.codeIn K cd42 "_law_choose" = true)
    (k42 : PySem.W.keepIn K (.ref f42) = true)
    (a43 : PySem.W.nsIn K mainGlobals "_law_one_of" = some (some (.ref f43)))
    (l43 : K.lookup f43 = some ⟨oc43, od43, .func (PySem.W.fnOf "_law_one_of" "_law_one_of" (defArgs sDLawOneOf) (defBody sDLawOneOf) (defScope sDLawOneOf) .none kV43 dc43 pm43 an43 cd43 ct43), sl43⟩)
    (c43 : PySem.W.codeIn K cd43 "_law_one_of" = true)
    (k43 : PySem.W.keepIn K (.ref f43) = true)
    (a44 : PySem.W.nsIn K mainGlobals "_law_mixed" = some (some (.ref f44)))
    (l44 : K.lookup f44 = some ⟨oc44, od44, .func (PySem.W.fnOf "_law_mixed" "_law_mixed" (defArgs sDLawMixed) (defBody sDLawMixed) (defScope sDLawMixed) .none kV44 dc44 pm44 an44 cd44 ct44), sl44⟩)
    (c44 : PySem.W.codeIn K cd44 "_law_mixed" = true)
    (k44 : PySem.W.keepIn K (.ref f44) = true)
    (a45 : PySem.W.nsIn K mainGlobals "_law_names" = some (some (.ref f45)))
    (l45 : K.lookup f45 = some ⟨oc45, od45, .func (PySem.W.fnOf "_law_names" "_law_names" (defArgs sDLawNames) (defBody sDLawNames) (defScope sDLawNames) .none kV45 dc45 pm45 an45 cd45 ct45), sl45⟩)
    (c45 : PySem.W.codeIn K cd45 "_law_names" = true)
    (k45 : PySem.W.keepIn K (.ref f45) = true)
    (a46 : PySem.W.nsIn K mainGlobals "_law_has_ring" = some (some (.ref f46)))
    (l46 : K.lookup f46 = some ⟨oc46, od46, .func (PySem.W.fnOf "_law_has_ring" "_law_has_ring" (defArgs sDLawHasRing) (defBody sDLawHasRing) (defScope sDLawHasRing) .none kV46 dc46 pm46 an46 cd46 ct46), sl46⟩)
    (c46 : PySem.W.codeIn K cd46 "_law_has_ring" = true)
    (k46 : PySem.W.keepIn K (.ref f46) = true)
    (a47 : PySem.W.nsIn K mainGlobals "_law_heard" = some (some (.ref f47)))
    (l47 : K.lookup f47 = some ⟨oc47, od47, .func (PySem.W.fnOf "_law_heard" "_law_heard" (defArgs sDLawHeard) (defBody sDLawHeard) (defScope sDLawHeard) .none kV47 dc47 pm47 an47 cd47 ct47), sl47⟩)
    (c47 : PySem.W.codeIn K cd47 "_law_heard" = true)
    (k47 : PySem.W.keepIn K (.ref f47) = true)
    (a48 : PySem.W.nsIn K mainGlobals "law" = some (some (.ref f48)))
    (l48 : K.lookup f48 = some ⟨oc48, od48, .func (PySem.W.fnOf "law" "law" (defArgs sDLaw) (defBody sDLaw) (defScope sDLaw) .none kV48 dc48 pm48 an48 cd48 ct48), sl48⟩)
    (c48 : PySem.W.codeIn K cd48 "law" = true)
    (k48 : PySem.W.keepIn K (.ref f48) = true)
    (z_NotImplemented : PySem.W.nsIn K mainGlobals "NotImplemented" = some none)
    (z_abs : PySem.W.nsIn K mainGlobals "abs" = some none)
    (z_all : PySem.W.nsIn K mainGlobals "all" = some none)
    (z_bool : PySem.W.nsIn K mainGlobals "bool" = some none)
    (z_classmethod : PySem.W.nsIn K mainGlobals "classmethod" = some none)
    (z_enumerate : PySem.W.nsIn K mainGlobals "enumerate" = some none)
    (z_int : PySem.W.nsIn K mainGlobals "int" = some none)
    (z_isinstance : PySem.W.nsIn K mainGlobals "isinstance" = some none)
    (z_len : PySem.W.nsIn K mainGlobals "len" = some none)
    (z_list : PySem.W.nsIn K mainGlobals "list" = some none)
    (z_max : PySem.W.nsIn K mainGlobals "max" = some none)
    (z_min : PySem.W.nsIn K mainGlobals "min" = some none)
    (z_property : PySem.W.nsIn K mainGlobals "property" = some none)
    (z_range : PySem.W.nsIn K mainGlobals "range" = some none)
    (z_set : PySem.W.nsIn K mainGlobals "set" = some none)
    (z_sorted : PySem.W.nsIn K mainGlobals "sorted" = some none)
    (z_str : PySem.W.nsIn K mainGlobals "str" = some none)
    (z_tuple : PySem.W.nsIn K mainGlobals "tuple" = some none)
    (q_CROWN : PySem.W.nsIn K mainGlobals "CROWN" = some (some (.str "crown" t_CROWN)))
    (q_LONGEST_NAME : PySem.W.nsIn K mainGlobals "LONGEST_NAME" = some (some (.int 5 t_LONGEST_NAME)))
    (q_WEIGHT_DIGITS : PySem.W.nsIn K mainGlobals "WEIGHT_DIGITS" = some (some (.int 6 t_WEIGHT_DIGITS)))
    (q_AMOUNT_DIGITS : PySem.W.nsIn K mainGlobals "AMOUNT_DIGITS" = some (some (.int 10 t_AMOUNT_DIGITS)))
    {du_LINE_WORDS : Option Addr} {nu_LINE_WORDS : Nat} {su_LINE_WORDS : Array (Option Value)} {tu_LINE_WORDS0 tu_LINE_WORDS1 tu_LINE_WORDS2 : Tok}
    (q_LINE_WORDS : PySem.W.nsIn K mainGlobals "LINE_WORDS" = some (some (.ref u_LINE_WORDS)))
    (x_LINE_WORDS : K.lookup u_LINE_WORDS = some ⟨.type "tuple", du_LINE_WORDS, .seq #[.str "person" tu_LINE_WORDS0, .str "will" tu_LINE_WORDS1, .str "first" tu_LINE_WORDS2] nu_LINE_WORDS, su_LINE_WORDS⟩)
    (a11 : PySem.W.findIn K (.ref cWill) "__init__" = some (some (.ref f11)))
    (i11 : PySem.W.isFn K (.ref f11) = true)
    (l11 : K.lookup f11 = some ⟨oc11, od11, .func (PySem.W.fnOf "__init__" "Will.__init__" (defArgs sDWillInit) (defBody sDWillInit) (defScope sDWillInit) .none kV11 dc11 pm11 an11 cd11 ct11), sl11⟩)
    (c11 : PySem.W.codeIn K cd11 "Will.__init__" = true)
    (k11 : PySem.W.keepIn K (.ref f11) = true)
    (a15 : PySem.W.findIn K (.ref cWill) "__eq__" = some (some (.ref f15)))
    (i15 : PySem.W.isFn K (.ref f15) = true)
    (l15 : K.lookup f15 = some ⟨oc15, od15, .func (PySem.W.fnOf "__eq__" "Will.__eq__" (defArgs sDWillEq) (defBody sDWillEq) (defScope sDWillEq) .none kV15 dc15 pm15 an15 cd15 ct15), sl15⟩)
    (c15 : PySem.W.codeIn K cd15 "Will.__eq__" = true)
    (k15 : PySem.W.keepIn K (.ref f15) = true)
    (a16 : PySem.W.findIn K (.ref cWill) "__str__" = some (some (.ref f16)))
    (i16 : PySem.W.isFn K (.ref f16) = true)
    (l16 : K.lookup f16 = some ⟨oc16, od16, .func (PySem.W.fnOf "__str__" "Will.__str__" (defArgs sDWillStr) (defBody sDWillStr) (defScope sDWillStr) .none kV16 dc16 pm16 an16 cd16 ct16), sl16⟩)
    (c16 : PySem.W.codeIn K cd16 "Will.__str__" = true)
    (k16 : PySem.W.keepIn K (.ref f16) = true)
    (rAt : PySem.W.findCls K (.ref cWill) (.type "type") "read" = some (.get (.builtin "classmethod.__get__") (.ref rP) .none (.ref cWill)))
    (rRc : PySem.W.recIn K rP "classmethod" = some (.ref f12 :: rRest))
    (rFi : PySem.W.fnIn K f12 = true)
    (l12 : K.lookup f12 = some ⟨oc12, od12, .func (PySem.W.fnOf "read" "Will.read" (defArgs sDWillRead) (defBody sDWillRead) (defScope sDWillRead) .none kV12 dc12 pm12 an12 cd12 ct12), sl12⟩)
    (c12 : PySem.W.codeIn K cd12 "Will.read" = true)
    (k12 : PySem.W.keepIn K (.ref f12) = true)
    (rRd : PySem.W.readsIn K cWill (.type "type") = true)
    (rGa : PySem.W.specialIn K (.ref cWill) "__getattribute__" = some (some (.builtin "type.__getattribute__")))
    (pg : PySem.W.plainGet K cWill Str.empty = true)
    (hd : PySem.W.hasDictIn K cWill = true)
    (po : PySem.W.plainOver K cWill = true)
    (sa : PySem.W.findIn K (.ref cWill) "__setattr__" = some (some (.builtin "object.__setattr__")))
    (nS : PySem.W.findIn K (.ref cWill) "shares" = some none)
    (mk : PySem.W.makesIn K cWill = true)
    (kc : PySem.W.keepIn K (.ref cWill) = true)
    (oNe : PySem.W.findIn K (.ref cWill) "__ne__" = some (some (.builtin "object.__ne__")))
    (oOb : PySem.W.mroIn K cWill (.type "object") = some true)
    (kCl : PySem.W.findIn K (.ref cWill) "__class__" = some (some (.builtin "object.__class__")))
    (kGt : PySem.W.specialIn K (.builtin "object.__class__") "__get__" = some (some (.builtin "getset_descriptor.__get__")))
    (kTk : PySem.W.takesIn K (.builtin "object.__class__") = some true)
    (pA13 : PySem.W.findIn K (.ref cWill) "names" = some (some (.ref pP13)))
    (pG13 : PySem.W.specialIn K (.ref pP13) "__get__" = some (some (.builtin "property.__get__")))
    (pT13 : PySem.W.takesIn K (.ref pP13) = some true)
    (pR13 : PySem.W.recIn K pP13 "property" = some (.ref f13 :: pL13))
    (l13 : K.lookup f13 = some ⟨oc13, od13, .func (PySem.W.fnOf "names" "Will.names" (defArgs sDWillNames) (defBody sDWillNames) (defScope sDWillNames) .none kV13 dc13 pm13 an13 cd13 ct13), sl13⟩)
    (c13 : PySem.W.codeIn K cd13 "Will.names" = true)
    (k13 : PySem.W.keepIn K (.ref f13) = true)
    (nb_int : PySem.W.subIn K (.ref cWill) (.type "int") = some false)
    (nb_str : PySem.W.subIn K (.ref cWill) (.type "str") = some false)
    (nb_list : PySem.W.subIn K (.ref cWill) (.type "list") = some false)
    (nb_tuple : PySem.W.subIn K (.ref cWill) (.type "tuple") = some false)
    (a23 : PySem.W.findIn K (.ref cFamily) "__init__" = some (some (.ref f23)))
    (i23 : PySem.W.isFn K (.ref f23) = true)
    (l23 : K.lookup f23 = some ⟨oc23, od23, .func (PySem.W.fnOf "__init__" "Family.__init__" (defArgs sDFamilyInit) (defBody sDFamilyInit) (defScope sDFamilyInit) (.ref dT) kV23 dc23 pm23 an23 cd23 ct23), sl23⟩)
    (c23 : PySem.W.codeIn K cd23 "Family.__init__" = true)
    (k23 : PySem.W.keepIn K (.ref f23) = true)
    (lT : K.lookup dT = some ⟨.type "tuple", dT2, .seq #[.ref e1, .ref e2] nT, slT⟩)
    (pg2 : PySem.W.plainGet K cFamily Str.empty = true)
    (hd2 : PySem.W.hasDictIn K cFamily = true)
    (po2 : PySem.W.plainOver K cFamily = true)
    (sa2 : PySem.W.findIn K (.ref cFamily) "__setattr__" = some (some (.builtin "object.__setattr__")))
    (n_people : PySem.W.findIn K (.ref cFamily) "people" = some none)
    (n_wills : PySem.W.findIn K (.ref cFamily) "wills" = some none)
    (n_facts : PySem.W.findIn K (.ref cFamily) "facts" = some none)
    (mk2 : PySem.W.makesIn K cFamily = true)
    (kc2 : PySem.W.keepIn K (.ref cFamily) = true)
    (xL : K.lookup cInvalidFamily = some (excClassObj nmI qI cInvalidFamily NI bsI [.ref cHeirError, .type "ValueError", .type "Exception", .type "BaseException", .type "object"] true snI subI abI colI ddI k0I k1I k2I k3I k5I "ValueError.__new__"))
    (xsa : PySem.W.findIn K (.ref cInvalidFamily) "__setattr__" = some (some (.builtin "object.__setattr__")))
    (xga : PySem.W.findIn K (.ref cInvalidFamily) "__getattribute__" = some (some (.builtin "BaseException.__getattribute__")))
    (xgg : PySem.W.findIn K (.ref cInvalidFamily) "__getattr__" = some none)
    (xno : PySem.W.findIn K (.ref cInvalidFamily) "word" = some none)
    (xi : PySem.W.findIn K (.ref cInvalidFamily) "__init__" = some (some (.ref f8)))
    (xt : PySem.W.typeIn K (.ref f8) = some (.type "function"))
    (l8 : K.lookup f8 = some ⟨oc8, od8, .func (PySem.W.fnOf "__init__" "InvalidFamily.__init__" (defArgs sDInvalidFamilyInit) (defBody sDInvalidFamilyInit) (defScope sDInvalidFamilyInit) .none kV8 dc8 pm8 an8 cd8 ct8), sl8⟩)
    (c8 : PySem.W.codeIn K cd8 "InvalidFamily.__init__" = true)
    (k8 : PySem.W.keepIn K (.ref f8) = true)
    (xkC : PySem.W.keepIn K (.ref cInvalidFamily) = true)
    (xeC : PySem.W.subIn K (.ref cInvalidFamily) (.type "BaseException") = some true)
    (xtC : PySem.W.typeIn K (.ref cInvalidFamily) = some (.type "type"))
    (xhC : PySem.W.hasDictIn K cInvalidFamily = true)
    (xsC : PySem.W.subIn K (.ref cInvalidFamily) (.ref cInvalidFamily) = some true)
    (xcl : PySem.W.findIn K (.ref cInvalidFamily) "__class__" = some (some (.builtin "object.__class__")))
    (xmo : PySem.W.mroIn K cInvalidFamily (.type "object") = some true)
    (xb1 : PySem.W.isClsIn K cHeirError = true)
    (xy1 : PySem.W.typeIn K (.ref cHeirError) = some (.type "type"))
    (xs1 : PySem.W.subIn K (.ref cInvalidFamily) (.ref cHeirError) = some true)
    (xb2 : PySem.W.isClsIn K cInvalidWill = true)
    (xy2 : PySem.W.typeIn K (.ref cInvalidWill) = some (.type "type"))
    (xs2 : PySem.W.subIn K (.ref cInvalidFamily) (.ref cInvalidWill) = some false)
    : ∃ fd : FuncData, (∀ (s : Shared) (v : Value), BindsTo s fd ⟨[v], []⟩ [("_law_script", v)]) ∧ ∀ base : Heap, K.In base → base.Ns mainGlobals mg → FnOk l.prog w K mg base CX0 12 fa fd ["_law_script"] (spLaw K) := by
  have e := hfa.symm.trans (PySem.W.mg_of X G a48)
  cases e
  have F0 := fun_mk (st := sDIsInteger) l0 c0 k0
  have b0 := F0.binds (ps := ["value"]) fun _ _ _ _ _ _ us hl => match us, hl with | [_], _ => rfl
  have F1 := fun_mk (st := sDIsNumber) l1 c1 k1
  have b1 := F1.binds (ps := ["value"]) fun _ _ _ _ _ _ us hl => match us, hl with | [_], _ => rfl
  have F2 := fun_mk (st := sDIsName) l2 c2 k2
  have b2 := F2.binds (ps := ["value"]) fun _ _ _ _ _ _ us hl => match us, hl with | [_], _ => rfl
  have F3 := fun_mk (st := sDIsSequence) l3 c3 k3
  have b3 := F3.binds (ps := ["value"]) fun _ _ _ _ _ _ us hl => match us, hl with | [_], _ => rfl
  have F4 := fun_mk (st := sDIsPair) l4 c4 k4
  have b4 := F4.binds (ps := ["value"]) fun _ _ _ _ _ _ us hl => match us, hl with | [_], _ => rfl
  have F5 := fun_mk (st := sDReadNumber) l5 c5 k5
  have b5 := F5.binds (ps := ["word", "digits"]) fun _ _ _ _ _ _ us hl => match us, hl with | [_, _], _ => rfl
  have F6 := fun_mk (st := sDLineUp) l6 c6 k6
  have b6 := F6.binds (ps := ["names", "facts"]) fun _ _ _ _ _ _ us hl => match us, hl with | [_, _], _ => rfl
  have F17 := fun_mk (st := sDAreShares) l17 c17 k17
  have b17 := F17.binds (ps := ["value"]) fun _ _ _ _ _ _ us hl => match us, hl with | [_], _ => rfl
  have F18 := fun_mk (st := sDIsShare) l18 c18 k18
  have b18 := F18.binds (ps := ["value"]) fun _ _ _ _ _ _ us hl => match us, hl with | [_], _ => rfl
  have F19 := fun_mk (st := sDIsGroup) l19 c19 k19
  have b19 := F19.binds (ps := ["value"]) fun _ _ _ _ _ _ us hl => match us, hl with | [_], _ => rfl
  have F20 := fun_mk (st := sDLots) l20 c20 k20
  have b20 := F20.binds (ps := ["groups"]) fun _ _ _ _ _ _ us hl => match us, hl with | [_], _ => rfl
  have F21 := fun_mk (st := sDShareText) l21 c21 k21
  have b21 := F21.binds (ps := ["weight", "groups"]) fun _ _ _ _ _ _ us hl => match us, hl with | [_, _], _ => rfl
  have F22 := fun_mk (st := sDReadShare) l22 c22 k22
  have b22 := F22.binds (ps := ["part"]) fun _ _ _ _ _ _ us hl => match us, hl with | [_], _ => rfl
  have F31 := fun_mk (st := sDArePeople) l31 c31 k31
  have b31 := F31.binds (ps := ["value"]) fun _ _ _ _ _ _ us hl => match us, hl with | [_], _ => rfl
  have F32 := fun_mk (st := sDAreWills) l32 c32 k32
  have b32 := F32.binds (ps := ["value", "names"]) fun _ _ _ _ _ _ us hl => match us, hl with | [_, _], _ => rfl
  have F33 := fun_mk (st := sDMayLeave) l33 c33 k33
  have b33 := F33.binds (ps := ["name", "will", "names"]) fun _ _ _ _ _ _ us hl => match us, hl with | [_, _, _], _ => rfl
  have F34 := fun_mk (st := sDHaveDifferentNames) l34 c34 k34
  have b34 := F34.binds (ps := ["pairs"]) fun _ _ _ _ _ _ us hl => match us, hl with | [_], _ => rfl
  have F35 := fun_mk (st := sDAreFacts) l35 c35 k35
  have b35 := F35.binds (ps := ["value", "dead"]) fun _ _ _ _ _ _ us hl => match us, hl with | [_, _], _ => rfl
  have F36 := fun_mk (st := sDIsFact) l36 c36 k36
  have b36 := F36.binds (ps := ["first", "then", "dead"]) fun _ _ _ _ _ _ us hl => match us, hl with | [_, _, _], _ => rfl
  have F37 := fun_mk (st := sDFound) l37 c37 k37
  have b37 := F37.binds (ps := ["pairs", "name"]) fun _ _ _ _ _ _ us hl => match us, hl with | [_, _], _ => rfl
  have F38 := fun_mk (st := sDReadLine) l38 c38 k38
  have b38 := F38.binds (ps := ["line"]) fun _ _ _ _ _ _ us hl => match us, hl with | [_], _ => rfl
  have F39 := fun_mk (st := sDReadTold) l39 c39 k39
  have b39 := F39.binds (ps := ["word", "words"]) fun _ _ _ _ _ _ us hl => match us, hl with | [_, _], _ => rfl
  have F40 := fun_mk (st := sDReadWill) l40 c40 k40
  have b40 := F40.binds (ps := ["text"]) fun _ _ _ _ _ _ us hl => match us, hl with | [_], _ => rfl
  have F41 := fun_mk (st := sDLawSeed) l41 c41 k41
  have b41 := F41.binds (ps := ["_law_script", "_law_k"]) fun _ _ _ _ _ _ us hl => match us, hl with | [_, _], _ => rfl
  have F42 := fun_mk (st := sDLawChoose) l42 c42 k42
  have b42 := F42.binds (ps := ["_law_box", "_law_many"]) fun _ _ _ _ _ _ us hl => match us, hl with | [_, _], _ => rfl
  have F43 := fun_mk (st := sDLawOneOf) l43 c43 k43
  have b43 := F43.binds (ps := ["_law_box", "_law_some"]) fun _ _ _ _ _ _ us hl => match us, hl with | [_, _], _ => rfl
  have F44 := fun_mk (st := sDLawMixed) l44 c44 k44
  have b44 := F44.binds (ps := ["_law_box", "_law_some"]) fun _ _ _ _ _ _ us hl => match us, hl with | [_, _], _ => rfl
  have F45 := fun_mk (st := sDLawNames) l45 c45 k45
  have b45 := F45.binds (ps := ["_law_box", "_law_many"]) fun _ _ _ _ _ _ us hl => match us, hl with | [_, _], _ => rfl
  have F46 := fun_mk (st := sDLawHasRing) l46 c46 k46
  have b46 := F46.binds (ps := ["_law_dead", "_law_facts"]) fun _ _ _ _ _ _ us hl => match us, hl with | [_, _], _ => rfl
  have F47 := fun_mk (st := sDLawHeard) l47 c47 k47
  have b47 := F47.binds (ps := ["_law_people", "_law_wills", "_law_facts"]) fun _ _ _ _ _ _ us hl => match us, hl with | [_, _, _], _ => rfl
  have F48 := fun_mk (st := sDLaw) l48 c48 k48
  have b48 := F48.binds (ps := ["_law_script"]) fun _ _ _ _ _ _ us hl => match us, hl with | [_], _ => rfl
  have F11 := fun_mk (st := sDWillInit) l11 c11 k11
  have b11 := F11.binds (ps := ["self", "shares"]) fun _ _ _ _ _ _ us hl => match us, hl with | [_, _], _ => rfl
  have F15 := fun_mk (st := sDWillEq) l15 c15 k15
  have b15 := F15.binds (ps := ["self", "other"]) fun _ _ _ _ _ _ us hl => match us, hl with | [_, _], _ => rfl
  have F16 := fun_mk (st := sDWillStr) l16 c16 k16
  have b16 := F16.binds (ps := ["self"]) fun _ _ _ _ _ _ us hl => match us, hl with | [_], _ => rfl
  have F12 := fun_mk (st := sDWillRead) l12 c12 k12
  have b12 := F12.binds (ps := ["cls", "text"]) fun _ _ _ _ _ _ us hl => match us, hl with | [_, _], _ => rfl
  have F13 := fun_mk (st := sDWillNames) l13 c13 k13
  have b13 := F13.binds (ps := ["self"]) fun _ _ _ _ _ _ us hl => match us, hl with | [_], _ => rfl
  have FD : FunD K "__init__" "Family.__init__" (defArgs sDFamilyInit) (defBody sDFamilyInit) (defScope sDFamilyInit) [V.ref e1, V.ref e2] [] f23 (PySem.W.fnOf "__init__" "Family.__init__" (defArgs sDFamilyInit) (defBody sDFamilyInit) (defScope sDFamilyInit) (.ref dT) kV23 dc23 pm23 an23 cd23 ct23) := ⟨⟨oc23, od23, .ref dT, kV23, dc23, pm23, an23, cd23, ct23, sl23, rfl, l23, c23, .inr ⟨by simp, dT, _, [.ref e1, .ref e2], nT, rfl, lT, rfl, .cons rfl (.cons rfl .nil)⟩, .inl rfl⟩, k23⟩
  have bFD := fam_binds FD
  have F8 := fun_mk (st := sDInvalidFamilyInit) l8 c8 k8
  have b8 := F8.binds (ps := ["self", "word"]) fun _ _ _ _ _ _ us hl => match us, hl with | [_, _], _ => rfl
  exact ⟨PySem.W.fnOf "law" "law" (defArgs sDLaw) (defBody sDLaw) (defScope sDLaw) .none kV48 dc48 pm48 an48 cd48 ct48, fun s v => .of_eq rfl, fun base _ _ => ok_law (K := K) (mg := mg) ⟨⟨⟨⟨⟨cHeirError, (PySem.W.mg_of X G gHeirError), cInvalidWill, (PySem.W.mg_of X G gInvalidWill), cInvalidFamily, (PySem.W.mg_of X G gInvalidFamily), cInvalidText, (PySem.W.mg_of X G gInvalidText), cNoName, (PySem.W.mg_of X G gNoName), cWill, (PySem.W.mg_of X G gWill), cFamily, (PySem.W.mg_of X G gFamily), ⟨f0, _, F0, b0, PySem.W.mg_of X G a0⟩, ⟨f1, _, F1, b1, PySem.W.mg_of X G a1⟩, ⟨f2, _, F2, b2, PySem.W.mg_of X G a2⟩, ⟨f3, _, F3, b3, PySem.W.mg_of X G a3⟩, ⟨f4, _, F4, b4, PySem.W.mg_of X G a4⟩, ⟨f5, _, F5, b5, PySem.W.mg_of X G a5⟩, ⟨f6, _, F6, b6, PySem.W.mg_of X G a6⟩, ⟨f17, _, F17, b17, PySem.W.mg_of X G a17⟩, ⟨f18, _, F18, b18, PySem.W.mg_of X G a18⟩, ⟨f19, _, F19, b19, PySem.W.mg_of X G a19⟩, ⟨f20, _, F20, b20, PySem.W.mg_of X G a20⟩, ⟨f21, _, F21, b21, PySem.W.mg_of X G a21⟩, ⟨f22, _, F22, b22, PySem.W.mg_of X G a22⟩, ⟨f31, _, F31, b31, PySem.W.mg_of X G a31⟩, ⟨f32, _, F32, b32, PySem.W.mg_of X G a32⟩, ⟨f33, _, F33, b33, PySem.W.mg_of X G a33⟩, ⟨f34, _, F34, b34, PySem.W.mg_of X G a34⟩, ⟨f35, _, F35, b35, PySem.W.mg_of X G a35⟩, ⟨f36, _, F36, b36, PySem.W.mg_of X G a36⟩, ⟨f37, _, F37, b37, PySem.W.mg_of X G a37⟩, ⟨f38, _, F38, b38, PySem.W.mg_of X G a38⟩, ⟨f39, _, F39, b39, PySem.W.mg_of X G a39⟩, ⟨f40, _, F40, b40, PySem.W.mg_of X G a40⟩, ⟨f41, _, F41, b41, PySem.W.mg_of X G a41⟩, ⟨f42, _, F42, b42, PySem.W.mg_of X G a42⟩, ⟨f43, _, F43, b43, PySem.W.mg_of X G a43⟩, ⟨f44, _, F44, b44, PySem.W.mg_of X G a44⟩, ⟨f45, _, F45, b45, PySem.W.mg_of X G a45⟩, ⟨f46, _, F46, b46, PySem.W.mg_of X G a46⟩, ⟨f47, _, F47, b47, PySem.W.mg_of X G a47⟩, ⟨fa, _, F48, b48, PySem.W.mg_of X G a48⟩, (PySem.W.mg_none_of X G z_NotImplemented), (PySem.W.mg_none_of X G z_abs), (PySem.W.mg_none_of X G z_all), (PySem.W.mg_none_of X G z_bool), (PySem.W.mg_none_of X G z_classmethod), (PySem.W.mg_none_of X G z_enumerate), (PySem.W.mg_none_of X G z_int), (PySem.W.mg_none_of X G z_isinstance), (PySem.W.mg_none_of X G z_len), (PySem.W.mg_none_of X G z_list), (PySem.W.mg_none_of X G z_max), (PySem.W.mg_none_of X G z_min), (PySem.W.mg_none_of X G z_property), (PySem.W.mg_none_of X G z_range), (PySem.W.mg_none_of X G z_set), (PySem.W.mg_none_of X G z_sorted), (PySem.W.mg_none_of X G z_str), (PySem.W.mg_none_of X G z_tuple), ⟨_, PySem.W.mg_of X G q_CROWN⟩, ⟨_, PySem.W.mg_of X G q_LONGEST_NAME⟩, ⟨_, PySem.W.mg_of X G q_WEIGHT_DIGITS⟩, ⟨_, PySem.W.mg_of X G q_AMOUNT_DIGITS⟩, ⟨_, PySem.W.mg_of X G q_LINE_WORDS, fun H => .inr ⟨_, _, _, x_LINE_WORDS, rfl, rfl, (by show 3 ≤ sizeLine; decide), .cons ⟨_, rfl⟩ (.cons ⟨_, rfl⟩ (.cons ⟨_, rfl⟩ (.nil)))⟩⟩⟩, ⟨pg, hd, po, sa⟩, nS, f11, _, F11, b11, ⟨mk, a11, i11, kc⟩, f15, _, F15, b15, f16, _, F16, b16, ⟨oNe, oOb, a15, i15, a16, i16⟩, rP, (.type "type"), f12, _, F12, b12, ⟨rRd, rGa⟩, ⟨rAt, ⟨_, rRc⟩, rFi⟩, (fun e => .ins e ⟨pg, hd, po, sa⟩ kCl kGt kTk oOb), (if_pos (beq_iff_eq.mpr rfl))⟩, pP13, f13, _, F13, b13, ⟨pA13, pG13, pT13, ⟨_, pR13⟩⟩⟩, ⟨kit_tyn (by decide +kernel) nb_int, kit_tyn (by decide +kernel) nb_str, kit_tyn (by decide +kernel) nb_list, kit_tyn (by decide +kernel) nb_tuple⟩⟩, ⟨pg2, hd2, po2, sa2⟩, n_people, n_wills, n_facts, [V.ref e1, V.ref e2], f23, _, FD, bFD, ⟨mk2, a23, i23, kc2⟩, ⟨⟨nmI, qI, NI, bsI, _, snI, subI, abI, colI, ddI, k0I, k1I, k2I, k3I, k5I, xL, by first | rfl | decide⟩, xsa, xeC, xtC, xkC⟩, f8, _, F8, b8, xi, xt, xno, ⟨xga, xgg, xeC, xhC⟩, PySem.W.exm_ref xeC xhC xtC xsC, ⟨xga, xgg, xeC, xhC, xcl, kGt, kTk, xmo⟩, (kit_yes xb1 xy1 xs1), (kit_no xsC xb2 xy2 xs2)⟩⟩
end He
open PySem PySem.W PyProof.Rows
set_option maxHeartbeats 0 in
theorem PySem.Challenge.cw_heirorders_k12_facts_that_have_a_ring_holds : PySem.Challenge.rw_heirorders_k12_facts_that_have_a_ring.Holds := by
  w_on; o_law; k_head; (case hw => w_witness2)
  k_fill
  refine L2.walk_of (l := PySem.Challenge.rw_heirorders_k12_facts_that_have_a_ring) (n := 63) (k := 12) (x := "_law_script") (CX := fun _ => L2.CX0) (sp := fun w => He.spLaw _) rfl (by decide) rfl ⟨rfl, by decide, by decide⟩ (fun w h Y => PySem.W.kIn_of Y) ?F (fun _ _ a ns hl _ hS => ⟨a, ns, rfl, hS, hl, fun _ => rfl⟩) (fun _ _ _ _ _ h => h)
  case F =>
    intro w mg fa h KX G hmg
    refine' He.all_mk KX G hmg ?gHeirError ?gInvalidWill ?gInvalidFamily ?gInvalidText ?gNoName ?gWill ?gFamily ?a0 ?l0 ?c0 ?k0 ?a1 ?l1 ?c1 ?k1 ?a2 ?l2 ?c2 ?k2 ?a3 ?l3 ?c3 ?k3 ?a4 ?l4 ?c4 ?k4 ?a5 ?l5 ?c5 ?k5 ?a6 ?l6 ?c6 ?k6 ?a17 ?l17 ?c17 ?k17 ?a18 ?l18 ?c18 ?k18 ?a19 ?l19 ?c19 ?k19 ?a20 ?l20 ?c20 ?k20 ?a21 ?l21 ?c21 ?k21 ?a22 ?l22 ?c22 ?k22 ?a31 ?l31 ?c31 ?k31 ?a32 ?l32 ?c32 ?k32 ?a33 ?l33 ?c33 ?k33 ?a34 ?l34 ?c34 ?k34 ?a35 ?l35 ?c35 ?k35 ?a36 ?l36 ?c36 ?k36 ?a37 ?l37 ?c37 ?k37 ?a38 ?l38 ?c38 ?k38 ?a39 ?l39 ?c39 ?k39 ?a40 ?l40 ?c40 ?k40 ?a41 ?l41 ?c41 ?k41 ?a42 ?l42 ?c42 ?k42 ?a43 ?l43 ?c43 ?k43 ?a44 ?l44 ?c44 ?k44 ?a45 ?l45 ?c45 ?k45 ?a46 ?l46 ?c46 ?k46 ?a47 ?l47 ?c47 ?k47 ?a48 ?l48 ?c48 ?k48 ?z_NotImplemented ?z_abs ?z_all ?z_bool ?z_classmethod ?z_enumerate ?z_int ?z_isinstance ?z_len ?z_list ?z_max ?z_min ?z_property ?z_range ?z_set ?z_sorted ?z_str ?z_tuple ?q_CROWN ?q_LONGEST_NAME ?q_WEIGHT_DIGITS ?q_AMOUNT_DIGITS ?q_LINE_WORDS ?x_LINE_WORDS ?a11 ?i11 ?l11 ?c11 ?k11 ?a15 ?i15 ?l15 ?c15 ?k15 ?a16 ?i16 ?l16 ?c16 ?k16 ?rAt ?rRc ?rFi ?l12 ?c12 ?k12 ?rRd ?rGa ?pg ?hd ?po ?sa ?nS ?mk ?kc ?oNe ?oOb ?kCl ?kGt ?kTk ?pA13 ?pG13 ?pT13 ?pR13 ?l13 ?c13 ?k13 ?nb_int ?nb_str ?nb_list ?nb_tuple ?a23 ?i23 ?l23 ?c23 ?k23 ?lT ?pg2 ?hd2 ?po2 ?sa2 ?n_people ?n_wills ?n_facts ?mk2 ?kc2 ?xL ?xsa ?xga ?xgg ?xno ?xi ?xt ?l8 ?c8 ?k8 ?xkC ?xeC ?xtC ?xhC ?xsC ?xcl ?xmo ?xb1 ?xy1 ?xs1 ?xb2 ?xy2 ?xs2
    (case gHeirError => k_is)
    (case gInvalidWill => k_is)
    (case gInvalidFamily => k_is)
    (case gInvalidText => k_is)
    (case gNoName => k_is)
    (case gWill => k_is)
    (case gFamily => k_is)
    (case a0 => k_is)
    (case l0 => k_is)
    (case c0 => k_is)
    (case k0 => k_is)
    (case a1 => k_is)
    (case l1 => k_is)
    (case c1 => k_is)
    (case k1 => k_is)
    (case a2 => k_is)
    (case l2 => k_is)
    (case c2 => k_is)
    (case k2 => k_is)
    (case a3 => k_is)
    (case l3 => k_is)
    (case c3 => k_is)
    (case k3 => k_is)
    (case a4 => k_is)
    (case l4 => k_is)
    (case c4 => k_is)
    (case k4 => k_is)
    (case a5 => k_is)
    (case l5 => k_is)
    (case c5 => k_is)
    (case k5 => k_is)
    (case a6 => k_is)
    (case l6 => k_is)
    (case c6 => k_is)
    (case k6 => k_is)
    (case a17 => k_is)
    (case l17 => k_is)
    (case c17 => k_is)
    (case k17 => k_is)
    (case a18 => k_is)
    (case l18 => k_is)
    (case c18 => k_is)
    (case k18 => k_is)
    (case a19 => k_is)
    (case l19 => k_is)
    (case c19 => k_is)
    (case k19 => k_is)
    (case a20 => k_is)
    (case l20 => k_is)
    (case c20 => k_is)
    (case k20 => k_is)
    (case a21 => k_is)
    (case l21 => k_is)
    (case c21 => k_is)
    (case k21 => k_is)
    (case a22 => k_is)
    (case l22 => k_is)
    (case c22 => k_is)
    (case k22 => k_is)
    (case a31 => k_is)
    (case l31 => k_is)
    (case c31 => k_is)
    (case k31 => k_is)
    (case a32 => k_is)
    (case l32 => k_is)
    (case c32 => k_is)
    (case k32 => k_is)
    (case a33 => k_is)
    (case l33 => k_is)
    (case c33 => k_is)
    (case k33 => k_is)
    (case a34 => k_is)
    (case l34 => k_is)
    (case c34 => k_is)
    (case k34 => k_is)
    (case a35 => k_is)
    (case l35 => k_is)
    (case c35 => k_is)
    (case k35 => k_is)
    (case a36 => k_is)
    (case l36 => k_is)
    (case c36 => k_is)
    (case k36 => k_is)
    (case a37 => k_is)
    (case l37 => k_is)
    (case c37 => k_is)
    (case k37 => k_is)
    (case a38 => k_is)
    (case l38 => k_is)
    (case c38 => k_is)
    (case k38 => k_is)
    (case a39 => k_is)
    (case l39 => k_is)
    (case c39 => k_is)
    (case k39 => k_is)
    (case a40 => k_is)
    (case l40 => k_is)
    (case c40 => k_is)
    (case k40 => k_is)
    (case a41 => k_is)
    (case l41 => k_is)
    (case c41 => k_is)
    (case k41 => k_is)
    (case a42 => k_is)
    (case l42 => k_is)
    (case c42 => k_is)
    (case k42 => k_is)
    (case a43 => k_is)
    (case l43 => k_is)
    (case c43 => k_is)
    (case k43 => k_is)
    (case a44 => k_is)
    (case l44 => k_is)
    (case c44 => k_is)
    (case k44 => k_is)
    (case a45 => k_is)
    (case l45 => k_is)
    (case c45 => k_is)
    (case k45 => k_is)
    (case a46 => k_is)
    (case l46 => k_is)
    (case c46 => k_is)
    (case k46 => k_is)
    (case a47 => k_is)
    (case l47 => k_is)
    (case c47 => k_is)
    (case k47 => k_is)
    (case a48 => k_is)
    (case l48 => k_is)
    (case c48 => k_is)
    (case k48 => k_is)
    (case z_NotImplemented => k_is)
    (case z_abs => k_is)
    (case z_all => k_is)
    (case z_bool => k_is)
    (case z_classmethod => k_is)
    (case z_enumerate => k_is)
    (case z_int => k_is)
    (case z_isinstance => k_is)
    (case z_len => k_is)
    (case z_list => k_is)
    (case z_max => k_is)
    (case z_min => k_is)
    (case z_property => k_is)
    (case z_range => k_is)
    (case z_set => k_is)
    (case z_sorted => k_is)
    (case z_str => k_is)
    (case z_tuple => k_is)
    (case q_CROWN => k_is)
    (case q_LONGEST_NAME => k_is)
    (case q_WEIGHT_DIGITS => k_is)
    (case q_AMOUNT_DIGITS => k_is)
    (case q_LINE_WORDS => k_is)
    (case x_LINE_WORDS => k_is)
    (case a11 => k_is)
    (case i11 => k_is)
    (case l11 => k_is)
    (case c11 => k_is)
    (case k11 => k_is)
    (case a15 => k_is)
    (case i15 => k_is)
    (case l15 => k_is)
    (case c15 => k_is)
    (case k15 => k_is)
    (case a16 => k_is)
    (case i16 => k_is)
    (case l16 => k_is)
    (case c16 => k_is)
    (case k16 => k_is)
    (case rAt => k_is)
    (case rRc => k_is)
    (case rFi => k_is)
    (case l12 => k_is)
    (case c12 => k_is)
    (case k12 => k_is)
    (case rRd => k_is)
    (case rGa => k_is)
    (case pg => k_is)
    (case hd => k_is)
    (case po => k_is)
    (case sa => k_is)
    (case nS => k_is)
    (case mk => k_is)
    (case kc => k_is)
    (case oNe => k_is)
    (case oOb => k_is)
    (case kCl => k_is)
    (case kGt => k_is)
    (case kTk => k_is)
    (case pA13 => k_is)
    (case pG13 => k_is)
    (case pT13 => k_is)
    (case pR13 => k_is)
    (case l13 => k_is)
    (case c13 => k_is)
    (case k13 => k_is)
    (case nb_int => k_is)
    (case nb_str => k_is)
    (case nb_list => k_is)
    (case nb_tuple => k_is)
    (case a23 => k_is)
    (case i23 => k_is)
    (case l23 => k_is)
    (case c23 => k_is)
    (case k23 => k_is)
    (case lT => k_is)
    (case pg2 => k_is)
    (case hd2 => k_is)
    (case po2 => k_is)
    (case sa2 => k_is)
    (case n_people => k_is)
    (case n_wills => k_is)
    (case n_facts => k_is)
    (case mk2 => k_is)
    (case kc2 => k_is)
    (case xL => k_is)
    (case xsa => k_is)
    (case xga => k_is)
    (case xgg => k_is)
    (case xno => k_is)
    (case xi => k_is)
    (case xt => k_is)
    (case l8 => k_is)
    (case c8 => k_is)
    (case k8 => k_is)
    (case xkC => k_is)
    (case xeC => k_is)
    (case xtC => k_is)
    (case xhC => k_is)
    (case xsC => k_is)
    (case xcl => k_is)
    (case xmo => k_is)
    (case xb1 => k_is)
    (case xy1 => k_is)
    (case xs1 => k_is)
    (case xb2 => k_is)
    (case xy2 => k_is)
    (case xs2 => k_is)
#print axioms PySem.Challenge.cw_heirorders_k12_facts_that_have_a_ring_holds
