import PyProof.Rows.All
import Wide.All
import OpenK.AllK
import Wide.FinOn
import PyProof.EqAt
import PyProof.EqKinds
import PyProof.TupleCall
import Open.SpecLaws
import KE.OsGo
import KE.KDictKeyed
import KE.KDictWalk
import HandS.ForSpec
import HandS.Comp
import HandS.Iter
import HandS.Walk
import HandS.Zip
import HandS.SortInts
import HandS.TupAny
import HandS.TupLen
import HandS.DictTup
import HandS.CallLocal
import HandS.CallRecv
import HandS.Defaults
import HandS.HeadHook1
import HandS.HeadHook2
import HandS.Head0
import HandS.Head1
import HandS.Head2
import HandS.Head4
import KE.OsHead
import PyFlatLaws
import PySem.Challenge.RW_netnames_s01_answers
set_option Elab.async false
set_option linter.all false
set_option maxRecDepth 100000
set_option maxHeartbeats 4000000
namespace Nn
open PySem PySem.Spec PyProof.Rows L2
/-! ### numbers, heaps -/
def nv (n : Nat) : V := .int (n : Int)
def Kp (L : List Addr) (H H' : Hp) : Prop := ∀ b o, H b = some o → b ∉ L → H' b = some o
theorem Kp.same {H H' : Hp} (k : Kp [] H H') : Same H H' := fun b o h => k b o h (by simp)
theorem Same.kp {H H' : Hp} (L : List Addr) (k : Same H H') : Kp L H H' := fun b o h _ => k b o h
theorem Kp.refl {L : List Addr} {H : Hp} : Kp L H H := fun _ _ h _ => h
theorem Kp.trans {L : List Addr} {H H1 H2 : Hp} (a : Kp L H H1) (b : Kp L H1 H2) : Kp L H H2 := fun c o h n => b c o (a c o h n) n
theorem Kp.mono {L L' : List Addr} {H H1 : Hp} (a : Kp L H H1) (s : ∀ x ∈ L, x ∈ L') : Kp L' H H1 := fun c o h n => a c o h fun z => n (s c z)
theorem Kp.put {L : List Addr} {H : Hp} {p : Addr} {o : HO} (h : p ∈ L) : Kp L H (upd H p o) := fun c u e n => by
  rw [upd_ne (fun z => by subst z; exact n h)]; exact e
theorem Kp.laid {L : List Addr} {H : Hp} {p : Addr} {o : HO} (h : H p = none) : Kp L H (upd H p o) := fun c u e _ => by
  rw [upd_ne (ne_of_none e h)]; exact e
theorem Same.laid {H : Hp} {p : Addr} {o : HO} (h : H p = none) : Same H (upd H p o) := fun c u e => by
  rw [upd_ne (ne_of_none e h)]; exact e
/-- a mutable thing is no longer what it was; all else is -/
theorem Kp.at {L : List Addr} {H H' : Hp} (k : Kp L H H') {a : Addr} {o : HO} (h : H a = some o) (n : a ∉ L) : H' a = some o := k a o h n
theorem upd_id {H : Hp} {a : Addr} {o : HO} (h : H a = some o) : upd H a o = H := by
  funext b
  by_cases e : b = a
  · rw [e, upd_same, h]
  · rw [upd_ne e]

/-! ### calls by what is known of them -/
section
variable (P : Program) (w : World) (K : PySem.W.Frag) (mg : Str → Option Value) (base : Heap)
structure GFn (k : Nat) (x : Str) (ps : List Str) (sp : Sp) : Prop where
  ex : ∃ f fd, mg x = some (.ref f) ∧ FnOk P w K mg base CX0 k f fd ps sp ∧ PySem.W.keepIn K (.ref f) = true ∧ Binds K fd ps []
structure MFn (k : Nat) (C : Addr) (m : Str) (ps : List Str) (sp : Sp) : Prop where
  cl : Cls K C
  ex : ∃ f fd, Meth K C m f ∧ FnOk P w K mg base CX0 k f fd ps sp ∧ Binds K fd ps []
structure CFn (k : Nat) (C : Addr) (x : Str) (ps : List Str) (sp : Sp) : Prop where
  mgc : mg x = some (.ref C)
  ex : ∃ f fd, Mk K C f ∧ FnOk P w K mg base CX0 k f fd ps sp ∧ Binds K fd ps []
end
def tG (sp : Sp) (t : TA) : TE := fun σ H Q => t σ H fun vs H1 => sp vs H1 Q E0
def tM (C : Addr) (m : Str) (sp : Sp) (ta : TE) (t : TA) : TE := fun σ H Q => ta σ H fun x H1 => ∃ a dx fs, x = .ref a ∧ H1 a = some (.ins C dx fs) ∧ fs.lookup m = none ∧ t σ H1 fun vs H2 => sp (x :: vs) H2 Q E0
def tK (C : Addr) (sp : Sp) (t : TA) : TE := fun σ H Q => t σ H fun vs H1 => ∀ x dx, H1 x = none → H1 dx = none → dx ≠ x →
  sp (.ref x :: vs) (upd (upd H1 dx (.own x)) x (.ins C dx [])) (fun v H2 => v = .non ∧ Q (.ref x) H2) E0
theorem tG_eq (sp : Sp) (t : TA) : tCall sp [] E0 t = tG sp t := by
  funext σ H Q
  show t σ H (fun vs H1 => sp (vs ++ []) H1 Q E0) = t σ H fun vs H1 => sp vs H1 Q E0
  simp only [List.append_nil]
theorem tM_eq (C : Addr) (m : Str) (sp : Sp) (ta : TE) (t : TA) : tMeth C m sp [] E0 ta t = tM C m sp ta t := by
  funext σ H Q
  simp only [tMeth, tM, List.append_nil]
theorem tK_eq (C : Addr) (sp : Sp) (t : TA) : tMake C sp [] E0 t = tK C sp t := by
  funext σ H Q
  simp only [tMake, tK, List.append_nil]
section
variable {X : Cx} {k : Nat} {C : Addr} {ps : List Str} {sp : Sp} {x m : Str} {p pos apos : Pos} {e o : Expr} {es : List Expr} {ta : TE} {t : TA}
theorem kg (F : GFn X.prog X.w X.K X.mg X.base k x ps sp) (hr : Room k X.A) (ha : PA X (e :: es) t) (hg : Gl X x := by rfl)
    (hdb : (x == ("__debug__" : Str)) = false := by decide) (he : starEach (e :: es) X.env = (false, eval e X.env) :: starEach es X.env := by rfl) (hpl : (backTo pos (starEach es X.env)).any (·.1) = false := by rfl) :
    PE X (.Call (.Name x p) (e :: es) [] pos) (tG sp t) := by
  obtain ⟨f, fd, hm, F, hk, hb⟩ := F.ex
  rw [← tG_eq]
  exact pe_call F hr hg hm hk hb .nil pass0 ha hdb he hpl
theorem km {pl : Sem Bool} (he : PE X o ta) (F : MFn X.prog X.w X.K X.mg X.base k C m ps sp) (hr : Room k X.A) (ha : PA X (e :: es) t)
    (hst : starEach (e :: es) X.env = (false, eval e X.env) :: starEach es X.env := by rfl) (hpl : (backTo pos (starEach es X.env)).any (·.1) = false := by rfl)
    (ht : eval (.Call (.Attribute o m apos) (e :: es) [] pos) X.env = (do
      let ov ← eval o X.env
      standAt apos.atName
      let (f, first) ← holding [ov] (getMethod ov m pl)
      callWith pos f first (backTo pos (starEach (e :: es) X.env)) (backToKw pos (keywordEach [] X.env))) := by rfl) :
    PE X (.Call (.Attribute o m apos) (e :: es) [] pos) (tM C m sp ta t) := by
  obtain ⟨c, f, fd, hm, F, hb⟩ := F
  rw [← tM_eq]
  exact pe_meth he c hm F hr hb .nil pass0 ha hst hpl ht
theorem km0 {pl : Sem Bool} (he : PE X o ta) (F : MFn X.prog X.w X.K X.mg X.base k C m ps sp) (hr : Room k X.A)
    (ht : eval (.Call (.Attribute o m apos) [] [] pos) X.env = (do
      let ov ← eval o X.env
      standAt apos.atName
      let (f, first) ← holding [ov] (getMethod ov m pl)
      callWith pos f first (backTo pos (starEach [] X.env)) (backToKw pos (keywordEach [] X.env))) := by rfl) :
    PE X (.Call (.Attribute o m apos) [] [] pos) (tM C m sp ta tNil) := by
  obtain ⟨c, f, fd, hm, F, hb⟩ := F
  rw [← tM_eq]
  exact pe_meth0 he c hm F hr hb .nil pass0 ht
theorem kc (F : CFn X.prog X.w X.K X.mg X.base k C x ps sp) (hr : Room (k + 1) X.A) (ha : PA X (e :: es) t) (hg : Gl X x := by rfl)
    (hdb : (x == ("__debug__" : Str)) = false := by decide) (he : starEach (e :: es) X.env = (false, eval e X.env) :: starEach es X.env := by rfl) (hpl : (backTo pos (starEach es X.env)).any (·.1) = false := by rfl) :
    PE X (.Call (.Name x p) (e :: es) [] pos) (tK C sp t) := by
  obtain ⟨hm, f, fd, M, F, hb⟩ := F
  rw [← tK_eq]
  exact pe_make M F hr hg hm hb .nil pass0 ha hdb he hpl
theorem kc0 (F : CFn X.prog X.w X.K X.mg X.base k C x ps sp) (hr : Room (k + 1) X.A) (hg : Gl X x := by rfl)
    (hdb : (x == ("__debug__" : Str)) = false := by decide) : PE X (.Call (.Name x p) [] [] pos) (tK C sp tNil) := by
  obtain ⟨hm, f, fd, M, F, hb⟩ := F
  rw [← tK_eq]
  exact pe_make0 M F hr hg hm hb .nil pass0 hdb
end
end Nn

namespace Nn
open PySem PySem.Spec PyProof.Rows L2
/-! ### the text by places -/
def topS (i : Nat) : Stmt := PySem.Challenge.pw_netnames_s01_answers.main.body.getD i (.Pass ⟨0, 0, 0, 0⟩)
abbrev s_is_name : Stmt := topS 3
abbrev s_is_for_all_others : Stmt := topS 4
abbrev s_is_record_name : Stmt := topS 5
abbrev s_begins_with : Stmt := topS 6
abbrev s_Record_init : Stmt := inClass (topS 15) 0
abbrev s_Record_is_same_as : Stmt := inClass (topS 15) 1
abbrev s_Change_init : Stmt := inClass (topS 16) 0
abbrev s_Zone_init : Stmt := inClass (topS 17) 0
abbrev s_Zone_undergo : Stmt := inClass (topS 17) 1
abbrev s_Zone_twin : Stmt := inClass (topS 17) 2
abbrev s_Zone_is_at : Stmt := inClass (topS 17) 3
abbrev s_Zone_has : Stmt := inClass (topS 17) 4
abbrev s_Zone_has_record_of : Stmt := inClass (topS 17) 5
abbrev s_Zone_records_of : Stmt := inClass (topS 17) 6
abbrev s_Zone_is_full : Stmt := inClass (topS 17) 7
abbrev s_Zone_has_clash : Stmt := inClass (topS 17) 8
abbrev s_Zone_may_stand_here : Stmt := inClass (topS 17) 9
abbrev s_is_right_value : Stmt := topS 18
abbrev s_is_right_record : Stmt := topS 19
abbrev s_Telling_init : Stmt := inClass (topS 27) 0
abbrev s_refusal_to_tell : Stmt := topS 28
abbrev s_least_life : Stmt := topS 29
abbrev s_handing_on : Stmt := topS 30
abbrev s_there_is : Stmt := topS 31
abbrev s_name_for_all_others : Stmt := topS 32
abbrev s_tell_by : Stmt := topS 33
abbrev s_tell : Stmt := topS 34
abbrev s_Search_init : Stmt := inClass (topS 39) 0
abbrev s_Search_found : Stmt := inClass (topS 39) 1
abbrev s_Search_is_to_go_on : Stmt := inClass (topS 39) 2
abbrev s_Search_told_of : Stmt := inClass (topS 39) 3
abbrev s_Search_told_by_servers : Stmt := inClass (topS 39) 4
abbrev s_Search_told_by : Stmt := inClass (topS 39) 5
abbrev s_Search_learn : Stmt := inClass (topS 39) 6
abbrev s_Holding_init : Stmt := inClass (topS 41) 0
abbrev s_Holding_is_copy : Stmt := inClass (topS 41) 1
abbrev s_Holding_is_good : Stmt := inClass (topS 41) 2
abbrev s_Holding_since_for_copies : Stmt := inClass (topS 41) 3
abbrev s_Server_init : Stmt := inClass (topS 42) 0
abbrev s_Server_holding_of : Stmt := inClass (topS 42) 1
abbrev s_Server_has_zone : Stmt := inClass (topS 42) 2
abbrev s_Server_hold : Stmt := inClass (topS 42) 3
abbrev s_Server_let_go : Stmt := inClass (topS 42) 4
abbrev s_Server_zone_count : Stmt := inClass (topS 42) 5
abbrev s_Server_can_hand_out : Stmt := inClass (topS 42) 6
abbrev s_Server_longest_holding : Stmt := inClass (topS 42) 7
abbrev s_Server_told_of : Stmt := inClass (topS 42) 8
abbrev s_Server_told_when_asked : Stmt := inClass (topS 42) 9
abbrev s_are_roots : Stmt := topS 47
abbrev s_answer_begin : Stmt := topS 48
abbrev s_answer_zone : Stmt := topS 49
abbrev s_refusal_of_zone : Stmt := topS 50
abbrev s_refusal_of_copy : Stmt := topS 51
abbrev s_answer_copy : Stmt := topS 52
abbrev s_answer_drop : Stmt := topS 53
abbrev s_refusal_of_own_zone : Stmt := topS 54
abbrev s_refusal_of_record : Stmt := topS 55
abbrev s_answer_add : Stmt := topS 56
abbrev s_answer_remove : Stmt := topS 57
abbrev s_bring_up : Stmt := topS 58
abbrev s_answer_transfer : Stmt := topS 59
abbrev s_counted : Stmt := topS 62
abbrev s_each_counted : Stmt := topS 63
abbrev s_rows_told : Stmt := topS 64
abbrev s_answer_set : Stmt := topS 65
abbrev s_answer_pass : Stmt := topS 66
abbrev s_answer_query : Stmt := topS 67
abbrev s_answer_ask : Stmt := topS 68
abbrev s_numbers_of_record : Stmt := topS 69
abbrev s_answer_records : Stmt := topS 70
abbrev s_numbers_of_fact : Stmt := topS 71
abbrev s_answer_facts : Stmt := topS 72
abbrev s_answer_flush : Stmt := topS 73
abbrev s_Fact_init : Stmt := inClass (topS 76) 0
abbrev s_Fact_is_known : Stmt := inClass (topS 76) 1
abbrev s_Fact_left : Stmt := inClass (topS 76) 2
abbrev s_kind_of_fact : Stmt := topS 77
abbrev s_Cache_init : Stmt := inClass (topS 78) 0
abbrev s_Cache_learn : Stmt := inClass (topS 78) 1
abbrev s_Cache_forget_all : Stmt := inClass (topS 78) 2
abbrev s_Cache_known_facts : Stmt := inClass (topS 78) 3
abbrev s_Cache_fact_of : Stmt := inClass (topS 78) 4
abbrev s_Cache_alias_of : Stmt := inClass (topS 78) 5
abbrev s_Cache_recalled : Stmt := inClass (topS 78) 6
abbrev s_Cache_nearest_handing_on : Stmt := inClass (topS 78) 7
abbrev s_Net_init : Stmt := inClass (topS 83) 0
abbrev s_Net_begin_anew : Stmt := inClass (topS 83) 1
abbrev s_Net_make_zone : Stmt := inClass (topS 83) 2
abbrev s_Net_has_server : Stmt := inClass (topS 83) 3
abbrev s_Net_has_cache : Stmt := inClass (topS 83) 4
abbrev s_Reader_init : Stmt := inClass (topS 85) 0
abbrev s_Reader_is_done : Stmt := inClass (topS 85) 1
abbrev s_Reader_number : Stmt := inClass (topS 85) 2
abbrev s_Reader_row : Stmt := inClass (topS 85) 3
abbrev s_begin_call : Stmt := topS 86
abbrev s_zone_call : Stmt := topS 87
abbrev s_copy_call : Stmt := topS 88
abbrev s_drop_call : Stmt := topS 89
abbrev s_add_call : Stmt := topS 90
abbrev s_remove_call : Stmt := topS 91
abbrev s_transfer_call : Stmt := topS 92
abbrev s_set_call : Stmt := topS 93
abbrev s_pass_call : Stmt := topS 94
abbrev s_query_call : Stmt := topS 95
abbrev s_ask_call : Stmt := topS 96
abbrev s_records_call : Stmt := topS 97
abbrev s_facts_call : Stmt := topS 98
abbrev s_flush_call : Stmt := topS 99
abbrev s_answer_next : Stmt := topS 101
abbrev s_answers : Stmt := topS 102
theorem sc_is_name : FnScope ["row", "label"] ["row"] (defScope s_is_name) := ⟨rfl, rfl, rfl, by decide +kernel, rfl, by decide +kernel, by decide +kernel⟩
theorem sc_is_for_all_others : FnScope ["row"] ["row"] (defScope s_is_for_all_others) := ⟨rfl, rfl, rfl, by decide +kernel, rfl, by decide +kernel, by decide +kernel⟩
theorem sc_is_record_name : FnScope ["row"] ["row"] (defScope s_is_record_name) := ⟨rfl, rfl, rfl, by decide +kernel, rfl, by decide +kernel, by decide +kernel⟩
theorem sc_begins_with : FnScope ["row", "beginning"] ["row", "beginning"] (defScope s_begins_with) := ⟨rfl, rfl, rfl, by decide +kernel, rfl, by decide +kernel, by decide +kernel⟩
theorem sc_Record_init : FnScope ["self", "name", "kind", "value", "life"] ["self", "name", "kind", "value", "life"] (defScope s_Record_init) := ⟨rfl, rfl, rfl, by decide +kernel, rfl, by decide +kernel, by decide +kernel⟩
theorem sc_Record_is_same_as : FnScope ["self", "other"] ["self", "other"] (defScope s_Record_is_same_as) := ⟨rfl, rfl, rfl, by decide +kernel, rfl, by decide +kernel, by decide +kernel⟩
theorem sc_Change_init : FnScope ["self", "puts_in", "record"] ["self", "puts_in", "record"] (defScope s_Change_init) := ⟨rfl, rfl, rfl, by decide +kernel, rfl, by decide +kernel, by decide +kernel⟩
theorem sc_Zone_init : FnScope ["self", "identity", "apex", "life"] ["self", "identity", "apex", "life"] (defScope s_Zone_init) := ⟨rfl, rfl, rfl, by decide +kernel, rfl, by decide +kernel, by decide +kernel⟩
theorem sc_Zone_undergo : FnScope ["self", "change", "kept", "record"] ["self", "change"] (defScope s_Zone_undergo) := ⟨rfl, rfl, rfl, by decide +kernel, rfl, by decide +kernel, by decide +kernel⟩
theorem sc_Zone_twin : FnScope ["self", "other"] ["self"] (defScope s_Zone_twin) := ⟨rfl, rfl, rfl, by decide +kernel, rfl, by decide +kernel, by decide +kernel⟩
theorem sc_Zone_is_at : FnScope ["self", "serial"] ["self", "serial"] (defScope s_Zone_is_at) := ⟨rfl, rfl, rfl, by decide +kernel, rfl, by decide +kernel, by decide +kernel⟩
theorem sc_Zone_has : FnScope ["self", "wanted", "record"] ["self", "wanted"] (defScope s_Zone_has) := ⟨rfl, rfl, rfl, by decide +kernel, rfl, by decide +kernel, by decide +kernel⟩
theorem sc_Zone_has_record_of : FnScope ["self", "name", "record"] ["self", "name"] (defScope s_Zone_has_record_of) := ⟨rfl, rfl, rfl, by decide +kernel, rfl, by decide +kernel, by decide +kernel⟩
theorem sc_Zone_records_of : FnScope ["self", "name", "kind", "record"] ["self", "name", "kind"] (defScope s_Zone_records_of) := ⟨rfl, rfl, rfl, by decide +kernel, rfl, by decide +kernel, by decide +kernel⟩
theorem sc_Zone_is_full : FnScope ["self"] ["self"] (defScope s_Zone_is_full) := ⟨rfl, rfl, rfl, by decide +kernel, rfl, by decide +kernel, by decide +kernel⟩
theorem sc_Zone_has_clash : FnScope ["self", "added", "record"] ["self", "added"] (defScope s_Zone_has_clash) := ⟨rfl, rfl, rfl, by decide +kernel, rfl, by decide +kernel, by decide +kernel⟩
theorem sc_Zone_may_stand_here : FnScope ["self", "record"] ["self", "record"] (defScope s_Zone_may_stand_here) := ⟨rfl, rfl, rfl, by decide +kernel, rfl, by decide +kernel, by decide +kernel⟩
theorem sc_is_right_value : FnScope ["kind", "value", "server_count"] ["kind", "value", "server_count"] (defScope s_is_right_value) := ⟨rfl, rfl, rfl, by decide +kernel, rfl, by decide +kernel, by decide +kernel⟩
theorem sc_is_right_record : FnScope ["record", "apex", "server_count"] ["record", "apex", "server_count"] (defScope s_is_right_record) := ⟨rfl, rfl, rfl, by decide +kernel, rfl, by decide +kernel, by decide +kernel⟩
theorem sc_Telling_init : FnScope ["self", "outcome", "name", "life", "rows"] ["self", "outcome", "name", "life", "rows"] (defScope s_Telling_init) := ⟨rfl, rfl, rfl, by decide +kernel, rfl, by decide +kernel, by decide +kernel⟩
theorem sc_refusal_to_tell : FnScope ["name"] ["name"] (defScope s_refusal_to_tell) := ⟨rfl, rfl, rfl, by decide +kernel, rfl, by decide +kernel, by decide +kernel⟩
theorem sc_least_life : FnScope ["records", "record"] ["records"] (defScope s_least_life) := ⟨rfl, rfl, rfl, by decide +kernel, rfl, by decide +kernel, by decide +kernel⟩
theorem sc_handing_on : FnScope ["zone", "name", "length", "beginning", "found", "servers", "record"] ["zone", "name"] (defScope s_handing_on) := ⟨rfl, rfl, rfl, by decide +kernel, rfl, by decide +kernel, by decide +kernel⟩
theorem sc_there_is : FnScope ["zone", "name", "record"] ["zone", "name"] (defScope s_there_is) := ⟨rfl, rfl, rfl, by decide +kernel, rfl, by decide +kernel, by decide +kernel⟩
theorem sc_name_for_all_others : FnScope ["zone", "name", "length"] ["zone", "name"] (defScope s_name_for_all_others) := ⟨rfl, rfl, rfl, by decide +kernel, rfl, by decide +kernel, by decide +kernel⟩
theorem sc_tell_by : FnScope ["zone", "source", "name", "kind", "aliases", "found", "record"] ["zone", "source", "name", "kind"] (defScope s_tell_by) := ⟨rfl, rfl, rfl, by decide +kernel, rfl, by decide +kernel, by decide +kernel⟩
theorem sc_tell : FnScope ["zone", "name", "kind", "handed_on", "stand_in"] ["zone", "name", "kind"] (defScope s_tell) := ⟨rfl, rfl, rfl, by decide +kernel, rfl, by decide +kernel, by decide +kernel⟩
theorem sc_Search_init : FnScope ["self", "net", "cache", "kind"] ["self", "net", "cache", "kind"] (defScope s_Search_init) := ⟨rfl, rfl, rfl, by decide +kernel, rfl, by decide +kernel, by decide +kernel⟩
theorem sc_Search_found : FnScope ["self", "name", "telling", "alias"] ["self", "name"] (defScope s_Search_found) := ⟨rfl, rfl, rfl, by decide +kernel, rfl, by decide +kernel, by decide +kernel⟩
theorem sc_Search_is_to_go_on : FnScope ["self", "telling"] ["self", "telling"] (defScope s_Search_is_to_go_on) := ⟨rfl, rfl, rfl, by decide +kernel, rfl, by decide +kernel, by decide +kernel⟩
theorem sc_Search_told_of : FnScope ["self", "name", "fact", "telling"] ["self", "name"] (defScope s_Search_told_of) := ⟨rfl, rfl, rfl, by decide +kernel, rfl, by decide +kernel, by decide +kernel⟩
theorem sc_Search_told_by_servers : FnScope ["self", "name", "place", "servers", "nearest", "turn", "telling"] ["self", "name"] (defScope s_Search_told_by_servers) := ⟨rfl, rfl, rfl, by decide +kernel, rfl, by decide +kernel, by decide +kernel⟩
theorem sc_Search_told_by : FnScope ["self", "server", "name"] ["self", "server", "name"] (defScope s_Search_told_by) := ⟨rfl, rfl, rfl, by decide +kernel, rfl, by decide +kernel, by decide +kernel⟩
theorem sc_Search_learn : FnScope ["self", "telling"] ["self", "telling"] (defScope s_Search_learn) := ⟨rfl, rfl, rfl, by decide +kernel, rfl, by decide +kernel, by decide +kernel⟩
theorem sc_Holding_init : FnScope ["self", "zone", "origin", "good", "since"] ["self", "zone", "origin", "good", "since"] (defScope s_Holding_init) := ⟨rfl, rfl, rfl, by decide +kernel, rfl, by decide +kernel, by decide +kernel⟩
theorem sc_Holding_is_copy : FnScope ["self"] ["self"] (defScope s_Holding_is_copy) := ⟨rfl, rfl, rfl, by decide +kernel, rfl, by decide +kernel, by decide +kernel⟩
theorem sc_Holding_is_good : FnScope ["self", "now"] ["self", "now"] (defScope s_Holding_is_good) := ⟨rfl, rfl, rfl, by decide +kernel, rfl, by decide +kernel, by decide +kernel⟩
theorem sc_Holding_since_for_copies : FnScope ["self", "now"] ["self", "now"] (defScope s_Holding_since_for_copies) := ⟨rfl, rfl, rfl, by decide +kernel, rfl, by decide +kernel, by decide +kernel⟩
theorem sc_Server_init : FnScope ["self"] ["self"] (defScope s_Server_init) := ⟨rfl, rfl, rfl, by decide +kernel, rfl, by decide +kernel, by decide +kernel⟩
theorem sc_Server_holding_of : FnScope ["self", "apex"] ["self", "apex"] (defScope s_Server_holding_of) := ⟨rfl, rfl, rfl, by decide +kernel, rfl, by decide +kernel, by decide +kernel⟩
theorem sc_Server_has_zone : FnScope ["self", "apex"] ["self", "apex"] (defScope s_Server_has_zone) := ⟨rfl, rfl, rfl, by decide +kernel, rfl, by decide +kernel, by decide +kernel⟩
theorem sc_Server_hold : FnScope ["self", "holding"] ["self", "holding"] (defScope s_Server_hold) := ⟨rfl, rfl, rfl, by decide +kernel, rfl, by decide +kernel, by decide +kernel⟩
theorem sc_Server_let_go : FnScope ["self", "apex"] ["self", "apex"] (defScope s_Server_let_go) := ⟨rfl, rfl, rfl, by decide +kernel, rfl, by decide +kernel, by decide +kernel⟩
theorem sc_Server_zone_count : FnScope ["self"] ["self"] (defScope s_Server_zone_count) := ⟨rfl, rfl, rfl, by decide +kernel, rfl, by decide +kernel, by decide +kernel⟩
theorem sc_Server_can_hand_out : FnScope ["self", "apex", "now"] ["self", "apex", "now"] (defScope s_Server_can_hand_out) := ⟨rfl, rfl, rfl, by decide +kernel, rfl, by decide +kernel, by decide +kernel⟩
theorem sc_Server_longest_holding : FnScope ["self", "name", "length"] ["self", "name"] (defScope s_Server_longest_holding) := ⟨rfl, rfl, rfl, by decide +kernel, rfl, by decide +kernel, by decide +kernel⟩
theorem sc_Server_told_of : FnScope ["self", "name", "kind", "now", "held"] ["self", "name", "kind", "now"] (defScope s_Server_told_of) := ⟨rfl, rfl, rfl, by decide +kernel, rfl, by decide +kernel, by decide +kernel⟩
theorem sc_Server_told_when_asked : FnScope ["self", "name", "kind", "now"] ["self", "name", "kind", "now"] (defScope s_Server_told_when_asked) := ⟨rfl, rfl, rfl, by decide +kernel, rfl, by decide +kernel, by decide +kernel⟩
theorem sc_are_roots : FnScope ["roots", "server_count", "lower", "higher"] ["roots", "server_count"] (defScope s_are_roots) := ⟨rfl, rfl, rfl, by decide +kernel, rfl, by decide +kernel, by decide +kernel⟩
theorem sc_answer_begin : FnScope ["net", "server_count", "cache_count", "roots"] ["net", "server_count", "cache_count", "roots"] (defScope s_answer_begin) := ⟨rfl, rfl, rfl, by decide +kernel, rfl, by decide +kernel, by decide +kernel⟩
theorem sc_answer_zone : FnScope ["net", "server", "life", "apex"] ["net", "server", "life", "apex"] (defScope s_answer_zone) := ⟨rfl, rfl, rfl, by decide +kernel, rfl, by decide +kernel, by decide +kernel⟩
theorem sc_refusal_of_zone : FnScope ["net", "server", "apex"] ["net", "server", "apex"] (defScope s_refusal_of_zone) := ⟨rfl, rfl, rfl, by decide +kernel, rfl, by decide +kernel, by decide +kernel⟩
theorem sc_refusal_of_copy : FnScope ["net", "server", "origin", "good", "apex", "refused"] ["net", "server", "origin", "good", "apex"] (defScope s_refusal_of_copy) := ⟨rfl, rfl, rfl, by decide +kernel, rfl, by decide +kernel, by decide +kernel⟩
theorem sc_answer_copy : FnScope ["net", "server", "origin", "good", "apex", "refused", "other", "since"] ["net", "server", "origin", "good", "apex"] (defScope s_answer_copy) := ⟨rfl, rfl, rfl, by decide +kernel, rfl, by decide +kernel, by decide +kernel⟩
theorem sc_answer_drop : FnScope ["net", "server", "apex", "refused"] ["net", "server", "apex"] (defScope s_answer_drop) := ⟨rfl, rfl, rfl, by decide +kernel, rfl, by decide +kernel, by decide +kernel⟩
theorem sc_refusal_of_own_zone : FnScope ["net", "server", "apex", "refused"] ["net", "server", "apex"] (defScope s_refusal_of_own_zone) := ⟨rfl, rfl, rfl, by decide +kernel, rfl, by decide +kernel, by decide +kernel⟩
theorem sc_refusal_of_record : FnScope ["net", "zone", "serial", "record"] ["net", "zone", "serial", "record"] (defScope s_refusal_of_record) := ⟨rfl, rfl, rfl, by decide +kernel, rfl, by decide +kernel, by decide +kernel⟩
theorem sc_answer_add : FnScope ["net", "server", "serial", "kind", "life", "apex", "name", "value", "refused", "zone", "record"] ["net", "server", "serial", "kind", "life", "apex", "name", "value"] (defScope s_answer_add) := ⟨rfl, rfl, rfl, by decide +kernel, rfl, by decide +kernel, by decide +kernel⟩
theorem sc_answer_remove : FnScope ["net", "server", "serial", "kind", "apex", "name", "value", "refused", "zone", "record"] ["net", "server", "serial", "kind", "apex", "name", "value"] (defScope s_answer_remove) := ⟨rfl, rfl, rfl, by decide +kernel, rfl, by decide +kernel, by decide +kernel⟩
theorem sc_bring_up : FnScope ["held", "other", "now", "here", "there", "is_same", "missing", "change"] ["held", "other", "now"] (defScope s_bring_up) := ⟨rfl, rfl, rfl, by decide +kernel, rfl, by decide +kernel, by decide +kernel⟩
theorem sc_answer_transfer : FnScope ["net", "server", "apex", "refused", "held", "other"] ["net", "server", "apex"] (defScope s_answer_transfer) := ⟨rfl, rfl, rfl, by decide +kernel, rfl, by decide +kernel, by decide +kernel⟩
theorem sc_counted : FnScope ["row"] ["row"] (defScope s_counted) := ⟨rfl, rfl, rfl, by decide +kernel, rfl, by decide +kernel, by decide +kernel⟩
theorem sc_each_counted : FnScope ["rows", "numbers", "row"] ["rows"] (defScope s_each_counted) := ⟨rfl, rfl, rfl, by decide +kernel, rfl, by decide +kernel, by decide +kernel⟩
theorem sc_rows_told : FnScope ["telling"] ["telling"] (defScope s_rows_told) := ⟨rfl, rfl, rfl, by decide +kernel, rfl, by decide +kernel, by decide +kernel⟩
theorem sc_answer_set : FnScope ["net", "server", "up", "named", "is_up"] ["net", "server", "up"] (defScope s_answer_set) := ⟨rfl, rfl, rfl, by decide +kernel, rfl, by decide +kernel, by decide +kernel⟩
theorem sc_answer_pass : FnScope ["net", "length"] ["net", "length"] (defScope s_answer_pass) := ⟨rfl, rfl, rfl, by decide +kernel, rfl, by decide +kernel, by decide +kernel⟩
theorem sc_answer_query : FnScope ["net", "cache", "kind", "name", "search", "found", "went_on", "outcome", "told"] ["net", "cache", "kind", "name"] (defScope s_answer_query) := ⟨rfl, rfl, rfl, by decide +kernel, rfl, by decide +kernel, by decide +kernel⟩
theorem sc_answer_ask : FnScope ["net", "server", "kind", "name", "telling", "place"] ["net", "server", "kind", "name"] (defScope s_answer_ask) := ⟨rfl, rfl, rfl, by decide +kernel, rfl, by decide +kernel, by decide +kernel⟩
theorem sc_numbers_of_record : FnScope ["record"] ["record"] (defScope s_numbers_of_record) := ⟨rfl, rfl, rfl, by decide +kernel, rfl, by decide +kernel, by decide +kernel⟩
theorem sc_answer_records : FnScope ["net", "server", "apex", "refused", "held", "good", "numbers", "record"] ["net", "server", "apex"] (defScope s_answer_records) := ⟨rfl, rfl, rfl, by decide +kernel, rfl, by decide +kernel, by decide +kernel⟩
theorem sc_numbers_of_fact : FnScope ["fact", "now", "telling", "about"] ["fact", "now"] (defScope s_numbers_of_fact) := ⟨rfl, rfl, rfl, by decide +kernel, rfl, by decide +kernel, by decide +kernel⟩
theorem sc_answer_facts : FnScope ["net", "cache", "facts", "numbers", "fact"] ["net", "cache"] (defScope s_answer_facts) := ⟨rfl, rfl, rfl, by decide +kernel, rfl, by decide +kernel, by decide +kernel⟩
theorem sc_answer_flush : FnScope ["net", "cache", "known"] ["net", "cache"] (defScope s_answer_flush) := ⟨rfl, rfl, rfl, by decide +kernel, rfl, by decide +kernel, by decide +kernel⟩
theorem sc_Fact_init : FnScope ["self", "telling", "kind", "until"] ["self", "telling", "kind", "until"] (defScope s_Fact_init) := ⟨rfl, rfl, rfl, by decide +kernel, rfl, by decide +kernel, by decide +kernel⟩
theorem sc_Fact_is_known : FnScope ["self", "now"] ["self", "now"] (defScope s_Fact_is_known) := ⟨rfl, rfl, rfl, by decide +kernel, rfl, by decide +kernel, by decide +kernel⟩
theorem sc_Fact_left : FnScope ["self", "now"] ["self", "now"] (defScope s_Fact_left) := ⟨rfl, rfl, rfl, by decide +kernel, rfl, by decide +kernel, by decide +kernel⟩
theorem sc_kind_of_fact : FnScope ["outcome", "asked_kind"] ["outcome", "asked_kind"] (defScope s_kind_of_fact) := ⟨rfl, rfl, rfl, by decide +kernel, rfl, by decide +kernel, by decide +kernel⟩
theorem sc_Cache_init : FnScope ["self"] ["self"] (defScope s_Cache_init) := ⟨rfl, rfl, rfl, by decide +kernel, rfl, by decide +kernel, by decide +kernel⟩
theorem sc_Cache_learn : FnScope ["self", "telling", "asked_kind", "now", "kind"] ["self", "telling", "asked_kind", "now"] (defScope s_Cache_learn) := ⟨rfl, rfl, rfl, by decide +kernel, rfl, by decide +kernel, by decide +kernel⟩
theorem sc_Cache_forget_all : FnScope ["self"] ["self"] (defScope s_Cache_forget_all) := ⟨rfl, rfl, rfl, by decide +kernel, rfl, by decide +kernel, by decide +kernel⟩
theorem sc_Cache_known_facts : FnScope ["self", "now", "fact"] ["self", "now"] (defScope s_Cache_known_facts) := ⟨rfl, rfl, rfl, by decide +kernel, rfl, by decide +kernel, by decide +kernel⟩
theorem sc_Cache_fact_of : FnScope ["self", "name", "kind", "now", "fact"] ["self", "name", "kind", "now"] (defScope s_Cache_fact_of) := ⟨rfl, rfl, rfl, by decide +kernel, rfl, by decide +kernel, by decide +kernel⟩
theorem sc_Cache_alias_of : FnScope ["self", "name", "now", "fact"] ["self", "name", "now"] (defScope s_Cache_alias_of) := ⟨rfl, rfl, rfl, by decide +kernel, rfl, by decide +kernel, by decide +kernel⟩
theorem sc_Cache_recalled : FnScope ["self", "name", "kind", "now", "fact"] ["self", "name", "kind", "now"] (defScope s_Cache_recalled) := ⟨rfl, rfl, rfl, by decide +kernel, rfl, by decide +kernel, by decide +kernel⟩
theorem sc_Cache_nearest_handing_on : FnScope ["self", "name", "now", "length", "fact"] ["self", "name", "now"] (defScope s_Cache_nearest_handing_on) := ⟨rfl, rfl, rfl, by decide +kernel, rfl, by decide +kernel, by decide +kernel⟩
theorem sc_Net_init : FnScope ["self"] ["self"] (defScope s_Net_init) := ⟨rfl, rfl, rfl, by decide +kernel, rfl, by decide +kernel, by decide +kernel⟩
theorem sc_Net_begin_anew : FnScope ["self", "server_count", "cache_count", "roots", "number"] ["self", "server_count", "cache_count", "roots"] (defScope s_Net_begin_anew) := ⟨rfl, rfl, rfl, by decide +kernel, rfl, by decide +kernel, by decide +kernel⟩
theorem sc_Net_make_zone : FnScope ["self", "server", "life", "apex", "zone"] ["self", "server", "life", "apex"] (defScope s_Net_make_zone) := ⟨rfl, rfl, rfl, by decide +kernel, rfl, by decide +kernel, by decide +kernel⟩
theorem sc_Net_has_server : FnScope ["self", "server"] ["self", "server"] (defScope s_Net_has_server) := ⟨rfl, rfl, rfl, by decide +kernel, rfl, by decide +kernel, by decide +kernel⟩
theorem sc_Net_has_cache : FnScope ["self", "cache"] ["self", "cache"] (defScope s_Net_has_cache) := ⟨rfl, rfl, rfl, by decide +kernel, rfl, by decide +kernel, by decide +kernel⟩
theorem sc_Reader_init : FnScope ["self", "calls"] ["self", "calls"] (defScope s_Reader_init) := ⟨rfl, rfl, rfl, by decide +kernel, rfl, by decide +kernel, by decide +kernel⟩
theorem sc_Reader_is_done : FnScope ["self"] ["self"] (defScope s_Reader_is_done) := ⟨rfl, rfl, rfl, by decide +kernel, rfl, by decide +kernel, by decide +kernel⟩
theorem sc_Reader_number : FnScope ["self"] ["self"] (defScope s_Reader_number) := ⟨rfl, rfl, rfl, by decide +kernel, rfl, by decide +kernel, by decide +kernel⟩
theorem sc_Reader_row : FnScope ["self", "length"] ["self"] (defScope s_Reader_row) := ⟨rfl, rfl, rfl, by decide +kernel, rfl, by decide +kernel, by decide +kernel⟩
theorem sc_begin_call : FnScope ["net", "reader", "server_count", "cache_count", "roots"] ["net", "reader"] (defScope s_begin_call) := ⟨rfl, rfl, rfl, by decide +kernel, rfl, by decide +kernel, by decide +kernel⟩
theorem sc_zone_call : FnScope ["net", "reader", "server", "life", "apex"] ["net", "reader"] (defScope s_zone_call) := ⟨rfl, rfl, rfl, by decide +kernel, rfl, by decide +kernel, by decide +kernel⟩
theorem sc_copy_call : FnScope ["net", "reader", "server", "origin", "good", "apex"] ["net", "reader"] (defScope s_copy_call) := ⟨rfl, rfl, rfl, by decide +kernel, rfl, by decide +kernel, by decide +kernel⟩
theorem sc_drop_call : FnScope ["net", "reader", "server", "apex"] ["net", "reader"] (defScope s_drop_call) := ⟨rfl, rfl, rfl, by decide +kernel, rfl, by decide +kernel, by decide +kernel⟩
theorem sc_add_call : FnScope ["net", "reader", "server", "serial", "kind", "life", "apex", "name", "value"] ["net", "reader"] (defScope s_add_call) := ⟨rfl, rfl, rfl, by decide +kernel, rfl, by decide +kernel, by decide +kernel⟩
theorem sc_remove_call : FnScope ["net", "reader", "server", "serial", "kind", "apex", "name", "value"] ["net", "reader"] (defScope s_remove_call) := ⟨rfl, rfl, rfl, by decide +kernel, rfl, by decide +kernel, by decide +kernel⟩
theorem sc_transfer_call : FnScope ["net", "reader", "server", "apex"] ["net", "reader"] (defScope s_transfer_call) := ⟨rfl, rfl, rfl, by decide +kernel, rfl, by decide +kernel, by decide +kernel⟩
theorem sc_set_call : FnScope ["net", "reader", "server", "up"] ["net", "reader"] (defScope s_set_call) := ⟨rfl, rfl, rfl, by decide +kernel, rfl, by decide +kernel, by decide +kernel⟩
theorem sc_pass_call : FnScope ["net", "reader", "length"] ["net", "reader"] (defScope s_pass_call) := ⟨rfl, rfl, rfl, by decide +kernel, rfl, by decide +kernel, by decide +kernel⟩
theorem sc_query_call : FnScope ["net", "reader", "cache", "kind", "name"] ["net", "reader"] (defScope s_query_call) := ⟨rfl, rfl, rfl, by decide +kernel, rfl, by decide +kernel, by decide +kernel⟩
theorem sc_ask_call : FnScope ["net", "reader", "server", "kind", "name"] ["net", "reader"] (defScope s_ask_call) := ⟨rfl, rfl, rfl, by decide +kernel, rfl, by decide +kernel, by decide +kernel⟩
theorem sc_records_call : FnScope ["net", "reader", "server", "apex"] ["net", "reader"] (defScope s_records_call) := ⟨rfl, rfl, rfl, by decide +kernel, rfl, by decide +kernel, by decide +kernel⟩
theorem sc_facts_call : FnScope ["net", "reader", "cache"] ["net", "reader"] (defScope s_facts_call) := ⟨rfl, rfl, rfl, by decide +kernel, rfl, by decide +kernel, by decide +kernel⟩
theorem sc_flush_call : FnScope ["net", "reader", "cache"] ["net", "reader"] (defScope s_flush_call) := ⟨rfl, rfl, rfl, by decide +kernel, rfl, by decide +kernel, by decide +kernel⟩
theorem sc_answer_next : FnScope ["net", "reader", "call"] ["net", "reader"] (defScope s_answer_next) := ⟨rfl, rfl, rfl, by decide +kernel, rfl, by decide +kernel, by decide +kernel⟩
theorem sc_answers : FnScope ["calls", "net", "reader", "answered", "told"] ["calls"] (defScope s_answers) := ⟨rfl, rfl, rfl, by decide +kernel, rfl, by decide +kernel, by decide +kernel⟩
/-! ### classes -/
theorem lk_here {k : Str} {v : V} {r : List (Str × V)} : List.lookup k ((k, v) :: r) = some v := by
  have e : (k == k) = true := beq_self_eq_true k
  simp only [List.lookup, e]
theorem lk_past {k g : Str} {v : V} {r : List (Str × V)} (h : (k == g) = false) : List.lookup k ((g, v) :: r) = List.lookup k r := by
  simp only [List.lookup, h]
theorem put_here {f : Str} {v x : V} {r : List (Str × V)} : putF f v ((f, x) :: r) = (f, v) :: r := if_pos rfl
theorem put_past {f g : Str} {v x : V} {r : List (Str × V)} (h : ¬ g = f) : putF f v ((g, x) :: r) = (g, x) :: putF f v r := if_neg h
structure Cs where
  (crec cchg czon ctel csea chol csrv cfac ccac cnet crdr : Addr)
def recF (a0 a1 a2 a3 : V) : List (Str × V) := [("name", a0), ("kind", a1), ("value", a2), ("life", a3)]
theorem lk_rec_name {a0 a1 a2 a3 : V} : (recF a0 a1 a2 a3).lookup ("name" : Str) = some a0 := lk_here
theorem lk_rec_kind {a0 a1 a2 a3 : V} : (recF a0 a1 a2 a3).lookup ("kind" : Str) = some a1 := (lk_past (by decide +kernel)).trans (lk_here)
theorem lk_rec_value {a0 a1 a2 a3 : V} : (recF a0 a1 a2 a3).lookup ("value" : Str) = some a2 := (lk_past (by decide +kernel)).trans ((lk_past (by decide +kernel)).trans (lk_here))
theorem lk_rec_life {a0 a1 a2 a3 : V} : (recF a0 a1 a2 a3).lookup ("life" : Str) = some a3 := (lk_past (by decide +kernel)).trans ((lk_past (by decide +kernel)).trans ((lk_past (by decide +kernel)).trans (lk_here)))
theorem no_rec_is_same_as {a0 a1 a2 a3 : V} : (recF a0 a1 a2 a3).lookup ("is_same_as" : Str) = none := (lk_past (by decide +kernel)).trans ((lk_past (by decide +kernel)).trans ((lk_past (by decide +kernel)).trans ((lk_past (by decide +kernel)).trans (rfl))))
def chgF (a0 a1 : V) : List (Str × V) := [("puts_in", a0), ("record", a1)]
theorem lk_chg_puts_in {a0 a1 : V} : (chgF a0 a1).lookup ("puts_in" : Str) = some a0 := lk_here
theorem lk_chg_record {a0 a1 : V} : (chgF a0 a1).lookup ("record" : Str) = some a1 := (lk_past (by decide +kernel)).trans (lk_here)
def zonF (a0 a1 a2 a3 a4 a5 : V) : List (Str × V) := [("identity", a0), ("apex", a1), ("life", a2), ("serial", a3), ("records", a4), ("changes", a5)]
theorem lk_zon_identity {a0 a1 a2 a3 a4 a5 : V} : (zonF a0 a1 a2 a3 a4 a5).lookup ("identity" : Str) = some a0 := lk_here
theorem lk_zon_apex {a0 a1 a2 a3 a4 a5 : V} : (zonF a0 a1 a2 a3 a4 a5).lookup ("apex" : Str) = some a1 := (lk_past (by decide +kernel)).trans (lk_here)
theorem lk_zon_life {a0 a1 a2 a3 a4 a5 : V} : (zonF a0 a1 a2 a3 a4 a5).lookup ("life" : Str) = some a2 := (lk_past (by decide +kernel)).trans ((lk_past (by decide +kernel)).trans (lk_here))
theorem lk_zon_serial {a0 a1 a2 a3 a4 a5 : V} : (zonF a0 a1 a2 a3 a4 a5).lookup ("serial" : Str) = some a3 := (lk_past (by decide +kernel)).trans ((lk_past (by decide +kernel)).trans ((lk_past (by decide +kernel)).trans (lk_here)))
theorem lk_zon_records {a0 a1 a2 a3 a4 a5 : V} : (zonF a0 a1 a2 a3 a4 a5).lookup ("records" : Str) = some a4 := (lk_past (by decide +kernel)).trans ((lk_past (by decide +kernel)).trans ((lk_past (by decide +kernel)).trans ((lk_past (by decide +kernel)).trans (lk_here))))
theorem lk_zon_changes {a0 a1 a2 a3 a4 a5 : V} : (zonF a0 a1 a2 a3 a4 a5).lookup ("changes" : Str) = some a5 := (lk_past (by decide +kernel)).trans ((lk_past (by decide +kernel)).trans ((lk_past (by decide +kernel)).trans ((lk_past (by decide +kernel)).trans ((lk_past (by decide +kernel)).trans (lk_here)))))
theorem no_zon_undergo {a0 a1 a2 a3 a4 a5 : V} : (zonF a0 a1 a2 a3 a4 a5).lookup ("undergo" : Str) = none := (lk_past (by decide +kernel)).trans ((lk_past (by decide +kernel)).trans ((lk_past (by decide +kernel)).trans ((lk_past (by decide +kernel)).trans ((lk_past (by decide +kernel)).trans ((lk_past (by decide +kernel)).trans (rfl))))))
theorem no_zon_twin {a0 a1 a2 a3 a4 a5 : V} : (zonF a0 a1 a2 a3 a4 a5).lookup ("twin" : Str) = none := (lk_past (by decide +kernel)).trans ((lk_past (by decide +kernel)).trans ((lk_past (by decide +kernel)).trans ((lk_past (by decide +kernel)).trans ((lk_past (by decide +kernel)).trans ((lk_past (by decide +kernel)).trans (rfl))))))
theorem no_zon_is_at {a0 a1 a2 a3 a4 a5 : V} : (zonF a0 a1 a2 a3 a4 a5).lookup ("is_at" : Str) = none := (lk_past (by decide +kernel)).trans ((lk_past (by decide +kernel)).trans ((lk_past (by decide +kernel)).trans ((lk_past (by decide +kernel)).trans ((lk_past (by decide +kernel)).trans ((lk_past (by decide +kernel)).trans (rfl))))))
theorem no_zon_has {a0 a1 a2 a3 a4 a5 : V} : (zonF a0 a1 a2 a3 a4 a5).lookup ("has" : Str) = none := (lk_past (by decide +kernel)).trans ((lk_past (by decide +kernel)).trans ((lk_past (by decide +kernel)).trans ((lk_past (by decide +kernel)).trans ((lk_past (by decide +kernel)).trans ((lk_past (by decide +kernel)).trans (rfl))))))
theorem no_zon_has_record_of {a0 a1 a2 a3 a4 a5 : V} : (zonF a0 a1 a2 a3 a4 a5).lookup ("has_record_of" : Str) = none := (lk_past (by decide +kernel)).trans ((lk_past (by decide +kernel)).trans ((lk_past (by decide +kernel)).trans ((lk_past (by decide +kernel)).trans ((lk_past (by decide +kernel)).trans ((lk_past (by decide +kernel)).trans (rfl))))))
theorem no_zon_records_of {a0 a1 a2 a3 a4 a5 : V} : (zonF a0 a1 a2 a3 a4 a5).lookup ("records_of" : Str) = none := (lk_past (by decide +kernel)).trans ((lk_past (by decide +kernel)).trans ((lk_past (by decide +kernel)).trans ((lk_past (by decide +kernel)).trans ((lk_past (by decide +kernel)).trans ((lk_past (by decide +kernel)).trans (rfl))))))
theorem no_zon_is_full {a0 a1 a2 a3 a4 a5 : V} : (zonF a0 a1 a2 a3 a4 a5).lookup ("is_full" : Str) = none := (lk_past (by decide +kernel)).trans ((lk_past (by decide +kernel)).trans ((lk_past (by decide +kernel)).trans ((lk_past (by decide +kernel)).trans ((lk_past (by decide +kernel)).trans ((lk_past (by decide +kernel)).trans (rfl))))))
theorem no_zon_has_clash {a0 a1 a2 a3 a4 a5 : V} : (zonF a0 a1 a2 a3 a4 a5).lookup ("has_clash" : Str) = none := (lk_past (by decide +kernel)).trans ((lk_past (by decide +kernel)).trans ((lk_past (by decide +kernel)).trans ((lk_past (by decide +kernel)).trans ((lk_past (by decide +kernel)).trans ((lk_past (by decide +kernel)).trans (rfl))))))
theorem no_zon_may_stand_here {a0 a1 a2 a3 a4 a5 : V} : (zonF a0 a1 a2 a3 a4 a5).lookup ("may_stand_here" : Str) = none := (lk_past (by decide +kernel)).trans ((lk_past (by decide +kernel)).trans ((lk_past (by decide +kernel)).trans ((lk_past (by decide +kernel)).trans ((lk_past (by decide +kernel)).trans ((lk_past (by decide +kernel)).trans (rfl))))))
def telF (a0 a1 a2 a3 : V) : List (Str × V) := [("outcome", a0), ("name", a1), ("life", a2), ("rows", a3)]
theorem lk_tel_outcome {a0 a1 a2 a3 : V} : (telF a0 a1 a2 a3).lookup ("outcome" : Str) = some a0 := lk_here
theorem lk_tel_name {a0 a1 a2 a3 : V} : (telF a0 a1 a2 a3).lookup ("name" : Str) = some a1 := (lk_past (by decide +kernel)).trans (lk_here)
theorem lk_tel_life {a0 a1 a2 a3 : V} : (telF a0 a1 a2 a3).lookup ("life" : Str) = some a2 := (lk_past (by decide +kernel)).trans ((lk_past (by decide +kernel)).trans (lk_here))
theorem lk_tel_rows {a0 a1 a2 a3 : V} : (telF a0 a1 a2 a3).lookup ("rows" : Str) = some a3 := (lk_past (by decide +kernel)).trans ((lk_past (by decide +kernel)).trans ((lk_past (by decide +kernel)).trans (lk_here)))
def seaF (a0 a1 a2 a3 a4 a5 : V) : List (Str × V) := [("net", a0), ("cache", a1), ("kind", a2), ("asked", a3), ("good", a4), ("names", a5)]
theorem lk_sea_net {a0 a1 a2 a3 a4 a5 : V} : (seaF a0 a1 a2 a3 a4 a5).lookup ("net" : Str) = some a0 := lk_here
theorem lk_sea_cache {a0 a1 a2 a3 a4 a5 : V} : (seaF a0 a1 a2 a3 a4 a5).lookup ("cache" : Str) = some a1 := (lk_past (by decide +kernel)).trans (lk_here)
theorem lk_sea_kind {a0 a1 a2 a3 a4 a5 : V} : (seaF a0 a1 a2 a3 a4 a5).lookup ("kind" : Str) = some a2 := (lk_past (by decide +kernel)).trans ((lk_past (by decide +kernel)).trans (lk_here))
theorem lk_sea_asked {a0 a1 a2 a3 a4 a5 : V} : (seaF a0 a1 a2 a3 a4 a5).lookup ("asked" : Str) = some a3 := (lk_past (by decide +kernel)).trans ((lk_past (by decide +kernel)).trans ((lk_past (by decide +kernel)).trans (lk_here)))
theorem lk_sea_good {a0 a1 a2 a3 a4 a5 : V} : (seaF a0 a1 a2 a3 a4 a5).lookup ("good" : Str) = some a4 := (lk_past (by decide +kernel)).trans ((lk_past (by decide +kernel)).trans ((lk_past (by decide +kernel)).trans ((lk_past (by decide +kernel)).trans (lk_here))))
theorem lk_sea_names {a0 a1 a2 a3 a4 a5 : V} : (seaF a0 a1 a2 a3 a4 a5).lookup ("names" : Str) = some a5 := (lk_past (by decide +kernel)).trans ((lk_past (by decide +kernel)).trans ((lk_past (by decide +kernel)).trans ((lk_past (by decide +kernel)).trans ((lk_past (by decide +kernel)).trans (lk_here)))))
theorem no_sea_found {a0 a1 a2 a3 a4 a5 : V} : (seaF a0 a1 a2 a3 a4 a5).lookup ("found" : Str) = none := (lk_past (by decide +kernel)).trans ((lk_past (by decide +kernel)).trans ((lk_past (by decide +kernel)).trans ((lk_past (by decide +kernel)).trans ((lk_past (by decide +kernel)).trans ((lk_past (by decide +kernel)).trans (rfl))))))
theorem no_sea_is_to_go_on {a0 a1 a2 a3 a4 a5 : V} : (seaF a0 a1 a2 a3 a4 a5).lookup ("is_to_go_on" : Str) = none := (lk_past (by decide +kernel)).trans ((lk_past (by decide +kernel)).trans ((lk_past (by decide +kernel)).trans ((lk_past (by decide +kernel)).trans ((lk_past (by decide +kernel)).trans ((lk_past (by decide +kernel)).trans (rfl))))))
theorem no_sea_told_of {a0 a1 a2 a3 a4 a5 : V} : (seaF a0 a1 a2 a3 a4 a5).lookup ("told_of" : Str) = none := (lk_past (by decide +kernel)).trans ((lk_past (by decide +kernel)).trans ((lk_past (by decide +kernel)).trans ((lk_past (by decide +kernel)).trans ((lk_past (by decide +kernel)).trans ((lk_past (by decide +kernel)).trans (rfl))))))
theorem no_sea_told_by_servers {a0 a1 a2 a3 a4 a5 : V} : (seaF a0 a1 a2 a3 a4 a5).lookup ("told_by_servers" : Str) = none := (lk_past (by decide +kernel)).trans ((lk_past (by decide +kernel)).trans ((lk_past (by decide +kernel)).trans ((lk_past (by decide +kernel)).trans ((lk_past (by decide +kernel)).trans ((lk_past (by decide +kernel)).trans (rfl))))))
theorem no_sea_told_by {a0 a1 a2 a3 a4 a5 : V} : (seaF a0 a1 a2 a3 a4 a5).lookup ("told_by" : Str) = none := (lk_past (by decide +kernel)).trans ((lk_past (by decide +kernel)).trans ((lk_past (by decide +kernel)).trans ((lk_past (by decide +kernel)).trans ((lk_past (by decide +kernel)).trans ((lk_past (by decide +kernel)).trans (rfl))))))
theorem no_sea_learn {a0 a1 a2 a3 a4 a5 : V} : (seaF a0 a1 a2 a3 a4 a5).lookup ("learn" : Str) = none := (lk_past (by decide +kernel)).trans ((lk_past (by decide +kernel)).trans ((lk_past (by decide +kernel)).trans ((lk_past (by decide +kernel)).trans ((lk_past (by decide +kernel)).trans ((lk_past (by decide +kernel)).trans (rfl))))))
def holF (a0 a1 a2 a3 : V) : List (Str × V) := [("zone", a0), ("origin", a1), ("good", a2), ("since", a3)]
theorem lk_hol_zone {a0 a1 a2 a3 : V} : (holF a0 a1 a2 a3).lookup ("zone" : Str) = some a0 := lk_here
theorem lk_hol_origin {a0 a1 a2 a3 : V} : (holF a0 a1 a2 a3).lookup ("origin" : Str) = some a1 := (lk_past (by decide +kernel)).trans (lk_here)
theorem lk_hol_good {a0 a1 a2 a3 : V} : (holF a0 a1 a2 a3).lookup ("good" : Str) = some a2 := (lk_past (by decide +kernel)).trans ((lk_past (by decide +kernel)).trans (lk_here))
theorem lk_hol_since {a0 a1 a2 a3 : V} : (holF a0 a1 a2 a3).lookup ("since" : Str) = some a3 := (lk_past (by decide +kernel)).trans ((lk_past (by decide +kernel)).trans ((lk_past (by decide +kernel)).trans (lk_here)))
theorem no_hol_is_copy {a0 a1 a2 a3 : V} : (holF a0 a1 a2 a3).lookup ("is_copy" : Str) = none := (lk_past (by decide +kernel)).trans ((lk_past (by decide +kernel)).trans ((lk_past (by decide +kernel)).trans ((lk_past (by decide +kernel)).trans (rfl))))
theorem no_hol_is_good {a0 a1 a2 a3 : V} : (holF a0 a1 a2 a3).lookup ("is_good" : Str) = none := (lk_past (by decide +kernel)).trans ((lk_past (by decide +kernel)).trans ((lk_past (by decide +kernel)).trans ((lk_past (by decide +kernel)).trans (rfl))))
theorem no_hol_since_for_copies {a0 a1 a2 a3 : V} : (holF a0 a1 a2 a3).lookup ("since_for_copies" : Str) = none := (lk_past (by decide +kernel)).trans ((lk_past (by decide +kernel)).trans ((lk_past (by decide +kernel)).trans ((lk_past (by decide +kernel)).trans (rfl))))
def srvF (a0 a1 : V) : List (Str × V) := [("up", a0), ("holdings", a1)]
theorem lk_srv_up {a0 a1 : V} : (srvF a0 a1).lookup ("up" : Str) = some a0 := lk_here
theorem lk_srv_holdings {a0 a1 : V} : (srvF a0 a1).lookup ("holdings" : Str) = some a1 := (lk_past (by decide +kernel)).trans (lk_here)
theorem no_srv_holding_of {a0 a1 : V} : (srvF a0 a1).lookup ("holding_of" : Str) = none := (lk_past (by decide +kernel)).trans ((lk_past (by decide +kernel)).trans (rfl))
theorem no_srv_has_zone {a0 a1 : V} : (srvF a0 a1).lookup ("has_zone" : Str) = none := (lk_past (by decide +kernel)).trans ((lk_past (by decide +kernel)).trans (rfl))
theorem no_srv_hold {a0 a1 : V} : (srvF a0 a1).lookup ("hold" : Str) = none := (lk_past (by decide +kernel)).trans ((lk_past (by decide +kernel)).trans (rfl))
theorem no_srv_let_go {a0 a1 : V} : (srvF a0 a1).lookup ("let_go" : Str) = none := (lk_past (by decide +kernel)).trans ((lk_past (by decide +kernel)).trans (rfl))
theorem no_srv_zone_count {a0 a1 : V} : (srvF a0 a1).lookup ("zone_count" : Str) = none := (lk_past (by decide +kernel)).trans ((lk_past (by decide +kernel)).trans (rfl))
theorem no_srv_can_hand_out {a0 a1 : V} : (srvF a0 a1).lookup ("can_hand_out" : Str) = none := (lk_past (by decide +kernel)).trans ((lk_past (by decide +kernel)).trans (rfl))
theorem no_srv_longest_holding {a0 a1 : V} : (srvF a0 a1).lookup ("longest_holding" : Str) = none := (lk_past (by decide +kernel)).trans ((lk_past (by decide +kernel)).trans (rfl))
theorem no_srv_told_of {a0 a1 : V} : (srvF a0 a1).lookup ("told_of" : Str) = none := (lk_past (by decide +kernel)).trans ((lk_past (by decide +kernel)).trans (rfl))
theorem no_srv_told_when_asked {a0 a1 : V} : (srvF a0 a1).lookup ("told_when_asked" : Str) = none := (lk_past (by decide +kernel)).trans ((lk_past (by decide +kernel)).trans (rfl))
def facF (a0 a1 a2 : V) : List (Str × V) := [("telling", a0), ("kind", a1), ("until", a2)]
theorem lk_fac_telling {a0 a1 a2 : V} : (facF a0 a1 a2).lookup ("telling" : Str) = some a0 := lk_here
theorem lk_fac_kind {a0 a1 a2 : V} : (facF a0 a1 a2).lookup ("kind" : Str) = some a1 := (lk_past (by decide +kernel)).trans (lk_here)
theorem lk_fac_until {a0 a1 a2 : V} : (facF a0 a1 a2).lookup ("until" : Str) = some a2 := (lk_past (by decide +kernel)).trans ((lk_past (by decide +kernel)).trans (lk_here))
theorem no_fac_is_known {a0 a1 a2 : V} : (facF a0 a1 a2).lookup ("is_known" : Str) = none := (lk_past (by decide +kernel)).trans ((lk_past (by decide +kernel)).trans ((lk_past (by decide +kernel)).trans (rfl)))
theorem no_fac_left {a0 a1 a2 : V} : (facF a0 a1 a2).lookup ("left" : Str) = none := (lk_past (by decide +kernel)).trans ((lk_past (by decide +kernel)).trans ((lk_past (by decide +kernel)).trans (rfl)))
def cacF (a0 : V) : List (Str × V) := [("facts", a0)]
theorem lk_cac_facts {a0 : V} : (cacF a0).lookup ("facts" : Str) = some a0 := lk_here
theorem no_cac_learn {a0 : V} : (cacF a0).lookup ("learn" : Str) = none := (lk_past (by decide +kernel)).trans (rfl)
theorem no_cac_forget_all {a0 : V} : (cacF a0).lookup ("forget_all" : Str) = none := (lk_past (by decide +kernel)).trans (rfl)
theorem no_cac_known_facts {a0 : V} : (cacF a0).lookup ("known_facts" : Str) = none := (lk_past (by decide +kernel)).trans (rfl)
theorem no_cac_fact_of {a0 : V} : (cacF a0).lookup ("fact_of" : Str) = none := (lk_past (by decide +kernel)).trans (rfl)
theorem no_cac_alias_of {a0 : V} : (cacF a0).lookup ("alias_of" : Str) = none := (lk_past (by decide +kernel)).trans (rfl)
theorem no_cac_recalled {a0 : V} : (cacF a0).lookup ("recalled" : Str) = none := (lk_past (by decide +kernel)).trans (rfl)
theorem no_cac_nearest_handing_on {a0 : V} : (cacF a0).lookup ("nearest_handing_on" : Str) = none := (lk_past (by decide +kernel)).trans (rfl)
def netF (a0 a1 a2 a3 a4 : V) : List (Str × V) := [("now", a0), ("servers", a1), ("caches", a2), ("roots", a3), ("zones_made", a4)]
theorem lk_net_now {a0 a1 a2 a3 a4 : V} : (netF a0 a1 a2 a3 a4).lookup ("now" : Str) = some a0 := lk_here
theorem lk_net_servers {a0 a1 a2 a3 a4 : V} : (netF a0 a1 a2 a3 a4).lookup ("servers" : Str) = some a1 := (lk_past (by decide +kernel)).trans (lk_here)
theorem lk_net_caches {a0 a1 a2 a3 a4 : V} : (netF a0 a1 a2 a3 a4).lookup ("caches" : Str) = some a2 := (lk_past (by decide +kernel)).trans ((lk_past (by decide +kernel)).trans (lk_here))
theorem lk_net_roots {a0 a1 a2 a3 a4 : V} : (netF a0 a1 a2 a3 a4).lookup ("roots" : Str) = some a3 := (lk_past (by decide +kernel)).trans ((lk_past (by decide +kernel)).trans ((lk_past (by decide +kernel)).trans (lk_here)))
theorem lk_net_zones_made {a0 a1 a2 a3 a4 : V} : (netF a0 a1 a2 a3 a4).lookup ("zones_made" : Str) = some a4 := (lk_past (by decide +kernel)).trans ((lk_past (by decide +kernel)).trans ((lk_past (by decide +kernel)).trans ((lk_past (by decide +kernel)).trans (lk_here))))
theorem no_net_begin_anew {a0 a1 a2 a3 a4 : V} : (netF a0 a1 a2 a3 a4).lookup ("begin_anew" : Str) = none := (lk_past (by decide +kernel)).trans ((lk_past (by decide +kernel)).trans ((lk_past (by decide +kernel)).trans ((lk_past (by decide +kernel)).trans ((lk_past (by decide +kernel)).trans (rfl)))))
theorem no_net_make_zone {a0 a1 a2 a3 a4 : V} : (netF a0 a1 a2 a3 a4).lookup ("make_zone" : Str) = none := (lk_past (by decide +kernel)).trans ((lk_past (by decide +kernel)).trans ((lk_past (by decide +kernel)).trans ((lk_past (by decide +kernel)).trans ((lk_past (by decide +kernel)).trans (rfl)))))
theorem no_net_has_server {a0 a1 a2 a3 a4 : V} : (netF a0 a1 a2 a3 a4).lookup ("has_server" : Str) = none := (lk_past (by decide +kernel)).trans ((lk_past (by decide +kernel)).trans ((lk_past (by decide +kernel)).trans ((lk_past (by decide +kernel)).trans ((lk_past (by decide +kernel)).trans (rfl)))))
theorem no_net_has_cache {a0 a1 a2 a3 a4 : V} : (netF a0 a1 a2 a3 a4).lookup ("has_cache" : Str) = none := (lk_past (by decide +kernel)).trans ((lk_past (by decide +kernel)).trans ((lk_past (by decide +kernel)).trans ((lk_past (by decide +kernel)).trans ((lk_past (by decide +kernel)).trans (rfl)))))
def rdrF (a0 a1 : V) : List (Str × V) := [("calls", a0), ("place", a1)]
theorem lk_rdr_calls {a0 a1 : V} : (rdrF a0 a1).lookup ("calls" : Str) = some a0 := lk_here
theorem lk_rdr_place {a0 a1 : V} : (rdrF a0 a1).lookup ("place" : Str) = some a1 := (lk_past (by decide +kernel)).trans (lk_here)
theorem no_rdr_is_done {a0 a1 : V} : (rdrF a0 a1).lookup ("is_done" : Str) = none := (lk_past (by decide +kernel)).trans ((lk_past (by decide +kernel)).trans (rfl))
theorem no_rdr_number {a0 a1 : V} : (rdrF a0 a1).lookup ("number" : Str) = none := (lk_past (by decide +kernel)).trans ((lk_past (by decide +kernel)).trans (rfl))
theorem no_rdr_row {a0 a1 : V} : (rdrF a0 a1).lookup ("row" : Str) = none := (lk_past (by decide +kernel)).trans ((lk_past (by decide +kernel)).trans (rfl))
theorem put_zon_changes {a0 a1 a2 a3 a4 a5 y : V} : putF "changes" y (zonF a0 a1 a2 a3 a4 a5) = zonF a0 a1 a2 a3 a4 y := (put_past (by decide +kernel)).trans (congrArg (_ :: ·) ((put_past (by decide +kernel)).trans (congrArg (_ :: ·) ((put_past (by decide +kernel)).trans (congrArg (_ :: ·) ((put_past (by decide +kernel)).trans (congrArg (_ :: ·) ((put_past (by decide +kernel)).trans (congrArg (_ :: ·) (put_here))))))))))
theorem put_zon_records {a0 a1 a2 a3 a4 a5 y : V} : putF "records" y (zonF a0 a1 a2 a3 a4 a5) = zonF a0 a1 a2 a3 y a5 := (put_past (by decide +kernel)).trans (congrArg (_ :: ·) ((put_past (by decide +kernel)).trans (congrArg (_ :: ·) ((put_past (by decide +kernel)).trans (congrArg (_ :: ·) ((put_past (by decide +kernel)).trans (congrArg (_ :: ·) (put_here))))))))
theorem put_zon_serial {a0 a1 a2 a3 a4 a5 y : V} : putF "serial" y (zonF a0 a1 a2 a3 a4 a5) = zonF a0 a1 a2 y a4 a5 := (put_past (by decide +kernel)).trans (congrArg (_ :: ·) ((put_past (by decide +kernel)).trans (congrArg (_ :: ·) ((put_past (by decide +kernel)).trans (congrArg (_ :: ·) (put_here))))))
theorem put_sea_asked {a0 a1 a2 a3 a4 a5 y : V} : putF "asked" y (seaF a0 a1 a2 a3 a4 a5) = seaF a0 a1 a2 y a4 a5 := (put_past (by decide +kernel)).trans (congrArg (_ :: ·) ((put_past (by decide +kernel)).trans (congrArg (_ :: ·) ((put_past (by decide +kernel)).trans (congrArg (_ :: ·) (put_here))))))
theorem put_sea_good {a0 a1 a2 a3 a4 a5 y : V} : putF "good" y (seaF a0 a1 a2 a3 a4 a5) = seaF a0 a1 a2 a3 y a5 := (put_past (by decide +kernel)).trans (congrArg (_ :: ·) ((put_past (by decide +kernel)).trans (congrArg (_ :: ·) ((put_past (by decide +kernel)).trans (congrArg (_ :: ·) ((put_past (by decide +kernel)).trans (congrArg (_ :: ·) (put_here))))))))
theorem put_hol_since {a0 a1 a2 a3 y : V} : putF "since" y (holF a0 a1 a2 a3) = holF a0 a1 a2 y := (put_past (by decide +kernel)).trans (congrArg (_ :: ·) ((put_past (by decide +kernel)).trans (congrArg (_ :: ·) ((put_past (by decide +kernel)).trans (congrArg (_ :: ·) (put_here))))))
theorem put_hol_zone {a0 a1 a2 a3 y : V} : putF "zone" y (holF a0 a1 a2 a3) = holF y a1 a2 a3 := put_here
theorem put_srv_up {a0 a1 y : V} : putF "up" y (srvF a0 a1) = srvF y a1 := put_here
theorem put_cac_facts {a0 y : V} : putF "facts" y (cacF a0) = cacF y := put_here
theorem put_net_caches {a0 a1 a2 a3 a4 y : V} : putF "caches" y (netF a0 a1 a2 a3 a4) = netF a0 a1 y a3 a4 := (put_past (by decide +kernel)).trans (congrArg (_ :: ·) ((put_past (by decide +kernel)).trans (congrArg (_ :: ·) (put_here))))
theorem put_net_now {a0 a1 a2 a3 a4 y : V} : putF "now" y (netF a0 a1 a2 a3 a4) = netF y a1 a2 a3 a4 := put_here
theorem put_net_roots {a0 a1 a2 a3 a4 y : V} : putF "roots" y (netF a0 a1 a2 a3 a4) = netF a0 a1 a2 y a4 := (put_past (by decide +kernel)).trans (congrArg (_ :: ·) ((put_past (by decide +kernel)).trans (congrArg (_ :: ·) ((put_past (by decide +kernel)).trans (congrArg (_ :: ·) (put_here))))))
theorem put_net_servers {a0 a1 a2 a3 a4 y : V} : putF "servers" y (netF a0 a1 a2 a3 a4) = netF a0 y a2 a3 a4 := (put_past (by decide +kernel)).trans (congrArg (_ :: ·) (put_here))
theorem put_net_zones_made {a0 a1 a2 a3 a4 y : V} : putF "zones_made" y (netF a0 a1 a2 a3 a4) = netF a0 a1 a2 a3 y := (put_past (by decide +kernel)).trans (congrArg (_ :: ·) ((put_past (by decide +kernel)).trans (congrArg (_ :: ·) ((put_past (by decide +kernel)).trans (congrArg (_ :: ·) ((put_past (by decide +kernel)).trans (congrArg (_ :: ·) (put_here))))))))
theorem put_rdr_place {a0 a1 y : V} : putF "place" y (rdrF a0 a1) = rdrF a0 y := (put_past (by decide +kernel)).trans (congrArg (_ :: ·) (put_here))
theorem new_rec {a0 a1 a2 a3 : V} : (putF "life" a3 (putF "value" a2 (putF "kind" a1 (putF "name" a0 [])))) = recF a0 a1 a2 a3 := by
  simp only [putF, recF]; repeat (first | rfl | rw [if_neg (by decide +kernel)])
theorem new_chg {a0 a1 : V} : (putF "record" a1 (putF "puts_in" a0 [])) = chgF a0 a1 := by
  simp only [putF, chgF]; repeat (first | rfl | rw [if_neg (by decide +kernel)])
theorem new_zon {a0 a1 a2 a3 a4 a5 : V} : (putF "changes" a5 (putF "records" a4 (putF "serial" a3 (putF "life" a2 (putF "apex" a1 (putF "identity" a0 [])))))) = zonF a0 a1 a2 a3 a4 a5 := by
  simp only [putF, zonF]; repeat (first | rfl | rw [if_neg (by decide +kernel)])
theorem new_tel {a0 a1 a2 a3 : V} : (putF "rows" a3 (putF "life" a2 (putF "name" a1 (putF "outcome" a0 [])))) = telF a0 a1 a2 a3 := by
  simp only [putF, telF]; repeat (first | rfl | rw [if_neg (by decide +kernel)])
theorem new_sea {a0 a1 a2 a3 a4 a5 : V} : (putF "names" a5 (putF "good" a4 (putF "asked" a3 (putF "kind" a2 (putF "cache" a1 (putF "net" a0 [])))))) = seaF a0 a1 a2 a3 a4 a5 := by
  simp only [putF, seaF]; repeat (first | rfl | rw [if_neg (by decide +kernel)])
theorem new_hol {a0 a1 a2 a3 : V} : (putF "since" a3 (putF "good" a2 (putF "origin" a1 (putF "zone" a0 [])))) = holF a0 a1 a2 a3 := by
  simp only [putF, holF]; repeat (first | rfl | rw [if_neg (by decide +kernel)])
theorem new_srv {a0 a1 : V} : (putF "holdings" a1 (putF "up" a0 [])) = srvF a0 a1 := by
  simp only [putF, srvF]; repeat (first | rfl | rw [if_neg (by decide +kernel)])
theorem new_fac {a0 a1 a2 : V} : (putF "until" a2 (putF "kind" a1 (putF "telling" a0 []))) = facF a0 a1 a2 := by
  simp only [putF, facF]; repeat (first | rfl | rw [if_neg (by decide +kernel)])
theorem new_cac {a0 : V} : (putF "facts" a0 []) = cacF a0 := by
  simp only [putF, cacF]; repeat (first | rfl | rw [if_neg (by decide +kernel)])
theorem new_net {a0 a1 a2 a3 a4 : V} : (putF "zones_made" a4 (putF "roots" a3 (putF "caches" a2 (putF "servers" a1 (putF "now" a0 []))))) = netF a0 a1 a2 a3 a4 := by
  simp only [putF, netF]; repeat (first | rfl | rw [if_neg (by decide +kernel)])
theorem new_rdr {a0 a1 : V} : (putF "place" a1 (putF "calls" a0 [])) = rdrF a0 a1 := by
  simp only [putF, rdrF]; repeat (first | rfl | rw [if_neg (by decide +kernel)])
structure Txt (K : PySem.W.Frag) (mg : Str → Option Value) (c : Cs) : Prop where
  cl_rec : Cls K c.crec
  n_rec_name : NoAttr K c.crec "name"
  n_rec_kind : NoAttr K c.crec "kind"
  n_rec_value : NoAttr K c.crec "value"
  n_rec_life : NoAttr K c.crec "life"
  cl_chg : Cls K c.cchg
  n_chg_puts_in : NoAttr K c.cchg "puts_in"
  n_chg_record : NoAttr K c.cchg "record"
  cl_zon : Cls K c.czon
  n_zon_identity : NoAttr K c.czon "identity"
  n_zon_apex : NoAttr K c.czon "apex"
  n_zon_life : NoAttr K c.czon "life"
  n_zon_serial : NoAttr K c.czon "serial"
  n_zon_records : NoAttr K c.czon "records"
  n_zon_changes : NoAttr K c.czon "changes"
  cl_tel : Cls K c.ctel
  n_tel_outcome : NoAttr K c.ctel "outcome"
  n_tel_name : NoAttr K c.ctel "name"
  n_tel_life : NoAttr K c.ctel "life"
  n_tel_rows : NoAttr K c.ctel "rows"
  cl_sea : Cls K c.csea
  n_sea_net : NoAttr K c.csea "net"
  n_sea_cache : NoAttr K c.csea "cache"
  n_sea_kind : NoAttr K c.csea "kind"
  n_sea_asked : NoAttr K c.csea "asked"
  n_sea_good : NoAttr K c.csea "good"
  n_sea_names : NoAttr K c.csea "names"
  cl_hol : Cls K c.chol
  n_hol_zone : NoAttr K c.chol "zone"
  n_hol_origin : NoAttr K c.chol "origin"
  n_hol_good : NoAttr K c.chol "good"
  n_hol_since : NoAttr K c.chol "since"
  cl_srv : Cls K c.csrv
  n_srv_up : NoAttr K c.csrv "up"
  n_srv_holdings : NoAttr K c.csrv "holdings"
  cl_fac : Cls K c.cfac
  n_fac_telling : NoAttr K c.cfac "telling"
  n_fac_kind : NoAttr K c.cfac "kind"
  n_fac_until : NoAttr K c.cfac "until"
  cl_cac : Cls K c.ccac
  n_cac_facts : NoAttr K c.ccac "facts"
  cl_net : Cls K c.cnet
  n_net_now : NoAttr K c.cnet "now"
  n_net_servers : NoAttr K c.cnet "servers"
  n_net_caches : NoAttr K c.cnet "caches"
  n_net_roots : NoAttr K c.cnet "roots"
  n_net_zones_made : NoAttr K c.cnet "zones_made"
  cl_rdr : Cls K c.crdr
  n_rdr_calls : NoAttr K c.crdr "calls"
  n_rdr_place : NoAttr K c.crdr "place"
  k_MOST_LABELS : ∃ t, mg "MOST_LABELS" = some (.int 6 t)
  k_HIGHEST_LABEL : ∃ t, mg "HIGHEST_LABEL" = some (.int 99 t)
  k_NUMBER : ∃ t, mg "NUMBER" = some (.int 1 t)
  k_ALIAS : ∃ t, mg "ALIAS" = some (.int 2 t)
  k_HANDED_ON : ∃ t, mg "HANDED_ON" = some (.int 3 t)
  k_LONGEST_LIFE : ∃ t, mg "LONGEST_LIFE" = some (.int 100000 t)
  k_HIGHEST_NUMBER : ∃ t, mg "HIGHEST_NUMBER" = some (.int 1000000000 t)
  k_MOST_RECORDS : ∃ t, mg "MOST_RECORDS" = some (.int 40 t)
  k_CHANGES_KEPT : ∃ t, mg "CHANGES_KEPT" = some (.int 8 t)
  k_REFUSES : ∃ t, mg "REFUSES" = some (.int 0 t)
  k_TELLS : ∃ t, mg "TELLS" = some (.int 1 t)
  k_NOTHING : ∃ t, mg "NOTHING" = some (.int 2 t)
  k_NO_SUCH_NAME : ∃ t, mg "NO_SUCH_NAME" = some (.int 3 t)
  k_LEADS_ON : ∃ t, mg "LEADS_ON" = some (.int 4 t)
  k_HANDS_ON : ∃ t, mg "HANDS_ON" = some (.int 5 t)
  k_MOST_ASKED : ∃ t, mg "MOST_ASKED" = some (.int 40 t)
  k_MOST_NAMES : ∃ t, mg "MOST_NAMES" = some (.int 6 t)
  k_LONGEST_GOOD_search : ∃ t, mg "LONGEST_GOOD_search" = some (.int 1000000000 t)
  k_MOST_SERVERS : ∃ t, mg "MOST_SERVERS" = some (.int 8 t)
  k_MOST_CACHES : ∃ t, mg "MOST_CACHES" = some (.int 4 t)
  k_LONGEST_GOOD_zone_calls : ∃ t, mg "LONGEST_GOOD_zone_calls" = some (.int 100000 t)
  k_LONGEST_PASS : ∃ t, mg "LONGEST_PASS" = some (.int 100000 t)
  k_NO_KIND : ∃ t, mg "NO_KIND" = some (.int 0 t)
  k_FIRST_SERVERS : ∃ t, mg "FIRST_SERVERS" = some (.int 2 t)
  k_FIRST_CACHES : ∃ t, mg "FIRST_CACHES" = some (.int 1 t)
  k_FIRST_LIFE : ∃ t, mg "FIRST_LIFE" = some (.int 60 t)
  f_all : mg "all" = none
  f_any : mg "any" = none
  f_len : mg "len" = none
  f_list : mg "list" = none
  f_min : mg "min" = none
  f_range : mg "range" = none
  f_sorted : mg "sorted" = none
  f_tuple : mg "tuple" = none
  f_zip : mg "zip" = none
end Nn

namespace Nn
open PySem PySem.Spec PyProof.Rows L2
def dd_is_name : He.DefD := ⟨("is_name", none), "is_name", "is_name", defArgs s_is_name, defBody s_is_name, defScope s_is_name, [], []⟩
def dd_is_for_all_others : He.DefD := ⟨("is_for_all_others", none), "is_for_all_others", "is_for_all_others", defArgs s_is_for_all_others, defBody s_is_for_all_others, defScope s_is_for_all_others, [], []⟩
def dd_is_record_name : He.DefD := ⟨("is_record_name", none), "is_record_name", "is_record_name", defArgs s_is_record_name, defBody s_is_record_name, defScope s_is_record_name, [], []⟩
def dd_begins_with : He.DefD := ⟨("begins_with", none), "begins_with", "begins_with", defArgs s_begins_with, defBody s_begins_with, defScope s_begins_with, [], []⟩
def dd_Record_init : He.DefD := ⟨("Record", some "__init__"), "__init__", "Record.__init__", defArgs s_Record_init, defBody s_Record_init, defScope s_Record_init, [], []⟩
def dd_Record_is_same_as : He.DefD := ⟨("Record", some "is_same_as"), "is_same_as", "Record.is_same_as", defArgs s_Record_is_same_as, defBody s_Record_is_same_as, defScope s_Record_is_same_as, [], []⟩
def dd_Change_init : He.DefD := ⟨("Change", some "__init__"), "__init__", "Change.__init__", defArgs s_Change_init, defBody s_Change_init, defScope s_Change_init, [], []⟩
def dd_Zone_init : He.DefD := ⟨("Zone", some "__init__"), "__init__", "Zone.__init__", defArgs s_Zone_init, defBody s_Zone_init, defScope s_Zone_init, [], []⟩
def dd_Zone_undergo : He.DefD := ⟨("Zone", some "undergo"), "undergo", "Zone.undergo", defArgs s_Zone_undergo, defBody s_Zone_undergo, defScope s_Zone_undergo, [], []⟩
def dd_Zone_twin : He.DefD := ⟨("Zone", some "twin"), "twin", "Zone.twin", defArgs s_Zone_twin, defBody s_Zone_twin, defScope s_Zone_twin, [], []⟩
def dd_Zone_is_at : He.DefD := ⟨("Zone", some "is_at"), "is_at", "Zone.is_at", defArgs s_Zone_is_at, defBody s_Zone_is_at, defScope s_Zone_is_at, [], []⟩
def dd_Zone_has : He.DefD := ⟨("Zone", some "has"), "has", "Zone.has", defArgs s_Zone_has, defBody s_Zone_has, defScope s_Zone_has, [], []⟩
def dd_Zone_has_record_of : He.DefD := ⟨("Zone", some "has_record_of"), "has_record_of", "Zone.has_record_of", defArgs s_Zone_has_record_of, defBody s_Zone_has_record_of, defScope s_Zone_has_record_of, [], []⟩
def dd_Zone_records_of : He.DefD := ⟨("Zone", some "records_of"), "records_of", "Zone.records_of", defArgs s_Zone_records_of, defBody s_Zone_records_of, defScope s_Zone_records_of, [], []⟩
def dd_Zone_is_full : He.DefD := ⟨("Zone", some "is_full"), "is_full", "Zone.is_full", defArgs s_Zone_is_full, defBody s_Zone_is_full, defScope s_Zone_is_full, [], []⟩
def dd_Zone_has_clash : He.DefD := ⟨("Zone", some "has_clash"), "has_clash", "Zone.has_clash", defArgs s_Zone_has_clash, defBody s_Zone_has_clash, defScope s_Zone_has_clash, [], []⟩
def dd_Zone_may_stand_here : He.DefD := ⟨("Zone", some "may_stand_here"), "may_stand_here", "Zone.may_stand_here", defArgs s_Zone_may_stand_here, defBody s_Zone_may_stand_here, defScope s_Zone_may_stand_here, [], []⟩
def dd_is_right_value : He.DefD := ⟨("is_right_value", none), "is_right_value", "is_right_value", defArgs s_is_right_value, defBody s_is_right_value, defScope s_is_right_value, [], []⟩
def dd_is_right_record : He.DefD := ⟨("is_right_record", none), "is_right_record", "is_right_record", defArgs s_is_right_record, defBody s_is_right_record, defScope s_is_right_record, [], []⟩
def dd_Telling_init : He.DefD := ⟨("Telling", some "__init__"), "__init__", "Telling.__init__", defArgs s_Telling_init, defBody s_Telling_init, defScope s_Telling_init, [], []⟩
def dd_refusal_to_tell : He.DefD := ⟨("refusal_to_tell", none), "refusal_to_tell", "refusal_to_tell", defArgs s_refusal_to_tell, defBody s_refusal_to_tell, defScope s_refusal_to_tell, [], []⟩
def dd_least_life : He.DefD := ⟨("least_life", none), "least_life", "least_life", defArgs s_least_life, defBody s_least_life, defScope s_least_life, [], []⟩
def dd_handing_on : He.DefD := ⟨("handing_on", none), "handing_on", "handing_on", defArgs s_handing_on, defBody s_handing_on, defScope s_handing_on, [], []⟩
def dd_there_is : He.DefD := ⟨("there_is", none), "there_is", "there_is", defArgs s_there_is, defBody s_there_is, defScope s_there_is, [], []⟩
def dd_name_for_all_others : He.DefD := ⟨("name_for_all_others", none), "name_for_all_others", "name_for_all_others", defArgs s_name_for_all_others, defBody s_name_for_all_others, defScope s_name_for_all_others, [], []⟩
def dd_tell_by : He.DefD := ⟨("tell_by", none), "tell_by", "tell_by", defArgs s_tell_by, defBody s_tell_by, defScope s_tell_by, [], []⟩
def dd_tell : He.DefD := ⟨("tell", none), "tell", "tell", defArgs s_tell, defBody s_tell, defScope s_tell, [], []⟩
def dd_Search_init : He.DefD := ⟨("Search", some "__init__"), "__init__", "Search.__init__", defArgs s_Search_init, defBody s_Search_init, defScope s_Search_init, [], []⟩
def dd_Search_found : He.DefD := ⟨("Search", some "found"), "found", "Search.found", defArgs s_Search_found, defBody s_Search_found, defScope s_Search_found, [], []⟩
def dd_Search_is_to_go_on : He.DefD := ⟨("Search", some "is_to_go_on"), "is_to_go_on", "Search.is_to_go_on", defArgs s_Search_is_to_go_on, defBody s_Search_is_to_go_on, defScope s_Search_is_to_go_on, [], []⟩
def dd_Search_told_of : He.DefD := ⟨("Search", some "told_of"), "told_of", "Search.told_of", defArgs s_Search_told_of, defBody s_Search_told_of, defScope s_Search_told_of, [], []⟩
def dd_Search_told_by_servers : He.DefD := ⟨("Search", some "told_by_servers"), "told_by_servers", "Search.told_by_servers", defArgs s_Search_told_by_servers, defBody s_Search_told_by_servers, defScope s_Search_told_by_servers, [], []⟩
def dd_Search_told_by : He.DefD := ⟨("Search", some "told_by"), "told_by", "Search.told_by", defArgs s_Search_told_by, defBody s_Search_told_by, defScope s_Search_told_by, [], []⟩
def dd_Search_learn : He.DefD := ⟨("Search", some "learn"), "learn", "Search.learn", defArgs s_Search_learn, defBody s_Search_learn, defScope s_Search_learn, [], []⟩
def dd_Holding_init : He.DefD := ⟨("Holding", some "__init__"), "__init__", "Holding.__init__", defArgs s_Holding_init, defBody s_Holding_init, defScope s_Holding_init, [], []⟩
def dd_Holding_is_copy : He.DefD := ⟨("Holding", some "is_copy"), "is_copy", "Holding.is_copy", defArgs s_Holding_is_copy, defBody s_Holding_is_copy, defScope s_Holding_is_copy, [], []⟩
def dd_Holding_is_good : He.DefD := ⟨("Holding", some "is_good"), "is_good", "Holding.is_good", defArgs s_Holding_is_good, defBody s_Holding_is_good, defScope s_Holding_is_good, [], []⟩
def dd_Holding_since_for_copies : He.DefD := ⟨("Holding", some "since_for_copies"), "since_for_copies", "Holding.since_for_copies", defArgs s_Holding_since_for_copies, defBody s_Holding_since_for_copies, defScope s_Holding_since_for_copies, [], []⟩
def dd_Server_init : He.DefD := ⟨("Server", some "__init__"), "__init__", "Server.__init__", defArgs s_Server_init, defBody s_Server_init, defScope s_Server_init, [], []⟩
def dd_Server_holding_of : He.DefD := ⟨("Server", some "holding_of"), "holding_of", "Server.holding_of", defArgs s_Server_holding_of, defBody s_Server_holding_of, defScope s_Server_holding_of, [], []⟩
def dd_Server_has_zone : He.DefD := ⟨("Server", some "has_zone"), "has_zone", "Server.has_zone", defArgs s_Server_has_zone, defBody s_Server_has_zone, defScope s_Server_has_zone, [], []⟩
def dd_Server_hold : He.DefD := ⟨("Server", some "hold"), "hold", "Server.hold", defArgs s_Server_hold, defBody s_Server_hold, defScope s_Server_hold, [], []⟩
def dd_Server_let_go : He.DefD := ⟨("Server", some "let_go"), "let_go", "Server.let_go", defArgs s_Server_let_go, defBody s_Server_let_go, defScope s_Server_let_go, [], []⟩
def dd_Server_zone_count : He.DefD := ⟨("Server", some "zone_count"), "zone_count", "Server.zone_count", defArgs s_Server_zone_count, defBody s_Server_zone_count, defScope s_Server_zone_count, [], []⟩
def dd_Server_can_hand_out : He.DefD := ⟨("Server", some "can_hand_out"), "can_hand_out", "Server.can_hand_out", defArgs s_Server_can_hand_out, defBody s_Server_can_hand_out, defScope s_Server_can_hand_out, [], []⟩
def dd_Server_longest_holding : He.DefD := ⟨("Server", some "longest_holding"), "longest_holding", "Server.longest_holding", defArgs s_Server_longest_holding, defBody s_Server_longest_holding, defScope s_Server_longest_holding, [], []⟩
def dd_Server_told_of : He.DefD := ⟨("Server", some "told_of"), "told_of", "Server.told_of", defArgs s_Server_told_of, defBody s_Server_told_of, defScope s_Server_told_of, [], []⟩
def dd_Server_told_when_asked : He.DefD := ⟨("Server", some "told_when_asked"), "told_when_asked", "Server.told_when_asked", defArgs s_Server_told_when_asked, defBody s_Server_told_when_asked, defScope s_Server_told_when_asked, [], []⟩
def dd_are_roots : He.DefD := ⟨("are_roots", none), "are_roots", "are_roots", defArgs s_are_roots, defBody s_are_roots, defScope s_are_roots, [], []⟩
def dd_answer_begin : He.DefD := ⟨("answer_begin", none), "answer_begin", "answer_begin", defArgs s_answer_begin, defBody s_answer_begin, defScope s_answer_begin, [], []⟩
def dd_answer_zone : He.DefD := ⟨("answer_zone", none), "answer_zone", "answer_zone", defArgs s_answer_zone, defBody s_answer_zone, defScope s_answer_zone, [], []⟩
def dd_refusal_of_zone : He.DefD := ⟨("refusal_of_zone", none), "refusal_of_zone", "refusal_of_zone", defArgs s_refusal_of_zone, defBody s_refusal_of_zone, defScope s_refusal_of_zone, [], []⟩
def dd_refusal_of_copy : He.DefD := ⟨("refusal_of_copy", none), "refusal_of_copy", "refusal_of_copy", defArgs s_refusal_of_copy, defBody s_refusal_of_copy, defScope s_refusal_of_copy, [], []⟩
def dd_answer_copy : He.DefD := ⟨("answer_copy", none), "answer_copy", "answer_copy", defArgs s_answer_copy, defBody s_answer_copy, defScope s_answer_copy, [], []⟩
def dd_answer_drop : He.DefD := ⟨("answer_drop", none), "answer_drop", "answer_drop", defArgs s_answer_drop, defBody s_answer_drop, defScope s_answer_drop, [], []⟩
def dd_refusal_of_own_zone : He.DefD := ⟨("refusal_of_own_zone", none), "refusal_of_own_zone", "refusal_of_own_zone", defArgs s_refusal_of_own_zone, defBody s_refusal_of_own_zone, defScope s_refusal_of_own_zone, [], []⟩
def dd_refusal_of_record : He.DefD := ⟨("refusal_of_record", none), "refusal_of_record", "refusal_of_record", defArgs s_refusal_of_record, defBody s_refusal_of_record, defScope s_refusal_of_record, [], []⟩
def dd_answer_add : He.DefD := ⟨("answer_add", none), "answer_add", "answer_add", defArgs s_answer_add, defBody s_answer_add, defScope s_answer_add, [], []⟩
def dd_answer_remove : He.DefD := ⟨("answer_remove", none), "answer_remove", "answer_remove", defArgs s_answer_remove, defBody s_answer_remove, defScope s_answer_remove, [], []⟩
def dd_bring_up : He.DefD := ⟨("bring_up", none), "bring_up", "bring_up", defArgs s_bring_up, defBody s_bring_up, defScope s_bring_up, [], []⟩
def dd_answer_transfer : He.DefD := ⟨("answer_transfer", none), "answer_transfer", "answer_transfer", defArgs s_answer_transfer, defBody s_answer_transfer, defScope s_answer_transfer, [], []⟩
def dd_counted : He.DefD := ⟨("counted", none), "counted", "counted", defArgs s_counted, defBody s_counted, defScope s_counted, [], []⟩
def dd_each_counted : He.DefD := ⟨("each_counted", none), "each_counted", "each_counted", defArgs s_each_counted, defBody s_each_counted, defScope s_each_counted, [], []⟩
def dd_rows_told : He.DefD := ⟨("rows_told", none), "rows_told", "rows_told", defArgs s_rows_told, defBody s_rows_told, defScope s_rows_told, [], []⟩
def dd_answer_set : He.DefD := ⟨("answer_set", none), "answer_set", "answer_set", defArgs s_answer_set, defBody s_answer_set, defScope s_answer_set, [], []⟩
def dd_answer_pass : He.DefD := ⟨("answer_pass", none), "answer_pass", "answer_pass", defArgs s_answer_pass, defBody s_answer_pass, defScope s_answer_pass, [], []⟩
def dd_answer_query : He.DefD := ⟨("answer_query", none), "answer_query", "answer_query", defArgs s_answer_query, defBody s_answer_query, defScope s_answer_query, [], []⟩
def dd_answer_ask : He.DefD := ⟨("answer_ask", none), "answer_ask", "answer_ask", defArgs s_answer_ask, defBody s_answer_ask, defScope s_answer_ask, [], []⟩
def dd_numbers_of_record : He.DefD := ⟨("numbers_of_record", none), "numbers_of_record", "numbers_of_record", defArgs s_numbers_of_record, defBody s_numbers_of_record, defScope s_numbers_of_record, [], []⟩
def dd_answer_records : He.DefD := ⟨("answer_records", none), "answer_records", "answer_records", defArgs s_answer_records, defBody s_answer_records, defScope s_answer_records, [], []⟩
def dd_numbers_of_fact : He.DefD := ⟨("numbers_of_fact", none), "numbers_of_fact", "numbers_of_fact", defArgs s_numbers_of_fact, defBody s_numbers_of_fact, defScope s_numbers_of_fact, [], []⟩
def dd_answer_facts : He.DefD := ⟨("answer_facts", none), "answer_facts", "answer_facts", defArgs s_answer_facts, defBody s_answer_facts, defScope s_answer_facts, [], []⟩
def dd_answer_flush : He.DefD := ⟨("answer_flush", none), "answer_flush", "answer_flush", defArgs s_answer_flush, defBody s_answer_flush, defScope s_answer_flush, [], []⟩
def dd_Fact_init : He.DefD := ⟨("Fact", some "__init__"), "__init__", "Fact.__init__", defArgs s_Fact_init, defBody s_Fact_init, defScope s_Fact_init, [], []⟩
def dd_Fact_is_known : He.DefD := ⟨("Fact", some "is_known"), "is_known", "Fact.is_known", defArgs s_Fact_is_known, defBody s_Fact_is_known, defScope s_Fact_is_known, [], []⟩
def dd_Fact_left : He.DefD := ⟨("Fact", some "left"), "left", "Fact.left", defArgs s_Fact_left, defBody s_Fact_left, defScope s_Fact_left, [], []⟩
def dd_kind_of_fact : He.DefD := ⟨("kind_of_fact", none), "kind_of_fact", "kind_of_fact", defArgs s_kind_of_fact, defBody s_kind_of_fact, defScope s_kind_of_fact, [], []⟩
def dd_Cache_init : He.DefD := ⟨("Cache", some "__init__"), "__init__", "Cache.__init__", defArgs s_Cache_init, defBody s_Cache_init, defScope s_Cache_init, [], []⟩
def dd_Cache_learn : He.DefD := ⟨("Cache", some "learn"), "learn", "Cache.learn", defArgs s_Cache_learn, defBody s_Cache_learn, defScope s_Cache_learn, [], []⟩
def dd_Cache_forget_all : He.DefD := ⟨("Cache", some "forget_all"), "forget_all", "Cache.forget_all", defArgs s_Cache_forget_all, defBody s_Cache_forget_all, defScope s_Cache_forget_all, [], []⟩
def dd_Cache_known_facts : He.DefD := ⟨("Cache", some "known_facts"), "known_facts", "Cache.known_facts", defArgs s_Cache_known_facts, defBody s_Cache_known_facts, defScope s_Cache_known_facts, [], []⟩
def dd_Cache_fact_of : He.DefD := ⟨("Cache", some "fact_of"), "fact_of", "Cache.fact_of", defArgs s_Cache_fact_of, defBody s_Cache_fact_of, defScope s_Cache_fact_of, [], []⟩
def dd_Cache_alias_of : He.DefD := ⟨("Cache", some "alias_of"), "alias_of", "Cache.alias_of", defArgs s_Cache_alias_of, defBody s_Cache_alias_of, defScope s_Cache_alias_of, [], []⟩
def dd_Cache_recalled : He.DefD := ⟨("Cache", some "recalled"), "recalled", "Cache.recalled", defArgs s_Cache_recalled, defBody s_Cache_recalled, defScope s_Cache_recalled, [], []⟩
def dd_Cache_nearest_handing_on : He.DefD := ⟨("Cache", some "nearest_handing_on"), "nearest_handing_on", "Cache.nearest_handing_on", defArgs s_Cache_nearest_handing_on, defBody s_Cache_nearest_handing_on, defScope s_Cache_nearest_handing_on, [], []⟩
def dd_Net_init : He.DefD := ⟨("Net", some "__init__"), "__init__", "Net.__init__", defArgs s_Net_init, defBody s_Net_init, defScope s_Net_init, [], []⟩
def dd_Net_begin_anew : He.DefD := ⟨("Net", some "begin_anew"), "begin_anew", "Net.begin_anew", defArgs s_Net_begin_anew, defBody s_Net_begin_anew, defScope s_Net_begin_anew, [], []⟩
def dd_Net_make_zone : He.DefD := ⟨("Net", some "make_zone"), "make_zone", "Net.make_zone", defArgs s_Net_make_zone, defBody s_Net_make_zone, defScope s_Net_make_zone, [], []⟩
def dd_Net_has_server : He.DefD := ⟨("Net", some "has_server"), "has_server", "Net.has_server", defArgs s_Net_has_server, defBody s_Net_has_server, defScope s_Net_has_server, [], []⟩
def dd_Net_has_cache : He.DefD := ⟨("Net", some "has_cache"), "has_cache", "Net.has_cache", defArgs s_Net_has_cache, defBody s_Net_has_cache, defScope s_Net_has_cache, [], []⟩
def dd_Reader_init : He.DefD := ⟨("Reader", some "__init__"), "__init__", "Reader.__init__", defArgs s_Reader_init, defBody s_Reader_init, defScope s_Reader_init, [], []⟩
def dd_Reader_is_done : He.DefD := ⟨("Reader", some "is_done"), "is_done", "Reader.is_done", defArgs s_Reader_is_done, defBody s_Reader_is_done, defScope s_Reader_is_done, [], []⟩
def dd_Reader_number : He.DefD := ⟨("Reader", some "number"), "number", "Reader.number", defArgs s_Reader_number, defBody s_Reader_number, defScope s_Reader_number, [], []⟩
def dd_Reader_row : He.DefD := ⟨("Reader", some "row"), "row", "Reader.row", defArgs s_Reader_row, defBody s_Reader_row, defScope s_Reader_row, [], []⟩
def dd_begin_call : He.DefD := ⟨("begin_call", none), "begin_call", "begin_call", defArgs s_begin_call, defBody s_begin_call, defScope s_begin_call, [], []⟩
def dd_zone_call : He.DefD := ⟨("zone_call", none), "zone_call", "zone_call", defArgs s_zone_call, defBody s_zone_call, defScope s_zone_call, [], []⟩
def dd_copy_call : He.DefD := ⟨("copy_call", none), "copy_call", "copy_call", defArgs s_copy_call, defBody s_copy_call, defScope s_copy_call, [], []⟩
def dd_drop_call : He.DefD := ⟨("drop_call", none), "drop_call", "drop_call", defArgs s_drop_call, defBody s_drop_call, defScope s_drop_call, [], []⟩
def dd_add_call : He.DefD := ⟨("add_call", none), "add_call", "add_call", defArgs s_add_call, defBody s_add_call, defScope s_add_call, [], []⟩
def dd_remove_call : He.DefD := ⟨("remove_call", none), "remove_call", "remove_call", defArgs s_remove_call, defBody s_remove_call, defScope s_remove_call, [], []⟩
def dd_transfer_call : He.DefD := ⟨("transfer_call", none), "transfer_call", "transfer_call", defArgs s_transfer_call, defBody s_transfer_call, defScope s_transfer_call, [], []⟩
def dd_set_call : He.DefD := ⟨("set_call", none), "set_call", "set_call", defArgs s_set_call, defBody s_set_call, defScope s_set_call, [], []⟩
def dd_pass_call : He.DefD := ⟨("pass_call", none), "pass_call", "pass_call", defArgs s_pass_call, defBody s_pass_call, defScope s_pass_call, [], []⟩
def dd_query_call : He.DefD := ⟨("query_call", none), "query_call", "query_call", defArgs s_query_call, defBody s_query_call, defScope s_query_call, [], []⟩
def dd_ask_call : He.DefD := ⟨("ask_call", none), "ask_call", "ask_call", defArgs s_ask_call, defBody s_ask_call, defScope s_ask_call, [], []⟩
def dd_records_call : He.DefD := ⟨("records_call", none), "records_call", "records_call", defArgs s_records_call, defBody s_records_call, defScope s_records_call, [], []⟩
def dd_facts_call : He.DefD := ⟨("facts_call", none), "facts_call", "facts_call", defArgs s_facts_call, defBody s_facts_call, defScope s_facts_call, [], []⟩
def dd_flush_call : He.DefD := ⟨("flush_call", none), "flush_call", "flush_call", defArgs s_flush_call, defBody s_flush_call, defScope s_flush_call, [], []⟩
def dd_answer_next : He.DefD := ⟨("answer_next", none), "answer_next", "answer_next", defArgs s_answer_next, defBody s_answer_next, defScope s_answer_next, [], []⟩
def dd_answers : He.DefD := ⟨("answers", none), "answers", "answers", defArgs s_answers, defBody s_answers, defScope s_answers, [], []⟩
def fn0 : List He.DefD := [dd_is_name, dd_is_for_all_others, dd_is_record_name, dd_begins_with, dd_Record_init, dd_Record_is_same_as, dd_Change_init, dd_Zone_init, dd_Zone_undergo, dd_Zone_twin, dd_Zone_is_at, dd_Zone_has, dd_Zone_has_record_of, dd_Zone_records_of, dd_Zone_is_full, dd_Zone_has_clash, dd_Zone_may_stand_here, dd_is_right_value, dd_is_right_record, dd_Telling_init, dd_refusal_to_tell, dd_least_life, dd_handing_on, dd_there_is, dd_name_for_all_others, dd_tell_by, dd_tell, dd_Search_init, dd_Search_found, dd_Search_is_to_go_on]
def fn1 : List He.DefD := [dd_Search_told_of, dd_Search_told_by_servers, dd_Search_told_by, dd_Search_learn, dd_Holding_init, dd_Holding_is_copy, dd_Holding_is_good, dd_Holding_since_for_copies, dd_Server_init, dd_Server_holding_of, dd_Server_has_zone, dd_Server_hold, dd_Server_let_go, dd_Server_zone_count, dd_Server_can_hand_out, dd_Server_longest_holding, dd_Server_told_of, dd_Server_told_when_asked, dd_are_roots, dd_answer_begin, dd_answer_zone, dd_refusal_of_zone, dd_refusal_of_copy, dd_answer_copy, dd_answer_drop, dd_refusal_of_own_zone, dd_refusal_of_record, dd_answer_add, dd_answer_remove, dd_bring_up]
def fn2 : List He.DefD := [dd_answer_transfer, dd_counted, dd_each_counted, dd_rows_told, dd_answer_set, dd_answer_pass, dd_answer_query, dd_answer_ask, dd_numbers_of_record, dd_answer_records, dd_numbers_of_fact, dd_answer_facts, dd_answer_flush, dd_Fact_init, dd_Fact_is_known, dd_Fact_left, dd_kind_of_fact, dd_Cache_init, dd_Cache_learn, dd_Cache_forget_all, dd_Cache_known_facts, dd_Cache_fact_of, dd_Cache_alias_of, dd_Cache_recalled, dd_Cache_nearest_handing_on, dd_Net_init, dd_Net_begin_anew, dd_Net_make_zone, dd_Net_has_server, dd_Net_has_cache]
def fn3 : List He.DefD := [dd_Reader_init, dd_Reader_is_done, dd_Reader_number, dd_Reader_row, dd_begin_call, dd_zone_call, dd_copy_call, dd_drop_call, dd_add_call, dd_remove_call, dd_transfer_call, dd_set_call, dd_pass_call, dd_query_call, dd_ask_call, dd_records_call, dd_facts_call, dd_flush_call, dd_answer_next, dd_answers]
def fnL : List He.DefD := fn0 ++ fn1 ++ fn2 ++ fn3
def fa0 : List He.Fa := [.cls "Record", .noat "Record" "name", .noat "Record" "kind", .noat "Record" "value", .noat "Record" "life", .cls "Change", .noat "Change" "puts_in", .noat "Change" "record", .cls "Zone", .noat "Zone" "identity", .noat "Zone" "apex", .noat "Zone" "life", .noat "Zone" "serial", .noat "Zone" "records", .noat "Zone" "changes", .cls "Telling", .noat "Telling" "outcome", .noat "Telling" "name", .noat "Telling" "life", .noat "Telling" "rows", .cls "Search", .noat "Search" "net", .noat "Search" "cache", .noat "Search" "kind", .noat "Search" "asked", .noat "Search" "good", .noat "Search" "names", .cls "Holding", .noat "Holding" "zone", .noat "Holding" "origin"]
def fa1 : List He.Fa := [.noat "Holding" "good", .noat "Holding" "since", .cls "Server", .noat "Server" "up", .noat "Server" "holdings", .cls "Fact", .noat "Fact" "telling", .noat "Fact" "kind", .noat "Fact" "until", .cls "Cache", .noat "Cache" "facts", .cls "Net", .noat "Net" "now", .noat "Net" "servers", .noat "Net" "caches", .noat "Net" "roots", .noat "Net" "zones_made", .cls "Reader", .noat "Reader" "calls", .noat "Reader" "place", .int "MOST_LABELS" 6, .int "HIGHEST_LABEL" 99, .int "NUMBER" 1, .int "ALIAS" 2, .int "HANDED_ON" 3, .int "LONGEST_LIFE" 100000, .int "HIGHEST_NUMBER" 1000000000, .int "MOST_RECORDS" 40, .int "CHANGES_KEPT" 8, .int "REFUSES" 0]
def fa2 : List He.Fa := [.int "TELLS" 1, .int "NOTHING" 2, .int "NO_SUCH_NAME" 3, .int "LEADS_ON" 4, .int "HANDS_ON" 5, .int "MOST_ASKED" 40, .int "MOST_NAMES" 6, .int "LONGEST_GOOD_search" 1000000000, .int "MOST_SERVERS" 8, .int "MOST_CACHES" 4, .int "LONGEST_GOOD_zone_calls" 100000, .int "LONGEST_PASS" 100000, .int "NO_KIND" 0, .int "FIRST_SERVERS" 2, .int "FIRST_CACHES" 1, .int "FIRST_LIFE" 60, .free "all", .free "any", .free "len", .free "list", .free "min", .free "range", .free "sorted", .free "tuple", .free "zip", .glo "Record", .mkr "Record", .glo "Change", .mkr "Change", .glo "Zone"]
def fa3 : List He.Fa := [.mkr "Zone", .glo "Telling", .mkr "Telling", .glo "Search", .mkr "Search", .glo "Holding", .mkr "Holding", .glo "Server", .mkr "Server", .glo "Fact", .mkr "Fact", .glo "Cache", .mkr "Cache", .glo "Net", .mkr "Net", .glo "Reader", .mkr "Reader", .glo "is_name", .glo "is_for_all_others", .glo "is_record_name", .glo "begins_with", .meth "Record" "is_same_as", .meth "Zone" "undergo", .meth "Zone" "twin", .meth "Zone" "is_at", .meth "Zone" "has", .meth "Zone" "has_record_of", .meth "Zone" "records_of", .meth "Zone" "is_full", .meth "Zone" "has_clash"]
def fa4 : List He.Fa := [.meth "Zone" "may_stand_here", .glo "is_right_value", .glo "is_right_record", .glo "refusal_to_tell", .glo "least_life", .glo "handing_on", .glo "there_is", .glo "name_for_all_others", .glo "tell_by", .glo "tell", .meth "Search" "found", .meth "Search" "is_to_go_on", .meth "Search" "told_of", .meth "Search" "told_by_servers", .meth "Search" "told_by", .meth "Search" "learn", .meth "Holding" "is_copy", .meth "Holding" "is_good", .meth "Holding" "since_for_copies", .meth "Server" "holding_of", .meth "Server" "has_zone", .meth "Server" "hold", .meth "Server" "let_go", .meth "Server" "zone_count", .meth "Server" "can_hand_out", .meth "Server" "longest_holding", .meth "Server" "told_of", .meth "Server" "told_when_asked", .glo "are_roots", .glo "answer_begin"]
def fa5 : List He.Fa := [.glo "answer_zone", .glo "refusal_of_zone", .glo "refusal_of_copy", .glo "answer_copy", .glo "answer_drop", .glo "refusal_of_own_zone", .glo "refusal_of_record", .glo "answer_add", .glo "answer_remove", .glo "bring_up", .glo "answer_transfer", .glo "counted", .glo "each_counted", .glo "rows_told", .glo "answer_set", .glo "answer_pass", .glo "answer_query", .glo "answer_ask", .glo "numbers_of_record", .glo "answer_records", .glo "numbers_of_fact", .glo "answer_facts", .glo "answer_flush", .meth "Fact" "is_known", .meth "Fact" "left", .glo "kind_of_fact", .meth "Cache" "learn", .meth "Cache" "forget_all", .meth "Cache" "known_facts", .meth "Cache" "fact_of"]
def fa6 : List He.Fa := [.meth "Cache" "alias_of", .meth "Cache" "recalled", .meth "Cache" "nearest_handing_on", .meth "Net" "begin_anew", .meth "Net" "make_zone", .meth "Net" "has_server", .meth "Net" "has_cache", .meth "Reader" "is_done", .meth "Reader" "number", .meth "Reader" "row", .glo "begin_call", .glo "zone_call", .glo "copy_call", .glo "drop_call", .glo "add_call", .glo "remove_call", .glo "transfer_call", .glo "set_call", .glo "pass_call", .glo "query_call", .glo "ask_call", .glo "records_call", .glo "facts_call", .glo "flush_call", .glo "answer_next", .glo "answers", .glo "CALLS"]
def faL : List He.Fa := fa0 ++ fa1 ++ fa2 ++ fa3 ++ fa4 ++ fa5 ++ fa6
end Nn

namespace Nn
open PySem PySem.Spec PyProof.Rows L2
/-! ### the table of the calls, and the head's hook with one more look -/
def callNames : List (Int × Str) := [(1, "begin_call"), (2, "zone_call"), (3, "copy_call"), (4, "drop_call"), (5, "add_call"), (6, "remove_call"), (7, "transfer_call"), (8, "set_call"), (9, "pass_call"), (10, "query_call"), (11, "ask_call"), (12, "records_call"), (13, "facts_call"), (14, "flush_call")]
def callsE (K : PySem.W.Frag) : List DictEntry → List (Int × Str) → Bool
  | [], [] => true
  | e :: es, p :: ps => decide (e.hash = hashInt p.1) && ((match e.key with
    | .int i _ => decide (i = p.1)
    | _ => false) && ((match e.val with
    | .ref a => decide (a = He.ga K p.2)
    | _ => false) && callsE K es ps))
  | _, _ => false
def callsB (K : PySem.W.Frag) : Bool := match K.lookup (He.ga K "CALLS") with
  | some ⟨.type c, none, .dict es _, sl⟩ => decide (c = "dict") && (decide (sl.size = 0) && callsE K es.toList callNames)
  | _ => false
def classL : List Str := ["Record", "Change", "Zone", "Telling", "Search", "Holding", "Server", "Fact", "Cache", "Net", "Reader"]
def apartB (K : PySem.W.Frag) : Bool := decide ((classL.map (He.ga K)).Nodup)
def refsX (o : Obj) : List Addr := match o.data with
  | .dict es _ => es.toList.flatMap fun e => He.refV e.val
  | .func fd => He.refV fd.code
  | .cls cd => [cd.ns]
  | _ => []
def nextX (g : Addr → Option Obj) (as : List Addr) : List Addr := as.flatMap fun a => match g a with
  | some o => refsX o
  | none => []
def asX (g : Addr → Option Obj) : Nat → List Addr → List Addr
  | 0, as => as
  | n + 1, as => as ++ asX g n (nextX g as)
abbrev AlX : Type := Bool × He.AlD
def obsXK (K : PySem.W.Frag) : AlX := (callsB K && apartB K, He.obsD faL fnL K)
def obsX (g : Addr → Option Obj) : AlX := obsXK (He.frG g (asX g 4 [mainGlobals]))
def valX : AlX := (true, He.valD fnL)
def hookX : PySem.W.Hook where
  α := AlX
  obs := fun s => obsX s.heap.get?
  val := fun _ => valX
  says := fun _ h => ∃ K : PySem.W.Frag, K.In h ∧ obsXK K = valX
  of := fun _ _ e => ⟨_, He.frG_in, e⟩
  keeps := fun _ _ _ ⟨K, hK, c⟩ k => ⟨K, PySem.W.Frag.In.keeps hK k, c⟩
def obX (s : PySem.W.SharedT) : AlX := obsX (HandSHeadRun.getT s)
theorem obX_eq (s : PySem.W.SharedT) : obX s = hookX.obs s.abs := by
  have e : HandSHeadRun.getT s = s.abs.heap.get? := funext (HandSHeadRun.getT_eq s)
  show obsX (HandSHeadRun.getT s) = obsX s.abs.heap.get?
  rw [e]
end Nn

namespace Nn
open PySem PySem.Spec PyProof.Rows L2
set_option maxHeartbeats 0
def loose0 : List Str := [("__name__" : Str), ("MOST_LABELS" : Str), ("HIGHEST_LABEL" : Str), ("is_name" : Str), ("is_for_all_others" : Str), ("is_record_name" : Str), ("begins_with" : Str), ("NUMBER" : Str), ("ALIAS" : Str), ("HANDED_ON" : Str), ("LONGEST_LIFE" : Str), ("HIGHEST_NUMBER" : Str), ("MOST_RECORDS" : Str), ("CHANGES_KEPT" : Str), ("Record" : Str), ("Change" : Str), ("Zone" : Str), ("is_right_value" : Str), ("is_right_record" : Str), ("REFUSES" : Str), ("TELLS" : Str), ("NOTHING" : Str), ("NO_SUCH_NAME" : Str), ("LEADS_ON" : Str), ("HANDS_ON" : Str), ("Telling" : Str), ("refusal_to_tell" : Str), ("least_life" : Str), ("handing_on" : Str), ("there_is" : Str), ("name_for_all_others" : Str), ("tell_by" : Str), ("tell" : Str), ("MOST_ASKED" : Str), ("MOST_NAMES" : Str), ("LONGEST_GOOD_search" : Str)]

def loose1 : List Str := [("Search" : Str), ("Holding" : Str), ("Server" : Str), ("MOST_SERVERS" : Str), ("MOST_CACHES" : Str), ("LONGEST_GOOD_zone_calls" : Str), ("are_roots" : Str), ("answer_begin" : Str), ("answer_zone" : Str), ("refusal_of_zone" : Str), ("refusal_of_copy" : Str), ("answer_copy" : Str), ("answer_drop" : Str), ("refusal_of_own_zone" : Str), ("refusal_of_record" : Str), ("answer_add" : Str), ("answer_remove" : Str), ("bring_up" : Str), ("answer_transfer" : Str), ("LONGEST_PASS" : Str), ("counted" : Str), ("each_counted" : Str), ("rows_told" : Str), ("answer_set" : Str), ("answer_pass" : Str), ("answer_query" : Str), ("answer_ask" : Str), ("numbers_of_record" : Str), ("answer_records" : Str), ("numbers_of_fact" : Str), ("answer_facts" : Str), ("answer_flush" : Str), ("NO_KIND" : Str), ("Fact" : Str), ("kind_of_fact" : Str), ("Cache" : Str)]

def loose2 : List Str := [("FIRST_SERVERS" : Str), ("FIRST_CACHES" : Str), ("FIRST_LIFE" : Str), ("Net" : Str), ("Reader" : Str), ("begin_call" : Str), ("zone_call" : Str), ("copy_call" : Str), ("drop_call" : Str), ("add_call" : Str), ("remove_call" : Str), ("transfer_call" : Str), ("set_call" : Str), ("pass_call" : Str), ("query_call" : Str), ("ask_call" : Str), ("records_call" : Str), ("facts_call" : Str), ("flush_call" : Str), ("CALLS" : Str), ("answer_next" : Str)]

def looseL : List Str := loose0 ++ loose1 ++ loose2

abbrev R : PySem.W.OpenSpec := PySem.Challenge.rw_netnames_s01_answers
abbrev qv : Program := PySem.W.view R.prog [102]
theorem map3 {α β γ δ : Type} {o : Option α} {f : α → β} {g : α → γ} {h : α → δ} {a : β} {b : γ} {c : δ} (e1 : o.map f = some a) (e2 : o.map g = some b) (e3 : o.map h = some c) : o.map (fun s => (f s, g s, h s)) = some (a, b, c) := by
  cases o with
  | none => cases e1
  | some x =>
    rw [Option.map_some, Option.some.injEq] at e1 e2 e3
    rw [Option.map_some, e1, e2, e3]
end Nn
namespace Nn
open PySem PySem.Spec PyProof.Rows L2 PySem.W PySem.Calls HandSHeadRun
theorem runF1 (w : World) : ∀ os : OsState, (endF (stepQ (denQ tabQ) R.prog (w.withFollow "special-get-raises" false)) 7000 R.prog (w.withFollow "special-get-raises" false) os).map (fun s => looksF R.prog (boot_heap (w.withFollow "special-get-raises" false).params) s.abs) = some (true) := by
  intro os
  kernel_rfl
theorem runF2 (w : World) : ∀ os : OsState, (endF (stepQ (denQ tabQ) R.prog (w.withFollow "special-get-raises" false)) 7000 R.prog (w.withFollow "special-get-raises" false) os).map (fun s => seenQ qv looseL (importedModules R.prog.main.body) (fun s => xlAt qv [] s && recOk [] s) s.abs) = some (openGood qv looseL) := by
  intro os
  kernel_rfl
theorem runF3 (w : World) : ∀ os : OsState, (endF (stepQ (denQ tabQ) R.prog (w.withFollow "special-get-raises" false)) 7000 R.prog (w.withFollow "special-get-raises" false) os).map (fun s => obX s) = some (hookX.val (w.withFollow "special-get-raises" false)) := by
  intro os
  kernel_rfl
theorem runF (w : World) : RunEqS R qv hookX obX 7000 looseL (w.withFollow "special-get-raises" false) := fun os => map3 (runF1 w os) (runF2 w os) (runF3 w os)
theorem runT1 (w : World) : ∀ os : OsState, (endF (stepQ (denQ tabQ) R.prog (w.withFollow "special-get-raises" true)) 7000 R.prog (w.withFollow "special-get-raises" true) os).map (fun s => looksF R.prog (boot_heap (w.withFollow "special-get-raises" true).params) s.abs) = some (true) := by
  intro os
  kernel_rfl
theorem runT2 (w : World) : ∀ os : OsState, (endF (stepQ (denQ tabQ) R.prog (w.withFollow "special-get-raises" true)) 7000 R.prog (w.withFollow "special-get-raises" true) os).map (fun s => seenQ qv looseL (importedModules R.prog.main.body) (fun s => xlAt qv [] s && recOk [] s) s.abs) = some (openGood qv looseL) := by
  intro os
  kernel_rfl
theorem runT3 (w : World) : ∀ os : OsState, (endF (stepQ (denQ tabQ) R.prog (w.withFollow "special-get-raises" true)) 7000 R.prog (w.withFollow "special-get-raises" true) os).map (fun s => obX s) = some (hookX.val (w.withFollow "special-get-raises" true)) := by
  intro os
  kernel_rfl
theorem runT (w : World) : RunEqS R qv hookX obX 7000 looseL (w.withFollow "special-get-raises" true) := fun os => map3 (runT1 w os) (runT2 w os) (runT3 w os)
end Nn
namespace Nn
open PySem PySem.Spec PyProof.Rows L2
/-! ### the end of a Spec row over facts -/
open PySem.W (WData Codec OpenSpec) in
theorem walk_specE {r : OpenSpec} {k : Nat} {q : Program} {loose : List Str} {XP : (Str → Option Value) → Heap → Prop} {YP : World → Heap → Prop} {d : DefRec} {ps : List Str}
    (hwell : r.wellSaid = true) (hdf : d.params.defaults = []) (hlen : r.args.length = ps.length) (hr : Room k callerA)
    (F : ∀ (w : World) (mg : Str → Option Value) (fa : Addr) (h : Heap), YP w h → h.Ns mainGlobals mg → mg d.name = some (.ref fa) →
      ∃ (K : PySem.W.Frag) (fd : FuncData) (sp : Sp), K.In h ∧ (∀ (s : Shared) (us : List Value), us.length = ps.length → BindsTo s fd ⟨us, []⟩ (ps.zip us)) ∧
        (∀ (H : Hp) (xs : List V) (a : Codec.denoteAll r.args), OnlyF H → Codec.withinAll r.args a = true → Codec.app r.args r.asked a = true → DwAll K H xs (Codec.encAll r.args a) →
          sp xs H (fun v H' => Dw K H' v (r.ret.enc (Codec.app r.args r.f a))) fun _ _ _ => False) ∧
        ∀ base : Heap, K.In base → base.Ns mainGlobals mg → FnOk r.prog w K mg base CX0 k fa fd ps sp) :
    PySem.W.WalkOS q loose XP YP r d [] (fun f vs => PySem.call f vs) := by
  intro w s₀ s₁ mg mb G Y fa o pm cd doc dV kV ho hd hcd hD hmg hg args vals as hpre hlay hrd hwl hlo
  obtain ⟨a, e1, e2⟩ := PySem.W.os_pre_some hpre
  obtain ⟨e3, hwi⟩ := Codec.encAll_of_decAll r.args args a e1
  subst e3
  obtain ⟨K, fd, sp, KX, hb, hsp, hF⟩ := F w mg fa _ Y G.T.g hmg
  refine PySem.W.enter_call (codeAny_mono (spec_call (R := []) (cl := classAt s₀.heap) (d0 := r.ret.enc (Codec.app r.args r.f a)) KX G.T.g G.T.b G.T.builtins G.T.nolimit hg hwl (pl_encAll _ _) (layable_weight hlay) hr hF hb (by rw [encAll_len]; exact hlen)
    (fun H xs hO hS => hsp H xs a hO hwi e2 hS) fun H e s' => (fun z => z.elim)) fun r' s' hq => ?_)
  obtain ⟨u, as', rfl, h1, h2, h3, h4⟩ := hq
  exact ⟨.inl ⟨u, _, as', rfl, fun _ => rfl, h1, (OpenSpec.post_iff hwell hwi _ _).mpr rfl, fun z => Bool.noConfusion (show false = true from z)⟩, h2, h3, h4⟩
end Nn
namespace Nn
open PySem PySem.W PySem.Calls PyProof.Rows L2
theorem head_all (F : ∀ (w : World) (mg : Str → Option Value) (fa : Addr) (h : Heap), (∃ K : PySem.W.Frag, K.In h ∧ obsXK K = valX) → h.Ns mainGlobals mg → mg ("answers" : Str) = some (.ref fa) →
    ∃ (K : PySem.W.Frag) (fd : FuncData) (sp : Sp), K.In h ∧ (∀ (s : Shared) (us : List Value), us.length = (["calls"] : List Str).length → BindsTo s fd ⟨us, []⟩ ((["calls"] : List Str).zip us)) ∧
        (∀ (H : Hp) (xs : List V) (a : PySem.W.Codec.denoteAll R.args), OnlyF H → PySem.W.Codec.withinAll R.args a = true → PySem.W.Codec.app R.args R.asked a = true → DwAll K H xs (PySem.W.Codec.encAll R.args a) → sp xs H (fun v H' => Dw K H' v (R.ret.enc (PySem.W.Codec.app R.args R.f a))) fun _ _ _ => False) ∧
        ∀ base : Heap, K.In base → base.Ns mainGlobals mg → FnOk R.prog w K mg base CX0 18 fa fd ["calls"] sp) : R.Holds := by
  w_on
  refine HandSHeadRun.head_spec (r := R) (q := Nn.qv) (H := Nn.hookX) (ob := Nn.obX) (M := 7000) (loose := Nn.looseL) (d := HandSHeadRun.topDef Nn.R.prog 102) (kwd := []) Nn.obX_eq
    (by kernel_rfl) (fun s => by kernel_rfl) (fun w => byRow2 "special-get-raises" Nn.runF Nn.runT w) (by kernel_rfl) (by kernel_rfl) (by kernel_rfl) os_shapes (by decide +kernel) (by decide +kernel) ⟨rfl, rfl, rfl, rfl, rfl, by decide +kernel⟩ ?hw ?hc
  case hw => exact ⟨[.list [.int 9, .int 1]], by decide +kernel, by decide +kernel⟩
  case hc =>
    refine walk_specE (r := R) (k := 18) (ps := ["calls"]) (by decide +kernel) (by kernel_rfl) rfl ⟨rfl, by decide, by decide⟩ fun w mg fa h Y G hmg0 => ?_
    have e : (HandSHeadRun.topDef R.prog 102).name = ("answers" : PySem.Str) := by kernel_rfl
    rw [e] at hmg0
    exact F w mg fa h Y G hmg0
set_option maxHeartbeats 4000000
end Nn
/-! The mathematics of the specification: lists and numbers alone. -/
namespace Nn
open Dn01
theorem beginnings_eq (k : Nat) (n : List Nat) : beginnings k n = (List.range (n.length - k)).map fun j => n.take (k + 1 + j) := by
  unfold beginnings
  by_cases h : k ≤ n.length
  · have e : n.length + 1 = (k + 1) + (n.length - k) := by omega
    rw [e, List.range_add, List.filter_append]
    have e1 : (List.range (k + 1)).filter (fun i => decide (k < i)) = [] := by
      refine List.filter_eq_nil_iff.mpr fun i hi => ?_
      have := List.mem_range.mp hi
      simp
      omega
    have e2 : ((List.range (n.length - k)).map (k + 1 + ·)).filter (fun i => decide (k < i)) = (List.range (n.length - k)).map (k + 1 + ·) := by
      refine List.filter_eq_self.mpr fun i hi => ?_
      obtain ⟨j, _, rfl⟩ := List.mem_map.mp hi
      simp
      omega
    rw [e1, e2, List.nil_append, List.map_map]
    rfl
  · have e0 : n.length - k = 0 := by omega
    rw [e0]
    have e1 : (List.range (n.length + 1)).filter (fun i => decide (k < i)) = [] := by
      refine List.filter_eq_nil_iff.mpr fun i hi => ?_
      have := List.mem_range.mp hi
      simp
      omega
    rw [e1]
    rfl
theorem cut_some {z : Zone} {n : List Nat} {j : Nat} (hj : j < n.length - z.apex.length) (h : (z.of (n.take (z.apex.length + 1 + j)) 3).isEmpty = false) (hb : ∀ i < j, (z.of (n.take (z.apex.length + 1 + i)) 3).isEmpty = true) :
    z.cut n = some (n.take (z.apex.length + 1 + j)) := by
  unfold Zone.cut
  rw [beginnings_eq, List.find?_map]
  have e : (List.range (n.length - z.apex.length)).find? ((fun b => !(z.of b 3).isEmpty) ∘ fun j => n.take (z.apex.length + 1 + j)) = some j := by
    rw [List.find?_range_eq_some]
    refine ⟨by simp [Function.comp, h], List.mem_range.mpr hj, fun i hi => by simp [Function.comp, hb i hi]⟩
  rw [e]
  rfl
theorem cut_none {z : Zone} {n : List Nat} (hb : ∀ i < n.length - z.apex.length, (z.of (n.take (z.apex.length + 1 + i)) 3).isEmpty = true) : z.cut n = none := by
  unfold Zone.cut
  rw [beginnings_eq, List.find?_map]
  have e : (List.range (n.length - z.apex.length)).find? ((fun b => !(z.of b 3).isEmpty) ∘ fun j => n.take (z.apex.length + 1 + j)) = none := by
    rw [List.find?_range_eq_none]
    intro i hi
    simp [Function.comp, hb i hi]
  rw [e]
  rfl
theorem foldl_min : ∀ (l : List Nat) (x : Nat), (l.foldl min x = x ∨ l.foldl min x ∈ l) ∧ l.foldl min x ≤ x ∧ ∀ y ∈ l, l.foldl min x ≤ y
  | [], x => ⟨.inl rfl, Nat.le_refl _, fun y hy => nomatch hy⟩
  | a :: l, x => by
    obtain ⟨h1, h2, h3⟩ := foldl_min l (min x a)
    have h4 : (a :: l).foldl min x = l.foldl min (min x a) := rfl
    rw [h4]
    refine ⟨?_, Nat.le_trans h2 (Nat.min_le_left _ _), fun y hy => ?_⟩
    · rcases h1 with e | e
      · rw [e]
        by_cases hxa : x ≤ a
        · exact .inl (Nat.min_eq_left hxa)
        · exact .inr (by rw [Nat.min_eq_right (by omega)]; exact List.mem_cons_self ..)
      · exact .inr (List.mem_cons_of_mem _ e)
    · rcases List.mem_cons.mp hy with rfl | hy
      · exact Nat.le_trans h2 (Nat.min_le_right _ _)
      · exact h3 y hy
theorem least_mem {l : List Nat} (h : l ≠ []) : least l ∈ l := by
  cases l with
  | nil => exact absurd rfl h
  | cons x r =>
    rcases (foldl_min r x).1 with e | e
    · show r.foldl min x ∈ _
      rw [e]
      exact List.mem_cons_self ..
    · exact List.mem_cons_of_mem _ e
theorem least_le {l : List Nat} {y : Nat} (h : y ∈ l) : least l ≤ y := by
  cases l with
  | nil => cases h
  | cons x r =>
    rcases List.mem_cons.mp h with rfl | h
    · exact (foldl_min r y).2.1
    · exact (foldl_min r x).2.2 y h
/-- the longest beginning of a name that there is -/
def closest (z : Zone) (n : List Nat) : List Nat := ((beginnings z.apex.length n).filter z.has).getLast?.getD z.apex
theorem closest_eq {z : Zone} {n : List Nat} {m : Nat} (h1 : z.apex.length ≤ m) (h2 : m ≤ n.length) (ha : n.take z.apex.length = z.apex) (hm : z.has (n.take m) = true) (hb : ∀ j, m < j → j ≤ n.length → z.has (n.take j) = false) :
    closest z n = n.take m := by
  unfold closest
  rw [beginnings_eq, show n.length - z.apex.length = (m - z.apex.length) + (n.length - m) by omega, List.range_add, List.map_append, List.filter_append]
  have e2 : (((List.range (n.length - m)).map (m - z.apex.length + ·)).map fun j => n.take (z.apex.length + 1 + j)).filter z.has = [] := by
    refine List.filter_eq_nil_iff.mpr fun b hb2 => ?_
    obtain ⟨j, hj, rfl⟩ := List.mem_map.mp hb2
    obtain ⟨i, hi, rfl⟩ := List.mem_map.mp hj
    have := List.mem_range.mp hi
    rw [hb _ (by omega) (by omega)]
    exact Bool.false_ne_true
  rw [e2, List.append_nil]
  by_cases hk : m = z.apex.length
  · rw [hk, Nat.sub_self]
    exact ha.symm
  · rw [show m - z.apex.length = (m - z.apex.length - 1) + 1 by omega, List.range_succ, List.map_append, List.filter_append, List.map_singleton]
    have e3 : n.take (z.apex.length + 1 + (m - z.apex.length - 1)) = n.take m := by rw [show z.apex.length + 1 + (m - z.apex.length - 1) = m by omega]
    rw [e3, List.filter_cons_of_pos hm, List.filter_nil, List.getLast?_append]
    rfl
def srt (l : List Nat) : List Nat := l.mergeSort
theorem srt_eq {l m : List Nat} (hp : m.Perm l) (hs : m.Pairwise (· ≤ ·)) : m = srt l := by
  refine List.Perm.eq_of_pairwise (le := (· ≤ ·)) (fun a b _ _ h1 h2 => Nat.le_antisymm h1 h2) hs ?_ (hp.trans (List.mergeSort_perm l _).symm)
  have := List.pairwise_mergeSort (le := fun a b : Nat => decide (a ≤ b)) (fun a b c h1 h2 => by simp at *; omega) (fun a b => by simp; omega) l
  simpa [srt] using this
theorem answers_cut {z : Zone} {n b : List Nat} {k : Nat} (h : z.cut n = some b) : z.answers n k = .refers b (srt ((z.of b 3).flatMap fun r => r.value)) (least ((z.of b 3).map fun r => r.life)) := by
  unfold Zone.answers
  rw [h]
  rfl
theorem answers_has {z : Zone} {n : List Nat} {k : Nat} (h : z.cut n = none) (h2 : z.has n = true) : z.answers n k = z.tells n k := by
  unfold Zone.answers
  rw [h]
  exact if_pos h2
theorem answers_others {z : Zone} {n : List Nat} {k : Nat} (h : z.cut n = none) (h2 : z.has n = false) (h3 : (z.recs.any fun r => r.name == closest z n ++ [0]) = true) : z.answers n k = z.tells (closest z n ++ [0]) k := by
  unfold Zone.answers
  rw [h]
  refine (if_neg (by rw [h2]; exact Bool.false_ne_true)).trans (if_pos ?_)
  exact h3
theorem answers_never {z : Zone} {n : List Nat} {k : Nat} (h : z.cut n = none) (h2 : z.has n = false) (h3 : (z.recs.any fun r => r.name == closest z n ++ [0]) = false) : z.answers n k = .never z.neg := by
  unfold Zone.answers
  rw [h]
  refine (if_neg (by rw [h2]; exact Bool.false_ne_true)).trans (if_neg ?_)
  show ¬ (z.recs.any fun r => r.name == closest z n ++ [0]) = true
  rw [h3]
  exact Bool.false_ne_true
/-! ### a server's zones -/
section
variable {α : Type}
def lookH (hs : List (α × Held)) (l : List Nat) : Option (α × Held) := hs.find? fun h => h.2.zone.apex == l
def lgH (hs : List (α × Held)) (n : List Nat) : Nat → Option (α × Held)
  | 0 => lookH hs (n.take 0)
  | k + 1 => match lookH hs (n.take (k + 1)) with
    | some h => some h
    | none => lgH hs n k
theorem lookH_some {hs : List (α × Held)} {l : List Nat} {h : α × Held} (e : lookH hs l = some h) : h ∈ hs ∧ h.2.zone.apex = l :=
  ⟨List.mem_of_find?_eq_some e, by simpa using List.find?_some e⟩
theorem lookH_none {hs : List (α × Held)} {l : List Nat} (e : lookH hs l = none) : ∀ h ∈ hs, h.2.zone.apex ≠ l := fun h m z => by
  have := List.find?_eq_none.mp e h m
  simp [z] at this
theorem lookH_of {hs : List (α × Held)} (u : (hs.map fun h => h.2.zone.apex).Nodup) {h : α × Held} (m : h ∈ hs) : lookH hs h.2.zone.apex = some h := by
  induction hs with
  | nil => cases m
  | cons a r ih =>
    rw [List.map_cons, List.nodup_cons] at u
    unfold lookH at ih ⊢
    rcases List.mem_cons.mp m with rfl | m
    · rw [List.find?_cons_of_pos (by simp)]
    · rw [List.find?_cons_of_neg, ih u.2 m]
      intro z
      have e : a.2.zone.apex = h.2.zone.apex := by simpa using z
      exact u.1 (List.mem_map.mpr ⟨h, m, e.symm⟩)
def best (m : Option Held) (z : Held) : Option Held := match m with
  | none => some z
  | some y => if y.zone.apex.length < z.zone.apex.length then some z else some y
theorem best_fold : ∀ (l : List Held) (m : Option Held), (m = none → l = [] → l.foldl best m = none) ∧ ((m ≠ none ∨ l ≠ []) → ∃ y, l.foldl best m = some y ∧ (y ∈ l ∨ m = some y) ∧ (∀ z ∈ l, z.zone.apex.length ≤ y.zone.apex.length) ∧ ∀ x, m = some x → x.zone.apex.length ≤ y.zone.apex.length)
  | [], m => ⟨fun e _ => e, fun h => by
      cases m with
      | none => exact absurd rfl (h.resolve_right fun z => z rfl)
      | some y => exact ⟨y, rfl, .inr rfl, fun z hz => (nomatch hz), fun x e => by cases e; exact Nat.le_refl _⟩⟩
  | a :: l, m => ⟨fun _ e => (nomatch e), fun _ => by
      obtain ⟨_, h2⟩ := best_fold l (best m a)
      have hb : ∃ b, best m a = some b ∧ (b = a ∨ m = some b) ∧ a.zone.apex.length ≤ b.zone.apex.length ∧ ∀ x, m = some x → x.zone.apex.length ≤ b.zone.apex.length := by
        cases m with
        | none => exact ⟨a, rfl, .inl rfl, Nat.le_refl _, fun x e => (nomatch e)⟩
        | some y =>
          unfold best
          by_cases c : y.zone.apex.length < a.zone.apex.length
          · exact ⟨a, if_pos c, .inl rfl, Nat.le_refl _, fun x e => by cases e; omega⟩
          · exact ⟨y, if_neg c, .inr rfl, by omega, fun x e => by cases e; exact Nat.le_refl _⟩
      obtain ⟨b, e, h3, h4, h5⟩ := hb
      obtain ⟨y, e2, h6, h7, h8⟩ := h2 (.inl (by rw [e]; exact fun z => (nomatch z)))
      refine ⟨y, e2, ?_, fun z hz => ?_, fun x ex => Nat.le_trans (h5 x ex) (h8 b e)⟩
      · rcases h6 with h6 | h6
        · exact .inl (List.mem_cons_of_mem _ h6)
        · rw [e] at h6
          cases h6
          rcases h3 with rfl | h3
          · exact .inl (List.mem_cons_self ..)
          · exact .inr h3
      · rcases List.mem_cons.mp hz with rfl | hz
        · exact Nat.le_trans h4 (h8 b e)
        · exact h7 z hz⟩
theorem zoneOf_fold (s : Server) (n : List Nat) : s.zoneOf n = (s.zones.filter fun z => z.zone.apex.isPrefixOf n).foldl best none := rfl
theorem prefix_take {m n : List Nat} (h : m.isPrefixOf n = true) : n.take m.length = m ∧ m.length ≤ n.length := by
  have h := List.isPrefixOf_iff_prefix.mp h
  exact ⟨(List.prefix_iff_eq_take.mp h).symm, h.length_le⟩
theorem zoneOf_eq {s : Server} {hs : List (α × Held)} (hz : hs.map (·.2) = s.zones) (u : (hs.map fun h => h.2.zone.apex).Nodup) (n : List Nat) : s.zoneOf n = (lgH hs n n.length).map (·.2) := by
  rw [zoneOf_fold]
  have mem : ∀ z ∈ s.zones, ∃ h ∈ hs, h.2 = z := fun z m => by
    rw [← hz] at m
    obtain ⟨h, m1, e⟩ := List.mem_map.mp m
    exact ⟨h, m1, e⟩
  obtain ⟨b1, b2⟩ := best_fold (s.zones.filter fun z => z.zone.apex.isPrefixOf n) none
  have noLk : ∀ k, k ≤ n.length → (∀ z ∈ s.zones.filter fun z => z.zone.apex.isPrefixOf n, z.zone.apex.length ≠ k) → lookH hs (n.take k) = none := fun k hk h => by
    cases e : lookH hs (n.take k) with
    | none => rfl
    | some q =>
      obtain ⟨m1, m2⟩ := lookH_some e
      refine absurd ?_ (h q.2 (List.mem_filter.mpr ⟨by rw [← hz]; exact List.mem_map.mpr ⟨q, m1, rfl⟩, ?_⟩))
      · rw [m2, List.length_take]
        omega
      · rw [m2]
        exact List.isPrefixOf_iff_prefix.mpr (List.take_prefix _ _)
  by_cases hl : (s.zones.filter fun z => z.zone.apex.isPrefixOf n) = []
  · rw [b1 rfl hl]
    have : ∀ k, k ≤ n.length → lgH hs n k = none := by
      intro k
      induction k with
      | zero => intro hk; exact noLk 0 hk (by rw [hl]; exact fun z hz => (nomatch hz))
      | succ k ih =>
        intro hk
        unfold lgH
        rw [noLk (k + 1) hk (by rw [hl]; exact fun z hz => (nomatch hz))]
        exact ih (by omega)
    rw [this _ (Nat.le_refl _)]
    rfl
  · obtain ⟨y, e, h1, h2, _⟩ := b2 (.inr hl)
    rw [e]
    obtain ⟨my, py⟩ := List.mem_filter.mp (h1.resolve_right fun z => (nomatch z))
    obtain ⟨t1, t2⟩ := prefix_take py
    obtain ⟨h, mh, rfl⟩ := mem y my
    have lk : lookH hs (n.take h.2.zone.apex.length) = some h := by rw [t1]; exact lookH_of u mh
    have : ∀ d, h.2.zone.apex.length + d ≤ n.length → lgH hs n (h.2.zone.apex.length + d) = some h := by
      intro d
      induction d with
      | zero =>
        intro _
        rw [Nat.add_zero]
        cases e2 : h.2.zone.apex.length with
        | zero => rw [e2] at lk; exact lk
        | succ k => rw [e2] at lk; unfold lgH; rw [lk]
      | succ d ih =>
        intro hd
        rw [show h.2.zone.apex.length + (d + 1) = (h.2.zone.apex.length + d) + 1 by omega]
        unfold lgH
        rw [noLk _ (by omega) (fun z hz => by have := h2 z hz; omega)]
        exact ih (by omega)
    have := this (n.length - h.2.zone.apex.length) (by omega)
    rw [show h.2.zone.apex.length + (n.length - h.2.zone.apex.length) = n.length by omega] at this
    rw [this]
    rfl
theorem lgH_prefix {hs : List (α × Held)} {n : List Nat} {h : α × Held} : ∀ {k : Nat}, lgH hs n k = some h → h ∈ hs ∧ ∃ j, h.2.zone.apex = n.take j
  | 0, e => ⟨(lookH_some e).1, 0, (lookH_some e).2⟩
  | k + 1, e => by
    unfold lgH at e
    cases e2 : lookH hs (n.take (k + 1)) with
    | some q =>
      rw [e2] at e
      cases e
      exact ⟨(lookH_some e2).1, _, (lookH_some e2).2⟩
    | none =>
      rw [e2] at e
      exact lgH_prefix e
end
end Nn

namespace Nn
open PySem PySem.Spec PyProof.Rows L2
/-! ### constants, fields -/
section
variable {X : Cx} {o e value : Expr} {f x : Str} {pos pos' tpos : Pos} {ta tv : TE} {C : Addr}
theorem kn {i : Int} (h : ∃ t, X.mg x = some (.int i t)) (hg : Gl X x := by rfl) (hd : (x == ("__debug__" : Str)) = false := by decide) : PE X (.Name x pos) (tC (.int i)) := by
  obtain ⟨t, h⟩ := h
  exact pe_glob hg h ⟨t, rfl⟩ hd
def tF (C : Addr) (ta : TE) (f : Str) : TE := fun σ H Q => ta σ H fun x H1 => ∃ a dx fs v, x = .ref a ∧ H1 a = some (.ins C dx fs) ∧ fs.lookup f = some v ∧ Q v H1
theorem kf (he : PE X e ta) (c : Cls X.K C) (n : NoAttr X.K C f) (hb : attributeBase e f X.env (eval e X.env) = eval e X.env := by rfl) : PE X (.Attribute e f pos) (tF C ta f) :=
  ⟨fun ps s0 st0 H0 Q0 I0 h0 => attr_of hb (thn (he.run ps s0 st0 H0 _ I0 h0) fun u s1 ⟨x, H1, I1, rx, a, dx, fs, v, ex, ea, l, q⟩ => by
    subst ex
    cases (show u = Value.ref a from rx)
    exact getattr_ok I1 ea c n l fun _ _ I2 ru => ⟨v, H1, I2, ru, q⟩)⟩
def sF (C : Addr) (ta tv : TE) (f : Str) : TS := fun D σ H => tv σ H fun y H1 => ta σ H1 fun x H2 => ∃ a dx fs, x = .ref a ∧ H2 a = some (.ins C dx fs) ∧ fs.length < 1000 ∧ D.nx σ (upd H2 a (.ins C dx (putF f y fs)))
theorem kfs (ha : PE X o ta) (hv : PE X value tv) (c : Cls X.K C) (n : NoAttr X.K C f) (hs : swapsWith value (some (.Attribute o f pos')) pos.line X.env = pure false := by rfl) : PS X (.Assign [.Attribute o f pos'] value pos) (sF C ta tv f) :=
  ⟨fun ps s0 st0 H0 D0 I0 h0 => plainObj_wpAny_Assign_Attribute (thn (hv.run ps s0 st0 H0 _ I0 h0) fun u s1 ⟨y, H1, I1, ry, q⟩ => thn (ha.run ps s1 st0 H1 _ I1 q) fun ov s2 ⟨x, H2, I2, rx, a, dx, fs, ex, ea, l, q2⟩ => by
    subst ex
    cases (show ov = Value.ref a from rx)
    exact setattr_ok I2 ea c n l ry fun _ I3 => ⟨st0, _, I3, q2⟩) hs⟩
def sFA (C : Addr) (ta tv : TE) (rd : V → V → Hp → VK → Prop) (f : Str) : TS := fun D σ H => ta σ H fun x H1 => ∃ a dx fs v, x = .ref a ∧ H1 a = some (.ins C dx fs) ∧ fs.lookup f = some v ∧
  tv σ H1 fun y H2 => rd v y H2 fun z H3 => ∃ dx' fs', H3 a = some (.ins C dx' fs') ∧ fs'.length < 1000 ∧ D.nx σ (upd H3 a (.ins C dx' (putF f z fs')))
theorem kfa {op : Operator} {rd : V → V → Hp → VK → Prop} (ha : PE X o ta) (hv : PE X value tv) (hop : InOp X op rd) (c : Cls X.K C) (n : NoAttr X.K C f) : PS X (.AugAssign (.Attribute o f tpos) op value pos) (sFA C ta tv rd f) :=
  ⟨fun ps s0 st0 H0 D0 I0 h0 => wpAny_AugAssign_AttributeAny (thn (ha.run ps s0 st0 H0 _ I0 h0) fun ov s1 ⟨x, H1, I1, rx, a, dx, fs, v, ex, ea, l, q⟩ => by
    subst ex
    cases (show ov = Value.ref a from rx)
    exact getattr_ok I1 ea c n l fun u s2 I2 ru => thn (hv.run ps s2 st0 H1 _ I2 q) fun w3 s3 ⟨y, H2, I3, ry, q3⟩ => thn (hop ps s3 st0 H2 v y u w3 _ I3 ru ry q3) fun w4 s4 ⟨z, H3, I4, rz, dx', fs', ea', l', q4⟩ =>
      setattr_ok I4 ea' c n l' rz fun s5 I5 => ⟨st0, _, I5, q4⟩)⟩
end
/-! ### a walk over what is a list or a tuple -/
/-! ### the facts' dict: its keys are (name, sort) -/
def nkey (k : List Nat × Nat) : NestedKey := .tup [.tup (k.1.map fun (n : Nat) => NestedKey.num (n : Int)), .num (k.2 : Int)]
theorem nums_inj : ∀ {a b : List Nat}, (a.map fun (n : Nat) => NestedKey.num (n : Int)) = (b.map fun (n : Nat) => NestedKey.num (n : Int)) → a = b
  | [], [], _ => rfl
  | [], _ :: _, h => by simp at h
  | _ :: _, [], h => by simp at h
  | x :: a, y :: b, h => by
    simp only [List.map_cons, List.cons.injEq, NestedKey.num.injEq] at h
    have e : x = y := by omega
    rw [e, nums_inj h.2]
theorem nkey_inj {a b : List Nat × Nat} (h : nkey a = nkey b) : a = b := by
  obtain ⟨a1, a2⟩ := a
  obtain ⟨b1, b2⟩ := b
  simp only [nkey, NestedKey.tup.injEq, List.cons.injEq, NestedKey.num.injEq, and_true] at h
  rw [nums_inj h.1, show a2 = b2 by omega]
theorem nums_depth : ∀ a : List Nat, NestedKey.depthAll (a.map fun (n : Nat) => NestedKey.num (n : Int)) = 0
  | [] => by simp [NestedKey.depthAll]
  | x :: a => by simp [NestedKey.depthAll, NestedKey.depth, nums_depth a]
theorem nkey_depth (k : List Nat × Nat) : (nkey k).depth ≤ 8 := by
  simp [nkey, NestedKey.depth, NestedKey.depthAll, nums_depth]
abbrev En : Type := (List Nat × Nat) × Addr × Addr
def ents (xs : List En) : List (NestedKey × Addr × Value) := xs.map fun x => (nkey x.1, x.2.1, Value.ref x.2.2)
def look (xs : List En) (k : List Nat × Nat) : Option Addr := (xs.find? fun x => decide (x.1 = k)).map fun x => x.2.2
def dropE (xs : List En) (k : List Nat × Nat) : List En := xs.filter fun x => decide (x.1 ≠ k)
def factsO (P : Program) (w : World) (d : Addr) (xs : List En) : HO := .ext fun h => ∃ o es ep, h.get? d = some o ∧ o.ExactDict ∧ o.data = .dict es ep ∧ es.toList = (ents xs).map (entryOfKey (nestedKind P w))
/-- the key's tuple stands at a -/
def KeyT (H : Hp) (k : List Nat × Nat) (a : Addr) : Prop := ∃ na, H a = some (.tup [.ref na, nv k.2]) ∧ H na = some (.tup (k.1.map nv))
structure ND (P : Program) (w : World) (H : Hp) (d : Addr) (xs : List En) : Prop where
  at_ : H d = some (factsO P w d xs)
  keys : ∀ x ∈ xs, KeyT H x.1 x.2.1
  nd : (xs.map (·.1)).Nodup
  low : (d == sysModules) = false
  sz : xs.length ≤ sizeLine
theorem atKey_ents (k : List Nat × Nat) : ∀ xs : List En, (atKey (ents xs) (nkey k)).map (·.2) = (look xs k).map Value.ref
  | [] => rfl
  | x :: xs => by
    have ih := atKey_ents k xs
    unfold atKey look ents at ih ⊢
    by_cases e : x.1 = k
    · simp [List.find?_cons, e]
    · have e2 : ¬ nkey x.1 = nkey k := fun z => e (nkey_inj z)
      simp only [List.map_cons, List.find?_cons, e, e2, decide_false]
      exact ih
theorem dropH_ents (k : List Nat × Nat) : ∀ xs : List En, DT.dropH (ents xs) (nkey k) = ents (dropE xs k)
  | [] => rfl
  | x :: xs => by
    have ih := dropH_ents k xs
    unfold DT.dropH dropE ents at ih ⊢
    by_cases e : x.1 = k
    · simp only [List.map_cons, e, ne_eq, not_true_eq_false, decide_false, Bool.false_eq_true, not_false_eq_true, List.filter_cons_of_neg]
      exact ih
    · have e2 : ¬ nkey x.1 = nkey k := fun z => e (nkey_inj z)
      rw [List.filter_cons_of_pos (by simpa using e), List.map_cons, List.map_cons, List.filter_cons_of_pos (by simpa using e2), ih]
theorem keys_nodup : ∀ {xs : List En}, (xs.map (·.1)).Nodup → ((ents xs).map (·.1)).Nodup
  | [], _ => by simp [ents]
  | x :: xs, h => by
    simp only [List.map_cons, List.nodup_cons] at h
    simp only [ents, List.map_cons, List.nodup_cons]
    refine ⟨fun m => h.1 ?_, by simpa [ents] using keys_nodup h.2⟩
    simp only [List.map_map, List.mem_map, Function.comp_apply] at m ⊢
    obtain ⟨y, hy, e⟩ := m
    exact ⟨y, hy, nkey_inj e⟩
theorem vals_nums {h : Heap} : ∀ {l : List Nat} {us : List Value}, Vals (l.map nv) us → NestedAll h (l.map fun (n : Nat) => NestedKey.num (n : Int)) us
  | [], us, r => by cases r; exact .nil
  | n :: l, us, r => by
    cases r with
    | cons r1 r2 =>
      obtain ⟨t, rfl⟩ := (show ∃ t, _ = Value.int (n : Int) t from r1)
      exact .cons (.int _ t) (vals_nums r2)
section
variable {P : Program} {w : World} {H : Hp} {h : Heap} {d a : Addr} {xs : List En} {k : List Nat × Nat}
theorem key_is (ok : HOk P w H h) (x : KeyT H k a) : (nestedKind P w).is h (nkey k) a := by
  obtain ⟨na, e1, e2⟩ := x
  obtain ⟨_, its, r, o, h1, h2, n1, h3⟩ := (show ObjOk P w H h a (.tup _) from ok a _ e1)
  obtain ⟨_, its2, r2, o2, g1, g2, n2, g3⟩ := (show ObjOk P w H h na (.tup _) from ok na _ e2)
  refine ⟨.tup h1 h2 h3 ?_, nkey_depth k⟩
  obtain ⟨u1, u2, rfl, ra, rb⟩ := vals2 r
  cases (show u1 = Value.ref na from ra)
  obtain ⟨t, rfl⟩ := (show ∃ t, u2 = Value.int (k.2 : Int) t from rb)
  exact .cons (.tup g1 g2 g3 (by simpa using vals_nums r2)) (.cons (.int _ t) .nil)
theorem nd_of (ok : HOk P w H h) (x : ND P w H d xs) : h.DictOfH (nestedKind P w) d (ents xs) := by
  obtain ⟨⟨o, es, ep, h1, h2, h3, h4⟩, _⟩ := (show ObjOk P w H h d (factsO P w d xs) from ok d _ x.at_)
  refine ⟨o, es, ep, h1, h2, h3, h4, fun y hy => ?_, keys_nodup x.nd⟩
  obtain ⟨z, hz, rfl⟩ := List.mem_map.mp hy
  exact key_is ok (x.keys z hz)
theorem nd_ok {H' : Hp} {h' : Heap} (dd : h'.DictOfH (nestedKind P w) d (ents xs)) : ObjOk P w H' h' d (factsO P w d xs) := by
  obtain ⟨o, es, ep, h1, h2, h3, h4, _⟩ := dd
  exact ⟨⟨o, es, ep, h1, h2, h3, h4⟩, ⟨o, h1⟩, fun g1 g2 ⟨o', es', ep', q1, q2⟩ kp => ⟨o', es', ep', kp _ q1, q2⟩⟩
theorem look_none (h : look xs k = none) : dropE xs k = xs := by
  refine List.filter_eq_self.mpr fun y hy => decide_eq_true fun z => ?_
  unfold look at h
  rw [Option.map_eq_none_iff, List.find?_eq_none] at h
  exact h y hy (decide_eq_true z)
end
section
variable {X : Cx} {ps : List (Addr × Obj)} {st0 : L2.St} {H : Hp} {s : Shared} {d b : Addr} {xs : List En} {k : List Nat × Nat} {A : Around} {E : Value → Shared → Prop}
theorem room8 {A : Around} (hu : A.units + 64 < cLine) {P : Program} {w : World} : (nestedKind P w).room A.in1 := by
  show A.units + 1 + 8 < cLine
  omega
def rf : Option Addr → V
  | none => .non
  | some a => .ref a
theorem n_get {Q : Value → Shared → Prop} (hu : A.units + 64 < cLine) (I : Inv X ps st0 H s) (g : ND X.prog X.w H d xs) (kt : KeyT H k b) (q : ∀ u s', Inv X ps st0 H s' → RelV (rf (look xs k)) u → Q u s') :
    wpAny (model X.prog X.w) A (call (.builtin "dict.get") [.ref d, .ref b]) Q E s := by
  have dd := nd_of I.hok g
  refine call_meetsIn PySem.F.slot_dict_get dd.typeIs PySem.F.entry_dict_get (PySem.F.args_dict_get_2 _ _) (meetsH_dict_get (nestedKind X.prog X.w) d b g.low) ⟨room8 hu, nkey k, _, key_is I.hok kt, dd, q _ _ (I.tok _) ?_⟩
  rw [atKey_ents]
  cases look xs k <;> rfl
theorem n_write {h' : Heap} {t' : Nat} {ys : List En} (I : Inv X ps st0 H s) (g : ND X.prog X.w H d xs) (hs : Heap.SameBut d s.heap h') (dd : h'.DictOfH (nestedKind X.prog X.w) d (ents ys)) :
    Inv X ps st0 (upd H d (factsO X.prog X.w d ys)) { s with heap := h', toks := t' } := by
  have he : ∃ q, h'.get? d = some q := let ⟨q, _, _, hq, _⟩ := dd; ⟨q, hq⟩
  exact d_write I (by rw [g.at_]; exact True.intro) hs he (nd_ok dd)
theorem n_pop {u : Value} {v0 : V} {Q : Value → Shared → Prop} (hu : A.units + 64 < cLine) (I : Inv X ps st0 H s) (g : ND X.prog X.w H d xs) (kt : KeyT H k b) (ru : RelV v0 u)
    (q : ∀ v u s', Inv X ps st0 (upd H d (factsO X.prog X.w d (dropE xs k))) s' → RelV v u → Q u s') : wpAny (model X.prog X.w) A (call (.builtin "dict.pop") [.ref d, .ref b, u]) Q E s := by
  have dd := nd_of I.hok g
  have hz : (ents xs).length ≤ sizeLine := by
    have := g.sz
    simpa [ents] using this
  refine call_meetsIn PySem.F.slot_dict_pop dd.typeIs PySem.F.entry_dict_pop (PySem.F.args_dict_pop_3 _ _ _) (DT.meetsPop (knd := nestedKind X.prog X.w) (k := nkey k) u g.low)
    ⟨_, room8 hu, key_is I.hok kt, dd, hz, fun hn tk => ?_, fun p hp h' tk dd' hs => ?_⟩
  · have e : look xs k = none := by
      have := atKey_ents k xs
      rw [hn] at this
      cases z : look xs k with
      | none => rfl
      | some a => rw [z] at this; cases this
    have I2 := I.tok tk
    rw [← upd_id g.at_] at I2
    have e2 := look_none e
    exact q _ _ _ (by rw [e2]; exact I2) ru
  · rw [dropH_ents] at dd'
    have hv : some p.2 = (look xs k).map Value.ref := by
      have := atKey_ents k xs
      rw [hp] at this
      exact this
    cases z : look xs k with
    | none => rw [z] at hv; cases hv
    | some fa =>
      rw [z] at hv
      have e : p.2 = Value.ref fa := Option.some.inj hv
      exact q (.ref fa) _ _ (n_write I g hs dd') e
theorem n_set {fa : Addr} {Q : Unit → Shared → Prop} (hu : A.units + 64 < cLine) (I : Inv X ps st0 H s) (g : ND X.prog X.w H d xs) (kt : KeyT H k b) (hn : look xs k = none)
    (q : ∀ s', Inv X ps st0 (upd H d (factsO X.prog X.w d (xs ++ [(k, b, fa)]))) s' → Q () s') : wpAny (model X.prog X.w) A (setItem (.ref d) (.ref b) (.ref fa)) Q E s := by
  have dd := nd_of I.hok g
  have hz : (ents xs).length ≤ sizeLine := by
    have := g.sz
    simpa [ents] using this
  refine wpAny_setItem_heap (hsz := hz) (room8 hu) (key_is I.hok kt) dd fun h' dd' hs => ?_
  have e : atKey (ents xs) (nkey k) = none := by
    have := atKey_ents k xs
    rw [hn] at this
    exact Option.map_eq_none_iff.mp this
  rw [storedH_new e] at dd'
  have e2 : ents (xs ++ [(k, b, fa)]) = ents xs ++ [(nkey k, b, Value.ref fa)] := by simp [ents]
  rw [← e2] at dd'
  exact q _ (n_write I g hs dd')
theorem n_type (I : Inv X ps st0 H s) (g : ND X.prog X.w H d xs) : s.TypeIs (.ref d) "dict" ∧ ∀ b, Value.ref d = .ref b → ∃ ob, s.heap.get? b = some ob ∧ ob.dict = none := by
  have dd := nd_of I.hok g
  refine ⟨dd.typeIs, fun b q => ?_⟩
  cases q
  obtain ⟨ob, _, _, h1, h2, _⟩ := dd
  exact ⟨ob, h1, h2.2.1⟩
end
section
variable {X : Cx} {o e f i value : Expr} {apos cpos pos pos' : Pos} {td ty tz tv : TE}
/-- d.get(k) -/
def tNGet (P : Program) (w : World) (td ty : TE) : TE := fun σ H Q => td σ H fun x H1 => ∃ d xs, x = .ref d ∧ ND P w H1 d xs ∧ ty σ H1 fun y H2 => ∃ k b, y = .ref b ∧ ND P w H2 d xs ∧ KeyT H2 k b ∧ Q (rf (look xs k)) H2
theorem knget (hu : X.A.units + 64 < cLine) (ho : PE X o td) (he : PE X e ty) (m : M1 X o "get" apos e cpos) : PE X (.Call (.Attribute o "get" apos) [e] [] cpos) (tNGet X.prog X.w td ty) :=
  ⟨fun ps s0 st0 H0 Q0 I0 h0 => wpAny_Call_method m.base m.few m.line PySem.F.plainAttrs_dict PySem.F.slot_dict_get PySem.F.type_dict_get (thn (ho.run ps s0 st0 H0 _ I0 h0) fun u s1 ⟨x, H1, I1, rx, d, xs, ex, g, q1⟩ => by
    subst ex
    cases (show u = Value.ref d from rx)
    obtain ⟨t1, t2⟩ := n_type I1 g
    refine ⟨t1, t2, ?_⟩
    rw [m.trees]
    refine Calls.callWith_builtin rfl (Calls.evalArgs_plain (Calls.spliced_cons (thn (he.run ps s1 st0 H1 _ I1 q1) fun iv s2 ⟨y, H2, I2, ry, k, b, ey, g2, kt, q2⟩ => Calls.spliced_nil ?_)))
    subst ey
    cases (show iv = Value.ref b from ry)
    exact n_get hu I2 g2 kt fun u' s3 I3 r3 => ⟨_, H2, I3, r3, q2⟩)⟩
/-- d.pop(k, x) -/
def tNPop (P : Program) (w : World) (td ty tz : TE) : TE := fun σ H Q => td σ H fun x H1 => ∃ d xs, x = .ref d ∧ ND P w H1 d xs ∧ ty σ H1 fun y H2 => tz σ H2 fun _ H3 => ∃ k b, y = .ref b ∧ ND P w H3 d xs ∧ KeyT H3 k b ∧ ∀ v, Q v (upd H3 d (factsO P w d (dropE xs k)))
theorem knpop (hu : X.A.units + 64 < cLine) (ho : PE X o td) (he : PE X e ty) (hf : PE X f tz) (m : M2 X o "pop" apos e f cpos) : PE X (.Call (.Attribute o "pop" apos) [e, f] [] cpos) (tNPop X.prog X.w td ty tz) :=
  ⟨fun ps s0 st0 H0 Q0 I0 h0 => wpAny_Call_method m.base m.few m.line PySem.F.plainAttrs_dict PySem.F.slot_dict_pop PySem.F.type_dict_pop (thn (ho.run ps s0 st0 H0 _ I0 h0) fun u s1 ⟨x, H1, I1, rx, d, xs, ex, g, q1⟩ => by
    subst ex
    cases (show u = Value.ref d from rx)
    obtain ⟨t1, t2⟩ := n_type I1 g
    refine ⟨t1, t2, ?_⟩
    rw [m.trees]
    refine Calls.callWith_builtin rfl (Calls.evalArgs_plain (Calls.spliced_cons (thn (he.run ps s1 st0 H1 _ I1 q1) fun iv s2 ⟨y, H2, I2, ry, q2⟩ =>
      Calls.spliced_cons (thn (hf.run ps s2 st0 H2 _ I2 q2) fun fv s3 ⟨z, H3, I3, rz, k, b, ey, g2, kt, q3⟩ => Calls.spliced_nil ?_))))
    subst ey
    cases (show iv = Value.ref b from ry)
    exact n_pop hu I3 g2 kt rz fun v u' s4 I4 r4 => ⟨v, _, I4, r4, q3 v⟩)⟩
/-- d[k] = v, where it isn't there -/
def sNPut (P : Program) (w : World) (td ty tv : TE) : TS := fun D σ H => tv σ H fun v H1 => td σ H1 fun x H2 => ty σ H2 fun y H3 => ∃ d xs k b fa, x = .ref d ∧ v = .ref fa ∧ y = .ref b ∧ ND P w H3 d xs ∧ KeyT H3 k b ∧ look xs k = none ∧
  D.nx σ (upd H3 d (factsO P w d (xs ++ [(k, b, fa)])))
theorem knput (hu : X.A.units + 64 < cLine) (ho : PE X o td) (hi : PE X i ty) (hv : PE X value tv) (hs : swapsWith value (some (.Subscript o i pos')) pos.line X.env = pure false) : PS X (.Assign [.Subscript o i pos'] value pos) (sNPut X.prog X.w td ty tv) :=
  ⟨fun ps s0 st0 H0 D0 I0 h0 => wpAny_Assign_Subscript (thn (hv.run ps s0 st0 H0 _ I0 h0) fun r s1 ⟨v, H1, I1, rv, q1⟩ => thn (ho.run ps s1 st0 H1 _ I1 q1) fun u s2 ⟨x, H2, I2, rx, q2⟩ =>
    thn (hi.run ps s2 st0 H2 _ I2 q2) fun iv s3 ⟨y, H3, I3, ry, d, xs, k, b, fa, ex, ev, ey, g, kt, hn, q3⟩ => by
      subst ex ev ey
      cases (show u = Value.ref d from rx)
      cases (show r = Value.ref fa from rv)
      cases (show iv = Value.ref b from ry)
      exact n_set hu I3 g kt hn fun s4 I4 => ⟨st0, _, I4, q3⟩) hs⟩
/-- {} of the facts -/
def tDNew (P : Program) (w : World) : TE := fun _ H Q => ∀ p, H p = none → (p == sysModules) = false → Q (.ref p) (upd H p (factsO P w p []))
theorem kdn : PE X (.Dict [] [] pos) (tDNew X.prog X.w) := ⟨fun ps s0 st0 H0 Q0 I0 h0 => by
  have hb := I0.big
  refine wpAny_Dict_empty ?_
  refine ⟨.ref s0.heap.objs.size, _, I0.laid (a := s0.heap.objs.size) (t' := s0.toks) (fun b u e => Heap.get?_push_of_some _ e) (Nat.le_refl _) (nd_ok (xs := []) (Heap.DictOfH.new _)), rfl, h0 _ (I0.hok.fresh (Nat.le_refl _)) (beq_eq_false_iff_ne.mpr (Nat.ne_of_gt hb))⟩⟩
/-- d.pop(k) of a dict with tuple keys: it is there -/
def tTPop (td ty : TE) : TE := fun σ H Q => td σ H fun x H1 => ∃ d kvs, x = .ref d ∧ H1 d = some (.dT kvs) ∧ ty σ H1 fun y H2 => ∃ kvs k b v, y = .ref b ∧ H2 d = some (.dT kvs) ∧ H2 b = some (.tup (k.map kV)) ∧ valV kvs k = some v ∧ Q v (upd H2 d (.dT (dropK kvs k)))
end
/-! ### for v in d.values(), d locked -/
def Itn (P : Program) (w : World) (d : Addr) (o : Obj) (xs : List En) : It :=
  ⟨fun i H => H d = some (.frz o (factsO P w d xs)) ∧ i < xs.length, fun i H x H' => H' = H ∧ ∃ e, xs[i]? = some e ∧ x = .ref e.2.2, fun i H => H d = some (.frz o (factsO P w d xs)) ∧ xs.length ≤ i⟩
theorem walk_n {P : Program} {w : World} {d : Addr} {o : Obj} {xs : List En} : Walk (Itn P w d o xs) xs.length (fun H => H d = some (.frz o (factsO P w d xs))) (fun i H x H' => H' = H ∧ ∃ e, xs[i]? = some e ∧ x = .ref e.2.2) :=
  ⟨fun _ _ hi q => ⟨q, hi⟩, fun _ q => ⟨q, Nat.le_refl _⟩, fun _ _ _ _ _ _ y => y⟩
theorem frz_n {X : Cx} {ps : List (Addr × Obj)} {st0 : L2.St} {H : Hp} {s : Shared} {d : Addr} {o : Obj} {xs : List En} (I : Inv X ps st0 H s) (h : H d = some (.frz o (factsO X.prog X.w d xs))) :
    s.heap.get? d = some o ∧ o.ExactDict ∧ ∃ (es : Array DictEntry) (ep : Nat), o.data = .dict es ep ∧ es.toList = (ents xs).map (entryOfKey (nestedKind X.prog X.w)) ∧ s.heap.DictRaw d es ep := by
  obtain ⟨e0, ⟨o', es, ep, h1, h2, h3, h4⟩, _⟩ := (show ObjOk X.prog X.w H s.heap d (.frz o _) from I.hok d _ h)
  rw [e0] at h1
  cases h1
  exact ⟨e0, h2, es, ep, h3, h4, _, e0, h2, h3⟩
theorem turn_n {P : Program} {w : World} {K : PySem.W.Frag} {tg : Expr} {d : Addr} {o : Obj} {xs : List En} {es : Array DictEntry} {ep : Nat} (it : Addr) (hod : o.data = .dict es ep) (hsz : es.size = xs.length) :
    Turn P w K tg (Itn P w d o xs) [it] it (fun i h => h.IsValIter it d i es.size ep) where
  mem := by simp
  obj := fun i h st b hb => by
    have e : b = it := by simpa using hb
    subst e
    obtain ⟨oi, e, c, dd⟩ := st
    exact ⟨oi, e, fun v z => by rw [dd] at z; cases z⟩
  keep := fun i h h' st k => st.at fun oi e => k it (by simp) oi e
  item := by
    intro X hP hw hK hc i ps s σ H E I hf st hg
    subst hP hw hK
    obtain ⟨hd, hi⟩ := hg
    obtain ⟨f0, f1, f2, f3, f4, f5⟩ := hf it (by simp)
    obtain ⟨e0, hx, es', ep', hdt, hes, raw⟩ := frz_n I hd
    obtain ⟨rfl, rfl⟩ := dict_ep hod hdt
    have hlt : i < es'.size := by rw [hsz]; exact hi
    have he := entry_at hes i
    have hxs : xs[i]? = some xs[i] := List.getElem?_eq_getElem hi
    have hen : (ents xs)[i]? = some (nkey xs[i].1, xs[i].2.1, Value.ref xs[i].2.2) := by
      unfold ents
      rw [List.getElem?_map, hxs]
      rfl
    rw [hen, Array.getElem?_eq_getElem hlt] at he
    have hval : es'[i].val = Value.ref xs[i].2.2 := by
      rw [Option.some.inj he]
      rfl
    refine wpAny_pyNext_values_item_raw st raw hlt fun h' st' sb => ?_
    have I1 : Inv X ps σ H { s with heap := h' } := I.turned (t' := s.toks) (fun b ob hb e => (sb.2 b hb).trans e) f0 f1 f3 f4 f5
    obtain ⟨oi, e, c, dd⟩ := id st'
    refine ⟨_, rfl, go_of (s := { s with heap := h' }) e c dd (by decide) ⟨.ref xs[i].2.2, H, I1, hval, ⟨rfl, xs[i], hxs, rfl⟩, st', fun b hb => (hf b hb).1⟩⟩
  done := by
    intro X hP hw hK hc i ps s σ H E I hf st hg
    subst hP hw hK
    obtain ⟨hd, hi⟩ := hg
    obtain ⟨f0, f1, f2, f3, f4, f5⟩ := hf it (by simp)
    obtain ⟨e0, hx, es', ep', hdt, hes, raw⟩ := frz_n I hd
    obtain ⟨rfl, rfl⟩ := dict_ep hod hdt
    exact wpAny_pyNext_values_end_raw (I.ok.hd hc) st raw (by omega) fun h' eb => ⟨rfl, I.turned (t' := s.toks) (fun b ob hb e => eb b ob hb e) f0 f1 f3 f4 f5⟩
  self := fun A i s Q E st h => wpAny_pyIter_valiter st h
def iNVals (P : Program) (w : World) (td : TE) : TI := fun σ H R => td σ H fun x H1 => ∃ d o xs, x = .ref d ∧ (d == sysModules) = false ∧ H1 d = some (.frz o (factsO P w d xs)) ∧ R (Itn P w d o xs) H1
section
variable {X : Cx} {tg e : Expr} {td : TE} {apos cpos : Pos}
theorem knvals (he : PE X e td) (hbase : attributeBase e "values" X.env (eval e X.env) = eval e X.env := by rfl) (hline : (apos.endLine == cpos.line) = true := by rfl) : PI X tg (.Call (.Attribute e "values" apos) [] [] cpos) (iNVals X.prog X.w td) :=
  ⟨fun ps s0 st0 H0 R0 I0 h0 => wpAny_Call_method (T := "dict") (id := "dict.values") hbase rfl hline PySem.F.plainAttrs_dict PySem.F.slot_dict_values PySem.F.type_dict_values (thn (he.run ps s0 st0 H0 _ I0 h0) fun u s1 ⟨x, H1, I1, rx, d, o, xs, ex, low, hd, q⟩ => by
    subst ex
    cases (show u = Value.ref d from rx)
    obtain ⟨e0, hx, es, ep, hdt, hes, raw⟩ := frz_n I1 hd
    have hsz : es.size = xs.length := by
      have := size_of_entries hes
      simpa [ents] using this
    refine ⟨⟨o, e0, hx.1⟩, fun b eb => ?_, ?_⟩
    · cases eb
      exact ⟨o, e0, hx.2.1⟩
    have I2 : Inv X ps st0 H1 { s1 with heap := s1.heap.push { cls := .type "dict_values", data := .fields #[.ref d] } } := I1.kept (t' := s1.toks) fun b ob z => Heap.get?_push_of_some _ z
    have raw2 : (s1.heap.push { cls := .type "dict_values", data := .fields #[.ref d] }).DictRaw d es ep := raw.at fun _ z => Heap.get?_push_of_some _ z
    have fin : wpAny (model X.prog X.w) X.A (pyIter (.ref s1.heap.objs.size)) (PIE X ps st0 tg R0) X.xe { s1 with heap := s1.heap.push { cls := .type "dict_values", data := .fields #[.ref d] } } := by
      refine wpAny_pyIter_values_raw (d := d) ⟨_, Heap.get?_push_size _ rfl, rfl, rfl⟩ raw2 (pi_one (tk := s1.toks) I2 _ (turn_n _ hdt hsz) ⟨_, Heap.get?_push_size _ rfl, rfl, rfl⟩ q)
    show wpAny _ _ (callWith cpos (.builtin "dict.values") [.ref d] [] []) _ X.xe s1
    exact method_meetsIn PySem.F.slot_dict_values PySem.F.entry_dict_values rfl (PySem.evalArgs_none ⟨rfl, ⟨o, e0, hx.1⟩, PySem.F.args_dict_values_1 _, _, meets_dict_values_raw d low, ⟨⟨es, ep, raw⟩, fin⟩⟩))⟩
end
/-! ### d.pop(k) of tuple keys, walks of a list or a tuple, the table of the calls -/
section
variable {X : Cx} {o e l i : Expr} {apos cpos pos p : Pos} {td ty tl ti : TE} {tg : Expr}
theorem ktpop (hu : X.A.units + 1 < cLine) (ho : PE X o td) (he : PE X e ty) (m : M1 X o "pop" apos e cpos) : PE X (.Call (.Attribute o "pop" apos) [e] [] cpos) (tTPop td ty) :=
  ⟨fun ps s0 st0 H0 Q0 I0 h0 => wpAny_Call_method m.base m.few m.line PySem.F.plainAttrs_dict PySem.F.slot_dict_pop PySem.F.type_dict_pop (thn (ho.run ps s0 st0 H0 _ I0 h0) fun u s1 ⟨x, H1, I1, rx, d, kvs0, ex, g, q1⟩ => by
    subst ex
    cases (show u = Value.ref d from rx)
    obtain ⟨t1, t2, _⟩ := isD_at I1 (.inr ⟨kvs0, .of g⟩)
    refine ⟨t1, t2, ?_⟩
    rw [m.trees]
    refine Calls.callWith_builtin rfl (Calls.evalArgs_plain (Calls.spliced_cons (thn (he.run ps s1 st0 H1 _ I1 q1) fun iv s2 ⟨y, H2, I2, ry, kvs, k, b, v, ey, g2, kt, hv, q2⟩ => Calls.spliced_nil ?_)))
    subst ey
    cases (show iv = Value.ref b from ry)
    obtain ⟨z, hd, xs, rel, dd⟩ := dt_of I2.hok g2
    have hz : xs.length ≤ sizeLine := by rw [← Paired.length rel]; exact z
    have r := rel.val k
    rw [hv] at r
    obtain ⟨u0, hu0, ru0⟩ := RelO.some_of r
    obtain ⟨p0, hp0, rfl⟩ := Option.map_eq_some_iff.mp hu0
    refine call_pop_heap (hsz := hz) (more := []) (.inl rfl) (PySem.F.args_dict_pop_2 _ _) (tupleKind_room_in1 hu) (key_of I2.hok kt) hd dd hp0 fun h' dd' hs => ?_
    obtain ⟨q, es, ep, hq, h2, h3, h4, _, h5⟩ := dd'
    have e1 : withoutH xs k = DT.dropH xs k := rfl
    rw [e1] at h4 h5
    have hl := dropK_le kvs k
    refine ⟨v, _, d_write I2 (ob := .dT (dropK kvs k)) (by rw [g2]; exact True.intro) hs ⟨q, hq⟩ ⟨Nat.le_trans hl z, hd, _, (L2.DX.KT_drop k rel).keeps fun c ys ec => ?_, q, es, ep, hq, h2, h3, h4, h5⟩, ru0, q2⟩
    rw [upd_ne (ne_of ec g2 (fun z => nomatch z))]
    exact ec)⟩
def iSeq (K : PySem.W.Frag) (tl : TE) : TI := fun σ H R => tl σ H fun x H1 => ∃ a, x = .ref a ∧ ((∃ xs, SqL K H1 a xs ∧ R (Itl K a) H1) ∨ ∃ xs, SqT K H1 a xs ∧ R (Itt K a) H1)
theorem kseq (hl : PE X l tl) : PI X tg l (iSeq X.K tl) :=
  ⟨fun ps s0 st0 H0 R0 I0 h0 => thn (hl.run ps s0 st0 H0 _ I0 h0) fun v s1 ⟨x, H1, I1, r1, a, e, q⟩ => by
    subst e
    cases r1
    rcases q with ⟨xs, hq, q⟩ | ⟨xs, hq, q⟩
    · obtain ⟨its, rv, pl, hz⟩ := I1.list hq
      exact wpAny_pyIter_list pl.isList (pi_one (tk := s1.toks) I1 _ (turn_list a _) ⟨_, Heap.get?_push_size _ rfl, rfl, rfl⟩ q)
    · obtain ⟨its, rv, pl, hz⟩ := I1.tuple hq
      exact wpAny_pyIter_tuple (show s1.heap.IsTuple a its.toArray from pl) (pi_one (tk := s1.toks) I1 _ (turn_tuple a _) ⟨_, Heap.get?_push_size _ rfl, rfl, rfl⟩ q)⟩
/-- the table of the calls, as the top wrote it: whole numbers for keys -/
structure CallsAt (K : PySem.W.Frag) (a : Addr) (kvs : List (Int × Addr)) : Prop where
  ex : ∃ es n, K.lookup a = some ⟨.type "dict", none, .dict es n, #[]⟩ ∧ Paired (fun (e : DictEntry) (p : Int × Addr) => e.hash = hashInt p.1 ∧ (∃ t, e.key = .int p.1 t) ∧ e.val = .ref p.2) es.toList kvs
  nd : (kvs.map (·.1)).Nodup
theorem pairs_calls {P : Program} {w : World} : ∀ {es : List DictEntry} {kvs : List (Int × Addr)}, Paired (fun (e : DictEntry) (p : Int × Addr) => e.hash = hashInt p.1 ∧ (∃ t, e.key = .int p.1 t) ∧ e.val = .ref p.2) es kvs →
    (∀ e ∈ es, ∃ k, (intKind P w).is k e.key = true ∧ e.hash = (intKind P w).hash k) ∧ Pairs (intKind P w) es (kvs.map fun p => (p.1, Value.ref p.2))
  | _, _, .nil => ⟨fun e he => (nomatch he), .nil⟩
  | _, _, .cons ⟨h1, ⟨t, h2⟩, h3⟩ r => by
    obtain ⟨g1, g2⟩ := pairs_calls (P := P) (w := w) r
    refine ⟨fun e he => ?_, .cons (by rw [h2]; exact intKind_is P w _ t) h3 g2⟩
    rcases List.mem_cons.mp he with rfl | he
    · exact ⟨_, by rw [h2]; exact intKind_is P w _ t, h1⟩
    · exact g1 e he
def rCalls (a : Addr) (kvs : List (Int × Addr)) : R2 := fun x y H Q => ∃ i f, x = .ref a ∧ y = .int i ∧ (kvs.find? fun p => decide (p.1 = i)).map (·.2) = some f ∧ Q (.ref f) H
theorem ix_calls {a : Addr} {kvs : List (Int × Addr)} (c : CallsAt X.K a kvs) : IxR X (rCalls a kvs) := by
  intro value slice ps s0 st0 H0 x y v u Q0 I0 rx ry h0 hs
  obtain ⟨i, f, rfl, rfl, hf, q⟩ := h0
  cases (show v = Value.ref a from rx)
  obtain ⟨t, rfl⟩ := (show ∃ t, u = Value.int i t from ry)
  obtain ⟨es, n, hl, pr⟩ := c.ex
  obtain ⟨g1, g2⟩ := pairs_calls (P := X.prog) (w := X.w) pr
  have hn : ((kvs.map fun p => (p.1, Value.ref p.2)).map (·.1)).Nodup := by
    have := c.nd
    simpa [List.map_map, Function.comp_def] using this
  have dd : s0.heap.DictOf (intKind X.prog X.w) a (kvs.map fun p => (p.1, Value.ref p.2)) := ⟨_, es, n, I0.kIn a _ hl, ⟨rfl, rfl, rfl⟩, rfl, fun e he => g1 e (Array.mem_toList_iff.mpr he), g2, hn⟩
  have hv : valueAt (kvs.map fun p => (p.1, Value.ref p.2)) i = some (Value.ref f) := by
    unfold valueAt
    rw [List.find?_map]
    obtain ⟨p0, hp0, rfl⟩ := Option.map_eq_some_iff.mp hf
    have e : (kvs.find? ((fun kv : Int × Value => decide (kv.1 = i)) ∘ fun p : Int × Addr => (p.1, Value.ref p.2))) = some p0 := hp0
    rw [e]
    rfl
  exact tail_any dd.typeIs slot_dict_getitem.lookup (wpAny_getItem_of (intKind_is X.prog X.w i t) dd.mapOf hv ⟨.ref f, H0, I0.tok _, rfl, q⟩) hs
theorem kcalls {x : Str} {a : Addr} {kvs : List (Int × Addr)} (c : CallsAt X.K a kvs) (hm : X.mg x = some (.ref a)) (hi : PE X i ti) (hp : PlainIx i) (hg : Gl X x := by rfl) (hd : (x == ("__debug__" : Str)) = false := by decide) : PE X (.Subscript (.Name x p) i pos) (tOp (rCalls a kvs) (tC (.ref a)) ti) :=
  pe_ix (ix_calls c) (pe_glob (v := .ref a) hg hm rfl hd) hi hp
def tCallX (P : Program) (w : World) (K : PySem.W.Frag) (mg : Str → Option Value) (base : Heap) (k n : Nat) (t : TA) : TE := fun σ H Q => ∃ f sp, σ[n]? = some (some (.ref f)) ∧ Held P w K mg base k f sp ∧ t σ H fun vs H1 => sp vs H1 Q E0
theorem kcl {k n : Nat} {x : Str} {es : List Expr} {t : TA} (hr : Room k X.A) (ha : PA X (e :: es) t) (hN : X.N[n]? = some x := by rfl) (hv : Vis X.env.scope x := by exact Or.inl rfl)
    (hdb : (x == ("__debug__" : Str)) = false := by decide) (hcd : (x == ("__classdict__" : Str)) = false := by decide)
    (he : starEach (e :: es) X.env = (false, eval e X.env) :: starEach es X.env := by rfl) (hpl : (backTo pos (starEach es X.env)).any (·.1) = false := by rfl) : PE X (.Call (.Name x p) (e :: es) [] pos) (tCallX X.prog X.w X.K X.mg X.base k n t) :=
  ⟨fun ps s0 st0 H0 Q0 I0 ⟨f, sp, hs, ⟨fd, qs, F, hk, hb⟩, ht⟩ => (pe_callL (i := n) (f := f) (sp := sp) (dvs := []) (E := E0) F hr hN hv hk hb .nil (fun _ _ _ _ _ _ _ z => z.elim) ha hdb hcd he hpl).run ps s0 st0 H0 Q0 I0 ⟨hs, by
    simpa only [List.append_nil] using ht⟩⟩
end
end Nn

namespace Nn
open PySem PySem.Spec PyProof.Rows L2
/-! ### what stands at an address -/
def At (C : Addr) (H : Hp) (a : Addr) (fs : List (Str × V)) : Prop := ∃ dx, H a = some (.ins C dx fs)
def TN (H : Hp) (a : Addr) (l : List Nat) : Prop := H a = some (.tup (l.map nv))
def TR (H : Hp) (a : Addr) (ls : List (List Nat)) : Prop := ∃ l : List (Addr × List Nat), l.map (·.2) = ls ∧ H a = some (.tup (l.map fun p => V.ref p.1)) ∧ ∀ p ∈ l, TN H p.1 p.2
def RecA (c : Cs) (H : Hp) (a : Addr) (r : Dn01.Rec) : Prop := ∃ na va, At c.crec H a (recF (.ref na) (nv r.sort) (.ref va) (nv r.life)) ∧ TN H na r.name ∧ TN H va r.value
/-- a list of records, whose address is not among F -/
def RecsA (c : Cs) (F : List Addr) (H : Hp) (a : Addr) (rs : List Dn01.Rec) : Prop := a ∉ F ∧ ∃ l : List (Addr × Dn01.Rec), l.map (·.2) = rs ∧ H a = some (.lst (l.map fun p => V.ref p.1)) ∧ ∀ p ∈ l, RecA c H p.1 p.2
def sameR (r q : Dn01.Rec) : Bool := r.name == q.name && (r.sort == q.sort && r.value == q.value)
/-- of a change that takes a record out the life doesn't count -/
def ChgA (c : Cs) (H : Hp) (a : Addr) (x : Dn01.Change) : Prop := ∃ ra r, At c.cchg H a (chgF (.bl x.put) (.ref ra)) ∧ RecA c H ra r ∧ r.name = x.rec_.name ∧ r.sort = x.rec_.sort ∧ r.value = x.rec_.value ∧ (x.put = true → r = x.rec_)
def ChgsA (c : Cs) (F : List Addr) (H : Hp) (a : Addr) (xs : List Dn01.Change) : Prop := a ∉ F ∧ ∃ l : List (Addr × Dn01.Change), l.map (·.2) = xs ∧ H a = some (.lst (l.map fun p => V.ref p.1)) ∧ ∀ p ∈ l, ChgA c H p.1 p.2
def ZonA (c : Cs) (F : List Addr) (H : Hp) (a : Addr) (z : Dn01.Zone) : Prop := ∃ pa ra ca, At c.czon H a (zonF (nv (z.born + 1)) (.ref pa) (nv z.neg) (nv z.serial) (.ref ra) (.ref ca)) ∧ TN H pa z.apex ∧ RecsA c F H ra z.recs ∧ ChgsA c F H ca (z.log.map (·.2))
def ov : Option Nat → V
  | none => .non
  | some n => nv n
def HolA (c : Cs) (F : List Addr) (H : Hp) (g : Addr × Addr) (x : Dn01.Held) : Prop := ∃ sv, At c.chol H g.1 (holF (.ref g.2) (ov x.from_) (nv x.good) sv) ∧ (x.from_ ≠ none → sv = nv x.since) ∧ ZonA c F H g.2 x.zone
def keyOf (l : List Nat) : List Key := l.map fun (n : Nat) => Sum.inl (n : Int)
/-- a server: its address, its dict's, its holdings -/
structure GS where
  a : Addr
  d : Addr
  hs : List ((Addr × Addr) × Dn01.Held)
def GS.foot (g : GS) : List Addr := g.a :: g.d :: g.hs.flatMap fun h => [h.1.1, h.1.2]
def hkv (hs : List ((Addr × Addr) × Dn01.Held)) : List (List Key × V) := hs.map fun h => (keyOf h.2.zone.apex, V.ref h.1.1)
structure SrvA (c : Cs) (F : List Addr) (H : Hp) (g : GS) (s : Dn01.Server) : Prop where
  at_ : At c.csrv H g.a (srvF (.bl s.up) (.ref g.d))
  dict : H g.d = some (.dT (hkv g.hs))
  held : ∀ h ∈ g.hs, HolA c F H h.1 h.2
  zones : g.hs.map (·.2) = s.zones
  apart : ∀ (i j : Nat) h k, g.hs[i]? = some h → g.hs[j]? = some k → i ≠ j → h.1.1 ≠ k.1.1 ∧ h.1.2 ≠ k.1.2
/-- what is told, as the program keeps it -/
structure Tl where
  oc : Nat
  name : List Nat
  life : Nat
  rows : List (List Nat)
def TelA (c : Cs) (H : Hp) (a : Addr) (t : Tl) : Prop := ∃ na ra, At c.ctel H a (telF (nv t.oc) (.ref na) (nv t.life) (.ref ra)) ∧ TN H na t.name ∧ TR H ra t.rows
def ocOf : Dn01.What → Nat
  | .data _ => 1
  | .nothing => 2
  | .never => 3
  | .alias _ => 4
  | .cut _ => 5
def rowsOf : Dn01.What → List (List Nat)
  | .data vs => vs
  | .nothing => []
  | .never => []
  | .alias n => [n]
  | .cut ss => [ss]
def FacA (c : Cs) (H : Hp) (a : Addr) (f : Dn01.Fact) : Prop := ∃ ta life, At c.cfac H a (facF (.ref ta) (nv f.sort) (nv f.until_)) ∧ TelA c H ta ⟨ocOf f.what, f.name, life, rowsOf f.what⟩
/-- a cache's facts, with where each stands -/
def FacsA (P : Program) (w : World) (c : Cs) (H : Hp) (d : Addr) (l : List (En × Dn01.Fact)) : Prop := ND P w H d (l.map (·.1)) ∧ ∀ p ∈ l, p.1.1 = (p.2.name, p.2.sort) ∧ FacA c H p.1.2.2 p.2
structure GC where
  a : Addr
  d : Addr
  fs : List (En × Dn01.Fact)
def CacA (P : Program) (w : World) (c : Cs) (H : Hp) (g : GC) (fs : List Dn01.Fact) : Prop := At c.ccac H g.a (cacF (.ref g.d)) ∧ FacsA P w c H g.d g.fs ∧ g.fs.map (·.2) = fs
structure GN where
  n : Addr
  sl : Addr
  cl : Addr
  ra : Addr
  srv : List GS
  cas : List GC
def GC.foot (g : GC) : List Addr := [g.a, g.d]
structure NetA (P : Program) (w : World) (c : Cs) (F : List Addr) (H : Hp) (g : GN) (h : Dn01.House) : Prop where
  at_ : At c.cnet H g.n (netF (nv h.now) (.ref g.sl) (.ref g.cl) (.ref g.ra) (nv h.made))
  slF : g.sl ∉ F
  clF : g.cl ∉ F
  sl : H g.sl = some (.lst (g.srv.map fun s => V.ref s.a))
  cl : H g.cl = some (.lst (g.cas.map fun s => V.ref s.a))
  roots : TN H g.ra h.roots
  slen : g.srv.length = h.servers.length
  srv : ∀ (i : Nat) gs s, g.srv[i]? = some gs → h.servers[i]? = some s → SrvA c F H gs s
  clen : g.cas.length = h.caches.length
  cas : ∀ (i : Nat) gc fs, g.cas[i]? = some gc → h.caches[i]? = some fs → CacA P w c H gc fs
  aps : ∀ (i j : Nat) a b, g.srv[i]? = some a → g.srv[j]? = some b → i ≠ j → ∀ x ∈ a.foot, x ∉ b.foot
  apc : ∀ (i j : Nat) a b, g.cas[i]? = some a → g.cas[j]? = some b → i ≠ j → ∀ x ∈ a.foot, x ∉ b.foot
/-! ### what never changes -/
def muts (c : Cs) : List Addr := [c.czon, c.csea, c.chol, c.csrv, c.ccac, c.cnet, c.crdr]
def stays (c : Cs) (F : List Addr) (b : Addr) : HO → Prop
  | .lst _ => b ∉ F
  | .ins C _ _ => C ∉ muts c
  | .dT _ => False
  | .dK _ => False
  | .ext _ => False
  | .set _ _ => False
  | _ => True
structure COk (c : Cs) : Prop where
  nd : [c.crec, c.cchg, c.czon, c.ctel, c.csea, c.chol, c.csrv, c.cfac, c.ccac, c.cnet, c.crdr].Nodup
structure Imm (c : Cs) (F : List Addr) (H H' : Hp) : Prop where
  ok : COk c
  st : ∀ b o, H b = some o → stays c F b o → H' b = some o
theorem COk.ne (k : COk c) : c.crec ∉ muts c ∧ c.cchg ∉ muts c ∧ c.ctel ∉ muts c ∧ c.cfac ∉ muts c := by
  have h := k.nd
  simp only [List.nodup_cons, List.mem_cons, List.not_mem_nil, or_false, not_or] at h
  simp only [muts, List.mem_cons, List.not_mem_nil, or_false, not_or]
  obtain ⟨⟨h1, h2, h3, h4, h5, h6, h7, h8, h9, h10⟩, ⟨g1, g2, g3, g4, g5, g6, g7, g8, g9⟩, ⟨k1, k2, k3, k4, k5, k6, k7, k8⟩, ⟨l1, l2, l3, l4, l5, l6, l7⟩, ⟨m1, m2, m3, m4, m5, m6⟩, ⟨n1, n2, n3, n4, n5⟩, ⟨o1, o2, o3, o4⟩, ⟨p1, p2, p3⟩, _⟩ := h
  exact ⟨⟨h2, h4, h5, h6, h8, h9, h10⟩, ⟨g1, g3, g4, g5, g7, g8, g9⟩, ⟨Ne.symm k1, l1, l2, l3, l5, l6, l7⟩, ⟨Ne.symm k5, Ne.symm m3, Ne.symm n2, Ne.symm o1, p1, p2, p3⟩⟩
section
variable {c : Cs} {F F' : List Addr} {H H' H1 : Hp} {a d : Addr} {L : List Addr}
theorem Same.imm (k : COk c) (s : Same H H') : Imm c F H H' := ⟨k, fun b o e _ => s b o e⟩
theorem Kp.imm (ok : COk c) (k : Kp L H H') (h : ∀ x ∈ L, ∀ o, H x = some o → ¬ stays c F x o) : Imm c F H H' := ⟨ok, fun b o e s => k b o e fun m => h b m o e s⟩
theorem Imm.trans (i : Imm c F H H1) (j : Imm c F H1 H') : Imm c F H H' := ⟨i.ok, fun b o e s => j.st b o (i.st b o e s) s⟩
theorem TN.imm (i : Imm c F H H') {l : List Nat} (h : TN H a l) : TN H' a l := i.st _ _ h True.intro
theorem TN.same {l : List Nat} (h : TN H a l) (s : Same H H') : TN H' a l := s _ _ h
theorem TR.imm (i : Imm c F H H') {l : List (List Nat)} (h : TR H a l) : TR H' a l := by
  obtain ⟨l, e, h1, h2⟩ := h
  exact ⟨l, e, i.st _ _ h1 True.intro, fun p hp => (h2 p hp).imm i⟩
theorem TR.same {l : List (List Nat)} (h : TR H a l) (s : Same H H') : TR H' a l := by
  obtain ⟨l, e, h1, h2⟩ := h
  exact ⟨l, e, s _ _ h1, fun p hp => (h2 p hp).same s⟩
theorem At.same {C : Addr} {fs : List (Str × V)} (h : At C H a fs) (s : Same H H') : At C H' a fs := let ⟨dx, e⟩ := h; ⟨dx, s _ _ e⟩
theorem At.kp {C : Addr} {fs : List (Str × V)} (h : At C H a fs) (s : Kp L H H') (n : a ∉ L) : At C H' a fs := let ⟨dx, e⟩ := h; ⟨dx, s _ _ e n⟩
theorem At.imm {C : Addr} {fs : List (Str × V)} (h : At C H a fs) (i : Imm c F H H') (n : C ∉ muts c) : At C H' a fs := let ⟨dx, e⟩ := h; ⟨dx, i.st _ _ e n⟩
theorem RecA.imm (i : Imm c F H H') {r : Dn01.Rec} (h : RecA c H a r) : RecA c H' a r := by
  obtain ⟨na, va, h1, h2, h3⟩ := h
  exact ⟨na, va, h1.imm i i.ok.ne.1, h2.imm i, h3.imm i⟩
theorem RecA.same {r : Dn01.Rec} (h : RecA c H a r) (s : Same H H') : RecA c H' a r := by
  obtain ⟨na, va, h1, h2, h3⟩ := h
  exact ⟨na, va, h1.same s, h2.same s, h3.same s⟩
theorem RecsA.imm (i : Imm c F H H') {r : List Dn01.Rec} (h : RecsA c F H a r) : RecsA c F H' a r := by
  obtain ⟨n, l, e, h1, h2⟩ := h
  exact ⟨n, l, e, i.st _ _ h1 n, fun p hp => (h2 p hp).imm i⟩
theorem RecsA.same {r : List Dn01.Rec} (h : RecsA c F H a r) (s : Same H H') : RecsA c F H' a r := by
  obtain ⟨n, l, e, h1, h2⟩ := h
  exact ⟨n, l, e, s _ _ h1, fun p hp => (h2 p hp).same s⟩
theorem ChgA.imm (i : Imm c F H H') {r : Dn01.Change} (h : ChgA c H a r) : ChgA c H' a r := by
  obtain ⟨ra, r, h1, h2, h3⟩ := h
  exact ⟨ra, r, h1.imm i i.ok.ne.2.1, h2.imm i, h3⟩
theorem ChgA.same {r : Dn01.Change} (h : ChgA c H a r) (s : Same H H') : ChgA c H' a r := by
  obtain ⟨ra, r, h1, h2, h3⟩ := h
  exact ⟨ra, r, h1.same s, h2.same s, h3⟩
theorem ChgsA.imm (i : Imm c F H H') {r : List Dn01.Change} (h : ChgsA c F H a r) : ChgsA c F H' a r := by
  obtain ⟨n, l, e, h1, h2⟩ := h
  exact ⟨n, l, e, i.st _ _ h1 n, fun p hp => (h2 p hp).imm i⟩
theorem ChgsA.same {r : List Dn01.Change} (h : ChgsA c F H a r) (s : Same H H') : ChgsA c F H' a r := by
  obtain ⟨n, l, e, h1, h2⟩ := h
  exact ⟨n, l, e, s _ _ h1, fun p hp => (h2 p hp).same s⟩
theorem ZonA.same {z : Dn01.Zone} (h : ZonA c F H a z) (s : Same H H') : ZonA c F H' a z := by
  obtain ⟨pa, ra, ca, h1, h2, h3, h4⟩ := h
  exact ⟨pa, ra, ca, h1.same s, h2.same s, h3.same s, h4.same s⟩
theorem ZonA.kp {z : Dn01.Zone} (h : ZonA c F H a z) (i : Imm c F H H') (s : Kp L H H') (n : a ∉ L) : ZonA c F H' a z := by
  obtain ⟨pa, ra, ca, h1, h2, h3, h4⟩ := h
  exact ⟨pa, ra, ca, h1.kp s n, h2.imm i, h3.imm i, h4.imm i⟩
theorem HolA.same {g : Addr × Addr} {x : Dn01.Held} (h : HolA c F H g x) (s : Same H H') : HolA c F H' g x := by
  obtain ⟨sv, h1, h2, h3⟩ := h
  exact ⟨sv, h1.same s, h2, h3.same s⟩
theorem HolA.kp {g : Addr × Addr} {x : Dn01.Held} (h : HolA c F H g x) (i : Imm c F H H') (s : Kp L H H') (n1 : g.1 ∉ L) (n2 : g.2 ∉ L) : HolA c F H' g x := by
  obtain ⟨sv, h1, h2, h3⟩ := h
  exact ⟨sv, h1.kp s n1, h2, h3.kp i s n2⟩
theorem SrvA.same {g : GS} {x : Dn01.Server} (h : SrvA c F H g x) (s : Same H H') : SrvA c F H' g x :=
  ⟨h.at_.same s, s _ _ h.dict, fun q hq => (h.held q hq).same s, h.zones, h.apart⟩
theorem SrvA.kp {g : GS} {x : Dn01.Server} (h : SrvA c F H g x) (i : Imm c F H H') (s : Kp L H H') (n : ∀ x ∈ g.foot, x ∉ L) : SrvA c F H' g x := by
  refine ⟨h.at_.kp s (n _ (by simp [GS.foot])), s _ _ h.dict (n _ (by simp [GS.foot])), fun q hq => (h.held q hq).kp i s (n _ ?_) (n _ ?_), h.zones, h.apart⟩
  · simp only [GS.foot, List.mem_cons, List.mem_flatMap, List.not_mem_nil, or_false]
    exact .inr (.inr ⟨q, hq, .inl rfl⟩)
  · simp only [GS.foot, List.mem_cons, List.mem_flatMap, List.not_mem_nil, or_false]
    exact .inr (.inr ⟨q, hq, .inr rfl⟩)
theorem TelA.imm (i : Imm c F H H') {t : Tl} (h : TelA c H a t) : TelA c H' a t := by
  obtain ⟨na, ra, h1, h2, h3⟩ := h
  exact ⟨na, ra, h1.imm i i.ok.ne.2.2.1, h2.imm i, h3.imm i⟩
theorem TelA.same {t : Tl} (h : TelA c H a t) (s : Same H H') : TelA c H' a t := by
  obtain ⟨na, ra, h1, h2, h3⟩ := h
  exact ⟨na, ra, h1.same s, h2.same s, h3.same s⟩
theorem FacA.imm (i : Imm c F H H') {f : Dn01.Fact} (h : FacA c H a f) : FacA c H' a f := by
  obtain ⟨ta, l, h1, h2⟩ := h
  exact ⟨ta, l, h1.imm i i.ok.ne.2.2.2, h2.imm i⟩
theorem FacA.same {f : Dn01.Fact} (h : FacA c H a f) (s : Same H H') : FacA c H' a f := by
  obtain ⟨ta, l, h1, h2⟩ := h
  exact ⟨ta, l, h1.same s, h2.same s⟩
theorem KeyT.imm (i : Imm c F H H') {k : List Nat × Nat} (h : KeyT H k a) : KeyT H' k a := by
  obtain ⟨na, h1, h2⟩ := h
  exact ⟨na, i.st _ _ h1 True.intro, i.st _ _ h2 True.intro⟩
theorem KeyT.same {k : List Nat × Nat} (h : KeyT H k a) (s : Same H H') : KeyT H' k a := by
  obtain ⟨na, h1, h2⟩ := h
  exact ⟨na, s _ _ h1, s _ _ h2⟩
theorem ND.kp {P : Program} {w : World} {xs : List En} (h : ND P w H d xs) (i : Imm c F H H') (s : Kp L H H') (n : d ∉ L) : ND P w H' d xs :=
  ⟨s _ _ h.at_ n, fun x hx => (h.keys x hx).imm i, h.nd, h.low, h.sz⟩
theorem ND.same {P : Program} {w : World} {xs : List En} (h : ND P w H d xs) (s : Same H H') : ND P w H' d xs :=
  ⟨s _ _ h.at_, fun x hx => (h.keys x hx).same s, h.nd, h.low, h.sz⟩
theorem FacsA.same {P : Program} {w : World} {l : List (En × Dn01.Fact)} (h : FacsA P w c H d l) (s : Same H H') : FacsA P w c H' d l := ⟨h.1.same s, fun p hp => ⟨(h.2 p hp).1, (h.2 p hp).2.same s⟩⟩
theorem FacsA.kp {P : Program} {w : World} {l : List (En × Dn01.Fact)} (h : FacsA P w c H d l) (i : Imm c F H H') (s : Kp L H H') (n : d ∉ L) : FacsA P w c H' d l := ⟨h.1.kp i s n, fun p hp => ⟨(h.2 p hp).1, (h.2 p hp).2.imm i⟩⟩
theorem CacA.same {P : Program} {w : World} {g : GC} {fs : List Dn01.Fact} (h : CacA P w c H g fs) (s : Same H H') : CacA P w c H' g fs := ⟨h.1.same s, h.2.1.same s, h.2.2⟩
theorem CacA.kp {P : Program} {w : World} {g : GC} {fs : List Dn01.Fact} (h : CacA P w c H g fs) (i : Imm c F H H') (s : Kp L H H') (n : ∀ x ∈ g.foot, x ∉ L) : CacA P w c H' g fs :=
  ⟨h.1.kp s (n _ (by simp [GC.foot])), h.2.1.kp i s (n _ (by simp [GC.foot])), h.2.2⟩
theorem NetA.same {P : Program} {w : World} {g : GN} {h : Dn01.House} (x : NetA P w c F H g h) (s : Same H H') : NetA P w c F H' g h :=
  ⟨x.at_.same s, x.slF, x.clF, s _ _ x.sl, s _ _ x.cl, x.roots.same s, x.slen, fun i gs q h1 h2 => (x.srv i gs q h1 h2).same s, x.clen, fun i gs q h1 h2 => (x.cas i gs q h1 h2).same s, x.aps, x.apc⟩
end
/-! ### a list of Same steps; making an instance -/
/-- __init__ of a class that keeps its arguments -/
def spIni (C : Addr) (n : Nat) (fs : List V → List (Str × V)) : Sp := fun vs H Q _ => ∃ p dx us, vs = .ref p :: us ∧ us.length = n ∧ H p = some (.ins C dx []) ∧ Q .non (upd H p (.ins C dx (fs us)))
theorem made_same {H : Hp} {x dx C : Addr} {fs : List (Str × V)} (hx : H x = none) (hd : H dx = none) (ne : dx ≠ x) : Same H (upd (upd (upd H dx (.own x)) x (.ins C dx [])) x (.ins C dx fs)) := fun b o e => by
  rw [upd_ne (ne_of_none e hx), upd_ne (ne_of_none e hx), upd_ne (ne_of_none e hd)]
  exact e
/-- C(..) of such a class -/
theorem mk_ini {C : Addr} {n : Nat} {fs : List V → List (Str × V)} {us : List V} {H : Hp} {Q : VK} (hl : us.length = n) (h : ∀ x H', H x = none → Same H H' → At C H' x (fs us) → Q (.ref x) H') :
    ∀ x dx, H x = none → H dx = none → dx ≠ x → spIni C n fs (.ref x :: us) (upd (upd H dx (.own x)) x (.ins C dx [])) (fun v H2 => v = .non ∧ Q (.ref x) H2) E0 := by
  intro x dx hx hd ne
  refine ⟨x, dx, us, rfl, hl, upd_same, rfl, h x _ hx (made_same hx hd ne) ⟨dx, upd_same⟩⟩
/-! ### comprehensions that change nothing -/
theorem lc_by {α : Type} {J : It} {l : List α} {emb : α → V} {G : Hp → Prop} (wk : Walk J (l.map emb).length G (YAt (l.map emb))) {g : TG} {tt : L2.TT} {te : TE} {vs : List Nat} {σ : L2.St} {H1 : Hp} {D : Addr} {Qd : Hp → Prop}
    (P : α → Bool) (f : α → V) (hD : H1 D = none) (hG : ∀ H, Same H1 H → G H) (hz : l.length < sizeLine)
    (turn : ∀ x ∈ l, ∀ (H : Hp) (acc : List V) (N : Hp → Prop), Same H1 H → H D = some (.lst acc) → acc.length < sizeLine → (∀ H4, Same H H4 → N (if P x = true then upd H4 D (.lst (acc ++ [f x])) else H4)) →
      g (emb x) (wipe σ vs) H fun σ2 H2 => wipe σ2 vs = wipe σ vs ∧ tt σ2 H2 fun b H3 => if b = true then te σ2 H3 fun y H4 => ∃ acc, H4 D = some (.lst acc) ∧ acc.length < sizeLine ∧ N (upd H4 D (.lst (acc ++ [y]))) else N H3)
    (fin : ∀ H, Same H1 H → H D = some (.lst ((l.filter P).map f)) → Qd H) :
    ∃ W : Nat → Nat → Hp → Prop, (∃ m, W 0 m (upd H1 D (.lst []))) ∧ ∀ i m H, W i m H →
      (J.stop i H ∧ Qd H) ∨ (J.go i H ∧ ∃ Nx : Hp → Prop, (∀ H', Nx H' → ∃ m', m' < m ∧ W (i + 1) m' H') ∧ ∀ x H', J.yld i H x H' → g x (wipe σ vs) H' fun σ2 H2 => wipe σ2 vs = wipe σ vs ∧ tt σ2 H2 fun b H3 =>
        if b = true then te σ2 H3 fun y H4 => ∃ acc, H4 D = some (.lst acc) ∧ acc.length < sizeLine ∧ Nx (upd H4 D (.lst (acc ++ [y]))) else Nx H3) := by
  refine lc_it wk (fun i H => Same H1 H ∧ H D = some (.lst (((l.take i).filter P).map f))) ⟨Same.laid hD, ?_⟩ (fun i H _ p => hG H p.1) ?_ ?_
  · rw [upd_same]; rfl
  · rintro i x H H' hi ⟨s1, hDl⟩ ⟨rfl, hx⟩
    rw [List.length_map] at hi
    have e : l[i]? = some l[i] := List.getElem?_eq_getElem hi
    rw [List.getElem?_map, e] at hx
    cases hx
    have hlen : (((l.take i).filter P).map f).length < sizeLine := by
      rw [List.length_map]
      have h1 := List.length_filter_le P (l.take i)
      have h2 : (l.take i).length ≤ l.length := by rw [List.length_take]; omega
      omega
    refine turn l[i] (List.getElem_mem hi) _ _ _ s1 hDl hlen fun H4 s4 => ?_
    have tk : l.take (i + 1) = l.take i ++ [l[i]] := by
      rw [List.take_succ, e]
      rfl
    rw [tk, List.filter_append, List.map_append]
    by_cases hp : P l[i] = true
    · rw [if_pos hp]
      refine ⟨fun b o q => ?_, ?_⟩
      · rw [upd_ne (ne_of_none q hD)]
        exact s4 _ _ (s1 _ _ q)
      · rw [upd_same]
        simp [hp]
    · rw [if_neg hp]
      refine ⟨fun b o q => s4 _ _ (s1 _ _ q), ?_⟩
      rw [s4 _ _ hDl]
      simp [hp]
  · rintro H ⟨s1, h2⟩
    rw [List.length_map, List.take_length] at h2
    exact fin H s1 h2
theorem lc_map {α : Type} {J : It} {l : List α} {emb : α → V} {G : Hp → Prop} (wk : Walk J (l.map emb).length G (YAt (l.map emb))) {g : TG} {te : TE} {vs : List Nat} {σ : L2.St} {H1 : Hp} {D : Addr} {Qd : Hp → Prop}
    (f : α → V) (hD : H1 D = none) (hG : ∀ H, Same H1 H → G H) (hz : l.length < sizeLine)
    (turn : ∀ x ∈ l, ∀ (H : Hp) (acc : List V) (N : Hp → Prop), Same H1 H → H D = some (.lst acc) → (∀ H4, Same H H4 → (H4 D = some (.lst acc) ∧ acc.length < sizeLine ∧ N (upd H4 D (.lst (acc ++ [f x]))))) →
      g (emb x) (wipe σ vs) H fun σ2 H2 => wipe σ2 vs = wipe σ vs ∧ te σ2 H2 fun y H4 => ∃ acc, H4 D = some (.lst acc) ∧ acc.length < sizeLine ∧ N (upd H4 D (.lst (acc ++ [y]))))
    (mono : ∀ x H (A B : L2.St → Hp → Prop), (∀ σ H, A σ H → B σ H) → g x (wipe σ vs) H A → g x (wipe σ vs) H B)
    (fin : ∀ H, Same H1 H → H D = some (.lst (l.map f)) → Qd H) :
    ∃ W : Nat → Nat → Hp → Prop, (∃ m, W 0 m (upd H1 D (.lst []))) ∧ ∀ i m H, W i m H →
      (J.stop i H ∧ Qd H) ∨ (J.go i H ∧ ∃ Nx : Hp → Prop, (∀ H', Nx H' → ∃ m', m' < m ∧ W (i + 1) m' H') ∧ ∀ x H', J.yld i H x H' → g x (wipe σ vs) H' fun σ2 H2 => wipe σ2 vs = wipe σ vs ∧ tYes σ2 H2 fun b H3 =>
        if b = true then te σ2 H3 fun y H4 => ∃ acc, H4 D = some (.lst acc) ∧ acc.length < sizeLine ∧ Nx (upd H4 D (.lst (acc ++ [y]))) else Nx H3) := by
  refine lc_by wk (fun _ => true) f hD hG hz (fun x hx H acc N s1 ha hl kN => mono (emb x) H _ _ (fun σ2 H2 q => ⟨q.1, by simpa only [tYes, if_true] using q.2⟩) (turn x hx H acc N s1 ha fun H4 s4 => ⟨s4 _ _ ha, hl, ?_⟩)) fun H s1 h2 => fin H s1 ?_
  · have := kN H4 s4
    rwa [if_pos rfl] at this
  · rw [h2, List.filter_eq_self.mpr fun _ _ => rfl]
theorem gName_mono {n : Nat} (x : V) {σ : L2.St} (H : Hp) (A B : L2.St → Hp → Prop) (h : ∀ σ H, A σ H → B σ H) (q : gName n x σ H A) : gName n x σ H B := h _ _ q
end Nn

namespace Nn
open PySem PySem.Spec PyProof.Rows L2
/-! ### words of numbers and names -/
theorem nat_le_dec (a b : Nat) : decide ((a : Int) ≤ (b : Int)) = decide (a ≤ b) := by
  by_cases h : a ≤ b
  · rw [decide_eq_true h, decide_eq_true (by omega)]
  · rw [decide_eq_false h, decide_eq_false (by omega)]
theorem nat_lt_dec (a b : Nat) : decide ((a : Int) < (b : Int)) = decide (a < b) := by
  by_cases h : a < b
  · rw [decide_eq_true h, decide_eq_true (by omega)]
  · rw [decide_eq_false h, decide_eq_false (by omega)]
theorem nv_inj {a b : Nat} (h : nv a = nv b) : a = b := by
  have := V.int.inj h
  omega
theorem nv_eq (a b : Nat) : decide (nv a = nv b) = (a == b) := by
  by_cases h : a = b
  · subst h
    simp
  · have h2 : ¬ nv a = nv b := fun z => h (nv_inj z)
    rw [decide_eq_false h2]
    simp [h]
theorem nvs_inj : ∀ {a b : List Nat}, a.map nv = b.map nv → a = b
  | [], [], _ => rfl
  | [], _ :: _, h => by simp at h
  | _ :: _, [], h => by simp at h
  | x :: a, y :: b, h => by
    simp only [List.map_cons, List.cons.injEq] at h
    rw [nv_inj h.1, nvs_inj h.2]
def dl (l : List Nat) : PyData := .tuple (l.map fun (n : Nat) => PyData.int (n : Int))
theorem dp_all {K : PySem.W.Frag} {H : Hp} : ∀ l : List Nat, DpAll K H (l.map nv) (l.map fun (n : Nat) => PyData.int (n : Int))
  | [] => .nil
  | n :: l => .cons (.int _) (dp_all l)
theorem dp_tn {K : PySem.W.Frag} {H : Hp} {a : Addr} {l : List Nat} (h : TN H a l) : Dp K H (.ref a) (dl l) := .tup (SqT.of h) (dp_all l)
theorem lay_nums : ∀ l : List Nat, PyData.canLayAll0 (l.map fun (n : Nat) => PyData.int (n : Int)) = true
  | [] => by simp [PyData.canLayAll0]
  | n :: l => by simp [PyData.canLayAll0, PyData.canLay0, lay_nums l]
theorem dep_nums : ∀ l : List Nat, PyData.depthAll (l.map fun (n : Nat) => PyData.int (n : Int)) ≤ 1
  | [] => by simp [PyData.depthAll]
  | n :: l => by
    have := dep_nums l
    simp only [List.map_cons, PyData.depthAll, PyData.depth]
    omega
theorem dl_shaped (l : List Nat) : SeqAt.shaped (dl l) = true := by
  have h := dep_nums l
  unfold SeqAt.shaped dl
  rw [PyData.canLay0, lay_nums, PyData.depth, Bool.true_and]
  exact decide_eq_true (by omega)
theorem eqv_nums : ∀ l m : List Nat, PyData.eqvAll (l.map fun (n : Nat) => PyData.int (n : Int)) (m.map fun (n : Nat) => PyData.int (n : Int)) = (l == m)
  | [], [] => by simp [PyData.eqvAll]
  | [], _ :: _ => by simp [PyData.eqvAll]
  | _ :: _, [] => by simp [PyData.eqvAll]
  | x :: l, y :: m => by
    rw [List.map_cons, List.map_cons, PyData.eqvAll, eqv_nums l m, PyData.eqv]
    by_cases e : x = y
    · subst e
      simp
    · have e2 : ((x : Int) == (y : Int)) = false := beq_eq_false_iff_ne.mpr (by omega)
      rw [e2, show (x :: l == y :: m) = ((x == y) && (l == m)) from rfl, beq_eq_false_iff_ne.mpr e]
theorem eqv_dl (l m : List Nat) : PyData.eqv (dl l) (dl m) = (l == m) := by
  unfold dl
  rw [PyData.eqv, eqv_nums]
section
variable {K : PySem.W.Frag} {H : Hp} {Q : VK} {a b : Addr} {l m : List Nat}
/-- == of two names -/
theorem eq_tn (h1 : TN H a l) (h2 : TN H b m) (q : Q (.bl (l == m)) H) : rEqD K (.ref a) (.ref b) H Q := by
  refine ⟨dl l, dl m, dp_tn h1, dp_tn h2, dl_shaped l, dl_shaped m, ?_⟩
  rw [eqv_dl]
  exact q
theorem take_map_nv (l : List Nat) (k : Nat) : (l.map nv).take k = (l.take k).map nv := by rw [List.map_take]
/-- t[:k] -/
theorem sl_take {i : Int} {k : Nat} (e : i = (k : Int)) (h : TN H a l) (q : ∀ p H', Same H H' → TN H' p (l.take k) → Q (.ref p) H') : rSlA K (.ref a) none (some i) H Q := by
  subst e
  refine ⟨a, l.map nv, rfl, SqT.of h, fun hw => ?_, fun hw p hp => ?_⟩
  · have e2 : l.take k = l := by
      have := hw.2
      rw [HT.sIx_nat, List.length_map] at this
      exact List.take_of_length_le (by omega)
    exact q a H (Same.refl H) (by rw [e2]; exact h)
  · refine q p _ (Same.laid hp) ?_
    show upd H p _ p = _
    rw [upd_same]
    congr 2
    unfold cutV
    rw [HT.sIx_none, HT.sIx_nat, List.drop_zero, Nat.sub_zero, List.length_map]
    by_cases hk : k ≤ l.length
    · rw [Nat.min_eq_left hk, take_map_nv]
    · rw [Nat.min_eq_right (by omega), List.take_of_length_le (by rw [List.length_map]; exact Nat.le_refl _), List.take_of_length_le (l := l) (by omega)]
/-- t[:-1] -/
theorem sl_last (h : TN H a l) (q : ∀ p H', Same H H' → TN H' p l.dropLast → Q (.ref p) H') : rSlA K (.ref a) none (some (-1)) H Q := by
  refine ⟨a, l.map nv, rfl, SqT.of h, fun hw => ?_, fun hw p hp => ?_⟩
  · have e2 : l.dropLast = l := by
      have := hw.2
      rw [List.length_map] at this
      have z : HT.sIx l.length l.length (some (-1)) = ((-1 : Int) + (l.length : Int)).toNat := rfl
      rw [z] at this
      have hz : l.length = 0 := by omega
      rw [List.length_eq_zero_iff.mp hz]
      rfl
    exact q a H (Same.refl H) (by rw [e2]; exact h)
  · refine q p _ (Same.laid hp) ?_
    show upd H p _ p = _
    rw [upd_same]
    congr 2
    unfold cutV
    have z : HT.sIx (l.map nv).length (l.map nv).length (some (-1)) = ((-1 : Int) + ((l.map nv).length : Int)).toNat := rfl
    rw [HT.sIx_none, z, List.drop_zero, Nat.sub_zero, List.length_map, List.dropLast_eq_take, List.map_take]
    congr 1
    omega
/-- t[k:] -/
theorem sl_from {k : Nat} (h : TN H a l) (q : ∀ p H', Same H H' → TN H' p (l.drop k) → Q (.ref p) H') : rSlA K (.ref a) (some (k : Int)) none H Q := by
  refine ⟨a, l.map nv, rfl, SqT.of h, fun hw => ?_, fun hw p hp => ?_⟩
  · have e2 : l.drop k = l := by
      have := hw.1
      rw [HT.sIx_nat, List.length_map] at this
      by_cases hk : k = 0
      · rw [hk]; rfl
      · have hz : l.length = 0 := by omega
        rw [List.length_eq_zero_iff.mp hz]
        simp
    exact q a H (Same.refl H) (by rw [e2]; exact h)
  · refine q p _ (Same.laid hp) ?_
    show upd H p _ p = _
    rw [upd_same]
    congr 2
    unfold cutV
    rw [HT.sIx_none, HT.sIx_nat, List.length_map, List.map_drop]
    by_cases hk : k ≤ l.length
    · rw [Nat.min_eq_left hk, List.take_of_length_le (by rw [List.length_drop, List.length_map]; exact Nat.le_refl _)]
    · rw [Nat.min_eq_right (by omega), List.drop_of_length_le (l := l.map nv) (by rw [List.length_map]; exact Nat.le_refl _), List.drop_of_length_le (l := l.map nv) (by rw [List.length_map]; omega), List.take_nil]
/-- t + u -/
theorem cat_tn (h1 : TN H a l) (h2 : TN H b m) (hz : l.length + m.length ≤ sizeLine) (q : ∀ p H', Same H H' → TN H' p (l ++ m) → Q (.ref p) H') : rCatA K (.ref a) (.ref b) H Q := by
  refine ⟨a, b, l.map nv, m.map nv, rfl, rfl, SqT.of h1, SqT.of h2, by rw [List.length_map, List.length_map]; exact hz, fun e => ?_, fun e1 e2 => ?_, fun e1 e2 p hp => ?_⟩
  · rw [List.map_eq_nil_iff] at e
    exact q b H (Same.refl H) (by rw [e]; exact h2)
  · rw [List.map_eq_nil_iff] at e2
    exact q a H (Same.refl H) (by rw [e2, List.append_nil]; exact h1)
  · refine q p _ (Same.laid hp) ?_
    show upd H p _ p = _
    rw [upd_same, List.map_append]
/-- t[-1] of what isn't empty -/
theorem ix_end {x : Nat} (h : TN H a (l ++ [x])) (q : Q (nv x) H) : rIxT K (.ref a) (.int (-1)) H Q :=
  ⟨a, _, -1, nv x, rfl, rfl, SqT.of h, by rw [List.map_append]; exact atI_last _ _, q⟩
theorem ix_tn {i : Int} {k x : Nat} (e : i = (k : Int)) (h : TN H a l) (hx : l[k]? = some x) (q : Q (nv x) H) : rIxT K (.ref a) (.int i) H Q := by
  subst e
  exact ⟨a, _, k, nv x, rfl, rfl, SqT.of h, atI_nat (by rw [List.getElem?_map, hx]; rfl), q⟩
end
/-! ### tests -/
theorem ite_b {c : Bool} {A B : Prop} (h1 : c = true → A) (h2 : c = false → B) : if c = true then A else B := by
  cases c with
  | true => exact iteT (h1 rfl)
  | false => exact iteF (h2 rfl)
theorem if_t {c : Bool} {A B : Prop} (hc : c = true) (h : A) : if c = true then A else B := by
  subst hc
  exact iteT h
theorem if_f {c : Bool} {A B : Prop} (hc : c = false) (h : B) : if c = true then A else B := by
  subst hc
  exact iteF h
/-- what follows a statement, by what holds there -/
theorem seq_cut {t rest : TS} {D : Ends} {σ : L2.St} {H : Hp} (R : L2.St → Hp → Prop) (h1 : ∀ NX : L2.St → Hp → Prop, (∀ σ' H', R σ' H' → NX σ' H') → t { D with nx := NX } σ H) (h2 : ∀ σ' H', R σ' H' → rest D σ' H') : tSeq t rest D σ H :=
  h1 (rest D) h2
theorem op_eqK {X : Cx} {K : PySem.W.Frag} (hK : X.K = K) (hu : X.A.units + 64 < cLine) : OpR X (compareOp .Eq) (rEqD K) := by
  subst hK
  exact op_eqD hu
theorem ix_tupK {X : Cx} {K : PySem.W.Frag} (hK : X.K = K) : IxR X (rIxT K) := by
  subst hK
  exact ix_tup
theorem at0 {x : V} {l : List V} : atI (x :: l) 0 = some x := atI_nat (j := 0) rfl
end Nn

namespace Nn
open PySem PySem.Spec PyProof.Rows L2
section
variable {P : Program} {w : World} {K : PySem.W.Frag} {mg : Str → Option Value} {base : Heap} {c : Cs}
/-! ### names -/
def sp_is_name : Sp := fun vs H Q _ => ∃ a l, vs = [.ref a] ∧ TN H a l ∧ ∀ H', Same H H' → Q (.bl (Dn01.isName l)) H'
theorem ok_is_name {f : Addr} {fd : FuncData} (F : Fun K "is_name" "is_name" s_is_name f fd) (T : Txt K mg c) (cok : COk c)  : FnOk P w K mg base CX0 1 f fd ["row"] sp_is_name := by
  refine F.ok sc_is_name (fun vs H Q E h => ?_) (fun cdv A outer s H vs Q E hr h => ?_)
  · obtain ⟨a, l, rfl, _⟩ := h
    rfl
  · refine ⟨_, (pss_cons (ps_if (pt_cmpR op_gt (pe_callB call_len_seq (by rfl) T.f_len PySem.boot_len (pa_cons (pv 0) pa_nil)) (kn T.k_MOST_LABELS) (nomark _)) (pss_one (ps_ret pe_bl)) pss_nil)
      (pss_one (ps_ret (pe_callB (cr_all rfl) (by rfl) T.f_all (by decide +kernel) (pa_cons (pe_lc (own := [("label", 1)]) (by rfl) sc_is_name.nd (pi_tup (pv 0)) (blkOk_by (own := [("label", 1)]) (N := ["row", "label"]) (sc := defScope s_is_name) (by decide +kernel)) (fun _ _ _ _ _ => pg_name (i := 1) sc_is_name.nd rfl (Or.inl rfl)) (fun _ _ _ _ _ => pts_nil) (fun _ _ _ _ _ => (pe_chain op_le op_le pe_int (pv 1) (kn T.k_HIGHEST_LABEL)))) pa_nil))))), ?_⟩
    obtain ⟨a, l, rfl, hl, k⟩ := h
    refine ⟨_, rfl, _, _, rfl, .inr (SqT.of hl), _, _, rfl, rfl, _, rfl, ite2 (fun hc => ?_) fun hc => ?_⟩
    · have e : Dn01.isName l = false := by
        have h1 := of_decide_eq_true hc
        rw [List.length_map] at h1
        unfold Dn01.isName
        rw [show decide (l.length ≤ Dn01.DEEP) = false from decide_eq_false (by unfold Dn01.DEEP; omega)]
        rfl
      rw [e] at k
      exact k H (Same.refl H)
    refine ⟨_, rfl, _, rfl, ⟨_, SqT.of hl⟩, fun D hD => ?_⟩
    have hsz : l.length ≤ 6 := by
      have h1 : ¬ (6 : Int) < ((l.map nv).length : Nat) := fun z => hc (decide_eq_true z)
      rw [List.length_map] at h1
      omega
    refine lc_map (emb := nv) (l := l) walk_tup (fun n => .bl (decide (1 ≤ n) && decide (n ≤ 99))) hD (fun H' s => SqT.of (s _ _ hl)) (by rw [sizeLine_eq]; omega) (fun n hn H' acc N s1 hacc kN => ?_) (fun x H A B => gName_mono x H A B) fun H' s1 hDl => ?_
    · refine ⟨rfl, _, rfl, _, _, rfl, rfl, _, rfl, ?_⟩
      have := kN H' (Same.refl H')
      rw [← nat_le_dec 1 n, ← nat_le_dec n 99] at this
      refine ite_b (fun h1 => ?_) fun h1 => ?_
      · refine ⟨_, _, rfl, rfl, acc, ?_⟩
        rw [show decide (((1 : Nat) : Int) ≤ (n : Int)) = true from h1] at this
        exact this
      · rw [show decide (((1 : Nat) : Int) ≤ (n : Int)) = false from h1] at this
        exact ⟨acc, this⟩
    · refine ⟨_, l.map (fun n => decide (1 ≤ n) && decide (n ≤ 99)), rfl, SqL.of ?_, ?_⟩
      · rw [hDl, List.map_map]
        rfl
      · have e : ((l.map fun n => decide (1 ≤ n) && decide (n ≤ 99)).all id) = Dn01.isName l := by
          unfold Dn01.isName Dn01.DEEP Dn01.LABEL
          rw [show decide (l.length ≤ 6) = true from decide_eq_true hsz]
          simp [List.all_map, Function.comp_def]
        rw [e]
        exact k H' s1
def sp_others : Sp := fun vs H Q _ => ∃ a l, vs = [.ref a] ∧ TN H a l ∧ Q (.bl (l.getLast? == some 0)) H
theorem ok_is_for_all_others {f : Addr} {fd : FuncData} (F : Fun K "is_for_all_others" "is_for_all_others" s_is_for_all_others f fd) (T : Txt K mg c) (cok : COk c)  : FnOk P w K mg base CX0 1 f fd ["row"] sp_others := by
  refine F.ok sc_is_for_all_others (fun vs H Q E h => ?_) (fun cdv A outer s H vs Q E hr h => ?_)
  · obtain ⟨a, l, rfl, _⟩ := h
    rfl
  · refine ⟨_, (pss_one (ps_ret (pe_and (pe_cmpR op_gt (pe_callB call_len_seq (by rfl) T.f_len PySem.boot_len (pa_cons (pv 0) pa_nil)) pe_int (nomark _)) (pe_one (pe_cmpR op_eq (pe_ix (ix_tupK (K := K) rfl) (pv 0) (pe_un un_neg pe_int) (fun _ _ => rfl)) pe_int (nomark _)))))), ?_⟩
    obtain ⟨a, l, rfl, hl, k⟩ := h
    refine ⟨_, rfl, _, _, rfl, .inr (SqT.of hl), _, _, rfl, rfl, _, rfl, ?_⟩
    rcases List.eq_nil_or_concat l with rfl | ⟨l', x, rfl⟩
    · exact if_f (decide_eq_false (by decide)) k
    refine if_t (decide_eq_true ?_) ⟨_, rfl, _, rfl, ix_end (by simpa using hl) ⟨rfl, ?_⟩⟩
    · simp only [List.concat_eq_append, List.map_append, List.length_append, List.map_cons, List.map_nil, List.length_cons, List.length_nil]
      omega
    · rw [show decide (nv x = V.int 0) = (x == 0) from nv_eq x 0]
      simpa using k
def sp_owner : Sp := fun vs H Q _ => ∃ a l, vs = [.ref a] ∧ TN H a l ∧ ∀ H', Same H H' → Q (.bl (Dn01.isOwner l)) H'
theorem last0_name {l : List Nat} (h : (l.getLast? == some 0) = true) : Dn01.isName l = false := by
  rcases List.eq_nil_or_concat l with rfl | ⟨l', x, rfl⟩
  · cases h
  · simp only [List.concat_eq_append, List.getLast?_append, List.getLast?_singleton, Option.some_or, beq_iff_eq, Option.some.injEq] at h
    subst h
    unfold Dn01.isName
    simp
theorem ok_is_record_name {f : Addr} {fd : FuncData} (F : Fun K "is_record_name" "is_record_name" s_is_record_name f fd) (T : Txt K mg c) (cok : COk c) (d_is_for_all_others : GFn P w K mg base 1 "is_for_all_others" ["row"] sp_others) (d_is_name : GFn P w K mg base 1 "is_name" ["row"] sp_is_name) : FnOk P w K mg base CX0 2 f fd ["row"] sp_owner := by
  refine F.ok sc_is_record_name (fun vs H Q E h => ?_) (fun cdv A outer s H vs Q E hr h => ?_)
  · obtain ⟨a, l, rfl, _⟩ := h
    rfl
  · refine ⟨_, (pss_cons (ps_if (pt_val (kg d_is_for_all_others (hr.mono (by decide)) (pa_cons (pv 0) pa_nil))) (pss_one (ps_ret (pe_and (pe_cmpR op_le (pe_callB call_len_seq (by rfl) T.f_len PySem.boot_len (pa_cons (pv 0) pa_nil)) (kn T.k_MOST_LABELS) (nomark _)) (pe_one (kg d_is_name (hr.mono (by decide)) (pa_cons (pe_slice sl_tupA (pv 0) po_none (po_some (pe_un un_neg pe_int))) pa_nil)))))) pss_nil)
      (pss_one (ps_ret (kg d_is_name (hr.mono (by decide)) (pa_cons (pv 0) pa_nil))))), ?_⟩
    obtain ⟨a, l, rfl, hl, k⟩ := h
    refine ⟨_, rfl, a, l, rfl, hl, _, rfl, ite_b (fun hc => ?_) fun hc => ?_⟩
    · refine ⟨_, rfl, _, _, rfl, .inr (SqT.of hl), _, _, rfl, rfl, _, rfl, ite_b (fun h6 => ?_) fun h6 => ?_⟩
      · refine ⟨_, rfl, _, rfl, _, rfl, sl_last hl fun p H1 s1 h1 => ⟨p, _, rfl, h1, fun H2 s2 => ?_⟩⟩
        have e : Dn01.isOwner l = Dn01.isName l.dropLast := by
          have h7 := of_decide_eq_true h6
          rw [List.length_map] at h7
          have h8 : l.length ≤ Dn01.DEEP := by
            unfold Dn01.DEEP
            omega
          unfold Dn01.isOwner
          rw [last0_name hc, hc, decide_eq_true h8]
          simp
        rw [← e]
        exact k H2 (s1.trans s2)
      · have e : Dn01.isOwner l = false := by
          have h7 := of_decide_eq_false h6
          rw [List.length_map] at h7
          have h8 : ¬ l.length ≤ Dn01.DEEP := by
            unfold Dn01.DEEP
            omega
          unfold Dn01.isOwner
          rw [last0_name hc, decide_eq_false h8]
          simp
        have := k H (Same.refl H)
        rw [e] at this
        exact this
    · refine ⟨_, rfl, a, l, rfl, hl, fun H' s => ?_⟩
      have e : Dn01.isOwner l = Dn01.isName l := by
        unfold Dn01.isOwner
        rw [hc]
        simp
      rw [← e]
      exact k H' s
def sp_begins : Sp := fun vs H Q _ => ∃ a b l m, vs = [.ref a, .ref b] ∧ TN H a l ∧ TN H b m ∧ ∀ H', Same H H' → Q (.bl (m.isPrefixOf l)) H'
theorem isPrefix_take (m l : List Nat) : (l.take m.length == m) = m.isPrefixOf l := by
  rw [Bool.eq_iff_iff, beq_iff_eq, List.isPrefixOf_iff_prefix]
  exact ⟨fun e => e ▸ List.take_prefix _ _, fun h => (List.prefix_iff_eq_take.mp h).symm⟩
theorem ok_begins_with {f : Addr} {fd : FuncData} (F : Fun K "begins_with" "begins_with" s_begins_with f fd) (T : Txt K mg c) (cok : COk c)  : FnOk P w K mg base CX0 1 f fd ["row", "beginning"] sp_begins := by
  refine F.ok sc_begins_with (fun vs H Q E h => ?_) (fun cdv A outer s H vs Q E hr h => ?_)
  · obtain ⟨a, b, l, m, rfl, _⟩ := h
    rfl
  · refine ⟨_, (pss_one (ps_ret (pe_cmpR (op_eqK (K := K) rfl hr.units) (pe_slice sl_tupA (pv 0) po_none (po_some (pe_callB call_len_seq (by rfl) T.f_len PySem.boot_len (pa_cons (pv 1) pa_nil)))) (pv 1) (nomark _)))), ?_⟩
    obtain ⟨a, b, l, m, rfl, hl, hm, k⟩ := h
    refine ⟨_, rfl, _, rfl, _, _, rfl, .inr (SqT.of hm), _, rfl, sl_take (k := m.length) (by rw [List.length_map]) hl fun p H1 s1 h1 => ⟨_, rfl, eq_tn h1 (hm.same s1) ?_⟩⟩
    rw [isPrefix_take]
    exact k H1 s1
end
end Nn


namespace Nn
open PySem PySem.Spec PyProof.Rows L2
section
variable {P : Program} {w : World} {K : PySem.W.Frag} {mg : Str → Option Value} {base : Heap} {c : Cs}
/-! ### records, changes, zones -/
def recI : List V → List (Str × V)
  | [a0, a1, a2, a3] => recF a0 a1 a2 a3
  | _ => []
theorem ok_Record_init {f : Addr} {fd : FuncData} (F : Fun K "__init__" "Record.__init__" s_Record_init f fd) (T : Txt K mg c) (cok : COk c)  : FnOk P w K mg base CX0 1 f fd ["self", "name", "kind", "value", "life"] (spIni c.crec 4 recI) := by
  refine F.ok sc_Record_init (fun vs H Q E h => ?_) (fun cdv A outer s H vs Q E hr h => ?_)
  · obtain ⟨p, dx, us, rfl, hl, _⟩ := h
    exact congrArg (· + 1) hl
  · refine ⟨_, (pss_cons (kfs (pv 0) (pv 1) T.cl_rec T.n_rec_name)
      (pss_cons (kfs (pv 0) (pv 2) T.cl_rec T.n_rec_kind)
      (pss_cons (kfs (pv 0) (pv 3) T.cl_rec T.n_rec_value)
      (pss_one (kfs (pv 0) (pv 4) T.cl_rec T.n_rec_life))))), ?_⟩
    obtain ⟨p, dx, us, rfl, hl, hp, k⟩ := h
    match us, hl, k with
    | [a0, a1, a2, a3], _, k =>
      refine ⟨_, rfl, _, rfl, p, dx, _, rfl, hp, (by show 0 < 1000; decide), _, rfl, _, rfl, p, dx, _, rfl, upd_same, (by show 1 < 1000; decide), _, rfl, _, rfl, p, dx, _, rfl, upd_same, (by show 2 < 1000; decide), _, rfl, _, rfl, p, dx, _, rfl, upd_same, (by show 3 < 1000; decide), ?_⟩
      simp only [upd_upd, new_rec]
      exact k
def sp_same (c : Cs) : Sp := fun vs H Q _ => ∃ a b r q, vs = [.ref a, .ref b] ∧ RecA c H a r ∧ RecA c H b q ∧ Q (.bl (sameR r q)) H
theorem ok_Record_is_same_as {f : Addr} {fd : FuncData} (F : Fun K "is_same_as" "Record.is_same_as" s_Record_is_same_as f fd) (T : Txt K mg c) (cok : COk c)  : FnOk P w K mg base CX0 1 f fd ["self", "other"] (sp_same c) := by
  refine F.ok sc_Record_is_same_as (fun vs H Q E h => ?_) (fun cdv A outer s H vs Q E hr h => ?_)
  · obtain ⟨a, b, r, q, rfl, _⟩ := h
    rfl
  · refine ⟨_, (pss_one (ps_ret (pe_and (pe_cmpR (op_eqK (K := K) rfl hr.units) (kf (pv 0) T.cl_rec T.n_rec_name) (kf (pv 1) T.cl_rec T.n_rec_name) (nomark _)) (pe_and (pe_cmpR op_eq (kf (pv 0) T.cl_rec T.n_rec_kind) (kf (pv 1) T.cl_rec T.n_rec_kind) (nomark _)) (pe_one (pe_cmpR (op_eqK (K := K) rfl hr.units) (kf (pv 0) T.cl_rec T.n_rec_value) (kf (pv 1) T.cl_rec T.n_rec_value) (nomark _))))))), ?_⟩
    obtain ⟨a, b, r, q, rfl, ⟨na, va, ⟨dx, h1⟩, h2, h3⟩, ⟨nb, vb, ⟨dy, g1⟩, g2, g3⟩, k⟩ := h
    refine ⟨_, rfl, a, dx, _, _, rfl, h1, lk_rec_name, _, rfl, b, dy, _, _, rfl, g1, lk_rec_name, eq_tn h2 g2 ⟨_, rfl, ite_b (fun e1 => ?_) fun e1 => ?_⟩⟩
    · refine ⟨_, rfl, a, dx, _, _, rfl, h1, lk_rec_kind, _, rfl, b, dy, _, _, rfl, g1, lk_rec_kind, rfl, _, rfl, ite_b (fun e2 => ?_) fun e2 => ?_⟩
      · refine ⟨_, rfl, a, dx, _, _, rfl, h1, lk_rec_value, _, rfl, b, dy, _, _, rfl, g1, lk_rec_value, eq_tn h3 g3 ?_⟩
        rw [nv_eq] at e2
        unfold sameR at k
        rw [e1, e2, Bool.true_and, Bool.true_and] at k
        exact k
      · rw [nv_eq] at e2
        unfold sameR at k
        rw [e1, e2, Bool.true_and, Bool.false_and] at k
        exact k
    · unfold sameR at k
      rw [e1, Bool.false_and] at k
      exact k
def chgI : List V → List (Str × V)
  | [a0, a1] => chgF a0 a1
  | _ => []
theorem ok_Change_init {f : Addr} {fd : FuncData} (F : Fun K "__init__" "Change.__init__" s_Change_init f fd) (T : Txt K mg c) (cok : COk c)  : FnOk P w K mg base CX0 1 f fd ["self", "puts_in", "record"] (spIni c.cchg 2 chgI) := by
  refine F.ok sc_Change_init (fun vs H Q E h => ?_) (fun cdv A outer s H vs Q E hr h => ?_)
  · obtain ⟨p, dx, us, rfl, hl, _⟩ := h
    exact congrArg (· + 1) hl
  · refine ⟨_, (pss_cons (kfs (pv 0) (pv 1) T.cl_chg T.n_chg_puts_in)
      (pss_one (kfs (pv 0) (pv 2) T.cl_chg T.n_chg_record))), ?_⟩
    obtain ⟨p, dx, us, rfl, hl, hp, k⟩ := h
    match us, hl, k with
    | [a0, a1], _, k =>
      refine ⟨_, rfl, _, rfl, p, dx, _, rfl, hp, (by show 0 < 1000; decide), _, rfl, _, rfl, p, dx, _, rfl, upd_same, (by show 1 < 1000; decide), ?_⟩
      simp only [upd_upd, new_chg]
      exact k
def sp_zon_init (c : Cs) : Sp := fun vs H Q _ => ∃ p dx i a l, vs = [.ref p, i, a, l] ∧ H p = some (.ins c.czon dx []) ∧
  ∀ H' r q, Kp [p] H H' → H r = none → H q = none → At c.czon H' p (zonF i a l (.int 1) (.ref r) (.ref q)) → H' r = some (.lst []) → H' q = some (.lst []) → Q .non H'
theorem ok_Zone_init {f : Addr} {fd : FuncData} (F : Fun K "__init__" "Zone.__init__" s_Zone_init f fd) (T : Txt K mg c) (cok : COk c)  : FnOk P w K mg base CX0 1 f fd ["self", "identity", "apex", "life"] (sp_zon_init c) := by
  refine F.ok sc_Zone_init (fun vs H Q E h => ?_) (fun cdv A outer s H vs Q E hr h => ?_)
  · obtain ⟨p, dx, i, a, l, rfl, _⟩ := h
    rfl
  · refine ⟨_, (pss_cons (kfs (pv 0) (pv 1) T.cl_zon T.n_zon_identity)
      (pss_cons (kfs (pv 0) (pv 2) T.cl_zon T.n_zon_apex)
      (pss_cons (kfs (pv 0) (pv 3) T.cl_zon T.n_zon_life)
      (pss_cons (kfs (pv 0) pe_int T.cl_zon T.n_zon_serial)
      (pss_cons (kfs (pv 0) (pe_lst pa_nil) T.cl_zon T.n_zon_records)
      (pss_one (kfs (pv 0) (pe_lst pa_nil) T.cl_zon T.n_zon_changes))))))), ?_⟩
    obtain ⟨p, dx, i, a, l, rfl, hp, k⟩ := h
    refine ⟨_, rfl, _, rfl, p, dx, _, rfl, hp, (by show 0 < 1000; decide), _, rfl, _, rfl, p, dx, _, rfl, upd_same, (by show 1 < 1000; decide), _, rfl, _, rfl, p, dx, _, rfl, upd_same, (by show 2 < 1000; decide), _, rfl, p, dx, _, rfl, upd_same, (by show 3 < 1000; decide), (by show 0 ≤ sizeLine; exact Nat.zero_le _), fun r hr => ?_⟩
    simp only [upd_upd] at hr ⊢
    have nr : r ≠ p := fun z => by rw [z, upd_same] at hr; cases hr
    rw [upd_ne nr] at hr
    refine ⟨_, rfl, p, dx, _, rfl, (upd_ne (Ne.symm nr)).trans upd_same, (by show 4 < 1000; decide), (by show 0 ≤ sizeLine; exact Nat.zero_le _), fun q hq => ?_⟩
    have nq : q ≠ p := fun z => by rw [z, upd_same] at hq; cases hq
    rw [upd_ne nq] at hq
    have nqr : q ≠ r := fun z => by rw [z, upd_same] at hq; cases hq
    rw [upd_ne nqr, upd_ne nq] at hq
    refine ⟨_, rfl, p, dx, _, rfl, (upd_ne (Ne.symm nq)).trans upd_same, (by show 5 < 1000; decide), ?_⟩
    rw [new_zon]
    refine k _ r q (fun b o e n => ?_) hr hq ⟨dx, upd_same⟩ ?_ ?_
    · have nb : b ≠ p := fun z => n (by simp [z])
      rw [upd_ne nb, upd_ne (ne_of_none e hq), upd_ne nb, upd_ne (ne_of_none e hr), upd_ne nb]
      exact e
    · rw [upd_ne nr, upd_ne (Ne.symm nqr), upd_ne nr, upd_same]
    · rw [upd_ne nq, upd_same]
def FOk (F : List Addr) (H : Hp) : Prop := ∀ b ∈ F, ∃ xs, H b = some (.lst xs)
theorem FOk.new {F : List Addr} {H : Hp} {p : Addr} (f : FOk F H) (h : H p = none) : p ∉ F := fun m => by
  obtain ⟨xs, e⟩ := f p m
  rw [h] at e
  cases e
theorem FOk.same {F : List Addr} {H H' : Hp} (f : FOk F H) (s : Same H H') : FOk F H' := fun b m => let ⟨xs, e⟩ := f b m; ⟨xs, s _ _ e⟩
theorem same_none {H H' : Hp} (s : Same H H') {p : Addr} (h : H' p = none) : H p = none := by
  cases e : H p with
  | none => rfl
  | some o => rw [s _ _ e] at h; cases h
def chRecs (z : Dn01.Zone) (x : Dn01.Change) : List Dn01.Rec := Dn01.changed z.recs x
def sp_undergo (c : Cs) : Sp := fun vs H Q _ => ∃ a b F z x, vs = [.ref a, .ref b] ∧ FOk F H ∧ ZonA c F H a z ∧ ChgA c H b x ∧ z.recs.length < 1000 ∧ z.log.length < 1000 ∧
  ∀ H', Kp [a] H H' → ZonA c F H' a (z.change x) → Q .non H'
theorem chg_recs (rs : List Dn01.Rec) (x : Dn01.Change) (q : Dn01.Rec) (h1 : q.name = x.rec_.name) (h2 : q.sort = x.rec_.sort) (h3 : q.value = x.rec_.value) :
    Dn01.changed rs x = (rs.filter fun r => !sameR r q) ++ (if x.put = true then [x.rec_] else []) := by
  unfold Dn01.changed sameR
  rw [h1, h2, h3]
  by_cases hp : x.put = true
  · rw [if_pos hp, if_pos hp]
  · rw [if_neg hp, if_neg hp, List.append_nil]
theorem cut8 (xs : List V) : cutV xs (some (-8)) none = xs.drop (xs.length - 8) := by
  unfold cutV
  have z : HT.sIx xs.length 0 (some (-8)) = ((-8 : Int) + (xs.length : Int)).toNat := rfl
  rw [HT.sIx_none, z, show ((-8 : Int) + (xs.length : Int)).toNat = xs.length - 8 by omega, List.take_of_length_le (by rw [List.length_drop]; exact Nat.le_refl _)]
theorem ok_Zone_undergo {f : Addr} {fd : FuncData} (F : Fun K "undergo" "Zone.undergo" s_Zone_undergo f fd) (T : Txt K mg c) (cok : COk c) (d_Record_is_same_as : MFn P w K mg base 1 c.crec "is_same_as" ["self", "other"] (sp_same c)) : FnOk P w K mg base CX0 2 f fd ["self", "change"] (sp_undergo c) := by
  refine F.ok sc_Zone_undergo (fun vs H Q E h => ?_) (fun cdv A outer s H vs Q E hr h => ?_)
  · obtain ⟨a, b, F, z, x, rfl, _⟩ := h
    rfl
  · refine ⟨_, (pss_cons (ps_setLc (i := 2) (own := [("record", 3)]) (by rfl) sc_Zone_undergo.nd rfl rfl (sw_true rfl rfl rfl (by decide +kernel)) (pi_list (kf (pv 0) T.cl_zon T.n_zon_records)) (blkOk_by (own := [("record", 3)]) (N := ["self", "change", "kept", "record"]) (sc := defScope s_Zone_undergo) (by decide +kernel)) (fun _ _ _ _ _ => pg_name (i := 3) sc_Zone_undergo.nd rfl (Or.inl rfl)) (fun _ _ _ _ _ => pts_one (pt_not (pt_val (km (pv 3) d_Record_is_same_as (hr.mono (by decide)) (pa_cons (kf (pv 1) T.cl_chg T.n_chg_record) pa_nil))))) (fun _ _ _ _ _ => (pv 3)))
      (pss_cons (ps_if (pt_val (kf (pv 1) T.cl_chg T.n_chg_puts_in)) (pss_one (ps_expr (pe_bm PySem.F.plainAttrs_list PySem.F.slot_list_append PySem.F.type_list_append mt_append (pv 2) (pa_cons (kf (pv 1) T.cl_chg T.n_chg_record) pa_nil)))) pss_nil)
      (pss_cons (kfs (pv 0) (pv 2) T.cl_zon T.n_zon_records)
      (pss_cons (kfs (pv 0) (pe_slice sl_list (pe_op op_cat (kf (pv 0) T.cl_zon T.n_zon_changes) (pe_lst (pa_cons (pv 1) pa_nil))) (po_some (pe_un un_neg (kn T.k_CHANGES_KEPT))) po_none) T.cl_zon T.n_zon_changes)
      (pss_one (kfa (pv 0) pe_int in_add T.cl_zon T.n_zon_serial)))))), ?_⟩
    obtain ⟨a, b, F, z, x, rfl, fok, ⟨pa, ra, ca, ⟨dx, hz⟩, hap, ⟨nra, l, hl, hra, hrec⟩, ⟨nca, m, hm, hca, hch⟩⟩, ⟨xa, q, ⟨dy, hx⟩, hq, q1, q2, q3, q4⟩, zl, zm, k⟩ := h
    have ll : l.length < 1000 := by rw [← hl, List.length_map] at zl; exact zl
    have lm : m.length < 1000 := by
      have e : m.length = z.log.length := by rw [← List.length_map (f := fun p : Addr × Dn01.Change => p.2), hm, List.length_map]
      omega
    have line : 2000 < sizeLine := by decide
    refine ⟨_, rfl, a, dx, _, _, rfl, hz, lk_zon_records, ra, rfl, ⟨_, SqL.of hra⟩, fun D hD => lc_by (l := l) (emb := fun p => V.ref p.1) walk_list (fun p => !sameR p.2 q) (fun p => V.ref p.1) hD (fun H1 s => SqL.of (s _ _ hra)) (by omega) ?_ ?_⟩
    · intro p hp H1 acc N s1 hacc hz1 kN
      obtain ⟨dr, hr0⟩ := (hrec p hp).same s1 |>.choose_spec.choose_spec.1
      refine ⟨rfl, _, rfl, p.1, dr, _, rfl, hr0, no_rec_is_same_as, _, rfl, b, dy, _, _, rfl, s1 _ _ hx, lk_chg_record, p.1, xa, p.2, q, rfl, (hrec p hp).same s1, hq.same s1, _, rfl, ?_⟩
      refine ite_b (fun e => ?_) fun e => ?_
      · refine ⟨_, rfl, acc, hacc, hz1, ?_⟩
        have := kN H1 (Same.refl H1)
        rw [if_pos e] at this
        exact this
      · have := kN H1 (Same.refl H1)
        rw [if_neg (by rw [e]; exact Bool.false_ne_true)] at this
        exact this
    intro H1 s1 hD1
    have nDa : D ≠ a := fun e => by rw [e, hz] at hD; cases hD
    dsimp only [gName]
    refine seq_cut (fun σ' H2 => σ' = [some (.ref a), some (.ref b), some (.ref D), none] ∧ Same H H2 ∧ ∃ l2 : List (Addr × Dn01.Rec), H2 D = some (.lst (l2.map fun p => V.ref p.1)) ∧ (∀ p ∈ l2, RecA c H2 p.1 p.2) ∧ l2.map (·.2) = Dn01.changed z.recs x ∧ l2.length < 1001)
      (fun NX nx => ?_) ?_
    · have hl2 : (l.filter fun p => !sameR p.2 q).map (·.2) = z.recs.filter fun r => !sameR r q := by
        rw [← hl, List.filter_map]
        rfl
      have hlen : (l.filter fun p => !sameR p.2 q).length < 1000 := Nat.lt_of_le_of_lt (List.length_filter_le _ _) ll
      refine ⟨_, rfl, b, dy, _, _, rfl, s1 _ _ hx, lk_chg_puts_in, _, rfl, ite_b (fun hp => ?_) fun hp => ?_⟩
      · refine ⟨_, rfl, .inl ⟨rfl, _, SqL.of hD1⟩, _, rfl, b, dy, _, _, rfl, s1 _ _ hx, lk_chg_record, D, _, _, rfl, rfl, hD1, by rw [List.length_map]; omega, nx _ _ ⟨rfl, fun b o e => ?_, (l.filter fun p => !sameR p.2 q) ++ [(xa, x.rec_)], ?_, fun p hp2 => ?_, ?_, ?_⟩⟩
        · rw [upd_ne (ne_of_none e hD)]
          exact s1 _ _ e
        · rw [upd_same, List.map_append]
          rfl
        · have sD : Same H (upd H1 D (.lst (List.map (fun p : Addr × Dn01.Rec => V.ref p.1) (l.filter fun p => !sameR p.2 q) ++ [V.ref xa]))) := fun b o e => by
            rw [upd_ne (ne_of_none e hD)]
            exact s1 _ _ e
          rcases List.mem_append.mp hp2 with m1 | m1
          · exact (hrec p (List.mem_filter.mp m1).1).same sD
          · rw [List.mem_singleton.mp m1, ← q4 hp]
            exact hq.same sD
        · rw [chg_recs _ _ q q1 q2 q3, if_pos hp, List.map_append, hl2]
          rfl
        · rw [List.length_append, List.length_singleton]
          omega
      · refine nx _ _ ⟨rfl, s1, l.filter fun p => !sameR p.2 q, hD1, fun p hp2 => (hrec p (List.mem_filter.mp hp2).1).same s1, ?_, by omega⟩
        rw [chg_recs _ _ q q1 q2 q3, if_neg (by rw [hp]; exact Bool.false_ne_true), List.append_nil, hl2]
    rintro σ' H2 ⟨rfl, s2, l2, hD2, hrec2, hl2, len2⟩
    refine ⟨_, rfl, _, rfl, a, dx, _, rfl, s2 _ _ hz, (by show 6 < 1000; decide), ?_⟩
    rw [put_zon_records]
    have hca2 : H2 ca = some (.lst (m.map fun p => V.ref p.1)) := s2 _ _ hca
    have nca' : ca ≠ a := fun e => by rw [e, hz] at hca; cases hca
    refine ⟨_, rfl, a, dx, _, _, rfl, upd_same, lk_zon_changes, _, rfl, (by show 1 ≤ sizeLine; decide), fun p1 hp1 => ⟨ca, p1, m.map (fun p => V.ref p.1), [V.ref b], rfl, rfl, ?_, upd_same, ?_, fun p2 hp2 => ⟨_, rfl, _, rfl, p2, _, rfl, SqL.of upd_same, fun p3 hp3 => ?_⟩⟩⟩
    · have n1 : ca ≠ p1 := fun e => by rw [← e, upd_ne nca', hca2] at hp1; cases hp1
      rw [upd_ne n1, upd_ne nca']
      exact hca2
    · show (m.map _).length + 1 ≤ sizeLine
      rw [List.length_map]
      omega
    have na1 : a ≠ p1 := fun e => by rw [e, upd_same] at hp1; cases hp1
    have na2 : a ≠ p2 := fun e => by rw [← e, upd_ne na1, upd_same] at hp2; cases hp2
    have na3 : a ≠ p3 := fun e => by rw [← e, upd_ne na2, upd_ne na1, upd_same] at hp3; cases hp3
    refine ⟨_, rfl, a, dx, zonF (nv (z.born + 1)) (.ref pa) (nv z.neg) (nv z.serial) (.ref D) (.ref ca), rfl, ?_, (by show 6 < 1000; decide), ?_⟩
    · rw [upd_ne na3, upd_ne na2, upd_ne na1, upd_same]
    rw [put_zon_changes]
    refine ⟨_, rfl, a, dx, _, _, rfl, upd_same, lk_zon_serial, _, _, rfl, rfl, dx, _, upd_same, (by show 6 < 1000; decide), ?_⟩
    rw [put_zon_serial, upd_upd]
    have hp1' : H2 p1 = none := by rw [upd_ne (Ne.symm na1)] at hp1; exact hp1
    have n21 : p2 ≠ p1 := fun e => by rw [e, upd_same] at hp2; cases hp2
    have hp2' : H2 p2 = none := by rw [upd_ne n21, upd_ne (Ne.symm na2)] at hp2; exact hp2
    have n32 : p3 ≠ p2 := fun e => by rw [e, upd_same] at hp3; cases hp3
    have n31 : p3 ≠ p1 := fun e => by rw [e, upd_ne (Ne.symm n21), upd_same] at hp3; cases hp3
    have hp3' : H2 p3 = none := by rw [upd_ne n32, upd_ne n31, upd_ne (Ne.symm na3)] at hp3; exact hp3
    have kp : Kp [a] H (upd (upd (upd (upd (upd H2 a (.ins c.czon dx (zonF (nv (z.born + 1)) (.ref pa) (nv z.neg) (nv z.serial) (.ref D) (.ref ca)))) p1 (.lst [V.ref b])) p2 (.lst (m.map (fun p => V.ref p.1) ++ [V.ref b]))) p3 (.lst (cutV (m.map (fun p => V.ref p.1) ++ [V.ref b]) (some (-8)) none))) a (.ins c.czon dx (zonF (nv (z.born + 1)) (.ref pa) (nv z.neg) (.int (z.serial + 1)) (.ref D) (.ref p3)))) := by
      intro b' o e n
      have nb : b' ≠ a := fun z => n (by simp [z])
      have e2 := s2 _ _ e
      rw [upd_ne nb, upd_ne (ne_of_none e2 hp3'), upd_ne (ne_of_none e2 hp2'), upd_ne (ne_of_none e2 hp1'), upd_ne nb]
      exact e2
    have kp2 : Kp [a] H2 (upd (upd (upd (upd (upd H2 a (.ins c.czon dx (zonF (nv (z.born + 1)) (.ref pa) (nv z.neg) (nv z.serial) (.ref D) (.ref ca)))) p1 (.lst [V.ref b])) p2 (.lst (m.map (fun p => V.ref p.1) ++ [V.ref b]))) p3 (.lst (cutV (m.map (fun p => V.ref p.1) ++ [V.ref b]) (some (-8)) none))) a (.ins c.czon dx (zonF (nv (z.born + 1)) (.ref pa) (nv z.neg) (.int (z.serial + 1)) (.ref D) (.ref p3)))) := by
      intro b' o e2 n
      have nb : b' ≠ a := fun z => n (by simp [z])
      rw [upd_ne nb, upd_ne (ne_of_none e2 hp3'), upd_ne (ne_of_none e2 hp2'), upd_ne (ne_of_none e2 hp1'), upd_ne nb]
      exact e2
    have im : Imm c F H2 _ := kp2.imm (F := F) cok fun y hy o e => by
      rw [List.mem_singleton.mp hy, s2 _ _ hz] at e
      cases e
      exact fun z => z (by simp [muts])
    refine k _ kp ⟨pa, D, p3, ⟨dx, upd_same⟩, TN.imm im (hap.same s2), ⟨fok.new hD, l2, hl2, kp2 _ _ hD2 (by simpa using nDa), fun p hp => (hrec2 p hp).imm im⟩, fun mF => ?_, (m ++ [(b, x)]).drop (m.length + 1 - 8), ?_, ?_, ?_⟩
    · exact (fok.same s2).new hp3' mF
    · rw [List.map_drop, List.map_append, hm, Dn01.Zone.change, List.map_drop, List.map_append]
      have e : m.length = z.log.length := by rw [← List.length_map (f := fun p : Addr × Dn01.Change => p.2), hm, List.length_map]
      rw [e]
      rfl
    · have n3a : p3 ≠ a := Ne.symm na3
      rw [upd_ne n3a, upd_same, cut8, List.map_drop, List.map_append, List.length_append, List.length_map]
      rfl
    · intro p hp
      rcases List.mem_append.mp (List.mem_of_mem_drop hp) with m1 | m1
      · exact ((hch p m1).same s2).imm im
      · rw [List.mem_singleton.mp m1]
        exact (ChgA.same ⟨xa, q, ⟨dy, hx⟩, hq, q1, q2, q3, q4⟩ s2).imm im
end
end Nn


namespace Nn
open PySem PySem.Spec PyProof.Rows L2
section
variable {P : Program} {w : World} {K : PySem.W.Frag} {mg : Str → Option Value} {base : Heap} {c : Cs}
/-! ### zones, further -/
def sp_twin (c : Cs) : Sp := fun vs H Q _ => ∃ a F z, vs = [.ref a] ∧ FOk F H ∧ ZonA c F H a z ∧ ∀ H' p, Same H H' → H p = none → ZonA c F H' p z → Q (.ref p) H'
theorem kp_new {H H0 H' : Hp} {x dx : Addr} {o1 o2 : HO} (hx : H x = none) (hd : H dx = none) (k : Kp [x] (upd (upd H dx o1) x o2) H') : Same H H' := fun b o e => by
  have nx := ne_of_none e hx
  exact k b o (by rw [upd_ne nx, upd_ne (ne_of_none e hd)]; exact e) (by simpa using nx)
theorem ok_Zone_twin {f : Addr} {fd : FuncData} (F : Fun K "twin" "Zone.twin" s_Zone_twin f fd) (T : Txt K mg c) (cok : COk c) (d_Zone_init : CFn P w K mg base 1 c.czon "Zone" ["self", "identity", "apex", "life"] (sp_zon_init c)) : FnOk P w K mg base CX0 3 f fd ["self"] (sp_twin c) := by
  refine F.ok sc_Zone_twin (fun vs H Q E h => ?_) (fun cdv A outer s H vs Q E hr h => ?_)
  · obtain ⟨a, F, z, rfl, _⟩ := h
    rfl
  · refine ⟨_, (pss_cons (ps_set (i := 1) sc_Zone_twin.nd rfl (Or.inl rfl) (kc d_Zone_init (hr.mono (by decide)) (pa_cons (kf (pv 0) T.cl_zon T.n_zon_identity) (pa_cons (kf (pv 0) T.cl_zon T.n_zon_apex) (pa_cons (kf (pv 0) T.cl_zon T.n_zon_life) pa_nil)))))
      (pss_cons (kfs (pv 1) (kf (pv 0) T.cl_zon T.n_zon_serial) T.cl_zon T.n_zon_serial)
      (pss_cons (kfs (pv 1) (pe_callTy call_list_of (by rfl) T.f_list (by decide +kernel) (pa_cons (kf (pv 0) T.cl_zon T.n_zon_records) pa_nil)) T.cl_zon T.n_zon_records)
      (pss_cons (kfs (pv 1) (pe_callTy call_list_of (by rfl) T.f_list (by decide +kernel) (pa_cons (kf (pv 0) T.cl_zon T.n_zon_changes) pa_nil)) T.cl_zon T.n_zon_changes)
      (pss_one (ps_ret (pv 1))))))), ?_⟩
    obtain ⟨a, F, z, rfl, fok, ⟨pa, ra, ca, ⟨dx, hz⟩, hap, ⟨nra, l, hl, hra, hrec⟩, ⟨nca, m, hm, hca, hch⟩⟩, k⟩ := h
    refine ⟨_, rfl, a, dx, _, _, rfl, hz, lk_zon_identity, _, rfl, a, dx, _, _, rfl, hz, lk_zon_apex, _, rfl, a, dx, _, _, rfl, hz, lk_zon_life, fun x dy hx hd ne => ⟨x, dy, _, _, _, rfl, upd_same, fun H1 r q kp1 hr hq ⟨dx1, hat⟩ hr1 hq1 => ⟨rfl, ?_⟩⟩⟩
    have s1 : Same H H1 := kp_new (H0 := H) hx hd kp1
    refine ⟨_, rfl, a, dx, _, _, rfl, s1 _ _ hz, lk_zon_serial, _, rfl, x, dx1, _, rfl, hat, (by show 6 < 1000; decide), ?_⟩
    rw [put_zon_serial]
    have nax : a ≠ x := ne_of_none hz hx
    refine ⟨_, rfl, a, dx, _, _, rfl, (upd_ne nax).trans (s1 _ _ hz), lk_zon_records, ra, _, rfl, .inl (SqL.of ((upd_ne (ne_of_none hra hx)).trans (s1 _ _ hra))), fun p1 hp1 => ?_⟩
    have nx1 : x ≠ p1 := fun e => by rw [e, upd_same] at hp1; cases hp1
    refine ⟨_, rfl, x, dx1, zonF (nv (z.born + 1)) (.ref pa) (nv z.neg) (nv z.serial) (.ref r) (.ref q), rfl, (upd_ne nx1).trans upd_same, (by show 6 < 1000; decide), ?_⟩
    rw [put_zon_records]
    have hp1' : H1 p1 = none := by rw [upd_ne (Ne.symm nx1)] at hp1; exact hp1
    have old : ∀ b o, H b = some o → b ≠ x ∧ b ≠ p1 := fun b o e => ⟨ne_of_none e hx, ne_of_none (s1 _ _ e) hp1'⟩
    refine ⟨_, rfl, a, dx, _, _, rfl, (upd_ne (old _ _ hz).1).trans ((upd_ne (old _ _ hz).2).trans ((upd_ne (old _ _ hz).1).trans (s1 _ _ hz))), lk_zon_changes, ca, _, rfl, .inl (SqL.of ((upd_ne (old _ _ hca).1).trans ((upd_ne (old _ _ hca).2).trans ((upd_ne (old _ _ hca).1).trans (s1 _ _ hca))))), fun p2 hp2 => ?_⟩
    have nx2 : x ≠ p2 := fun e => by rw [e, upd_same] at hp2; cases hp2
    have n12 : p1 ≠ p2 := fun e => by rw [← e, upd_ne (Ne.symm nx1), upd_same] at hp2; cases hp2
    have hp2' : H1 p2 = none := by rw [upd_ne (Ne.symm nx2), upd_ne (Ne.symm n12), upd_ne (Ne.symm nx2)] at hp2; exact hp2
    refine ⟨_, rfl, x, dx1, zonF (nv (z.born + 1)) (.ref pa) (nv z.neg) (nv z.serial) (.ref p1) (.ref q), rfl, (upd_ne nx2).trans upd_same, (by show 6 < 1000; decide), ?_⟩
    rw [put_zon_changes]
    refine ⟨_, rfl, ?_⟩
    have s9 : Same H (upd (upd (upd (upd (upd H1 x (.ins c.czon dx1 (zonF (nv (z.born + 1)) (.ref pa) (nv z.neg) (nv z.serial) (.ref r) (.ref q)))) p1 (.lst (l.map fun p => V.ref p.1))) x (.ins c.czon dx1 (zonF (nv (z.born + 1)) (.ref pa) (nv z.neg) (nv z.serial) (.ref p1) (.ref q)))) p2 (.lst (m.map fun p => V.ref p.1))) x (.ins c.czon dx1 (zonF (nv (z.born + 1)) (.ref pa) (nv z.neg) (nv z.serial) (.ref p1) (.ref p2)))) := fun b o e => by
      rw [upd_ne (old _ _ e).1, upd_ne (ne_of_none (s1 _ _ e) hp2'), upd_ne (old _ _ e).1, upd_ne (old _ _ e).2, upd_ne (old _ _ e).1]
      exact s1 _ _ e
    refine k _ x s9 hx ⟨pa, p1, p2, ⟨dx1, upd_same⟩, hap.same s9, ⟨fun mF => (fok.same s1).new hp1' mF, l, hl, ?_, fun p hp => (hrec p hp).same s9⟩, fun mF => (fok.same s1).new hp2' mF, m, hm, ?_, fun p hp => (hch p hp).same s9⟩
    · rw [upd_ne (Ne.symm nx1), upd_ne n12, upd_ne (Ne.symm nx1), upd_same]
    · rw [upd_ne (Ne.symm nx2), upd_same]
def sp_is_at (c : Cs) : Sp := fun vs H Q _ => ∃ a F z n, vs = [.ref a, nv n] ∧ ZonA c F H a z ∧ Q (.bl (n == 0 || n == z.serial)) H
theorem ok_Zone_is_at {f : Addr} {fd : FuncData} (F : Fun K "is_at" "Zone.is_at" s_Zone_is_at f fd) (T : Txt K mg c) (cok : COk c)  : FnOk P w K mg base CX0 1 f fd ["self", "serial"] (sp_is_at c) := by
  refine F.ok sc_Zone_is_at (fun vs H Q E h => ?_) (fun cdv A outer s H vs Q E hr h => ?_)
  · obtain ⟨a, F, z, n, rfl, _⟩ := h
    rfl
  · refine ⟨_, (pss_one (ps_ret (pe_or (pe_cmpR op_eq (pv 1) pe_int (nomark _)) (pe_one (pe_cmpR op_eq (pv 1) (kf (pv 0) T.cl_zon T.n_zon_serial) (nomark _)))))), ?_⟩
    obtain ⟨a, F, z, n, rfl, ⟨pa, ra, ca, ⟨dx, hz⟩, _⟩, k⟩ := h
    refine ⟨_, rfl, rfl, _, rfl, ite_b (fun e => ?_) fun e => ?_⟩
    · rw [show decide (nv n = V.int 0) = (n == 0) from nv_eq n 0] at e
      rw [e, Bool.true_or] at k
      exact k
    · rw [show decide (nv n = V.int 0) = (n == 0) from nv_eq n 0] at e
      rw [e, Bool.false_or, ← nv_eq] at k
      exact ⟨_, rfl, _, rfl, a, dx, _, _, rfl, hz, lk_zon_serial, rfl, k⟩
theorem any_snd {α β : Type} (l : List (α × β)) (g : β → Bool) : (l.map fun p => g p.2).any id = (l.map (·.2)).any g := by
  induction l with
  | nil => rfl
  | cons x l ih => simp only [List.map_cons, List.any_cons, ih, id]
theorem map_bl {α : Type} (l : List α) (g : α → Bool) : l.map (fun x => V.bl (g x)) = (l.map g).map V.bl := by rw [List.map_map]; rfl
def sp_has (c : Cs) : Sp := fun vs H Q _ => ∃ a b F z q, vs = [.ref a, .ref b] ∧ ZonA c F H a z ∧ RecA c H b q ∧ z.recs.length < 1000 ∧ ∀ H', Same H H' → Q (.bl (z.recs.any fun r => sameR r q)) H'
theorem ok_Zone_has {f : Addr} {fd : FuncData} (F : Fun K "has" "Zone.has" s_Zone_has f fd) (T : Txt K mg c) (cok : COk c) (d_Record_is_same_as : MFn P w K mg base 1 c.crec "is_same_as" ["self", "other"] (sp_same c)) : FnOk P w K mg base CX0 2 f fd ["self", "wanted"] (sp_has c) := by
  refine F.ok sc_Zone_has (fun vs H Q E h => ?_) (fun cdv A outer s H vs Q E hr h => ?_)
  · obtain ⟨a, b, F, z, q, rfl, _⟩ := h
    rfl
  · refine ⟨_, (pss_one (ps_ret (pe_callB (cr_any rfl) (by rfl) T.f_any (by decide +kernel) (pa_cons (pe_lc (own := [("record", 2)]) (by rfl) sc_Zone_has.nd (pi_list (kf (pv 0) T.cl_zon T.n_zon_records)) (blkOk_by (own := [("record", 2)]) (N := ["self", "wanted", "record"]) (sc := defScope s_Zone_has) (by decide +kernel)) (fun _ _ _ _ _ => pg_name (i := 2) sc_Zone_has.nd rfl (Or.inl rfl)) (fun _ _ _ _ _ => pts_nil) (fun _ _ _ _ _ => (km (pv 2) d_Record_is_same_as (hr.mono (by decide)) (pa_cons (pv 1) pa_nil)))) pa_nil)))), ?_⟩
    obtain ⟨a, b, F, z, q, rfl, ⟨pa, ra, ca, ⟨dx, hz⟩, hap, ⟨nra, l, hl, hra, hrec⟩, _⟩, hq, zl, k⟩ := h
    have line : 1000 < sizeLine := by decide
    have ll : l.length < 1000 := by rw [← hl, List.length_map] at zl; exact zl
    refine ⟨_, rfl, a, dx, _, _, rfl, hz, lk_zon_records, ra, rfl, ⟨_, SqL.of hra⟩, fun D hD => lc_map (l := l) (emb := fun p => V.ref p.1) walk_list (fun p => .bl (sameR p.2 q)) hD (fun H1 s => SqL.of (s _ _ hra)) (by omega) (fun p hp H1 acc N s1 hacc kN => ?_) (fun x H A B => gName_mono x H A B) fun H1 s1 hD1 => ?_⟩
    · obtain ⟨dr, hr0⟩ := (hrec p hp).same s1 |>.choose_spec.choose_spec.1
      exact ⟨rfl, _, rfl, p.1, dr, _, rfl, hr0, no_rec_is_same_as, _, rfl, p.1, b, p.2, q, rfl, (hrec p hp).same s1, hq.same s1, acc, kN H1 (Same.refl H1)⟩
    · refine ⟨D, l.map (fun p => sameR p.2 q), rfl, SqL.of (by rw [hD1, map_bl]), ?_⟩
      rw [any_snd l (fun r => sameR r q), hl]
      exact k H1 s1
def sp_has_of (c : Cs) : Sp := fun vs H Q _ => ∃ a b F z n, vs = [.ref a, .ref b] ∧ ZonA c F H a z ∧ TN H b n ∧ z.recs.length < 1000 ∧ ∀ H', Same H H' → Q (.bl (z.recs.any fun r => r.name == n)) H'
theorem ok_Zone_has_record_of {f : Addr} {fd : FuncData} (F : Fun K "has_record_of" "Zone.has_record_of" s_Zone_has_record_of f fd) (T : Txt K mg c) (cok : COk c)  : FnOk P w K mg base CX0 1 f fd ["self", "name"] (sp_has_of c) := by
  refine F.ok sc_Zone_has_record_of (fun vs H Q E h => ?_) (fun cdv A outer s H vs Q E hr h => ?_)
  · obtain ⟨a, b, F, z, q, rfl, _⟩ := h
    rfl
  · refine ⟨_, (pss_one (ps_ret (pe_callB (cr_any rfl) (by rfl) T.f_any (by decide +kernel) (pa_cons (pe_lc (own := [("record", 2)]) (by rfl) sc_Zone_has_record_of.nd (pi_list (kf (pv 0) T.cl_zon T.n_zon_records)) (blkOk_by (own := [("record", 2)]) (N := ["self", "name", "record"]) (sc := defScope s_Zone_has_record_of) (by decide +kernel)) (fun _ _ _ _ _ => pg_name (i := 2) sc_Zone_has_record_of.nd rfl (Or.inl rfl)) (fun _ _ _ _ _ => pts_nil) (fun _ _ _ _ _ => (pe_cmpR (op_eqK (K := K) rfl hr.units) (kf (pv 2) T.cl_rec T.n_rec_name) (pv 1) (nomark _)))) pa_nil)))), ?_⟩
    obtain ⟨a, b, F, z, n, rfl, ⟨pa, ra, ca, ⟨dx, hz⟩, hap, ⟨nra, l, hl, hra, hrec⟩, _⟩, hn, zl, k⟩ := h
    have line : 1000 < sizeLine := by decide
    have ll : l.length < 1000 := by rw [← hl, List.length_map] at zl; exact zl
    refine ⟨_, rfl, a, dx, _, _, rfl, hz, lk_zon_records, ra, rfl, ⟨_, SqL.of hra⟩, fun D hD => lc_map (l := l) (emb := fun p => V.ref p.1) walk_list (fun p => .bl (p.2.name == n)) hD (fun H1 s => SqL.of (s _ _ hra)) (by omega) (fun p hp H1 acc N s1 hacc kN => ?_) (fun x H A B => gName_mono x H A B) fun H1 s1 hD1 => ?_⟩
    · obtain ⟨na, va, ⟨dr, hr0⟩, hna, hva⟩ := (hrec p hp).same s1
      exact ⟨rfl, _, rfl, p.1, dr, _, _, rfl, hr0, lk_rec_name, _, rfl, eq_tn hna (hn.same s1) ⟨acc, kN H1 (Same.refl H1)⟩⟩
    · refine ⟨D, l.map (fun p => p.2.name == n), rfl, SqL.of (by rw [hD1, map_bl]), ?_⟩
      rw [any_snd l (fun r => r.name == n), hl]
      exact k H1 s1
/-- a new list of the records rs -/
def RecsL (c : Cs) (H : Hp) (a : Addr) (rs : List Dn01.Rec) : Prop := ∃ l : List (Addr × Dn01.Rec), l.map (·.2) = rs ∧ H a = some (.lst (l.map fun p => V.ref p.1)) ∧ ∀ p ∈ l, RecA c H p.1 p.2
def sp_records_of (c : Cs) : Sp := fun vs H Q _ => ∃ a b F z n s, vs = [.ref a, .ref b, nv s] ∧ ZonA c F H a z ∧ TN H b n ∧ z.recs.length < 1000 ∧ ∀ H' p, Same H H' → H p = none → RecsL c H' p (z.of n s) → Q (.ref p) H'
theorem ok_Zone_records_of {f : Addr} {fd : FuncData} (F : Fun K "records_of" "Zone.records_of" s_Zone_records_of f fd) (T : Txt K mg c) (cok : COk c)  : FnOk P w K mg base CX0 1 f fd ["self", "name", "kind"] (sp_records_of c) := by
  refine F.ok sc_Zone_records_of (fun vs H Q E h => ?_) (fun cdv A outer s H vs Q E hr h => ?_)
  · obtain ⟨a, b, F, z, n, s, rfl, _⟩ := h
    rfl
  · refine ⟨_, (pss_one (ps_ret (pe_lc (own := [("record", 3)]) (by rfl) sc_Zone_records_of.nd (pi_list (kf (pv 0) T.cl_zon T.n_zon_records)) (blkOk_by (own := [("record", 3)]) (N := ["self", "name", "kind", "record"]) (sc := defScope s_Zone_records_of) (by decide +kernel)) (fun _ _ _ _ _ => pg_name (i := 3) sc_Zone_records_of.nd rfl (Or.inl rfl)) (fun _ _ _ _ _ => pts_one (PW.pt (pw_and (pt_cmpR (op_eqK (K := K) rfl hr.units) (kf (pv 3) T.cl_rec T.n_rec_name) (pv 1) (nomark _)) (pw_and1 (pt_cmpR op_eq (kf (pv 3) T.cl_rec T.n_rec_kind) (pv 2) (nomark _)))))) (fun _ _ _ _ _ => (pv 3))))), ?_⟩
    obtain ⟨a, b, F, z, n, so, rfl, ⟨pa, ra, ca, ⟨dx, hz⟩, hap, ⟨nra, l, hl, hra, hrec⟩, _⟩, hn, zl, k⟩ := h
    have line : 1000 < sizeLine := by decide
    have ll : l.length < 1000 := by rw [← hl, List.length_map] at zl; exact zl
    refine ⟨_, rfl, a, dx, _, _, rfl, hz, lk_zon_records, ra, rfl, ⟨_, SqL.of hra⟩, fun D hD => lc_by (l := l) (emb := fun p => V.ref p.1) walk_list (fun p => p.2.name == n && p.2.sort == so) (fun p => V.ref p.1) hD (fun H1 s => SqL.of (s _ _ hra)) (by omega) (fun p hp H1 acc N s1 hacc hz1 kN => ?_) fun H1 s1 hD1 => ?_⟩
    · obtain ⟨na, va, ⟨dr, hr0⟩, hna, hva⟩ := (hrec p hp).same s1
      have := kN H1 (Same.refl H1)
      refine ⟨rfl, _, rfl, p.1, dr, _, _, rfl, hr0, lk_rec_name, _, rfl, eq_tn hna (hn.same s1) ⟨_, rfl, ite_b (fun e => ?_) fun e => ?_⟩⟩
      · refine ⟨_, rfl, p.1, dr, _, _, rfl, hr0, lk_rec_kind, _, rfl, rfl, _, rfl, ite_b (fun e2 => ?_) fun e2 => ?_⟩
        · rw [nv_eq] at e2
          rw [if_pos (by rw [e, e2]; rfl)] at this
          exact ⟨_, rfl, acc, hacc, hz1, this⟩
        · rw [nv_eq] at e2
          rw [if_neg (by rw [e, e2]; exact Bool.false_ne_true)] at this
          exact this
      · rw [if_neg (by rw [e]; exact Bool.false_ne_true)] at this
        exact iteF this
    · refine k H1 D s1 hD ⟨l.filter fun p => p.2.name == n && p.2.sort == so, ?_, hD1, fun p hp => (hrec p (List.mem_filter.mp hp).1).same s1⟩
      unfold Dn01.Zone.of
      rw [← hl, List.filter_map]
      rfl
def sp_is_full (c : Cs) : Sp := fun vs H Q _ => ∃ a F z, vs = [.ref a] ∧ ZonA c F H a z ∧ Q (.bl (decide (40 ≤ z.recs.length))) H
theorem ok_Zone_is_full {f : Addr} {fd : FuncData} (F : Fun K "is_full" "Zone.is_full" s_Zone_is_full f fd) (T : Txt K mg c) (cok : COk c)  : FnOk P w K mg base CX0 1 f fd ["self"] (sp_is_full c) := by
  refine F.ok sc_Zone_is_full (fun vs H Q E h => ?_) (fun cdv A outer s H vs Q E hr h => ?_)
  · obtain ⟨a, F, z, rfl, _⟩ := h
    rfl
  · refine ⟨_, (pss_one (ps_ret (pe_cmpR op_ge (pe_callB call_len_seq (by rfl) T.f_len PySem.boot_len (pa_cons (kf (pv 0) T.cl_zon T.n_zon_records) pa_nil)) (kn T.k_MOST_RECORDS) (nomark _)))), ?_⟩
    obtain ⟨a, F, z, rfl, ⟨pa, ra, ca, ⟨dx, hz⟩, hap, ⟨nra, l, hl, hra, hrec⟩, _⟩, k⟩ := h
    refine ⟨_, rfl, a, dx, _, _, rfl, hz, lk_zon_records, ra, _, rfl, .inl (SqL.of hra), _, _, rfl, rfl, ?_⟩
    have e : (l.map fun p : Addr × Dn01.Rec => V.ref p.1).length = z.recs.length := by rw [← hl, List.length_map, List.length_map]
    rw [← nat_le_dec 40] at k
    rw [e]
    exact k
def clash (r x : Dn01.Rec) : Bool := x.name == r.name && (!sameR x r && (x.sort == 2 || r.sort == 2))
def sp_clash (c : Cs) : Sp := fun vs H Q _ => ∃ a b F z q, vs = [.ref a, .ref b] ∧ ZonA c F H a z ∧ RecA c H b q ∧ Q (.bl (z.recs.any (clash q))) H
theorem ok_Zone_has_clash {f : Addr} {fd : FuncData} (F : Fun K "has_clash" "Zone.has_clash" s_Zone_has_clash f fd) (T : Txt K mg c) (cok : COk c) (d_Record_is_same_as : MFn P w K mg base 1 c.crec "is_same_as" ["self", "other"] (sp_same c)) : FnOk P w K mg base CX0 2 f fd ["self", "added"] (sp_clash c) := by
  refine F.ok sc_Zone_has_clash (fun vs H Q E h => ?_) (fun cdv A outer s H vs Q E hr h => ?_)
  · obtain ⟨a, b, F, z, q, rfl, _⟩ := h
    rfl
  · refine ⟨_, (pss_cons (ps_for PassesOwn.never rfl (pi_list (kf (pv 0) T.cl_zon T.n_zon_records)) (pg_name (i := 2) sc_Zone_has_clash.nd rfl (Or.inl rfl)) (pss_one (ps_if (PW.pt (pw_and (pt_cmpR (op_eqK (K := K) rfl hr.units) (kf (pv 2) T.cl_rec T.n_rec_name) (kf (pv 1) T.cl_rec T.n_rec_name) (nomark _)) (pw_and1 (pt_not (pt_val (km (pv 2) d_Record_is_same_as (hr.mono (by decide)) (pa_cons (pv 1) pa_nil))))))) (pss_one (ps_if (PW.pt (pw_or (pt_cmpR op_eq (kf (pv 2) T.cl_rec T.n_rec_kind) (kn T.k_ALIAS) (nomark _)) (pw_or1 (pt_cmpR op_eq (kf (pv 1) T.cl_rec T.n_rec_kind) (kn T.k_ALIAS) (nomark _))))) (pss_one (ps_ret pe_bl)) pss_nil)) pss_nil)))
      (pss_one (ps_ret pe_bl))), ?_⟩
    obtain ⟨a, b, F, z, q, rfl, ⟨pa, ra, ca, ⟨dx, hz⟩, hap, ⟨nra, l, hl, hra, hrec⟩, _⟩, hq, k⟩ := h
    obtain ⟨nb, vb, ⟨dy, hb⟩, hnb, hvb⟩ := id hq
    refine ⟨_, rfl, a, dx, _, _, rfl, hz, lk_zon_records, ra, rfl, ⟨_, SqL.of hra⟩, for_list (xs := l.map fun p => V.ref p.1) (fun i σ H' => (∃ v, σ = [some (.ref a), some (.ref b), v]) ∧ H' = H ∧ (l.take i).any (fun p => clash q p.2) = false) ⟨⟨none, rfl⟩, rfl, rfl⟩ (fun i σ H' _ ⟨_, e, _⟩ => by rw [e]; exact SqL.of hra) ?_ ?_⟩
    · rintro i y σ H' hi ⟨⟨v, rfl⟩, rfl, hno⟩
      obtain ⟨p, hp, rfl⟩ : ∃ p, l[i]? = some p ∧ y = V.ref p.1 := by
        rw [List.getElem?_map] at hi
        cases e : l[i]? with
        | none => rw [e] at hi; cases hi
        | some p => rw [e] at hi; exact ⟨p, rfl, (Option.some.inj hi).symm⟩
      obtain ⟨na, va, ⟨dr, hr0⟩, hna, hva⟩ := id (hrec p (List.mem_of_getElem? hp))
      have tk : l.take (i + 1) = l.take i ++ [p] := by rw [List.take_succ, hp]; rfl
      have nxt : clash q p.2 = false → (∃ v, [some (V.ref a), some (.ref b), some (.ref p.1)] = [some (V.ref a), some (.ref b), v]) ∧ H' = H' ∧ (l.take (i + 1)).any (fun p => clash q p.2) = false := fun e => ⟨⟨_, rfl⟩, rfl, by rw [tk, List.any_append, hno, List.any_cons, e]; rfl⟩
      refine ⟨_, rfl, p.1, dr, _, _, rfl, hr0, lk_rec_name, _, rfl, b, dy, _, _, rfl, hb, lk_rec_name, eq_tn hna hnb ⟨_, rfl, ite_b (fun e1 => ?_) fun e1 => ?_⟩⟩
      · refine ⟨_, rfl, p.1, dr, _, rfl, hr0, no_rec_is_same_as, _, rfl, p.1, b, p.2, q, rfl, hrec p (List.mem_of_getElem? hp), hq, _, rfl, ite_b (fun e2 => ?_) fun e2 => ?_⟩
        · refine ⟨_, rfl, p.1, dr, _, _, rfl, hr0, lk_rec_kind, rfl, _, rfl, ite_b (fun e3 => ?_) fun e3 => ?_⟩
          · refine iteT ?_
            have e : z.recs.any (clash q) = true := by
              rw [← hl, List.any_map]
              refine List.any_eq_true.mpr ⟨p, List.mem_of_getElem? hp, ?_⟩
              rw [show decide (nv p.2.sort = V.int 2) = (p.2.sort == 2) from nv_eq _ 2] at e3
              show clash q p.2 = true
              unfold clash
              rw [e1, e2, e3]
              rfl
            rw [e] at k
            exact k
          · rw [show decide (nv p.2.sort = V.int 2) = (p.2.sort == 2) from nv_eq _ 2] at e3
            refine ⟨_, rfl, b, dy, _, _, rfl, hb, lk_rec_kind, rfl, _, rfl, ite_b (fun e4 => ?_) fun e4 => ?_⟩
            · rw [show decide (nv q.sort = V.int 2) = (q.sort == 2) from nv_eq _ 2] at e4
              have e : z.recs.any (clash q) = true := by
                rw [← hl, List.any_map]
                refine List.any_eq_true.mpr ⟨p, List.mem_of_getElem? hp, ?_⟩
                show clash q p.2 = true
                unfold clash
                rw [e1, e2, e3, e4]
                rfl
              rw [e] at k
              exact k
            · rw [show decide (nv q.sort = V.int 2) = (q.sort == 2) from nv_eq _ 2] at e4
              exact nxt (by unfold clash; rw [e1, e2, e3, e4]; rfl)
        · exact nxt (by unfold clash; rw [e1, e2]; rfl)
      · exact iteF (nxt (by unfold clash; rw [e1]; rfl))
    · rintro σ H' ⟨⟨v, rfl⟩, rfl, hno⟩
      rw [List.length_map, List.take_length] at hno
      have e : z.recs.any (clash q) = false := by
        rw [← hl, List.any_map]
        exact hno
      rw [e] at k
      exact k
theorem mayHave_eq (z : Dn01.Zone) (r : Dn01.Rec) : z.mayHave r.name r.sort r.value = (!(z.recs.any (clash r)) && !(r.sort == 3 && (r.name == z.apex || r.name.getLast? == some 0))) := by
  unfold Dn01.Zone.mayHave
  congr 1
  by_cases h : r.sort = 2
  · rw [if_pos h]
    induction z.recs with
    | nil => rfl
    | cons x l ih =>
      rw [List.all_cons, List.any_cons, Bool.not_or, ih]
      congr 1
      unfold clash sameR
      rw [h]
      cases e1 : (x.name == r.name) <;> cases e2 : (x.sort == 2) <;> cases e3 : (x.value == r.value) <;> simp [bne, e1]
  · rw [if_neg h]
    unfold Dn01.Zone.of
    have h2 : (r.sort == 2) = false := beq_eq_false_iff_ne.mpr h
    induction z.recs with
    | nil => rfl
    | cons x l ih =>
      rw [List.any_cons, Bool.not_or, ← ih]
      unfold clash sameR
      by_cases e1 : (x.name == r.name) = true
      · by_cases e2 : x.sort = 2
        · have e4 : (x.sort == r.sort) = false := beq_eq_false_iff_ne.mpr (by omega)
          rw [List.filter_cons_of_pos (by rw [e1, e2]; rfl), e1, e4, e2]
          rfl
        · have e5 : (x.sort == 2) = false := beq_eq_false_iff_ne.mpr e2
          rw [List.filter_cons_of_neg (by rw [e1, e5]; simp), e5, h2]
          simp
      · have e6 : (x.name == r.name) = false := by simpa using e1
        rw [List.filter_cons_of_neg (by rw [e6]; simp), e6]
        simp
def sp_may (c : Cs) : Sp := fun vs H Q _ => ∃ a b F z q, vs = [.ref a, .ref b] ∧ ZonA c F H a z ∧ RecA c H b q ∧ Q (.bl (z.mayHave q.name q.sort q.value)) H
theorem ok_Zone_may_stand_here {f : Addr} {fd : FuncData} (F : Fun K "may_stand_here" "Zone.may_stand_here" s_Zone_may_stand_here f fd) (T : Txt K mg c) (cok : COk c) (d_is_for_all_others : GFn P w K mg base 1 "is_for_all_others" ["row"] sp_others) (d_Zone_has_clash : MFn P w K mg base 2 c.czon "has_clash" ["self", "added"] (sp_clash c)) : FnOk P w K mg base CX0 3 f fd ["self", "record"] (sp_may c) := by
  refine F.ok sc_Zone_may_stand_here (fun vs H Q E h => ?_) (fun cdv A outer s H vs Q E hr h => ?_)
  · obtain ⟨a, b, F, z, q, rfl, _⟩ := h
    rfl
  · refine ⟨_, (pss_cons (ps_if (pt_cmpR op_eq (kf (pv 1) T.cl_rec T.n_rec_kind) (kn T.k_HANDED_ON) (nomark _)) (pss_one (ps_if (PW.pt (pw_or (pt_cmpR (op_eqK (K := K) rfl hr.units) (kf (pv 1) T.cl_rec T.n_rec_name) (kf (pv 0) T.cl_zon T.n_zon_apex) (nomark _)) (pw_or1 (pt_val (kg d_is_for_all_others (hr.mono (by decide)) (pa_cons (kf (pv 1) T.cl_rec T.n_rec_name) pa_nil)))))) (pss_one (ps_ret pe_bl)) pss_nil)) pss_nil)
      (pss_one (ps_ret (pe_not (km (pv 0) d_Zone_has_clash (hr.mono (by decide)) (pa_cons (pv 1) pa_nil)))))), ?_⟩
    obtain ⟨a, b, F, z, q, rfl, hz0, hq, k⟩ := h
    obtain ⟨pa, ra, ca, ⟨dx, hz⟩, hap, _⟩ := id hz0
    obtain ⟨nb, vb, ⟨dy, hb⟩, hnb, hvb⟩ := id hq
    rw [mayHave_eq] at k
    have last : (q.sort == 3 && (q.name == z.apex || q.name.getLast? == some 0)) = false → tM c.czon "has_clash" (sp_clash c) (tVar 0) (tCons (tVar 1) tNil) [some (.ref a), some (.ref b)] H (fun x H1 => ∃ d, x = .bl d ∧ Q (.bl (!d)) H1) := fun e => by
      rw [e, Bool.not_false, Bool.and_true] at k
      exact ⟨_, rfl, a, dx, _, rfl, hz, no_zon_has_clash, _, rfl, a, b, F, z, q, rfl, hz0, hq, _, rfl, k⟩
    refine ⟨_, rfl, b, dy, _, _, rfl, hb, lk_rec_kind, rfl, _, rfl, ite_b (fun e1 => ?_) fun e1 => ?_⟩
    · rw [show decide (nv q.sort = V.int 3) = (q.sort == 3) from nv_eq _ 3] at e1
      refine ⟨_, rfl, b, dy, _, _, rfl, hb, lk_rec_name, _, rfl, a, dx, _, _, rfl, hz, lk_zon_apex, eq_tn hnb hap ⟨_, rfl, ite_b (fun e2 => ?_) fun e2 => ?_⟩⟩
      · refine iteT ?_
        rw [e1, e2] at k
        simp at k
        exact k
      · refine ⟨_, rfl, b, dy, _, _, rfl, hb, lk_rec_name, nb, q.name, rfl, hnb, _, rfl, ite_b (fun e3 => ?_) fun e3 => ?_⟩
        · rw [e1, e3] at k
          simp at k
          exact k
        · exact last (by rw [e1, e2, e3]; rfl)
    · rw [show decide (nv q.sort = V.int 3) = (q.sort == 3) from nv_eq _ 3] at e1
      exact last (by rw [e1]; rfl)
end
end Nn


namespace Nn
open PySem PySem.Spec PyProof.Rows L2
section
variable {P : Program} {w : World} {K : PySem.W.Frag} {mg : Str → Option Value} {base : Heap} {c : Cs}
/-! ### right records -/
def valOk (n k : Nat) (l : List Nat) : Bool := match k with
  | 1 => decide (l.length = 1) && l.all fun x => decide (x ≤ Dn01.FAR)
  | 2 => Dn01.isName l
  | 3 => decide (l.length = 1) && l.all fun x => decide (x < n)
  | _ => false
theorem isValue_eq (h : Dn01.House) (k : Nat) (l : List Nat) : h.isValue k l = valOk h.servers.length k l := rfl
def sp_right_value : Sp := fun vs H Q _ => ∃ a l k n, vs = [nv k, .ref a, nv n] ∧ TN H a l ∧ ∀ H', Same H H' → Q (.bl (valOk n k l)) H'
theorem len1 {l : List Nat} : decide (V.int ((l.map nv).length : Nat) = V.int 1) = decide (l.length = 1) := by
  rw [List.length_map]
  have := nv_eq l.length 1
  rw [show decide (V.int (l.length : Nat) = V.int 1) = (l.length == 1) from this]
  by_cases h : l.length = 1
  · rw [h]; rfl
  · rw [decide_eq_false h, beq_eq_false_iff_ne.mpr h]
theorem one_of {l : List Nat} (h : l.length = 1) : ∃ x, l = [x] := by
  match l, h with
  | [x], _ => exact ⟨x, rfl⟩
theorem ok_is_right_value {f : Addr} {fd : FuncData} (F : Fun K "is_right_value" "is_right_value" s_is_right_value f fd) (T : Txt K mg c) (cok : COk c) (d_is_name : GFn P w K mg base 1 "is_name" ["row"] sp_is_name) : FnOk P w K mg base CX0 2 f fd ["kind", "value", "server_count"] sp_right_value := by
  refine F.ok sc_is_right_value (fun vs H Q E h => ?_) (fun cdv A outer s H vs Q E hr h => ?_)
  · obtain ⟨a, l, k, n, rfl, _⟩ := h
    rfl
  · refine ⟨_, (pss_cons (ps_if (pt_cmpR op_eq (pv 0) (kn T.k_NUMBER) (nomark _)) (pss_one (ps_ret (pe_and (pe_cmpR op_eq (pe_callB call_len_seq (by rfl) T.f_len PySem.boot_len (pa_cons (pv 1) pa_nil)) pe_int (nomark _)) (pe_one (pe_cmpR op_le (pe_ix (ix_tupK (K := K) rfl) (pv 1) pe_int (fun _ _ => rfl)) (kn T.k_HIGHEST_NUMBER) (nomark _)))))) pss_nil)
      (pss_cons (ps_if (pt_cmpR op_eq (pv 0) (kn T.k_ALIAS) (nomark _)) (pss_one (ps_ret (kg d_is_name (hr.mono (by decide)) (pa_cons (pv 1) pa_nil)))) pss_nil)
      (pss_cons (ps_if (pt_cmpR op_eq (pv 0) (kn T.k_HANDED_ON) (nomark _)) (pss_one (ps_ret (pe_and (pe_cmpR op_eq (pe_callB call_len_seq (by rfl) T.f_len PySem.boot_len (pa_cons (pv 1) pa_nil)) pe_int (nomark _)) (pe_one (pe_cmpR op_lt (pe_ix (ix_tupK (K := K) rfl) (pv 1) pe_int (fun _ _ => rfl)) (pv 2) (nomark _)))))) pss_nil)
      (pss_one (ps_ret pe_bl))))), ?_⟩
    obtain ⟨a, l, k, n, rfl, hl, q⟩ := h
    refine ⟨_, rfl, rfl, _, rfl, ite_b (fun e1 => ?_) fun e1 => ?_⟩
    · rw [show decide (nv k = V.int 1) = (k == 1) from nv_eq k 1, beq_iff_eq] at e1
      subst e1
      have q := q H (Same.refl H)
      refine ⟨_, rfl, _, _, rfl, .inr (SqT.of hl), rfl, _, rfl, ite_b (fun e2 => ?_) fun e2 => ?_⟩
      · rw [len1] at e2
        obtain ⟨x, rfl⟩ := one_of (of_decide_eq_true e2)
        refine ⟨_, rfl, a, _, 0, nv x, rfl, rfl, SqT.of hl, rfl, _, _, rfl, rfl, ?_⟩
        rw [show valOk n 1 [x] = decide (x ≤ 1000000000) by show (true && (decide (x ≤ Dn01.FAR) && true)) = _; rw [Bool.true_and, Bool.and_true]; rfl, ← nat_le_dec] at q
        exact q
      · rw [len1] at e2
        rw [show valOk n 1 l = false by simp only [valOk, e2, Bool.false_and]] at q
        exact q
    · rw [show decide (nv k = V.int 1) = (k == 1) from nv_eq k 1] at e1
      refine ⟨_, rfl, rfl, _, rfl, ite_b (fun e2 => ?_) fun e2 => ?_⟩
      · rw [show decide (nv k = V.int 2) = (k == 2) from nv_eq k 2, beq_iff_eq] at e2
        subst e2
        exact ⟨_, rfl, a, l, rfl, hl, q⟩
      · rw [show decide (nv k = V.int 2) = (k == 2) from nv_eq k 2] at e2
        have q := q H (Same.refl H)
        refine ⟨_, rfl, rfl, _, rfl, ite_b (fun e3 => ?_) fun e3 => ?_⟩
        · rw [show decide (nv k = V.int 3) = (k == 3) from nv_eq k 3, beq_iff_eq] at e3
          subst e3
          refine ⟨_, rfl, _, _, rfl, .inr (SqT.of hl), rfl, _, rfl, ite_b (fun e4 => ?_) fun e4 => ?_⟩
          · rw [len1] at e4
            obtain ⟨x, rfl⟩ := one_of (of_decide_eq_true e4)
            refine ⟨_, rfl, a, _, 0, nv x, rfl, rfl, SqT.of hl, rfl, _, rfl, _, _, rfl, rfl, ?_⟩
            rw [show valOk n 3 [x] = decide (x < n) by show (true && (decide (x < n) && true)) = _; rw [Bool.true_and, Bool.and_true], ← nat_lt_dec] at q
            exact q
          · rw [len1] at e4
            rw [show valOk n 3 l = false by simp only [valOk, e4, Bool.false_and]] at q
            exact q
        · rw [show decide (nv k = V.int 3) = (k == 3) from nv_eq k 3] at e3
          have e : valOk n k l = false := by
            rw [beq_eq_false_iff_ne] at e1 e2 e3
            unfold valOk
            split <;> first | rfl | contradiction
          rw [e] at q
          exact q
def recOk (n : Nat) (ap : List Nat) (r : Dn01.Rec) : Bool := Dn01.isOwner r.name && (ap.isPrefixOf r.name && (decide (r.life ≤ 100000) && valOk n r.sort r.value))
def sp_right_rec (c : Cs) : Sp := fun vs H Q _ => ∃ a b r ap n, vs = [.ref a, .ref b, nv n] ∧ RecA c H a r ∧ TN H b ap ∧ ∀ H', Same H H' → Q (.bl (recOk n ap r)) H'
theorem ok_is_right_record {f : Addr} {fd : FuncData} (F : Fun K "is_right_record" "is_right_record" s_is_right_record f fd) (T : Txt K mg c) (cok : COk c) (d_begins_with : GFn P w K mg base 1 "begins_with" ["row", "beginning"] sp_begins) (d_is_record_name : GFn P w K mg base 2 "is_record_name" ["row"] sp_owner) (d_is_right_value : GFn P w K mg base 2 "is_right_value" ["kind", "value", "server_count"] sp_right_value) : FnOk P w K mg base CX0 3 f fd ["record", "apex", "server_count"] (sp_right_rec c) := by
  refine F.ok sc_is_right_record (fun vs H Q E h => ?_) (fun cdv A outer s H vs Q E hr h => ?_)
  · obtain ⟨a, b, r, ap, n, rfl, _⟩ := h
    rfl
  · refine ⟨_, (pss_cons (ps_if (PW.pt (pw_or (pt_not (pt_val (kg d_is_record_name (hr.mono (by decide)) (pa_cons (kf (pv 0) T.cl_rec T.n_rec_name) pa_nil)))) (pw_or1 (pt_not (pt_val (kg d_begins_with (hr.mono (by decide)) (pa_cons (kf (pv 0) T.cl_rec T.n_rec_name) (pa_cons (pv 1) pa_nil)))))))) (pss_one (ps_ret pe_bl)) pss_nil)
      (pss_cons (ps_if (pt_cmpR op_gt (kf (pv 0) T.cl_rec T.n_rec_life) (kn T.k_LONGEST_LIFE) (nomark _)) (pss_one (ps_ret pe_bl)) pss_nil)
      (pss_one (ps_ret (kg d_is_right_value (hr.mono (by decide)) (pa_cons (kf (pv 0) T.cl_rec T.n_rec_kind) (pa_cons (kf (pv 0) T.cl_rec T.n_rec_value) (pa_cons (pv 2) pa_nil)))))))), ?_⟩
    obtain ⟨a, b, r, ap, n, rfl, hr0, hap, q⟩ := h
    obtain ⟨na, va, ⟨dx, hr1⟩, hna, hva⟩ := id hr0
    unfold recOk at q
    refine ⟨_, rfl, a, dx, _, _, rfl, hr1, lk_rec_name, na, r.name, rfl, hna, fun H1 s1 => ⟨_, rfl, ite_b (fun e1 => ?_) fun e1 => ?_⟩⟩
    · rw [Bool.not_eq_true'] at e1
      rw [e1, Bool.false_and] at q
      exact iteT (q H1 s1)
    · rw [Bool.not_eq_false'] at e1
      rw [e1, Bool.true_and] at q
      refine ⟨_, rfl, a, dx, _, _, rfl, s1 _ _ hr1, lk_rec_name, _, rfl, na, b, r.name, ap, rfl, hna.same s1, hap.same s1, fun H2 s2 => ⟨_, rfl, ite_b (fun e2 => ?_) fun e2 => ?_⟩⟩
      · rw [Bool.not_eq_true'] at e2
        rw [e2, Bool.false_and] at q
        exact q H2 (s1.trans s2)
      · rw [Bool.not_eq_false'] at e2
        rw [e2, Bool.true_and] at q
        have s3 := s1.trans s2
        refine ⟨_, rfl, a, dx, _, _, rfl, s3 _ _ hr1, lk_rec_life, _, _, rfl, rfl, _, rfl, ite_b (fun e3 => ?_) fun e3 => ?_⟩
        · rw [show decide ((100000 : Int) < (r.life : Int)) = decide (100000 < r.life) from nat_lt_dec 100000 r.life] at e3
          have e4 : ¬ r.life ≤ 100000 := by have := of_decide_eq_true e3; omega
          rw [decide_eq_false e4, Bool.false_and] at q
          exact q H2 s3
        · rw [show decide ((100000 : Int) < (r.life : Int)) = decide (100000 < r.life) from nat_lt_dec 100000 r.life] at e3
          have e4 : r.life ≤ 100000 := by have := of_decide_eq_false e3; omega
          rw [decide_eq_true e4, Bool.true_and] at q
          exact ⟨_, rfl, a, dx, _, _, rfl, s3 _ _ hr1, lk_rec_kind, _, rfl, a, dx, _, _, rfl, s3 _ _ hr1, lk_rec_value, _, rfl, va, r.value, r.sort, n, rfl, hva.same s3, fun H3 s4 => q H3 (s3.trans s4)⟩
/-! ### what's told -/
def telI : List V → List (Str × V)
  | [a0, a1, a2, a3] => telF a0 a1 a2 a3
  | _ => []
theorem ok_Telling_init {f : Addr} {fd : FuncData} (F : Fun K "__init__" "Telling.__init__" s_Telling_init f fd) (T : Txt K mg c) (cok : COk c)  : FnOk P w K mg base CX0 1 f fd ["self", "outcome", "name", "life", "rows"] (spIni c.ctel 4 telI) := by
  refine F.ok sc_Telling_init (fun vs H Q E h => ?_) (fun cdv A outer s H vs Q E hr h => ?_)
  · obtain ⟨p, dx, us, rfl, hl, _⟩ := h
    exact congrArg (· + 1) hl
  · refine ⟨_, (pss_cons (kfs (pv 0) (pv 1) T.cl_tel T.n_tel_outcome)
      (pss_cons (kfs (pv 0) (pv 2) T.cl_tel T.n_tel_name)
      (pss_cons (kfs (pv 0) (pv 3) T.cl_tel T.n_tel_life)
      (pss_one (kfs (pv 0) (pv 4) T.cl_tel T.n_tel_rows))))), ?_⟩
    obtain ⟨p, dx, us, rfl, hl, hp, k⟩ := h
    match us, hl, k with
    | [a0, a1, a2, a3], _, k =>
      refine ⟨_, rfl, _, rfl, p, dx, _, rfl, hp, (by show 0 < 1000; decide), _, rfl, _, rfl, p, dx, _, rfl, upd_same, (by show 1 < 1000; decide), _, rfl, _, rfl, p, dx, _, rfl, upd_same, (by show 2 < 1000; decide), _, rfl, _, rfl, p, dx, _, rfl, upd_same, (by show 3 < 1000; decide), ?_⟩
      simp only [upd_upd, new_tel]
      exact k
theorem tr_nil {H : Hp} {e : Addr} (h : H e = some (.tup [])) : TR H e [] := ⟨[], rfl, h, fun p hp => nomatch hp⟩
def sp_refusal (c : Cs) : Sp := fun vs H Q _ => ∃ a l, vs = [.ref a] ∧ TN H a l ∧ ∀ H' p, Same H H' → H p = none → TelA c H' p ⟨0, l, 0, []⟩ → Q (.ref p) H'
theorem ok_refusal_to_tell {f : Addr} {fd : FuncData} (F : Fun K "refusal_to_tell" "refusal_to_tell" s_refusal_to_tell f fd) (T : Txt K mg c) (cok : COk c) (d_Telling_init : CFn P w K mg base 1 c.ctel "Telling" ["self", "outcome", "name", "life", "rows"] (spIni c.ctel 4 telI)) : FnOk P w K mg base CX0 3 f fd ["name"] (sp_refusal c) := by
  refine F.ok sc_refusal_to_tell (fun vs H Q E h => ?_) (fun cdv A outer s H vs Q E hr h => ?_)
  · obtain ⟨a, l, rfl, _⟩ := h
    rfl
  · refine ⟨_, (pss_one (ps_ret (kc d_Telling_init (hr.mono (by decide)) (pa_cons (kn T.k_REFUSES) (pa_cons (pv 0) (pa_cons pe_int (pa_cons (pe_tup pa_nil) pa_nil))))))), ?_⟩
    obtain ⟨a, l, rfl, hl, q⟩ := h
    refine ⟨_, rfl, Nat.zero_le _, fun e he => mk_ini rfl fun x H' hx s hat => ?_⟩
    have s0 : Same H (upd H e (.tup [])) := Same.laid he
    exact q H' x (s0.trans s) (same_none s0 hx) ⟨a, e, hat, hl.same (s0.trans s), tr_nil (s _ _ upd_same)⟩
def sp_least (c : Cs) : Sp := fun vs H Q _ => ∃ a rs, vs = [.ref a] ∧ RecsL c H a rs ∧ rs ≠ [] ∧ rs.length < 1000 ∧ ∀ H', Same H H' → Q (nv (Dn01.least (rs.map fun r => r.life))) H'
theorem ok_least_life {f : Addr} {fd : FuncData} (F : Fun K "least_life" "least_life" s_least_life f fd) (T : Txt K mg c) (cok : COk c)  : FnOk P w K mg base CX0 1 f fd ["records"] (sp_least c) := by
  refine F.ok sc_least_life (fun vs H Q E h => ?_) (fun cdv A outer s H vs Q E hr h => ?_)
  · obtain ⟨a, rs, rfl, _⟩ := h
    rfl
  · refine ⟨_, (pss_one (ps_ret (pe_callB (cr_min rfl) (by rfl) T.f_min (by decide +kernel) (pa_cons (pe_lc (own := [("record", 1)]) (by rfl) sc_least_life.nd (pi_list (pv 0)) (blkOk_by (own := [("record", 1)]) (N := ["records", "record"]) (sc := defScope s_least_life) (by decide +kernel)) (fun _ _ _ _ _ => pg_name (i := 1) sc_least_life.nd rfl (Or.inl rfl)) (fun _ _ _ _ _ => pts_nil) (fun _ _ _ _ _ => (kf (pv 1) T.cl_rec T.n_rec_life))) pa_nil)))), ?_⟩
    obtain ⟨a, rs, rfl, ⟨l, hl, hra, hrec⟩, ne, zl, q⟩ := h
    have line : 1000 < sizeLine := by decide
    have ll : l.length < 1000 := by rw [← hl, List.length_map] at zl; exact zl
    refine ⟨_, rfl, a, rfl, ⟨_, SqL.of hra⟩, fun D hD => lc_map (l := l) (emb := fun p => V.ref p.1) walk_list (fun p => nv p.2.life) hD (fun H1 s => SqL.of (s _ _ hra)) (by omega) (fun p hp H1 acc N s1 hacc kN => ?_) (fun x H A B => gName_mono x H A B) fun H1 s1 hD1 => ?_⟩
    · obtain ⟨na, va, ⟨dr, hr0⟩, hna, hva⟩ := (hrec p hp).same s1
      exact ⟨rfl, _, rfl, p.1, dr, _, _, rfl, hr0, lk_rec_life, acc, kN H1 (Same.refl H1)⟩
    · have e : l.map (fun p => nv p.2.life) = ((rs.map fun r => r.life).map fun (n : Nat) => (n : Int)).map V.int := by
        rw [← hl, List.map_map, List.map_map, List.map_map]
        rfl
      refine ⟨D, (rs.map fun r => r.life).map fun (n : Nat) => (n : Int), rfl, SqL.of (by rw [hD1, e]), ?_, fun m hm hle => ?_⟩
      · rw [List.length_map, List.length_map]
        exact List.length_pos_iff.mpr ne
      · obtain ⟨n, hn, rfl⟩ := List.mem_map.mp hm
        have ne2 : (rs.map fun r => r.life) ≠ [] := by simpa using ne
        have h1 := hle _ (List.mem_map.mpr ⟨_, least_mem ne2, rfl⟩)
        have h2 := least_le hn
        have e3 : n = Dn01.least (rs.map fun r => r.life) := by omega
        rw [e3]
        exact q H1 s1
end
end Nn


namespace Nn
open PySem PySem.Spec PyProof.Rows L2
section
variable {P : Program} {w : World} {K : PySem.W.Frag} {mg : Str → Option Value} {base : Heap} {c : Cs}
/-! ### what a zone tells -/
def ones (rs : List Dn01.Rec) : Prop := ∀ r ∈ rs, r.sort = 3 → ∃ s, r.value = [s]
def sp_handing (c : Cs) : Sp := fun vs H Q _ => ∃ a b F z n, vs = [.ref a, .ref b] ∧ ZonA c F H a z ∧ TN H b n ∧ z.recs.length < 1000 ∧ n.length < 1000 ∧ z.apex.length < 1000 ∧ ones z.recs ∧
  (z.cut n = none → ∀ H', Same H H' → Q .non H') ∧
  ∀ b, z.cut n = some b → ∀ H' p, Same H H' → H p = none → TelA c H' p ⟨5, b, Dn01.least ((z.of b 3).map fun r => r.life), [srt ((z.of b 3).flatMap fun r => r.value)]⟩ → Q (.ref p) H'
theorem RecsL.same {c : Cs} {H H' : Hp} {a : Addr} {rs : List Dn01.Rec} (h : RecsL c H a rs) (s : Same H H') : RecsL c H' a rs := by
  obtain ⟨l, e, h1, h2⟩ := h
  exact ⟨l, e, s _ _ h1, fun p hp => (h2 p hp).same s⟩
theorem flat_ones : ∀ {rs : List Dn01.Rec}, (∀ r ∈ rs, ∃ s, r.value = [s]) → rs.flatMap (fun r => r.value) = rs.map fun r => r.value.headD 0
  | [], _ => rfl
  | r :: rs, h => by
    obtain ⟨s, e⟩ := h r (List.mem_cons_self ..)
    rw [List.flatMap_cons, List.map_cons, flat_ones fun q hq => h q (List.mem_cons_of_mem _ hq), e]
    rfl
theorem of_mem {z : Dn01.Zone} {n : List Nat} {s : Nat} {r : Dn01.Rec} (h : r ∈ z.of n s) : r ∈ z.recs ∧ r.name = n ∧ r.sort = s := by
  unfold Dn01.Zone.of at h
  obtain ⟨h1, h2⟩ := List.mem_filter.mp h
  simp only [Bool.and_eq_true, beq_iff_eq] at h2
  exact ⟨h1, h2.1, h2.2⟩
theorem of_len (z : Dn01.Zone) (n : List Nat) (s : Nat) : (z.of n s).length ≤ z.recs.length := List.length_filter_le _ _
theorem int_perm {ns : List Nat} {ms : List Int} (h : ms.Perm (ns.map fun (n : Nat) => (n : Int))) (hs : ms.Pairwise (· ≤ ·)) : ms = (srt ns).map fun (n : Nat) => (n : Int) := by
  have hm : ms = (ms.map Int.toNat).map fun (n : Nat) => (n : Int) := by
    rw [List.map_map]
    refine (List.map_id ms).symm.trans (List.map_congr_left fun x hx => ?_)
    obtain ⟨n, _, e⟩ := List.mem_map.mp (h.subset hx)
    show x = ((x.toNat : Nat) : Int)
    omega
  have h2 : (ms.map Int.toNat).Perm ns := by
    have := h.map Int.toNat
    rw [List.map_map] at this
    have e : (Int.toNat ∘ fun (n : Nat) => (n : Int)) = id := by
      funext n
      exact Int.toNat_natCast n
    rw [e, List.map_id] at this
    exact this
  rw [hm, srt_eq h2 (hs.map _ fun a b hab => by omega)]
theorem ok_handing_on {f : Addr} {fd : FuncData} (F : Fun K "handing_on" "handing_on" s_handing_on f fd) (T : Txt K mg c) (cok : COk c) (d_Zone_records_of : MFn P w K mg base 1 c.czon "records_of" ["self", "name", "kind"] (sp_records_of c)) (d_Telling_init : CFn P w K mg base 1 c.ctel "Telling" ["self", "outcome", "name", "life", "rows"] (spIni c.ctel 4 telI)) (d_least_life : GFn P w K mg base 1 "least_life" ["records"] (sp_least c)) : FnOk P w K mg base CX0 4 f fd ["zone", "name"] (sp_handing c) := by
  refine F.ok sc_handing_on (fun vs H Q E h => ?_) (fun cdv A outer s H vs Q E hr h => ?_)
  · obtain ⟨a, b, F, z, n, rfl, _⟩ := h
    rfl
  · refine ⟨_, (pss_cons (ps_for PassesOwn.never rfl (pi_range2 (by rfl) T.f_range (pa_cons (pe_op op_add (pe_callB call_len_seq (by rfl) T.f_len PySem.boot_len (pa_cons (kf (pv 0) T.cl_zon T.n_zon_apex) pa_nil)) pe_int) (pa_cons (pe_op op_add (pe_callB call_len_seq (by rfl) T.f_len PySem.boot_len (pa_cons (pv 1) pa_nil)) pe_int) pa_nil))) (pg_name (i := 2) sc_handing_on.nd rfl (Or.inl rfl)) (pss_cons (ps_set (i := 3) sc_handing_on.nd rfl (Or.inl rfl) (pe_slice sl_tupA (pv 1) po_none (po_some (pv 2))))
      (pss_cons (ps_set (i := 4) sc_handing_on.nd rfl (Or.inl rfl) (km (pv 0) d_Zone_records_of (hr.mono (by decide)) (pa_cons (pv 3) (pa_cons (kn T.k_HANDED_ON) pa_nil))))
      (pss_one (ps_if (pt_cmpR op_gt (pe_callB call_len_seq (by rfl) T.f_len PySem.boot_len (pa_cons (pv 4) pa_nil)) pe_int (nomark _)) (pss_cons (ps_set (i := 5) sc_handing_on.nd rfl (Or.inl rfl) (pe_callTy call_tuple_of (by rfl) T.f_tuple (by decide +kernel) (pa_cons (pe_callB cr_sortedI (by rfl) T.f_sorted (by decide +kernel) (pa_cons (pe_lc (own := [("record", 6)]) (by rfl) sc_handing_on.nd (pi_list (pv 4)) (blkOk_by (own := [("record", 6)]) (N := ["zone", "name", "length", "beginning", "found", "servers", "record"]) (sc := defScope s_handing_on) (by decide +kernel)) (fun _ _ _ _ _ => pg_name (i := 6) sc_handing_on.nd rfl (Or.inl rfl)) (fun _ _ _ _ _ => pts_nil) (fun _ _ _ _ _ => (pe_ix (ix_tupK (K := K) rfl) (kf (pv 6) T.cl_rec T.n_rec_value) pe_int (fun _ _ => rfl)))) pa_nil)) pa_nil)))
      (pss_one (ps_ret (kc d_Telling_init (hr.mono (by decide)) (pa_cons (kn T.k_HANDS_ON) (pa_cons (pv 3) (pa_cons (kg d_least_life (hr.mono (by decide)) (pa_cons (pv 4) pa_nil)) (pa_cons (pe_tup (pa_cons (pv 5) pa_nil)) pa_nil)))))))) pss_nil)))))
      (pss_one (ps_ret pe_non))), ?_⟩
    obtain ⟨a, b, F, z, n, rfl, hz0, hn, zl, nl, al, hone, q1, q2⟩ := h
    obtain ⟨pa, ra, ca, ⟨dx, hz⟩, hap, _⟩ := id hz0
    have line : 1000 < sizeLine := by decide
    refine ⟨_, rfl, a, dx, _, _, rfl, hz, lk_zon_apex, pa, _, rfl, .inr (SqT.of hap), _, _, rfl, rfl, _, rfl, _, _, rfl, .inr (SqT.of hn), _, _, rfl, rfl, _, _, rfl, ?_, ?_⟩
    · rw [List.length_map, List.length_map]
      refine ⟨?_, ?_, ?_, ?_⟩ <;> omega
    have e0 : ((((n.map nv).length : Nat) : Int) + 1 - ((((z.apex.map nv).length : Nat) : Int) + 1)).toNat = n.length - z.apex.length := by
      rw [List.length_map, List.length_map]
      omega
    rw [e0]
    refine for_range (lo := (((z.apex.map nv).length : Nat) : Int) + 1) (n := n.length - z.apex.length) (fun i σ H' => (∃ v2 v3 v4, σ = [some (.ref a), some (.ref b), v2, v3, v4, none, none]) ∧ Same H H' ∧ ∀ j < i, (z.of (n.take (z.apex.length + 1 + j)) 3).isEmpty = true) ⟨⟨none, none, none, rfl⟩, Same.refl H, fun j hj => absurd hj (Nat.not_lt_zero j)⟩ ?_ ?_
    · rintro i σ H1 hi ⟨⟨v2, v3, v4, rfl⟩, s1, hno⟩
      refine ⟨_, rfl, _, rfl, _, rfl, sl_take (k := z.apex.length + 1 + i) (by rw [List.length_map]; omega) (hn.same s1) fun p2 H2 s2 h2 => ?_⟩
      refine ⟨_, rfl, a, dx, _, rfl, s2 _ _ (s1 _ _ hz), no_zon_records_of, _, rfl, a, p2, F, z, _, 3, rfl, hz0.same (s1.trans s2), h2, zl, fun H3 p3 s3 hp3 hf => ?_⟩
      obtain ⟨l, hl, hlp, hrec⟩ := id hf
      have sall : Same H H3 := (s1.trans s2).trans s3
      refine ⟨_, rfl, p3, _, rfl, .inl (SqL.of hlp), _, _, rfl, rfl, _, rfl, ite_b (fun e1 => ?_) fun e1 => ?_⟩
      · have lpos : 0 < l.length := by
          have := of_decide_eq_true e1
          rw [List.length_map] at this
          omega
        have zne : z.of (n.take (z.apex.length + 1 + i)) 3 ≠ [] := fun e => by
          rw [← hl, List.map_eq_nil_iff] at e
          rw [e] at lpos
          exact absurd lpos (Nat.lt_irrefl 0)
        have ll : l.length ≤ z.recs.length := by
          have := of_len z (n.take (z.apex.length + 1 + i)) 3
          rw [← hl, List.length_map] at this
          exact this
        have hv : ∀ r ∈ z.of (n.take (z.apex.length + 1 + i)) 3, ∃ s, r.value = [s] := fun r hr => let ⟨h1, _, h3⟩ := of_mem hr; hone r h1 h3
        have hcut : z.cut n = some (n.take (z.apex.length + 1 + i)) := cut_some hi (by
          cases e : z.of (n.take (z.apex.length + 1 + i)) 3 with
          | nil => exact absurd e zne
          | cons x r => rfl) hno
        refine ⟨_, rfl, p3, rfl, ⟨_, SqL.of hlp⟩, fun D hD => lc_map (l := l) (emb := fun p => V.ref p.1) walk_list (fun p => nv (p.2.value.headD 0)) hD (fun H1 s => SqL.of (s _ _ hlp)) (by omega) (fun p hp H4 acc N s4 hacc kN => ?_) (fun x H A B => gName_mono x H A B) fun H4 s4 hD4 => ?_⟩
        · obtain ⟨na, va, ⟨dr, hr0⟩, hna, hva⟩ := (hrec p hp).same s4
          obtain ⟨s, es⟩ := hv p.2 (by rw [← hl]; exact List.mem_map.mpr ⟨p, hp, rfl⟩)
          refine ⟨rfl, _, rfl, p.1, dr, _, _, rfl, hr0, lk_rec_value, va, _, 0, nv s, rfl, rfl, SqT.of hva, by rw [es]; rfl, acc, ?_⟩
          have := kN H4 (Same.refl H4)
          rw [es] at this
          exact this
        · have e2 : l.map (fun p => nv (p.2.value.headD 0)) = (((z.of (n.take (z.apex.length + 1 + i)) 3).map fun r => r.value.headD 0).map fun (n : Nat) => (n : Int)).map V.int := by
            rw [← hl, List.map_map, List.map_map, List.map_map]
            rfl
          refine ⟨D, _, rfl, SqL.of (by rw [hD4, e2]), fun ns' p5 hperm hsort hp5 => ?_⟩
          have e3 := int_perm hperm hsort
          refine ⟨p5, _, rfl, .inl ⟨SqL.of upd_same, fun p6 hp6 => ?_⟩⟩
          have s5 : Same H4 (upd H4 p5 (.lst (ns'.map V.int))) := Same.laid hp5
          have s6 := s5.trans (Same.laid (o := .tup (ns'.map V.int)) hp6)
          have h6 : TN (upd (upd H4 p5 (.lst (ns'.map V.int))) p6 (.tup (ns'.map V.int))) p6 (srt ((z.of (n.take (z.apex.length + 1 + i)) 3).flatMap fun r => r.value)) := by
            show upd _ p6 _ p6 = _
            rw [upd_same, flat_ones hv, e3, List.map_map]
            rfl
          have sb := s4.trans s6
          refine ⟨_, rfl, _, rfl, p3, _, rfl, hf.same sb, zne, by rw [← hl, List.length_map]; omega, fun H7 s7 => ?_⟩
          refine ⟨_, rfl, (by show 1 ≤ sizeLine; decide), fun p8 hp8 => mk_ini rfl fun x H8 hx s8 hat => ?_⟩
          have s9 : Same H7 (upd H7 p8 (.tup [V.ref p6])) := Same.laid hp8
          have sf := sb.trans (s7.trans (s9.trans s8))
          refine q2 _ hcut H8 x (sall.trans sf) (same_none ((sall.trans sb).trans (s7.trans s9)) hx) ⟨p2, p8, hat, h2.same (s3.trans sf), [(p6, srt ((z.of (n.take (z.apex.length + 1 + i)) 3).flatMap fun r => r.value))], rfl, s8 _ _ upd_same, fun p hp => ?_⟩
          rw [List.mem_singleton.mp hp]
          exact h6.same (s7.trans (s9.trans s8))
      · refine ⟨⟨_, _, _, rfl⟩, sall, fun j hj => ?_⟩
        rcases Nat.lt_succ_iff_lt_or_eq.mp hj with h | rfl
        · exact hno j h
        · have := of_decide_eq_false e1
          rw [List.length_map] at this
          have l0 : l.length = 0 := by omega
          rw [← hl, List.length_eq_zero_iff.mp l0]
          rfl
    · rintro σ H1 ⟨⟨v2, v3, v4, rfl⟩, s1, hno⟩
      exact q1 (cut_none hno) H1 s1
def sp_there (c : Cs) : Sp := fun vs H Q _ => ∃ a b F z n, vs = [.ref a, .ref b] ∧ ZonA c F H a z ∧ TN H b n ∧ z.recs.length < 1000 ∧ ∀ H', Same H H' → Q (.bl (z.has n)) H'
theorem ok_there_is {f : Addr} {fd : FuncData} (F : Fun K "there_is" "there_is" s_there_is f fd) (T : Txt K mg c) (cok : COk c) (d_begins_with : GFn P w K mg base 1 "begins_with" ["row", "beginning"] sp_begins) : FnOk P w K mg base CX0 2 f fd ["zone", "name"] (sp_there c) := by
  refine F.ok sc_there_is (fun vs H Q E h => ?_) (fun cdv A outer s H vs Q E hr h => ?_)
  · obtain ⟨a, b, F, z, n, rfl, _⟩ := h
    rfl
  · refine ⟨_, (pss_cons (ps_if (pt_cmpR (op_eqK (K := K) rfl hr.units) (pv 1) (kf (pv 0) T.cl_zon T.n_zon_apex) (nomark _)) (pss_one (ps_ret pe_bl)) pss_nil)
      (pss_one (ps_ret (pe_callB (cr_any rfl) (by rfl) T.f_any (by decide +kernel) (pa_cons (pe_lc (own := [("record", 2)]) (by rfl) sc_there_is.nd (pi_list (kf (pv 0) T.cl_zon T.n_zon_records)) (blkOk_by (own := [("record", 2)]) (N := ["zone", "name", "record"]) (sc := defScope s_there_is) (by decide +kernel)) (fun _ _ _ _ _ => pg_name (i := 2) sc_there_is.nd rfl (Or.inl rfl)) (fun _ _ _ _ _ => pts_nil) (fun _ _ _ _ _ => (kg d_begins_with (hr.mono (by decide)) (pa_cons (kf (pv 2) T.cl_rec T.n_rec_name) (pa_cons (pv 1) pa_nil))))) pa_nil))))), ?_⟩
    obtain ⟨a, b, F, z, n, rfl, ⟨pa, ra, ca, ⟨dx, hz⟩, hap, ⟨nra, l, hl, hra, hrec⟩, _⟩, hn, zl, k⟩ := h
    have line : 1000 < sizeLine := by decide
    have ll : l.length < 1000 := by rw [← hl, List.length_map] at zl; exact zl
    unfold Dn01.Zone.has at k
    refine ⟨_, rfl, _, rfl, a, dx, _, _, rfl, hz, lk_zon_apex, eq_tn hn hap ⟨_, rfl, ite_b (fun e => ?_) fun e => ?_⟩⟩
    · rw [e, Bool.true_or] at k
      exact k H (Same.refl H)
    rw [e, Bool.false_or] at k
    refine ⟨_, rfl, a, dx, _, _, rfl, hz, lk_zon_records, ra, rfl, ⟨_, SqL.of hra⟩, fun D hD => lc_map (l := l) (emb := fun p => V.ref p.1) walk_list (fun p => .bl (n.isPrefixOf p.2.name)) hD (fun H1 s => SqL.of (s _ _ hra)) (by omega) (fun p hp H1 acc N s1 hacc kN => ?_) (fun x H A B => gName_mono x H A B) fun H1 s1 hD1 => ?_⟩
    · obtain ⟨na, va, ⟨dr, hr0⟩, hna, hva⟩ := (hrec p hp).same s1
      exact ⟨rfl, _, rfl, p.1, dr, _, _, rfl, hr0, lk_rec_name, _, rfl, na, b, p.2.name, n, rfl, hna, hn.same s1, fun H2 s2 => ⟨acc, kN H2 s2⟩⟩
    · refine ⟨D, l.map (fun p => n.isPrefixOf p.2.name), rfl, SqL.of (by rw [hD1, map_bl]), ?_⟩
      rw [any_snd l (fun r => n.isPrefixOf r.name), hl]
      exact k H1 s1
def sp_stand (c : Cs) : Sp := fun vs H Q _ => ∃ a b F z n, vs = [.ref a, .ref b] ∧ ZonA c F H a z ∧ TN H b n ∧ z.recs.length < 1000 ∧ n.length < 1000 ∧ n.take z.apex.length = z.apex ∧
  ∀ H' p, Same H H' → TN H' p (closest z n ++ [0]) → Q (.ref p) H'
theorem ok_name_for_all_others {f : Addr} {fd : FuncData} (F : Fun K "name_for_all_others" "name_for_all_others" s_name_for_all_others f fd) (T : Txt K mg c) (cok : COk c) (d_there_is : GFn P w K mg base 2 "there_is" ["zone", "name"] (sp_there c)) : FnOk P w K mg base CX0 3 f fd ["zone", "name"] (sp_stand c) := by
  refine F.ok sc_name_for_all_others (fun vs H Q E h => ?_) (fun cdv A outer s H vs Q E hr h => ?_)
  · obtain ⟨a, b, F, z, n, rfl, _⟩ := h
    rfl
  · refine ⟨_, (pss_cons (ps_set (i := 2) sc_name_for_all_others.nd rfl (Or.inl rfl) (pe_callB call_len_seq (by rfl) T.f_len PySem.boot_len (pa_cons (pv 1) pa_nil)))
      (pss_cons (ps_while PassesOwn.never (pt_not (pt_val (kg d_there_is (hr.mono (by decide)) (pa_cons (pv 0) (pa_cons (pe_slice sl_tupA (pv 1) po_none (po_some (pv 2))) pa_nil))))) (pss_one (ps_aug (i := 2) sc_name_for_all_others.nd rfl (Or.inl rfl) pe_int ip_sub)))
      (pss_one (ps_ret (pe_op op_catA (pe_slice sl_tupA (pv 1) po_none (po_some (pv 2))) (pe_tup (pa_cons pe_int pa_nil))))))), ?_⟩
    obtain ⟨a, b, F, z, n, rfl, hz0, hn, zl, nl, ha, k⟩ := h
    have line : 1000 < sizeLine := by decide
    have hal : z.apex.length ≤ n.length := by
      have := congrArg List.length ha
      rw [List.length_take] at this
      omega
    refine ⟨_, rfl, _, _, rfl, .inr (SqT.of hn), ?_⟩
    refine ⟨fun m σ H' => ∃ i : Nat, m = i ∧ i ≤ n.length ∧ z.apex.length ≤ i ∧ σ = [some (.ref a), some (.ref b), some (nv i)] ∧ Same H H' ∧ ∀ j, i < j → j ≤ n.length → z.has (n.take j) = false, ⟨n.length, n.length, rfl, Nat.le_refl _, hal, ?_, Same.refl H, fun j h1 h2 => absurd h1 (by omega)⟩, ?_⟩
    · show [some (V.ref a), some (V.ref b), some (V.int ((n.map nv).length : Nat))] = _
      rw [List.length_map]
      rfl
    rintro m σ H1 ⟨i, rfl, hi, hia, rfl, s1, hno⟩
    refine ⟨_, rfl, _, rfl, _, rfl, _, rfl, sl_take (i := (m : Int)) (k := m) rfl (hn.same s1) fun p2 H2 s2 h2 => ⟨a, p2, F, z, n.take m, rfl, hz0.same (s1.trans s2), h2, zl, fun H3 s3 => ⟨_, rfl, ite_b (fun e => ?_) fun e => ?_⟩⟩⟩
    · rw [Bool.not_eq_true'] at e
      have hlt : z.apex.length < m := by
        rcases Nat.lt_or_eq_of_le hia with h | h
        · exact h
        · rw [← h, ha] at e
          unfold Dn01.Zone.has at e
          simp at e
      refine ⟨fun σ' H' => ∃ i : Nat, i + 1 = m ∧ i ≤ n.length ∧ z.apex.length ≤ i ∧ σ' = [some (.ref a), some (.ref b), some (nv i)] ∧ Same H H' ∧ ∀ j, i < j → j ≤ n.length → z.has (n.take j) = false, fun σ' H' ⟨i, h1, h2⟩ => ⟨i, by omega, i, rfl, h2⟩, _, rfl, _, _, rfl, rfl, m - 1, by omega, by omega, by omega, ?_, (s1.trans s2).trans s3, fun j h1 h2 => ?_⟩
      · show [some (V.ref a), some (V.ref b), some (V.int ((m : Int) - 1))] = _
        rw [show (m : Int) - 1 = ((m - 1 : Nat) : Int) by omega]
        rfl
      · rcases Nat.lt_or_ge m j with h | h
        · exact hno j h h2
        · rw [show j = m by omega]
          exact e
    · rw [Bool.not_eq_false'] at e
      have s4 := (s1.trans s2).trans s3
      refine ⟨_, rfl, _, rfl, _, rfl, sl_take (i := (m : Int)) (k := m) rfl (hn.same s4) fun p5 H5 s5 h5 => ⟨(by show 1 ≤ sizeLine; decide), fun p6 hp6 => ?_⟩⟩
      have s6 : Same H5 (upd H5 p6 (.tup [nv 0])) := Same.laid hp6
      refine cat_tn (m := [0]) (h5.same s6) (show upd H5 p6 _ p6 = _ from upd_same) (by rw [List.length_take, List.length_singleton]; omega) fun p7 H7 s7 h7 => k H7 p7 ((s4.trans s5).trans (s6.trans s7)) ?_
      rw [closest_eq hia hi ha e hno]
      exact h7
end
end Nn


namespace Nn
open PySem PySem.Spec PyProof.Rows L2
section
variable {P : Program} {w : World} {K : PySem.W.Frag} {mg : Str → Option Value} {base : Heap} {c : Cs}
def tlOf (n : List Nat) : Dn01.Tells → Tl
  | .refuses => ⟨0, n, 0, []⟩
  | .refers b ss l => ⟨5, b, l, [ss]⟩
  | .data vs l => ⟨1, n, l, vs⟩
  | .alias m l => ⟨4, n, l, [m]⟩
  | .nothing l => ⟨2, n, l, []⟩
  | .never l => ⟨3, n, l, []⟩
def RecV (c : Cs) (H : Hp) (a : Addr) (r : Dn01.Rec) (va : Addr) : Prop := ∃ na, At c.crec H a (recF (.ref na) (nv r.sort) (.ref va) (nv r.life)) ∧ TN H na r.name ∧ TN H va r.value
theorem RecV.same {H H' : Hp} {a va : Addr} {r : Dn01.Rec} (h : RecV c H a r va) (s : Same H H') : RecV c H' a r va := by
  obtain ⟨na, h1, h2, h3⟩ := h
  exact ⟨na, h1.same s, h2.same s, h3.same s⟩
theorem vals_of {H : Hp} : ∀ {l : List (Addr × Dn01.Rec)}, (∀ p ∈ l, RecA c H p.1 p.2) → ∃ l' : List ((Addr × Dn01.Rec) × Addr), l'.map (·.1) = l ∧ ∀ q ∈ l', RecV c H q.1.1 q.1.2 q.2
  | [], _ => ⟨[], rfl, fun q hq => nomatch hq⟩
  | p :: l, h => by
    obtain ⟨l', e, h'⟩ := vals_of fun q hq => h q (List.mem_cons_of_mem p hq)
    obtain ⟨na, va, h1, h2, h3⟩ := h p (List.mem_cons_self ..)
    refine ⟨(p, va) :: l', by rw [List.map_cons, e], fun q hq => ?_⟩
    rcases List.mem_cons.mp hq with rfl | hq
    · exact ⟨na, h1, h2, h3⟩
    · exact h' q hq
theorem tells_alias {z : Dn01.Zone} {n : List Nat} {k : Nat} {a : Dn01.Rec} {r : List Dn01.Rec} (h : z.of n 2 = a :: r) (hk : k ≠ 2) : z.tells n k = .alias a.value a.life := by
  unfold Dn01.Zone.tells
  rw [h]
  cases z.of n k with
  | nil => rfl
  | cons x y => simp [hk]
theorem tells_none {z : Dn01.Zone} {n : List Nat} {k : Nat} (h : z.of n 2 = [] ∨ k = 2) (h2 : z.of n k = []) : z.tells n k = .nothing z.neg := by
  unfold Dn01.Zone.tells
  rcases h with h | rfl
  · rw [h, h2]
  · rw [h2]
theorem tells_data {z : Dn01.Zone} {n : List Nat} {k : Nat} (h : z.of n 2 = [] ∨ k = 2) (h2 : z.of n k ≠ []) : z.tells n k = .data ((z.of n k).map fun x => x.value) (Dn01.least ((z.of n k).map fun x => x.life)) := by
  unfold Dn01.Zone.tells
  rcases h with h | rfl
  · rw [h]
    cases e : z.of n k with
    | nil => exact absurd e h2
    | cons x y => rfl
  · cases e : z.of n 2 with
    | nil => exact absurd e h2
    | cons x y => simp
def sp_tell_by (c : Cs) : Sp := fun vs H Q _ => ∃ a s b F z src n k, vs = [.ref a, .ref s, .ref b, nv k] ∧ ZonA c F H a z ∧ TN H s src ∧ TN H b n ∧ z.recs.length < 1000 ∧
  ∀ H' p, Same H H' → H p = none → TelA c H' p (tlOf n (z.tells src k)) → Q (.ref p) H'
theorem ok_tell_by {f : Addr} {fd : FuncData} (F : Fun K "tell_by" "tell_by" s_tell_by f fd) (T : Txt K mg c) (cok : COk c) (d_Zone_records_of : MFn P w K mg base 1 c.czon "records_of" ["self", "name", "kind"] (sp_records_of c)) (d_Telling_init : CFn P w K mg base 1 c.ctel "Telling" ["self", "outcome", "name", "life", "rows"] (spIni c.ctel 4 telI)) (d_least_life : GFn P w K mg base 1 "least_life" ["records"] (sp_least c)) : FnOk P w K mg base CX0 3 f fd ["zone", "source", "name", "kind"] (sp_tell_by c) := by
  refine F.ok sc_tell_by (fun vs H Q E h => ?_) (fun cdv A outer s H vs Q E hr h => ?_)
  · obtain ⟨a, s, b, F, z, src, n, k, rfl, _⟩ := h
    rfl
  · refine ⟨_, (pss_cons (ps_set (i := 4) sc_tell_by.nd rfl (Or.inl rfl) (km (pv 0) d_Zone_records_of (hr.mono (by decide)) (pa_cons (pv 1) (pa_cons (kn T.k_ALIAS) pa_nil))))
      (pss_cons (ps_if (PW.pt (pw_and (pt_cmpR op_gt (pe_callB call_len_seq (by rfl) T.f_len PySem.boot_len (pa_cons (pv 4) pa_nil)) pe_int (nomark _)) (pw_and1 (pt_cmpR op_ne (pv 3) (kn T.k_ALIAS) (nomark _))))) (pss_one (ps_ret (kc d_Telling_init (hr.mono (by decide)) (pa_cons (kn T.k_LEADS_ON) (pa_cons (pv 2) (pa_cons (kf (pe_ix ix_list (pv 4) pe_int (fun _ _ => rfl)) T.cl_rec T.n_rec_life) (pa_cons (pe_tup (pa_cons (kf (pe_ix ix_list (pv 4) pe_int (fun _ _ => rfl)) T.cl_rec T.n_rec_value) pa_nil)) pa_nil))))))) pss_nil)
      (pss_cons (ps_set (i := 5) sc_tell_by.nd rfl (Or.inl rfl) (km (pv 0) d_Zone_records_of (hr.mono (by decide)) (pa_cons (pv 1) (pa_cons (pv 3) pa_nil))))
      (pss_cons (ps_if (pt_cmpR op_eq (pe_callB call_len_seq (by rfl) T.f_len PySem.boot_len (pa_cons (pv 5) pa_nil)) pe_int (nomark _)) (pss_one (ps_ret (kc d_Telling_init (hr.mono (by decide)) (pa_cons (kn T.k_NOTHING) (pa_cons (pv 2) (pa_cons (kf (pv 0) T.cl_zon T.n_zon_life) (pa_cons (pe_tup pa_nil) pa_nil))))))) pss_nil)
      (pss_one (ps_ret (kc d_Telling_init (hr.mono (by decide)) (pa_cons (kn T.k_TELLS) (pa_cons (pv 2) (pa_cons (kg d_least_life (hr.mono (by decide)) (pa_cons (pv 5) pa_nil)) (pa_cons (pe_callTy call_tuple_of (by rfl) T.f_tuple (by decide +kernel) (pa_cons (pe_lc (own := [("record", 6)]) (by rfl) sc_tell_by.nd (pi_list (pv 5)) (blkOk_by (own := [("record", 6)]) (N := ["zone", "source", "name", "kind", "aliases", "found", "record"]) (sc := defScope s_tell_by) (by decide +kernel)) (fun _ _ _ _ _ => pg_name (i := 6) sc_tell_by.nd rfl (Or.inl rfl)) (fun _ _ _ _ _ => pts_nil) (fun _ _ _ _ _ => (kf (pv 6) T.cl_rec T.n_rec_value))) pa_nil)) pa_nil))))))))))), ?_⟩
    obtain ⟨a, s', b, F, z, src, n, k, rfl, hz0, hs, hn, zl, q⟩ := h
    obtain ⟨pa, ra, ca, ⟨dx, hz⟩, hap, _⟩ := id hz0
    have line : 1000 < sizeLine := by decide
    refine ⟨_, rfl, a, dx, _, rfl, hz, no_zon_records_of, _, rfl, a, s', F, z, src, 2, rfl, hz0, hs, zl, fun H1 p1 s1 hp1 hf1 => ?_⟩
    obtain ⟨l, hl, hlp, hrec⟩ := id hf1
    dsimp only [gName]
    refine seq_cut (fun σ' H' => σ' = [some (.ref a), some (.ref s'), some (.ref b), some (nv k), some (.ref p1), none, none] ∧ H' = H1 ∧ (z.of src 2 = [] ∨ k = 2)) (fun NX nx => ?_) ?rest
    refine ⟨_, rfl, p1, _, rfl, .inl (SqL.of hlp), _, _, rfl, rfl, _, rfl, ite_b (fun e1 => ?_) fun e1 => ?_⟩
    · refine ⟨_, rfl, rfl, _, rfl, ite_b (fun e2 => ?_) fun e2 => ?_⟩
      · have hk : k ≠ 2 := by
          rw [show decide (nv k = V.int 2) = (k == 2) from nv_eq k 2] at e2
          simpa using e2
        match l, hl, hlp, hrec, e1 with
        | [], _, _, _, e1 => exact absurd e1 (by decide)
        | (r0, r) :: l', hl, hlp, hrec, _ =>
          have e3 : z.of src 2 = r :: l'.map (·.2) := hl.symm
          rw [tells_alias e3 hk] at q
          obtain ⟨na, va, ⟨dr, hr0⟩, hna, hva⟩ := hrec (r0, r) (List.mem_cons_self ..)
          refine ⟨_, rfl, _, rfl, p1, _, 0, .ref r0, rfl, rfl, SqL.of hlp, at0, r0, dr, _, _, rfl, hr0, lk_rec_life, _, rfl, p1, _, 0, .ref r0, rfl, rfl, SqL.of hlp, at0, r0, dr, _, _, rfl, hr0, lk_rec_value, (by show 1 ≤ sizeLine; decide), fun p8 hp8 => mk_ini rfl fun x H8 hx s8 hat => ?_⟩
          have s9 : Same H1 (upd H1 p8 (.tup [V.ref va])) := Same.laid hp8
          have sf := s9.trans s8
          refine q H8 x (s1.trans sf) (same_none (s1.trans s9) hx) ⟨b, p8, hat, hn.same (s1.trans sf), [(va, r.value)], rfl, s8 _ _ upd_same, fun p hp => ?_⟩
          rw [List.mem_singleton.mp hp]
          exact hva.same sf
      · refine nx _ _ ⟨rfl, rfl, .inr ?_⟩
        rw [show decide (nv k = V.int 2) = (k == 2) from nv_eq k 2] at e2
        simpa using e2
    · refine iteF (nx _ _ ⟨rfl, rfl, .inl ?_⟩)
      have := of_decide_eq_false e1
      rw [List.length_map] at this
      have l0 : l.length = 0 := by omega
      rw [← hl, List.length_eq_zero_iff.mp l0]
      rfl
    case rest =>
      rintro σ' H' ⟨rfl, rfl, hh⟩
      refine ⟨_, rfl, a, dx, _, rfl, s1 _ _ hz, no_zon_records_of, _, rfl, _, rfl, a, s', F, z, src, k, rfl, hz0.same s1, hs.same s1, zl, fun H2 p2 s2 hp2 hf2 => ?_⟩
      obtain ⟨m, hm, hmp, hmrec⟩ := id hf2
      have s12 := s1.trans s2
      have hml : m.length = (z.of src k).length := by rw [← hm, List.length_map]
      refine ⟨_, rfl, p2, _, rfl, .inl (SqL.of hmp), rfl, _, rfl, ite_b (fun e3 => ?_) fun e3 => ?_⟩
      · have e4 : z.of src k = [] := by
          have := of_decide_eq_true e3
          have := V.int.inj this
          rw [List.length_map] at this
          have m0 : m.length = 0 := by omega
          rw [← hm, List.length_eq_zero_iff.mp m0]
          rfl
        rw [tells_none hh e4] at q
        refine ⟨_, rfl, _, rfl, a, dx, _, _, rfl, s12 _ _ hz, lk_zon_life, Nat.zero_le _, fun p8 hp8 => mk_ini rfl fun x H8 hx s8 hat => ?_⟩
        have s9 : Same H2 (upd H2 p8 (.tup [])) := Same.laid hp8
        exact q H8 x (s12.trans (s9.trans s8)) (same_none (s12.trans s9) hx) ⟨b, p8, hat, hn.same (s12.trans (s9.trans s8)), tr_nil (s8 _ _ upd_same)⟩
      · have e4 : z.of src k ≠ [] := fun e5 => by
          rw [← hm, List.map_eq_nil_iff] at e5
          rw [e5] at e3
          exact absurd e3 (by decide)
        rw [tells_data hh e4] at q
        have ml : m.length ≤ z.recs.length := by rw [hml]; exact of_len z src k
        refine ⟨_, rfl, _, rfl, p2, _, rfl, hf2, e4, by rw [← hml]; omega, fun H3 s3 => ?_⟩
        obtain ⟨m', hm', hv'⟩ := vals_of hmrec
        have ml' : m'.length = m.length := by rw [← hm', List.length_map]
        have hmp3 : H3 p2 = some (.lst (m'.map fun q => V.ref q.1.1)) := by
          rw [s3 _ _ hmp, ← hm', List.map_map]
          rfl
        refine ⟨_, rfl, p2, rfl, ⟨_, SqL.of hmp3⟩, fun D hD => lc_map (l := m') (emb := fun q => V.ref q.1.1) walk_list (fun q => .ref q.2) hD (fun H1 s => SqL.of (s _ _ hmp3)) (by omega) (fun p hp H4 acc N s4 hacc kN => ?_) (fun x H A B => gName_mono x H A B) fun H4 s4 hD4 => ?_⟩
        · obtain ⟨na, ⟨dr, hr0⟩, hna, hva⟩ := ((hv' p hp).same s3).same s4
          exact ⟨rfl, _, rfl, p.1.1, dr, _, _, rfl, hr0, lk_rec_value, acc, kN H4 (Same.refl H4)⟩
        · refine ⟨D, _, rfl, .inl ⟨SqL.of hD4, fun p6 hp6 => mk_ini rfl fun x H8 hx s8 hat => ?_⟩⟩
          have s9 : Same H4 (upd H4 p6 (.tup (m'.map fun q => V.ref q.2))) := Same.laid hp6
          have sf := s3.trans (s4.trans (s9.trans s8))
          refine q H8 x (s12.trans sf) (same_none (s12.trans (s3.trans (s4.trans s9))) hx) ⟨b, p6, hat, hn.same (s12.trans sf), m'.map (fun q => (q.2, q.1.2.value)), ?_, ?_, fun p hp => ?_⟩
          · rw [← hm, ← hm', List.map_map, List.map_map, List.map_map]
            rfl
          · rw [s8 _ _ upd_same, List.map_map]
            rfl
          · obtain ⟨q0, hq0, rfl⟩ := List.mem_map.mp hp
            obtain ⟨na, _, _, hva⟩ := hv' q0 hq0
            exact hva.same sf
def sp_tell (c : Cs) : Sp := fun vs H Q _ => ∃ a b F z n k, vs = [.ref a, .ref b, nv k] ∧ ZonA c F H a z ∧ TN H b n ∧ z.recs.length < 1000 ∧ n.length < 1000 ∧ ones z.recs ∧ n.take z.apex.length = z.apex ∧
  ∀ H' p, Same H H' → H p = none → TelA c H' p (tlOf n (z.answers n k)) → Q (.ref p) H'
theorem ok_tell {f : Addr} {fd : FuncData} (F : Fun K "tell" "tell" s_tell f fd) (T : Txt K mg c) (cok : COk c) (d_handing_on : GFn P w K mg base 4 "handing_on" ["zone", "name"] (sp_handing c)) (d_there_is : GFn P w K mg base 2 "there_is" ["zone", "name"] (sp_there c)) (d_tell_by : GFn P w K mg base 3 "tell_by" ["zone", "source", "name", "kind"] (sp_tell_by c)) (d_name_for_all_others : GFn P w K mg base 3 "name_for_all_others" ["zone", "name"] (sp_stand c)) (d_Zone_has_record_of : MFn P w K mg base 1 c.czon "has_record_of" ["self", "name"] (sp_has_of c)) (d_Telling_init : CFn P w K mg base 1 c.ctel "Telling" ["self", "outcome", "name", "life", "rows"] (spIni c.ctel 4 telI)) : FnOk P w K mg base CX0 5 f fd ["zone", "name", "kind"] (sp_tell c) := by
  refine F.ok sc_tell (fun vs H Q E h => ?_) (fun cdv A outer s H vs Q E hr h => ?_)
  · obtain ⟨a, b, F, z, n, k, rfl, _⟩ := h
    rfl
  · refine ⟨_, (pss_cons (ps_set (i := 3) sc_tell.nd rfl (Or.inl rfl) (kg d_handing_on (hr.mono (by decide)) (pa_cons (pv 0) (pa_cons (pv 1) pa_nil))))
      (pss_cons (ps_if (pt_cmpR op_notN (pv 3) pe_non (nomark _)) (pss_one (ps_ret (pv 3))) pss_nil)
      (pss_cons (ps_if (pt_val (kg d_there_is (hr.mono (by decide)) (pa_cons (pv 0) (pa_cons (pv 1) pa_nil)))) (pss_one (ps_ret (kg d_tell_by (hr.mono (by decide)) (pa_cons (pv 0) (pa_cons (pv 1) (pa_cons (pv 1) (pa_cons (pv 2) pa_nil))))))) pss_nil)
      (pss_cons (ps_set (i := 4) sc_tell.nd rfl (Or.inl rfl) (kg d_name_for_all_others (hr.mono (by decide)) (pa_cons (pv 0) (pa_cons (pv 1) pa_nil))))
      (pss_cons (ps_if (pt_val (km (pv 0) d_Zone_has_record_of (hr.mono (by decide)) (pa_cons (pv 4) pa_nil))) (pss_one (ps_ret (kg d_tell_by (hr.mono (by decide)) (pa_cons (pv 0) (pa_cons (pv 4) (pa_cons (pv 1) (pa_cons (pv 2) pa_nil))))))) pss_nil)
      (pss_one (ps_ret (kc d_Telling_init (hr.mono (by decide)) (pa_cons (kn T.k_NO_SUCH_NAME) (pa_cons (pv 1) (pa_cons (kf (pv 0) T.cl_zon T.n_zon_life) (pa_cons (pe_tup pa_nil) pa_nil)))))))))))), ?_⟩
    obtain ⟨a, b, F, z, n, k, rfl, hz0, hn, zl, nl, hone, ha, q⟩ := h
    obtain ⟨pa, ra, ca, ⟨dx, hz⟩, hap, _⟩ := id hz0
    have line : 1000 < sizeLine := by decide
    have hal : z.apex.length ≤ n.length := by
      have := congrArg List.length ha
      rw [List.length_take] at this
      omega
    refine ⟨_, rfl, _, rfl, a, b, F, z, n, rfl, hz0, hn, zl, nl, by omega, hone, fun hcut H1 s1 => ?_, fun bb hcut H1 p1 s1 hp1 ht => ?_⟩
    · refine ⟨_, rfl, rfl, _, rfl, iteF ⟨_, rfl, _, rfl, a, b, F, z, n, rfl, hz0.same s1, hn.same s1, zl, fun H2 s2 => ⟨_, rfl, ite_b (fun e1 => ?_) fun e1 => ?_⟩⟩⟩
      · have s12 := s1.trans s2
        rw [answers_has hcut e1] at q
        exact ⟨_, rfl, _, rfl, _, rfl, _, rfl, a, b, b, F, z, n, n, k, rfl, hz0.same s12, hn.same s12, hn.same s12, zl, fun H3 p3 s3 hp3 ht => q H3 p3 (s12.trans s3) (same_none s12 hp3) ht⟩
      · have s12 := s1.trans s2
        refine ⟨_, rfl, _, rfl, a, b, F, z, n, rfl, hz0.same s12, hn.same s12, zl, nl, ha, fun H3 p3 s3 h3 => ?_⟩
        have s13 := s12.trans s3
        refine ⟨_, rfl, a, dx, _, rfl, s13 _ _ hz, no_zon_has_record_of, _, rfl, a, p3, F, z, _, rfl, hz0.same s13, h3, zl, fun H4 s4 => ⟨_, rfl, ite_b (fun e2 => ?_) fun e2 => ?_⟩⟩
        · have s14 := s13.trans s4
          rw [answers_others hcut e1 e2] at q
          exact ⟨_, rfl, _, rfl, _, rfl, _, rfl, a, p3, b, F, z, _, n, k, rfl, hz0.same s14, h3.same s4, hn.same s14, zl, fun H5 p5 s5 hp5 ht => q H5 p5 (s14.trans s5) (same_none s14 hp5) ht⟩
        · have s14 := s13.trans s4
          rw [answers_never hcut e1 e2] at q
          refine ⟨_, rfl, _, rfl, a, dx, _, _, rfl, s14 _ _ hz, lk_zon_life, Nat.zero_le _, fun p8 hp8 => mk_ini rfl fun x H8 hx s8 hat => ?_⟩
          have s9 : Same H4 (upd H4 p8 (.tup [])) := Same.laid hp8
          exact q H8 x (s14.trans (s9.trans s8)) (same_none (s14.trans s9) hx) ⟨b, p8, hat, hn.same (s14.trans (s9.trans s8)), tr_nil (s8 _ _ upd_same)⟩
    · rw [answers_cut hcut] at q
      exact ⟨_, rfl, rfl, _, rfl, iteT ⟨_, rfl, q H1 p1 s1 hp1 ht⟩⟩
end
end Nn


namespace Nn
open PySem PySem.Spec PyProof.Rows L2
section
variable {P : Program} {w : World} {K : PySem.W.Frag} {mg : Str → Option Value} {base : Heap} {c : Cs}
/-! ### holdings -/
def holI : List V → List (Str × V)
  | [a0, a1, a2, a3] => holF a0 a1 a2 a3
  | _ => []
theorem ok_Holding_init {f : Addr} {fd : FuncData} (F : Fun K "__init__" "Holding.__init__" s_Holding_init f fd) (T : Txt K mg c) (cok : COk c)  : FnOk P w K mg base CX0 1 f fd ["self", "zone", "origin", "good", "since"] (spIni c.chol 4 holI) := by
  refine F.ok sc_Holding_init (fun vs H Q E h => ?_) (fun cdv A outer s H vs Q E hr h => ?_)
  · obtain ⟨p, dx, us, rfl, hl, _⟩ := h
    exact congrArg (· + 1) hl
  · refine ⟨_, (pss_cons (kfs (pv 0) (pv 1) T.cl_hol T.n_hol_zone)
      (pss_cons (kfs (pv 0) (pv 2) T.cl_hol T.n_hol_origin)
      (pss_cons (kfs (pv 0) (pv 3) T.cl_hol T.n_hol_good)
      (pss_one (kfs (pv 0) (pv 4) T.cl_hol T.n_hol_since))))), ?_⟩
    obtain ⟨p, dx, us, rfl, hl, hp, k⟩ := h
    match us, hl, k with
    | [a0, a1, a2, a3], _, k =>
      refine ⟨_, rfl, _, rfl, p, dx, _, rfl, hp, (by show 0 < 1000; decide), _, rfl, _, rfl, p, dx, _, rfl, upd_same, (by show 1 < 1000; decide), _, rfl, _, rfl, p, dx, _, rfl, upd_same, (by show 2 < 1000; decide), _, rfl, _, rfl, p, dx, _, rfl, upd_same, (by show 3 < 1000; decide), ?_⟩
      simp only [upd_upd, new_hol]
      exact k
theorem ov_non (o : Option Nat) : decide (ov o = V.non) = o.isNone := by
  cases o with
  | none => rfl
  | some n => rfl
def sp_is_copy (c : Cs) : Sp := fun vs H Q _ => ∃ a za F x, vs = [.ref a] ∧ HolA c F H (a, za) x ∧ Q (.bl x.from_.isSome) H
theorem ok_Holding_is_copy {f : Addr} {fd : FuncData} (F : Fun K "is_copy" "Holding.is_copy" s_Holding_is_copy f fd) (T : Txt K mg c) (cok : COk c)  : FnOk P w K mg base CX0 1 f fd ["self"] (sp_is_copy c) := by
  refine F.ok sc_Holding_is_copy (fun vs H Q E h => ?_) (fun cdv A outer s H vs Q E hr h => ?_)
  · obtain ⟨a, za, F, x, rfl, _⟩ := h
    rfl
  · refine ⟨_, (pss_one (ps_ret (pe_cmpR op_notN (kf (pv 0) T.cl_hol T.n_hol_origin) pe_non (nomark _)))), ?_⟩
    obtain ⟨a, za, F, x, rfl, ⟨sv, ⟨dx, h1⟩, h2, h3⟩, k⟩ := h
    refine ⟨_, rfl, a, dx, _, _, rfl, h1, lk_hol_origin, rfl, ?_⟩
    rw [ov_non]
    cases e : x.from_ with
    | none => rw [e] at k; exact k
    | some n => rw [e] at k; exact k
def sp_is_good (c : Cs) : Sp := fun vs H Q _ => ∃ a za F x t, vs = [.ref a, nv t] ∧ HolA c F H (a, za) x ∧ Q (.bl (x.isGood t)) H
theorem ok_Holding_is_good {f : Addr} {fd : FuncData} (F : Fun K "is_good" "Holding.is_good" s_Holding_is_good f fd) (T : Txt K mg c) (cok : COk c) (d_Holding_is_copy : MFn P w K mg base 1 c.chol "is_copy" ["self"] (sp_is_copy c)) : FnOk P w K mg base CX0 2 f fd ["self", "now"] (sp_is_good c) := by
  refine F.ok sc_Holding_is_good (fun vs H Q E h => ?_) (fun cdv A outer s H vs Q E hr h => ?_)
  · obtain ⟨a, za, F, x, t, rfl, _⟩ := h
    rfl
  · refine ⟨_, (pss_one (ps_ret (pe_or (pe_not (km0 (pv 0) d_Holding_is_copy (hr.mono (by decide)))) (pe_one (pe_cmpR op_le (pe_op op_sub (pv 1) (kf (pv 0) T.cl_hol T.n_hol_since)) (kf (pv 0) T.cl_hol T.n_hol_good) (nomark _)))))), ?_⟩
    obtain ⟨a, za, F, x, t, rfl, hx, k⟩ := h
    obtain ⟨sv, ⟨dx, h1⟩, h2, h3⟩ := id hx
    unfold Dn01.Held.isGood at k
    refine ⟨_, rfl, a, dx, _, rfl, h1, no_hol_is_copy, a, za, F, x, rfl, hx, _, rfl, _, rfl, ?_⟩
    cases e : x.from_ with
    | none =>
      rw [e] at k
      exact k
    | some n =>
      have h3' := h2 (by rw [e]; exact fun z => (nomatch z))
      subst h3'
      rw [e] at k
      refine ⟨_, rfl, _, rfl, a, dx, _, _, rfl, h1, lk_hol_since, _, _, rfl, rfl, _, rfl, a, dx, _, _, rfl, h1, lk_hol_good, _, _, rfl, rfl, ?_⟩
      show Q (.bl (decide ((t : Int) - (x.since : Int) ≤ (x.good : Int)))) H
      rw [show decide ((t : Int) - (x.since : Int) ≤ (x.good : Int)) = decide (t ≤ x.since + x.good) from by
        by_cases hh : t ≤ x.since + x.good
        · rw [decide_eq_true hh, decide_eq_true (by omega)]
        · rw [decide_eq_false hh, decide_eq_false (by omega)]]
      exact k
def sinceOf (x : Dn01.Held) (now : Nat) : Nat := if x.from_.isNone = true then now else x.since
def sp_since (c : Cs) : Sp := fun vs H Q _ => ∃ a za F x t, vs = [.ref a, nv t] ∧ HolA c F H (a, za) x ∧ Q (nv (sinceOf x t)) H
theorem ok_Holding_since_for_copies {f : Addr} {fd : FuncData} (F : Fun K "since_for_copies" "Holding.since_for_copies" s_Holding_since_for_copies f fd) (T : Txt K mg c) (cok : COk c) (d_Holding_is_copy : MFn P w K mg base 1 c.chol "is_copy" ["self"] (sp_is_copy c)) : FnOk P w K mg base CX0 2 f fd ["self", "now"] (sp_since c) := by
  refine F.ok sc_Holding_since_for_copies (fun vs H Q E h => ?_) (fun cdv A outer s H vs Q E hr h => ?_)
  · obtain ⟨a, za, F, x, t, rfl, _⟩ := h
    rfl
  · refine ⟨_, (pss_cons (ps_if (pt_val (km0 (pv 0) d_Holding_is_copy (hr.mono (by decide)))) (pss_one (ps_ret (kf (pv 0) T.cl_hol T.n_hol_since))) pss_nil)
      (pss_one (ps_ret (pv 1)))), ?_⟩
    obtain ⟨a, za, F, x, t, rfl, hx, k⟩ := h
    obtain ⟨sv, ⟨dx, h1⟩, h2, h3⟩ := id hx
    unfold sinceOf at k
    refine ⟨_, rfl, a, dx, _, rfl, h1, no_hol_is_copy, a, za, F, x, rfl, hx, _, rfl, ?_⟩
    cases e : x.from_ with
    | none =>
      rw [e] at k
      exact ⟨_, rfl, k⟩
    | some n =>
      have h3' := h2 (by rw [e]; exact fun z => (nomatch z))
      subst h3'
      rw [e] at k
      exact ⟨_, rfl, a, dx, _, _, rfl, h1, lk_hol_since, k⟩
/-! ### servers -/
def sp_srv_init (c : Cs) : Sp := fun vs H Q _ => ∃ p dx, vs = [.ref p] ∧ H p = some (.ins c.csrv dx []) ∧
  ∀ H' d, Kp [p] H H' → H d = none → At c.csrv H' p (srvF (.bl true) (.ref d)) → H' d = some (.dT []) → Q .non H'
theorem ok_Server_init {f : Addr} {fd : FuncData} (F : Fun K "__init__" "Server.__init__" s_Server_init f fd) (T : Txt K mg c) (cok : COk c)  : FnOk P w K mg base CX0 1 f fd ["self"] (sp_srv_init c) := by
  refine F.ok sc_Server_init (fun vs H Q E h => ?_) (fun cdv A outer s H vs Q E hr h => ?_)
  · obtain ⟨p, dx, rfl, _⟩ := h
    rfl
  · refine ⟨_, (pss_cons (kfs (pv 0) pe_bl T.cl_srv T.n_srv_up)
      (pss_one (kfs (pv 0) pe_dnewT T.cl_srv T.n_srv_holdings))), ?_⟩
    obtain ⟨p, dx, rfl, hp, k⟩ := h
    refine ⟨_, rfl, p, dx, _, rfl, hp, (by show 0 < 1000; decide), fun d hd => ?_⟩
    have nd : d ≠ p := fun z => by rw [z, upd_same] at hd; cases hd
    rw [upd_ne nd] at hd
    refine ⟨_, rfl, p, dx, _, rfl, (upd_ne (Ne.symm nd)).trans upd_same, (by show 1 < 1000; decide), ?_⟩
    rw [new_srv]
    refine k _ d (fun b o e n => ?_) hd ⟨dx, upd_same⟩ ?_
    · have nb : b ≠ p := fun z => n (by simp [z])
      rw [upd_ne nb, upd_ne (ne_of_none e hd), upd_ne nb]
      exact e
    · rw [upd_ne nd, upd_same]
theorem keyOf_kV (l : List Nat) : (keyOf l).map kV = l.map nv := by
  unfold keyOf
  rw [List.map_map]
  rfl
theorem keyOf_inj : ∀ {a b : List Nat}, keyOf a = keyOf b → a = b
  | [], [], _ => rfl
  | [], _ :: _, h => by simp [keyOf] at h
  | _ :: _, [], h => by simp [keyOf] at h
  | x :: a, y :: b, h => by
    simp only [keyOf, List.map_cons, List.cons.injEq, Sum.inl.injEq] at h
    have e : x = y := by omega
    rw [e, keyOf_inj h.2]
abbrev HL : Type := List ((Addr × Addr) × Dn01.Held)
theorem valV_hkv (l : List Nat) : ∀ hs : HL, valV (hkv hs) (keyOf l) = (lookH hs l).map fun h => V.ref h.1.1
  | [] => rfl
  | h :: hs => by
    have ih := valV_hkv l hs
    unfold hkv lookH at ih ⊢
    rw [List.map_cons]
    by_cases e : h.2.zone.apex = l
    · rw [valV_pos (by rw [e]), List.find?_cons_of_pos (by simp [e])]
      rfl
    · rw [valV_neg (fun z => e (keyOf_inj z)), List.find?_cons_of_neg (by simp [e]), ih]
def oref (o : Option ((Addr × Addr) × Dn01.Held)) : V := match o with
  | none => .non
  | some h => .ref h.1.1
theorem oref_eq (o : Option ((Addr × Addr) × Dn01.Held)) : (o.map fun h => V.ref h.1.1).getD .non = oref o := by
  cases o <;> rfl
/-- a server as its methods read it -/
structure SrvR (c : Cs) (H : Hp) (a d : Addr) (hs : HL) : Prop where
  at_ : ∃ u, At c.csrv H a (srvF u (.ref d))
  dict : H d = some (.dT (hkv hs))
theorem SrvA.r {F : List Addr} {H : Hp} {g : GS} {s : Dn01.Server} (h : SrvA c F H g s) : SrvR c H g.a g.d g.hs := ⟨⟨_, h.at_⟩, h.dict⟩
theorem SrvR.same {H H' : Hp} {a d : Addr} {hs : HL} (h : SrvR c H a d hs) (s : Same H H') : SrvR c H' a d hs := let ⟨⟨u, e⟩, e2⟩ := h; ⟨⟨u, e.same s⟩, s _ _ e2⟩
def sp_holding_of (c : Cs) : Sp := fun vs H Q _ => ∃ a d b hs l, vs = [.ref a, .ref b] ∧ SrvR c H a d hs ∧ TN H b l ∧ Q (oref (lookH hs l)) H
theorem ok_Server_holding_of {f : Addr} {fd : FuncData} (F : Fun K "holding_of" "Server.holding_of" s_Server_holding_of f fd) (T : Txt K mg c) (cok : COk c)  : FnOk P w K mg base CX0 1 f fd ["self", "apex"] (sp_holding_of c) := by
  refine F.ok sc_Server_holding_of (fun vs H Q E h => ?_) (fun cdv A outer s H vs Q E hr h => ?_)
  · obtain ⟨a, d, b, hs, l, rfl, _⟩ := h
    rfl
  · refine ⟨_, (pss_one (ps_ret (pe_dget1 (hu_of hr) (kf (pv 0) T.cl_srv T.n_srv_holdings) (pv 1) ⟨rfl, rfl, rfl, rfl⟩))), ?_⟩
    obtain ⟨a, d, b, hs, l, rfl, ⟨⟨u, dx, h1⟩, h2⟩, hl, k⟩ := h
    refine ⟨_, rfl, a, dx, _, _, rfl, h1, lk_srv_holdings, d, rfl, .inr ⟨_, .of h2⟩, _, rfl, _, DGet.t (k := keyOf l) h2 (by rw [keyOf_kV]; exact hl), ?_⟩
    rw [valV_hkv, oref_eq]
    exact k
def sp_has_zone (c : Cs) : Sp := fun vs H Q _ => ∃ a d b hs l, vs = [.ref a, .ref b] ∧ SrvR c H a d hs ∧ TN H b l ∧ Q (.bl (lookH hs l).isSome) H
theorem ok_Server_has_zone {f : Addr} {fd : FuncData} (F : Fun K "has_zone" "Server.has_zone" s_Server_has_zone f fd) (T : Txt K mg c) (cok : COk c)  : FnOk P w K mg base CX0 1 f fd ["self", "apex"] (sp_has_zone c) := by
  refine F.ok sc_Server_has_zone (fun vs H Q E h => ?_) (fun cdv A outer s H vs Q E hr h => ?_)
  · obtain ⟨a, d, b, hs, l, rfl, _⟩ := h
    rfl
  · refine ⟨_, (pss_one (ps_ret (pe_cmp (pc_din (hu_of hr) (pv 1) (kf (pv 0) T.cl_srv T.n_srv_holdings))))), ?_⟩
    obtain ⟨a, d, b, hs, l, rfl, ⟨⟨u, dx, h1⟩, h2⟩, hl, k⟩ := h
    refine ⟨_, rfl, _, rfl, a, dx, _, _, rfl, h1, lk_srv_holdings, d, _, rfl, DGet.t (k := keyOf l) h2 (by rw [keyOf_kV]; exact hl), ?_⟩
    rw [valV_hkv, Option.isSome_map]
    exact k
def sp_hold (c : Cs) : Sp := fun vs H Q _ => ∃ a d g hs z, vs = [.ref a, .ref g] ∧ SrvR c H a d hs ∧ (∃ za x1 x2 x3 F, At c.chol H g (holF (.ref za) x1 x2 x3) ∧ ZonA c F H za z) ∧ lookH hs z.apex = none ∧ hs.length < 1000 ∧
  Q .non (upd H d (.dT (hkv hs ++ [(keyOf z.apex, .ref g)])))
theorem ok_Server_hold {f : Addr} {fd : FuncData} (F : Fun K "hold" "Server.hold" s_Server_hold f fd) (T : Txt K mg c) (cok : COk c)  : FnOk P w K mg base CX0 1 f fd ["self", "holding"] (sp_hold c) := by
  refine F.ok sc_Server_hold (fun vs H Q E h => ?_) (fun cdv A outer s H vs Q E hr h => ?_)
  · obtain ⟨a, d, g, hs, z, rfl, _⟩ := h
    rfl
  · refine ⟨_, (pss_one (ps_dput (hu_of hr) (kf (pv 0) T.cl_srv T.n_srv_holdings) (kf (kf (pv 1) T.cl_hol T.n_hol_zone) T.cl_zon T.n_zon_apex) (pv 1) rfl)), ?_⟩
    obtain ⟨a, d, g, hs, z, rfl, ⟨⟨u, dx, h1⟩, h2⟩, ⟨za, x1, x2, x3, F, ⟨dg, hg⟩, ⟨pa, ra, ca, ⟨dz, hz⟩, hap, _⟩⟩, hn, hl, k⟩ := h
    have line : 1000 < sizeLine := by decide
    refine ⟨_, rfl, _, rfl, a, dx, _, _, rfl, h1, lk_srv_holdings, _, rfl, g, dg, _, _, rfl, hg, lk_hol_zone, za, dz, _, _, rfl, hz, lk_zon_apex, d, _, rfl, DPut.t (k := keyOf z.apex) h2 (by rw [keyOf_kV]; exact hap) (by unfold hkv; rw [List.length_map]; omega), ?_⟩
    rw [putK_new _ (by rw [valV_hkv, hn]; rfl)]
    exact k
theorem dropK_hkv (l : List Nat) (hs : HL) : dropK (hkv hs) (keyOf l) = hkv (hs.filter fun h => h.2.zone.apex != l) := by
  unfold dropK hkv
  rw [List.filter_map]
  congr 1
  refine List.filter_congr fun h _ => ?_
  by_cases e : h.2.zone.apex = l
  · simp [e]
  · have e2 : ¬ keyOf h.2.zone.apex = keyOf l := fun z => e (keyOf_inj z)
    simp [e, e2]
def sp_let_go (c : Cs) : Sp := fun vs H Q _ => ∃ a d b hs l, vs = [.ref a, .ref b] ∧ SrvR c H a d hs ∧ TN H b l ∧ (lookH hs l).isSome = true ∧ Q .non (upd H d (.dT (hkv (hs.filter fun h => h.2.zone.apex != l))))
theorem ok_Server_let_go {f : Addr} {fd : FuncData} (F : Fun K "let_go" "Server.let_go" s_Server_let_go f fd) (T : Txt K mg c) (cok : COk c)  : FnOk P w K mg base CX0 1 f fd ["self", "apex"] (sp_let_go c) := by
  refine F.ok sc_Server_let_go (fun vs H Q E h => ?_) (fun cdv A outer s H vs Q E hr h => ?_)
  · obtain ⟨a, d, b, hs, l, rfl, _⟩ := h
    rfl
  · refine ⟨_, (pss_one (ps_expr (ktpop (hu_of hr) (kf (pv 0) T.cl_srv T.n_srv_holdings) (pv 1) ⟨rfl, rfl, rfl, rfl⟩))), ?_⟩
    obtain ⟨a, d, b, hs, l, rfl, ⟨⟨u, dx, h1⟩, h2⟩, hl, hn, k⟩ := h
    obtain ⟨q, hq⟩ := Option.isSome_iff_exists.mp hn
    refine ⟨_, rfl, a, dx, _, _, rfl, h1, lk_srv_holdings, d, _, rfl, h2, _, rfl, _, keyOf l, b, .ref q.1.1, rfl, h2, by rw [keyOf_kV]; exact hl, by rw [valV_hkv, hq]; rfl, ?_⟩
    rw [dropK_hkv]
    exact k
def sp_zone_count (c : Cs) : Sp := fun vs H Q _ => ∃ a d hs, vs = [.ref a] ∧ SrvR c H a d hs ∧ Q (nv hs.length) H
theorem ok_Server_zone_count {f : Addr} {fd : FuncData} (F : Fun K "zone_count" "Server.zone_count" s_Server_zone_count f fd) (T : Txt K mg c) (cok : COk c)  : FnOk P w K mg base CX0 1 f fd ["self"] (sp_zone_count c) := by
  refine F.ok sc_Server_zone_count (fun vs H Q E h => ?_) (fun cdv A outer s H vs Q E hr h => ?_)
  · obtain ⟨a, d, hs, rfl, _⟩ := h
    rfl
  · refine ⟨_, (pss_one (ps_ret (pe_callB call_len_dT (by rfl) T.f_len PySem.boot_len (pa_cons (kf (pv 0) T.cl_srv T.n_srv_holdings) pa_nil)))), ?_⟩
    obtain ⟨a, d, hs, rfl, ⟨⟨u, dx, h1⟩, h2⟩, k⟩ := h
    refine ⟨_, rfl, a, dx, _, _, rfl, h1, lk_srv_holdings, d, _, rfl, h2, ?_⟩
    unfold hkv
    rw [List.length_map]
    exact k
def sp_can (c : Cs) : Sp := fun vs H Q _ => ∃ b F g s l t, vs = [.ref g.a, .ref b, nv t] ∧ SrvA c F H g s ∧ TN H b l ∧ Q (.bl (s.up && match lookH g.hs l with
  | none => false
  | some h => h.2.isGood t)) H
theorem ok_Server_can_hand_out {f : Addr} {fd : FuncData} (F : Fun K "can_hand_out" "Server.can_hand_out" s_Server_can_hand_out f fd) (T : Txt K mg c) (cok : COk c) (d_Holding_is_good : MFn P w K mg base 2 c.chol "is_good" ["self", "now"] (sp_is_good c)) (d_Server_holding_of : MFn P w K mg base 1 c.csrv "holding_of" ["self", "apex"] (sp_holding_of c)) (d_Server_has_zone : MFn P w K mg base 1 c.csrv "has_zone" ["self", "apex"] (sp_has_zone c)) : FnOk P w K mg base CX0 3 f fd ["self", "apex", "now"] (sp_can c) := by
  refine F.ok sc_Server_can_hand_out (fun vs H Q E h => ?_) (fun cdv A outer s H vs Q E hr h => ?_)
  · obtain ⟨b, F, g, s, l, t, rfl, _⟩ := h
    rfl
  · refine ⟨_, (pss_one (ps_ret (pe_and (kf (pv 0) T.cl_srv T.n_srv_up) (pe_and (km (pv 0) d_Server_has_zone (hr.mono (by decide)) (pa_cons (pv 1) pa_nil)) (pe_one (km (km (pv 0) d_Server_holding_of (hr.mono (by decide)) (pa_cons (pv 1) pa_nil)) d_Holding_is_good (hr.mono (by decide)) (pa_cons (pv 2) pa_nil))))))), ?_⟩
    obtain ⟨b, F, g, s', l, t, rfl, hs, hl, k⟩ := h
    obtain ⟨dx, h1⟩ := hs.at_
    refine ⟨_, rfl, g.a, dx, _, _, rfl, h1, lk_srv_up, _, rfl, ite_b (fun e => ?_) fun e => ?_⟩
    · rw [e, Bool.true_and] at k
      refine ⟨_, rfl, g.a, dx, _, rfl, h1, no_srv_has_zone, _, rfl, g.a, g.d, b, g.hs, l, rfl, hs.r, hl, _, rfl, ite_b (fun e2 => ?_) fun e2 => ?_⟩
      · obtain ⟨q, hq⟩ := Option.isSome_iff_exists.mp e2
        rw [hq] at k
        obtain ⟨sv, ⟨dq, hq1⟩, _⟩ := id (hs.held q (lookH_some hq).1)
        refine ⟨_, rfl, g.a, dx, _, rfl, h1, no_srv_holding_of, _, rfl, g.a, g.d, b, g.hs, l, rfl, hs.r, hl, ?_⟩
        rw [hq]
        exact ⟨q.1.1, dq, _, rfl, hq1, no_hol_is_good, _, rfl, q.1.1, q.1.2, F, q.2, t, rfl, hs.held q (lookH_some hq).1, k⟩
      · have e3 : lookH g.hs l = none := by
          cases z : lookH g.hs l with
          | none => rfl
          | some q => rw [z] at e2; cases e2
        rw [e3] at k
        exact k
    · rw [e, Bool.false_and] at k
      exact k
def sp_longest (c : Cs) : Sp := fun vs H Q _ => ∃ a d b hs l, vs = [.ref a, .ref b] ∧ SrvR c H a d hs ∧ TN H b l ∧ l.length < 1000 ∧ ∀ H', Same H H' → Q (oref (lgH hs l l.length)) H'
theorem lgH_miss {hs : HL} {n : List Nat} {k : Nat} (h : lookH hs (n.take (k + 1)) = none) : lgH hs n (k + 1) = lgH hs n k := by
  conv => lhs; unfold lgH
  rw [h]
theorem lgH_skip {hs : HL} {n : List Nat} : ∀ {k d : Nat}, (∀ j, k < j → j ≤ k + d → lookH hs (n.take j) = none) → lgH hs n (k + d) = lgH hs n k
  | k, 0, _ => rfl
  | k, d + 1, h => by
    have ih := lgH_skip (k := k) (d := d) fun j h1 h2 => h j h1 (by omega)
    exact (lgH_miss (k := k + d) (h (k + d + 1) (by omega) (by omega))).trans ih
theorem ok_Server_longest_holding {f : Addr} {fd : FuncData} (F : Fun K "longest_holding" "Server.longest_holding" s_Server_longest_holding f fd) (T : Txt K mg c) (cok : COk c) (d_Server_has_zone : MFn P w K mg base 1 c.csrv "has_zone" ["self", "apex"] (sp_has_zone c)) (d_Server_holding_of : MFn P w K mg base 1 c.csrv "holding_of" ["self", "apex"] (sp_holding_of c)) : FnOk P w K mg base CX0 2 f fd ["self", "name"] (sp_longest c) := by
  refine F.ok sc_Server_longest_holding (fun vs H Q E h => ?_) (fun cdv A outer s H vs Q E hr h => ?_)
  · obtain ⟨a, d, b, hs, l, rfl, _⟩ := h
    rfl
  · refine ⟨_, (pss_cons (ps_for PassesOwn.never rfl (pi_range3 (by rfl) T.f_range (pa_cons (pe_callB call_len_seq (by rfl) T.f_len PySem.boot_len (pa_cons (pv 1) pa_nil)) (pa_cons (pe_un un_neg pe_int) (pa_cons (pe_un un_neg pe_int) pa_nil)))) (pg_name (i := 2) sc_Server_longest_holding.nd rfl (Or.inl rfl)) (pss_one (ps_if (pt_val (km (pv 0) d_Server_has_zone (hr.mono (by decide)) (pa_cons (pe_slice sl_tupA (pv 1) po_none (po_some (pv 2))) pa_nil))) (pss_one (ps_ret (km (pv 0) d_Server_holding_of (hr.mono (by decide)) (pa_cons (pe_slice sl_tupA (pv 1) po_none (po_some (pv 2))) pa_nil)))) pss_nil)))
      (pss_one (ps_ret pe_non))), ?_⟩
    obtain ⟨a, d, b, hs, l, rfl, hs0, hl, ll, k⟩ := h
    obtain ⟨⟨u, dx, h1⟩, h2⟩ := id hs0
    have e0 : (((l.map nv).length : Nat) : Int) = (l.length : Int) := by rw [List.length_map]
    have rg : RgC (((l.map nv).length : Nat) : Int) (-1) (-1) (l.length + 1) := by
      have := RgC.neg (i := (((l.map nv).length : Nat) : Int)) (j := -1) (by omega) (by omega) (by omega) (by omega)
      rwa [show ((((l.map nv).length : Nat) : Int) - -1).toNat = l.length + 1 by omega] at this
    refine ⟨_, rfl, _, _, rfl, .inr (SqT.of hl), _, rfl, _, rfl, _, _, _, _, rfl, rg, for_rangeC (lo := (((l.map nv).length : Nat) : Int)) (c := -1) (n := l.length + 1) (fun i σ H' => (∃ v, σ = [some (.ref a), some (.ref b), v]) ∧ Same H H' ∧ ∀ j, l.length < j + i → j ≤ l.length → lookH hs (l.take j) = none) ⟨⟨none, rfl⟩, Same.refl H, fun j h1 h2 => absurd h1 (by omega)⟩ ?_ ?_⟩
    · rintro i σ H1 hi ⟨⟨v, rfl⟩, s1, hno⟩
      have ei : (((l.map nv).length : Nat) : Int) + (i : Nat) * -1 = ((l.length - i : Nat) : Int) := by omega
      rw [ei]
      refine ⟨_, rfl, a, dx, _, rfl, s1 _ _ h1, no_srv_has_zone, _, rfl, _, rfl, _, rfl, sl_take (i := ((l.length - i : Nat) : Int)) (k := l.length - i) rfl (hl.same s1) fun p2 H2 s2 h2' => ⟨a, d, p2, hs, _, rfl, hs0.same (s1.trans s2), h2', _, rfl, ite_b (fun e => ?_) fun e => ?_⟩⟩
      · have s12 := s1.trans s2
        obtain ⟨q, hq⟩ := Option.isSome_iff_exists.mp e
        refine ⟨_, rfl, a, dx, _, rfl, s12 _ _ h1, no_srv_holding_of, _, rfl, _, rfl, _, rfl, sl_take (i := ((l.length - i : Nat) : Int)) (k := l.length - i) rfl (hl.same s12) fun p3 H3 s3 h3 => ⟨a, d, p3, hs, _, rfl, hs0.same (s12.trans s3), h3, ?_⟩⟩
        have e2 : lgH hs l l.length = lookH hs (l.take (l.length - i)) := by
          have := lgH_skip (hs := hs) (n := l) (k := l.length - i) (d := i) fun j h1 h2 => hno j (by omega) (by omega)
          rw [show l.length - i + i = l.length by omega] at this
          rw [this]
          cases e3 : l.length - i with
          | zero => rfl
          | succ m =>
            rw [e3] at hq
            unfold lgH
            rw [hq]
        rw [← e2]
        exact k H3 (s12.trans s3)
      · refine ⟨⟨_, rfl⟩, s1.trans s2, fun j h1 h2 => ?_⟩
        rcases Nat.lt_or_ge l.length (j + i) with h | h
        · exact hno j h h2
        · rw [show j = l.length - i by omega]
          cases z : lookH hs (l.take (l.length - i)) with
          | none => rfl
          | some q => rw [z] at e; cases e
    · rintro σ H1 ⟨⟨v, rfl⟩, s1, hno⟩
      have e2 : lgH hs l l.length = none := by
        have := lgH_skip (hs := hs) (n := l) (k := 0) (d := l.length) fun j h1 h2 => hno j (by omega) (by omega)
        rw [Nat.zero_add] at this
        rw [this]
        exact hno 0 (by omega) (by omega)
      rw [e2] at k
      exact k H1 s1
/-- what the reading of a zone asks of it -/
structure ZFit (z : Dn01.Zone) : Prop where
  recs : z.recs.length < 1000
  ones : ones z.recs
def sp_srv_told (c : Cs) : Sp := fun vs H Q _ => ∃ b F g s n k t, vs = [.ref g.a, .ref b, nv k, nv t] ∧ SrvA c F H g s ∧ TN H b n ∧ n.length < 1000 ∧ (g.hs.map fun h => h.2.zone.apex).Nodup ∧ (∀ h ∈ g.hs, ZFit h.2.zone) ∧
  ∀ H' p, Same H H' → H p = none → TelA c H' p (tlOf n (s.tells t n k)) → Q (.ref p) H'
theorem ok_Server_told_of {f : Addr} {fd : FuncData} (F : Fun K "told_of" "Server.told_of" s_Server_told_of f fd) (T : Txt K mg c) (cok : COk c) (d_Server_longest_holding : MFn P w K mg base 2 c.csrv "longest_holding" ["self", "name"] (sp_longest c)) (d_Holding_is_good : MFn P w K mg base 2 c.chol "is_good" ["self", "now"] (sp_is_good c)) (d_refusal_to_tell : GFn P w K mg base 3 "refusal_to_tell" ["name"] (sp_refusal c)) (d_tell : GFn P w K mg base 5 "tell" ["zone", "name", "kind"] (sp_tell c)) : FnOk P w K mg base CX0 6 f fd ["self", "name", "kind", "now"] (sp_srv_told c) := by
  refine F.ok sc_Server_told_of (fun vs H Q E h => ?_) (fun cdv A outer s H vs Q E hr h => ?_)
  · obtain ⟨b, F, g, s, n, k, t, rfl, _⟩ := h
    rfl
  · refine ⟨_, (pss_cons (ps_set (i := 4) sc_Server_told_of.nd rfl (Or.inl rfl) (km (pv 0) d_Server_longest_holding (hr.mono (by decide)) (pa_cons (pv 1) pa_nil)))
      (pss_cons (ps_if (PW.pt (pw_or (pt_cmpR op_isN (pv 4) pe_non (nomark _)) (pw_or1 (pt_not (pt_val (km (pv 4) d_Holding_is_good (hr.mono (by decide)) (pa_cons (pv 3) pa_nil))))))) (pss_one (ps_ret (kg d_refusal_to_tell (hr.mono (by decide)) (pa_cons (pv 1) pa_nil)))) pss_nil)
      (pss_one (ps_ret (kg d_tell (hr.mono (by decide)) (pa_cons (kf (pv 4) T.cl_hol T.n_hol_zone) (pa_cons (pv 1) (pa_cons (pv 2) pa_nil)))))))), ?_⟩
    obtain ⟨b, F, g, s', n, k, t, rfl, hs, hn, nl, und, fit, q⟩ := h
    obtain ⟨dx, h1⟩ := hs.at_
    unfold Dn01.Server.tells at q
    rw [zoneOf_eq hs.zones und n] at q
    refine ⟨_, rfl, g.a, dx, _, rfl, h1, no_srv_longest_holding, _, rfl, g.a, g.d, b, g.hs, n, rfl, hs.r, hn, nl, fun H1 s1 => ?_⟩
    cases e : lgH g.hs n n.length with
    | none =>
      rw [e] at q
      exact ⟨_, rfl, rfl, _, rfl, iteT (iteT ⟨_, rfl, b, n, rfl, hn.same s1, fun H2 p2 s2 hp2 ht => q H2 p2 (s1.trans s2) (same_none s1 hp2) ht⟩)⟩
    | some h0 =>
      obtain ⟨hm, j, hj⟩ := lgH_prefix e
      rw [e] at q
      obtain ⟨sv, ⟨dq, hq1⟩, _, hz0⟩ := id (hs.held h0 hm)
      refine ⟨_, rfl, rfl, _, rfl, iteF ⟨_, rfl, h0.1.1, dq, _, rfl, s1 _ _ hq1, no_hol_is_good, _, rfl, h0.1.1, h0.1.2, F, h0.2, t, rfl, (hs.held h0 hm).same s1, _, rfl, ite_b (fun e2 => ?_) fun e2 => ?_⟩⟩
      · rw [Bool.not_eq_true'] at e2
        have q2 : ∀ H' p, Same H H' → H p = none → TelA c H' p (tlOf n .refuses) → Q (.ref p) H' := by
          have := q
          simp only [Option.map_some, e2, Bool.false_eq_true, if_false] at this
          exact this
        exact ⟨_, rfl, b, n, rfl, hn.same s1, fun H2 p2 s2 hp2 ht => q2 H2 p2 (s1.trans s2) (same_none s1 hp2) ht⟩
      · rw [Bool.not_eq_false'] at e2
        have q2 : ∀ H' p, Same H H' → H p = none → TelA c H' p (tlOf n (h0.2.zone.answers n k)) → Q (.ref p) H' := by
          have := q
          simp only [Option.map_some, e2, if_true] at this
          exact this
        have ha : n.take h0.2.zone.apex.length = h0.2.zone.apex := by
          rw [hj, List.length_take, List.take_eq_take_iff]
          omega
        exact ⟨_, rfl, h0.1.1, dq, _, _, rfl, s1 _ _ hq1, lk_hol_zone, _, rfl, _, rfl, h0.1.2, b, F, h0.2.zone, n, k, rfl, hz0.same s1, hn.same s1, (fit h0 hm).recs, nl, (fit h0 hm).ones, ha, fun H2 p2 s2 hp2 ht => q2 H2 p2 (s1.trans s2) (same_none s1 hp2) ht⟩
def askT (s : Dn01.Server) (t : Nat) (n : List Nat) (k : Nat) : Dn01.Tells := if s.up = false then .refuses else s.tells t n k
def sp_srv_asked (c : Cs) : Sp := fun vs H Q _ => ∃ b F g s n k t, vs = [.ref g.a, .ref b, nv k, nv t] ∧ SrvA c F H g s ∧ TN H b n ∧ n.length < 1000 ∧ (g.hs.map fun h => h.2.zone.apex).Nodup ∧ (∀ h ∈ g.hs, ZFit h.2.zone) ∧
  ∀ H' p, Same H H' → H p = none → TelA c H' p (tlOf n (askT s t n k)) → Q (.ref p) H'
theorem ok_Server_told_when_asked {f : Addr} {fd : FuncData} (F : Fun K "told_when_asked" "Server.told_when_asked" s_Server_told_when_asked f fd) (T : Txt K mg c) (cok : COk c) (d_refusal_to_tell : GFn P w K mg base 3 "refusal_to_tell" ["name"] (sp_refusal c)) (d_Server_told_of : MFn P w K mg base 6 c.csrv "told_of" ["self", "name", "kind", "now"] (sp_srv_told c)) : FnOk P w K mg base CX0 7 f fd ["self", "name", "kind", "now"] (sp_srv_asked c) := by
  refine F.ok sc_Server_told_when_asked (fun vs H Q E h => ?_) (fun cdv A outer s H vs Q E hr h => ?_)
  · obtain ⟨b, F, g, s, n, k, t, rfl, _⟩ := h
    rfl
  · refine ⟨_, (pss_cons (ps_if (pt_not (pt_val (kf (pv 0) T.cl_srv T.n_srv_up))) (pss_one (ps_ret (kg d_refusal_to_tell (hr.mono (by decide)) (pa_cons (pv 1) pa_nil)))) pss_nil)
      (pss_one (ps_ret (km (pv 0) d_Server_told_of (hr.mono (by decide)) (pa_cons (pv 1) (pa_cons (pv 2) (pa_cons (pv 3) pa_nil))))))), ?_⟩
    obtain ⟨b, F, g, s', n, k, t, rfl, hs, hn, nl, und, fit, q⟩ := h
    obtain ⟨dx, h1⟩ := hs.at_
    unfold askT at q
    refine ⟨_, rfl, g.a, dx, _, _, rfl, h1, lk_srv_up, _, rfl, ite_b (fun e2 => ?_) fun e2 => ?_⟩
    · rw [Bool.not_eq_true'] at e2
      rw [if_pos e2] at q
      exact ⟨_, rfl, b, n, rfl, hn, q⟩
    · rw [Bool.not_eq_false'] at e2
      rw [if_neg (by rw [e2]; exact fun z => (nomatch z))] at q
      exact ⟨_, rfl, g.a, dx, _, rfl, h1, no_srv_told_of, _, rfl, _, rfl, _, rfl, b, F, g, s', n, k, t, rfl, hs, hn, nl, und, fit, q⟩
end
end Nn


namespace Nn
open PySem PySem.Spec PyProof.Rows L2
section
variable {P : Program} {w : World} {K : PySem.W.Frag} {mg : Str → Option Value} {base : Heap} {c : Cs}
/-! ### facts -/
def facI : List V → List (Str × V)
  | [a0, a1, a2] => facF a0 a1 a2
  | _ => []
theorem ok_Fact_init {f : Addr} {fd : FuncData} (F : Fun K "__init__" "Fact.__init__" s_Fact_init f fd) (T : Txt K mg c) (cok : COk c)  : FnOk P w K mg base CX0 1 f fd ["self", "telling", "kind", "until"] (spIni c.cfac 3 facI) := by
  refine F.ok sc_Fact_init (fun vs H Q E h => ?_) (fun cdv A outer s H vs Q E hr h => ?_)
  · obtain ⟨p, dx, us, rfl, hl, _⟩ := h
    exact congrArg (· + 1) hl
  · refine ⟨_, (pss_cons (kfs (pv 0) (pv 1) T.cl_fac T.n_fac_telling)
      (pss_cons (kfs (pv 0) (pv 2) T.cl_fac T.n_fac_kind)
      (pss_one (kfs (pv 0) (pv 3) T.cl_fac T.n_fac_until)))), ?_⟩
    obtain ⟨p, dx, us, rfl, hl, hp, k⟩ := h
    match us, hl, k with
    | [a0, a1, a2], _, k =>
      refine ⟨_, rfl, _, rfl, p, dx, _, rfl, hp, (by show 0 < 1000; decide), _, rfl, _, rfl, p, dx, _, rfl, upd_same, (by show 1 < 1000; decide), _, rfl, _, rfl, p, dx, _, rfl, upd_same, (by show 2 < 1000; decide), ?_⟩
      simp only [upd_upd, new_fac]
      exact k
def sp_is_known (c : Cs) : Sp := fun vs H Q _ => ∃ a f t, vs = [.ref a, nv t] ∧ FacA c H a f ∧ Q (.bl (decide (t < f.until_))) H
theorem ok_Fact_is_known {f : Addr} {fd : FuncData} (F : Fun K "is_known" "Fact.is_known" s_Fact_is_known f fd) (T : Txt K mg c) (cok : COk c)  : FnOk P w K mg base CX0 1 f fd ["self", "now"] (sp_is_known c) := by
  refine F.ok sc_Fact_is_known (fun vs H Q E h => ?_) (fun cdv A outer s H vs Q E hr h => ?_)
  · obtain ⟨a, f, t, rfl, _⟩ := h
    rfl
  · refine ⟨_, (pss_one (ps_ret (pe_cmpR op_lt (pv 1) (kf (pv 0) T.cl_fac T.n_fac_until) (nomark _)))), ?_⟩
    obtain ⟨a, f', t, rfl, ⟨ta, life, ⟨dx, h1⟩, h2⟩, k⟩ := h
    refine ⟨_, rfl, _, rfl, a, dx, _, _, rfl, h1, lk_fac_until, _, _, rfl, rfl, ?_⟩
    rw [← nat_lt_dec] at k
    exact k
def sp_left (c : Cs) : Sp := fun vs H Q _ => ∃ a f t, vs = [.ref a, nv t] ∧ FacA c H a f ∧ t ≤ f.until_ ∧ Q (nv (f.until_ - t)) H
theorem ok_Fact_left {f : Addr} {fd : FuncData} (F : Fun K "left" "Fact.left" s_Fact_left f fd) (T : Txt K mg c) (cok : COk c)  : FnOk P w K mg base CX0 1 f fd ["self", "now"] (sp_left c) := by
  refine F.ok sc_Fact_left (fun vs H Q E h => ?_) (fun cdv A outer s H vs Q E hr h => ?_)
  · obtain ⟨a, f, t, rfl, _⟩ := h
    rfl
  · refine ⟨_, (pss_one (ps_ret (pe_op op_sub (kf (pv 0) T.cl_fac T.n_fac_until) (pv 1)))), ?_⟩
    obtain ⟨a, f', t, rfl, ⟨ta, life, ⟨dx, h1⟩, h2⟩, le, k⟩ := h
    refine ⟨_, rfl, a, dx, _, _, rfl, h1, lk_fac_until, _, rfl, _, _, rfl, rfl, ?_⟩
    rw [show nv (f'.until_ - t) = V.int ((f'.until_ : Int) - (t : Int)) from congrArg V.int (by omega)] at k
    exact k
def kindOf (oc k : Nat) : Nat := if oc = 3 then 0 else if oc = 4 then 2 else if oc = 5 then 3 else k
def sp_kind_of : Sp := fun vs H Q _ => ∃ oc k, vs = [nv oc, nv k] ∧ Q (nv (kindOf oc k)) H
theorem ok_kind_of_fact {f : Addr} {fd : FuncData} (F : Fun K "kind_of_fact" "kind_of_fact" s_kind_of_fact f fd) (T : Txt K mg c) (cok : COk c)  : FnOk P w K mg base CX0 1 f fd ["outcome", "asked_kind"] sp_kind_of := by
  refine F.ok sc_kind_of_fact (fun vs H Q E h => ?_) (fun cdv A outer s H vs Q E hr h => ?_)
  · obtain ⟨oc, k, rfl, _⟩ := h
    rfl
  · refine ⟨_, (pss_cons (ps_if (pt_cmpR op_eq (pv 0) (kn T.k_NO_SUCH_NAME) (nomark _)) (pss_one (ps_ret (kn T.k_NO_KIND))) pss_nil)
      (pss_cons (ps_if (pt_cmpR op_eq (pv 0) (kn T.k_LEADS_ON) (nomark _)) (pss_one (ps_ret (kn T.k_ALIAS))) pss_nil)
      (pss_cons (ps_if (pt_cmpR op_eq (pv 0) (kn T.k_HANDS_ON) (nomark _)) (pss_one (ps_ret (kn T.k_HANDED_ON))) pss_nil)
      (pss_one (ps_ret (pv 1)))))), ?_⟩
    obtain ⟨oc, k, rfl, q⟩ := h
    unfold kindOf at q
    refine ⟨_, rfl, rfl, _, rfl, ite_b (fun e => ?_) fun e => ?_⟩
    · rw [show decide (nv oc = V.int 3) = (oc == 3) from nv_eq oc 3, beq_iff_eq] at e
      rw [if_pos e] at q
      exact q
    rw [show decide (nv oc = V.int 3) = (oc == 3) from nv_eq oc 3, beq_eq_false_iff_ne] at e
    rw [if_neg e] at q
    refine ⟨_, rfl, rfl, _, rfl, ite_b (fun e => ?_) fun e => ?_⟩
    · rw [show decide (nv oc = V.int 4) = (oc == 4) from nv_eq oc 4, beq_iff_eq] at e
      rw [if_pos e] at q
      exact q
    rw [show decide (nv oc = V.int 4) = (oc == 4) from nv_eq oc 4, beq_eq_false_iff_ne] at e
    rw [if_neg e] at q
    refine ⟨_, rfl, rfl, _, rfl, ite_b (fun e => ?_) fun e => ?_⟩
    · rw [show decide (nv oc = V.int 5) = (oc == 5) from nv_eq oc 5, beq_iff_eq] at e
      rw [if_pos e] at q
      exact q
    rw [show decide (nv oc = V.int 5) = (oc == 5) from nv_eq oc 5, beq_eq_false_iff_ne] at e
    rw [if_neg e] at q
    exact ⟨_, rfl, q⟩
/-! ### caches -/
def sp_cac_init (P : Program) (w : World) (c : Cs) : Sp := fun vs H Q _ => ∃ p dx, vs = [.ref p] ∧ H p = some (.ins c.ccac dx []) ∧
  ∀ H' d, Kp [p] H H' → H d = none → (d == sysModules) = false → At c.ccac H' p (cacF (.ref d)) → H' d = some (factsO P w d []) → Q .non H'
theorem ok_Cache_init {f : Addr} {fd : FuncData} (F : Fun K "__init__" "Cache.__init__" s_Cache_init f fd) (T : Txt K mg c) (cok : COk c)  : FnOk P w K mg base CX0 1 f fd ["self"] (sp_cac_init P w c) := by
  refine F.ok sc_Cache_init (fun vs H Q E h => ?_) (fun cdv A outer s H vs Q E hr h => ?_)
  · obtain ⟨p, dx, rfl, _⟩ := h
    rfl
  · refine ⟨_, (pss_one (kfs (pv 0) kdn T.cl_cac T.n_cac_facts)), ?_⟩
    obtain ⟨p, dx, rfl, hp, k⟩ := h
    refine fun d hd low => ?_
    have nd : d ≠ p := fun z => by rw [z, hp] at hd; cases hd
    refine ⟨_, rfl, p, dx, _, rfl, (upd_ne (Ne.symm nd)).trans hp, (by show 0 < 1000; decide), ?_⟩
    rw [new_cac]
    refine k _ d (fun b o e n => ?_) hd low ⟨dx, upd_same⟩ ((upd_ne nd).trans upd_same)
    have nb : b ≠ p := fun z => n (by simp [z])
    rw [upd_ne nb, upd_ne (ne_of_none e hd)]
    exact e
def sp_forget (P : Program) (w : World) (c : Cs) : Sp := fun vs H Q _ => ∃ a d0, vs = [.ref a] ∧ At c.ccac H a (cacF d0) ∧
  ∀ H' d, Kp [a] H H' → H d = none → (d == sysModules) = false → At c.ccac H' a (cacF (.ref d)) → H' d = some (factsO P w d []) → Q .non H'
theorem ok_Cache_forget_all {f : Addr} {fd : FuncData} (F : Fun K "forget_all" "Cache.forget_all" s_Cache_forget_all f fd) (T : Txt K mg c) (cok : COk c)  : FnOk P w K mg base CX0 1 f fd ["self"] (sp_forget P w c) := by
  refine F.ok sc_Cache_forget_all (fun vs H Q E h => ?_) (fun cdv A outer s H vs Q E hr h => ?_)
  · obtain ⟨p, d0, rfl, _⟩ := h
    rfl
  · refine ⟨_, (pss_one (kfs (pv 0) kdn T.cl_cac T.n_cac_facts)), ?_⟩
    obtain ⟨p, d0, rfl, ⟨dx, hp⟩, k⟩ := h
    refine fun d hd low => ?_
    have nd : d ≠ p := fun z => by rw [z, hp] at hd; cases hd
    refine ⟨_, rfl, p, dx, _, rfl, (upd_ne (Ne.symm nd)).trans hp, (by show 1 < 1000; decide), ?_⟩
    rw [put_cac_facts]
    refine k _ d (fun b o e n => ?_) hd low ⟨dx, upd_same⟩ ((upd_ne nd).trans upd_same)
    have nb : b ≠ p := fun z => n (by simp [z])
    rw [upd_ne nb, upd_ne (ne_of_none e hd)]
    exact e
abbrev FL : Type := List (En × Dn01.Fact)
def factAt (l : FL) (n : List Nat) (k t : Nat) : Option (En × Dn01.Fact) := l.find? fun p => (p.2.name == n && p.2.sort == k) && decide (t < p.2.until_)
def fref : Option (En × Dn01.Fact) → V
  | none => .non
  | some p => .ref p.1.2.2
theorem factAt_mem {l : FL} {n : List Nat} {k t : Nat} {p : En × Dn01.Fact} (h : factAt l n k t = some p) : p ∈ l ∧ p.2.name = n ∧ p.2.sort = k ∧ t < p.2.until_ := by
  have h1 := List.find?_some h
  simp only [Bool.and_eq_true, beq_iff_eq, decide_eq_true_eq] at h1
  exact ⟨List.mem_of_find?_eq_some h, h1.1.1, h1.1.2, h1.2⟩
theorem look_facts {P : Program} {w : World} {H : Hp} {d : Addr} {l : FL} (h : FacsA P w c H d l) (n : List Nat) (k : Nat) : (look (l.map (·.1)) (n, k) = none ∧ ∀ t, factAt l n k t = none) ∨
    ∃ p ∈ l, look (l.map (·.1)) (n, k) = some p.1.2.2 ∧ ∀ t, factAt l n k t = if t < p.2.until_ then some p else none := by
  have hk := fun p hp => (h.2 p hp).1
  have nd := h.1.nd
  clear h
  induction l with
  | nil => exact .inl ⟨rfl, fun t => rfl⟩
  | cons a r ih =>
    have ka := hk a (List.mem_cons_self ..)
    rw [List.map_cons, List.map_cons, List.nodup_cons] at nd
    by_cases e : a.1.1 = (n, k)
    · refine .inr ⟨a, List.mem_cons_self .., ?_, fun t => ?_⟩
      · unfold look
        rw [List.map_cons, List.find?_cons_of_pos (by simp [e])]
        rfl
      · rw [ka] at e
        cases e
        unfold factAt
        by_cases ht : t < a.2.until_
        · rw [if_pos ht, List.find?_cons_of_pos (by simp [ht])]
        · rw [if_neg ht, List.find?_eq_none.mpr fun x hx => ?_]
          rcases List.mem_cons.mp hx with rfl | hx
          · simp [ht]
          · intro z
            simp only [Bool.and_eq_true, beq_iff_eq] at z
            refine nd.1 (List.mem_map.mpr ⟨x.1, List.mem_map.mpr ⟨x, hx, rfl⟩, ?_⟩)
            rw [hk x (List.mem_cons_of_mem _ hx), ka, z.1.1, z.1.2]
    · have e2 : ¬ (a.2.name = n ∧ a.2.sort = k) := fun z => e (by rw [ka, z.1, z.2])
      have l1 : look ((a :: r).map (·.1)) (n, k) = look (r.map (·.1)) (n, k) := by
        unfold look
        rw [List.map_cons, List.find?_cons_of_neg (by simp [e])]
      have l2 : ∀ t, factAt (a :: r) n k t = factAt r n k t := fun t => by
        unfold factAt
        rw [List.find?_cons_of_neg]
        intro z
        simp only [Bool.and_eq_true, beq_iff_eq] at z
        exact e2 z.1
      rw [l1]
      rcases ih (fun p hp => hk p (List.mem_cons_of_mem _ hp)) nd.2 with ⟨h1, h2⟩ | ⟨p, hp, h1, h2⟩
      · exact .inl ⟨h1, fun t => (l2 t).trans (h2 t)⟩
      · exact .inr ⟨p, List.mem_cons_of_mem _ hp, h1, fun t => (l2 t).trans (h2 t)⟩
def sp_fact_of (P : Program) (w : World) (c : Cs) : Sp := fun vs H Q _ => ∃ g fs b n k t, vs = [.ref g.a, .ref b, nv k, nv t] ∧ CacA P w c H g fs ∧ TN H b n ∧ ∀ H', Same H H' → Q (fref (factAt g.fs n k t)) H'
theorem ok_Cache_fact_of {f : Addr} {fd : FuncData} (F : Fun K "fact_of" "Cache.fact_of" s_Cache_fact_of f fd) (T : Txt K mg c) (cok : COk c) (d_Fact_is_known : MFn P w K mg base 1 c.cfac "is_known" ["self", "now"] (sp_is_known c)) : FnOk P w K mg base CX0 2 f fd ["self", "name", "kind", "now"] (sp_fact_of P w c) := by
  refine F.ok sc_Cache_fact_of (fun vs H Q E h => ?_) (fun cdv A outer s H vs Q E hr h => ?_)
  · obtain ⟨g, fs, b, n, k, t, rfl, _⟩ := h
    rfl
  · refine ⟨_, (pss_cons (ps_set (i := 4) sc_Cache_fact_of.nd rfl (Or.inl rfl) (knget hr.units (kf (pv 0) T.cl_cac T.n_cac_facts) (pe_tup (pa_cons (pv 1) (pa_cons (pv 2) pa_nil))) ⟨rfl, rfl, rfl, rfl⟩))
      (pss_cons (ps_if (PW.pt (pw_or (pt_cmpR op_isN (pv 4) pe_non (nomark _)) (pw_or1 (pt_not (pt_val (km (pv 4) d_Fact_is_known (hr.mono (by decide)) (pa_cons (pv 3) pa_nil))))))) (pss_one (ps_ret pe_non)) pss_nil)
      (pss_one (ps_ret (pv 4))))), ?_⟩
    obtain ⟨g, fs, b, n, k, t, rfl, ⟨⟨dx, h1⟩, h2, h3⟩, hn, q⟩ := h
    refine ⟨_, rfl, g.a, dx, _, _, rfl, h1, lk_cac_facts, g.d, List.map (fun x : En × Dn01.Fact => x.1) g.fs, rfl, h2.1, _, rfl, _, rfl, (by show 2 ≤ sizeLine; decide), fun p hp => ?_⟩
    have s1 : Same H (upd H p (.tup [.ref b, nv k])) := Same.laid hp
    refine ⟨(n, k), p, rfl, h2.1.same s1, ⟨b, upd_same, s1 _ _ hn⟩, ?_⟩
    rcases look_facts h2 n k with ⟨e1, e2⟩ | ⟨x, hx, e1, e2⟩
    · rw [e2] at q
      rw [e1]
      exact ⟨_, rfl, rfl, _, rfl, iteT (iteT (q _ s1))⟩
    · rw [e2] at q
      rw [e1]
      have hf := (h2.2 x hx).2.same s1
      obtain ⟨ta, life, ⟨dy, g1⟩, g2⟩ := id hf
      refine ⟨_, rfl, rfl, _, rfl, iteF ⟨_, rfl, x.1.2.2, dy, _, rfl, g1, no_fac_is_known, _, rfl, x.1.2.2, x.2, t, rfl, hf, _, rfl, ite_b (fun e => ?_) fun e => ?_⟩⟩
      · rw [Bool.not_eq_true', decide_eq_false_iff_not] at e
        rw [if_neg e] at q
        exact q _ s1
      · rw [Bool.not_eq_false', decide_eq_true_eq] at e
        rw [if_pos e] at q
        exact ⟨_, rfl, q _ s1⟩
def aliasAt (l : FL) (n : List Nat) (t : Nat) : Option (En × Dn01.Fact) := (factAt l n 2 t).filter fun p => ocOf p.2.what == 4
def sp_alias_of (P : Program) (w : World) (c : Cs) : Sp := fun vs H Q _ => ∃ g fs b n t, vs = [.ref g.a, .ref b, nv t] ∧ CacA P w c H g fs ∧ TN H b n ∧ ∀ H', Same H H' → Q (fref (aliasAt g.fs n t)) H'
theorem ok_Cache_alias_of {f : Addr} {fd : FuncData} (F : Fun K "alias_of" "Cache.alias_of" s_Cache_alias_of f fd) (T : Txt K mg c) (cok : COk c) (d_Cache_fact_of : MFn P w K mg base 2 c.ccac "fact_of" ["self", "name", "kind", "now"] (sp_fact_of P w c)) : FnOk P w K mg base CX0 3 f fd ["self", "name", "now"] (sp_alias_of P w c) := by
  refine F.ok sc_Cache_alias_of (fun vs H Q E h => ?_) (fun cdv A outer s H vs Q E hr h => ?_)
  · obtain ⟨g, fs, b, n, t, rfl, _⟩ := h
    rfl
  · refine ⟨_, (pss_cons (ps_set (i := 3) sc_Cache_alias_of.nd rfl (Or.inl rfl) (km (pv 0) d_Cache_fact_of (hr.mono (by decide)) (pa_cons (pv 1) (pa_cons (kn T.k_ALIAS) (pa_cons (pv 2) pa_nil)))))
      (pss_cons (ps_if (PW.pt (pw_or (pt_cmpR op_isN (pv 3) pe_non (nomark _)) (pw_or1 (pt_cmpR op_ne (kf (kf (pv 3) T.cl_fac T.n_fac_telling) T.cl_tel T.n_tel_outcome) (kn T.k_LEADS_ON) (nomark _))))) (pss_one (ps_ret pe_non)) pss_nil)
      (pss_one (ps_ret (pv 3))))), ?_⟩
    obtain ⟨g, fs, b, n, t, rfl, hg, hn, q⟩ := h
    obtain ⟨⟨dx, h1⟩, h2, h3⟩ := id hg
    unfold aliasAt at q
    refine ⟨_, rfl, g.a, dx, _, rfl, h1, no_cac_fact_of, _, rfl, _, rfl, g, fs, b, n, 2, t, rfl, hg, hn, fun H1 s1 => ?_⟩
    cases e1 : factAt g.fs n 2 t with
    | none =>
      rw [e1] at q
      exact ⟨_, rfl, rfl, _, rfl, iteT (iteT (q _ s1))⟩
    | some x =>
      rw [e1] at q
      have hf := (h2.2 x (factAt_mem e1).1).2.same s1
      obtain ⟨ta, life, ⟨dy, g1⟩, ⟨na, ra, ⟨dz, g2⟩, _⟩⟩ := id hf
      refine ⟨_, rfl, rfl, _, rfl, iteF ⟨_, rfl, x.1.2.2, dy, _, _, rfl, g1, lk_fac_telling, ta, dz, _, _, rfl, g2, lk_tel_outcome, rfl, _, rfl, ite_b (fun e => ?_) fun e => ?_⟩⟩
      · rw [Bool.not_eq_true', show decide (nv (ocOf x.2.what) = V.int 4) = (ocOf x.2.what == 4) from nv_eq _ 4] at e
        rw [Option.filter_some, e] at q
        exact q _ s1
      · rw [Bool.not_eq_false', show decide (nv (ocOf x.2.what) = V.int 4) = (ocOf x.2.what == 4) from nv_eq _ 4] at e
        rw [Option.filter_some, e] at q
        exact ⟨_, rfl, q _ s1⟩
def recalledAt (l : FL) (n : List Nat) (k t : Nat) : Option (En × Dn01.Fact) := match factAt l n 0 t with
  | some p => some p
  | none => match factAt l n k t with
    | some p => some p
    | none => aliasAt l n t
def sp_recalled (P : Program) (w : World) (c : Cs) : Sp := fun vs H Q _ => ∃ g fs b n k t, vs = [.ref g.a, .ref b, nv k, nv t] ∧ CacA P w c H g fs ∧ TN H b n ∧ ∀ H', Same H H' → Q (fref (recalledAt g.fs n k t)) H'
theorem ok_Cache_recalled {f : Addr} {fd : FuncData} (F : Fun K "recalled" "Cache.recalled" s_Cache_recalled f fd) (T : Txt K mg c) (cok : COk c) (d_Cache_fact_of : MFn P w K mg base 2 c.ccac "fact_of" ["self", "name", "kind", "now"] (sp_fact_of P w c)) (d_Cache_alias_of : MFn P w K mg base 3 c.ccac "alias_of" ["self", "name", "now"] (sp_alias_of P w c)) : FnOk P w K mg base CX0 4 f fd ["self", "name", "kind", "now"] (sp_recalled P w c) := by
  refine F.ok sc_Cache_recalled (fun vs H Q E h => ?_) (fun cdv A outer s H vs Q E hr h => ?_)
  · obtain ⟨g, fs, b, n, k, t, rfl, _⟩ := h
    rfl
  · refine ⟨_, (pss_cons (ps_set (i := 4) sc_Cache_recalled.nd rfl (Or.inl rfl) (km (pv 0) d_Cache_fact_of (hr.mono (by decide)) (pa_cons (pv 1) (pa_cons (kn T.k_NO_KIND) (pa_cons (pv 3) pa_nil)))))
      (pss_cons (ps_if (pt_cmpR op_isN (pv 4) pe_non (nomark _)) (pss_one (ps_set (i := 4) sc_Cache_recalled.nd rfl (Or.inl rfl) (km (pv 0) d_Cache_fact_of (hr.mono (by decide)) (pa_cons (pv 1) (pa_cons (pv 2) (pa_cons (pv 3) pa_nil)))))) pss_nil)
      (pss_cons (ps_if (pt_cmpR op_isN (pv 4) pe_non (nomark _)) (pss_one (ps_set (i := 4) sc_Cache_recalled.nd rfl (Or.inl rfl) (km (pv 0) d_Cache_alias_of (hr.mono (by decide)) (pa_cons (pv 1) (pa_cons (pv 3) pa_nil))))) pss_nil)
      (pss_one (ps_ret (pv 4)))))), ?_⟩
    obtain ⟨g, fs, b, n, k, t, rfl, hg, hn, q⟩ := h
    obtain ⟨⟨dx, h1⟩, h2, h3⟩ := id hg
    unfold recalledAt at q
    refine ⟨_, rfl, g.a, dx, _, rfl, h1, no_cac_fact_of, _, rfl, _, rfl, g, fs, b, n, 0, t, rfl, hg, hn, fun H1 s1 => ?_⟩
    cases e1 : factAt g.fs n 0 t with
    | some x =>
      rw [e1] at q
      exact ⟨_, rfl, rfl, _, rfl, iteF ⟨_, rfl, rfl, _, rfl, iteF ⟨_, rfl, q _ s1⟩⟩⟩
    | none =>
      rw [e1] at q
      refine ⟨_, rfl, rfl, _, rfl, iteT ⟨_, rfl, g.a, dx, _, rfl, s1 _ _ h1, no_cac_fact_of, _, rfl, _, rfl, _, rfl, g, fs, b, n, k, t, rfl, hg.same s1, hn.same s1, fun H2 s2 => ?_⟩⟩
      have s12 := s1.trans s2
      cases e2 : factAt g.fs n k t with
      | some x =>
        rw [e2] at q
        exact ⟨_, rfl, rfl, _, rfl, iteF ⟨_, rfl, q _ s12⟩⟩
      | none =>
        rw [e2] at q
        exact ⟨_, rfl, rfl, _, rfl, iteT ⟨_, rfl, g.a, dx, _, rfl, s12 _ _ h1, no_cac_alias_of, _, rfl, _, rfl, g, fs, b, n, t, rfl, hg.same s12, hn.same s12, fun H3 s3 => ⟨_, rfl, q _ (s12.trans s3)⟩⟩⟩
def nearH (l : FL) (n : List Nat) (t : Nat) : Nat → Option (En × Dn01.Fact)
  | 0 => none
  | k + 1 => match factAt l (n.take (k + 1)) 3 t with
    | some p => some p
    | none => nearH l n t k
theorem nearH_miss {l : FL} {n : List Nat} {t k : Nat} (h : factAt l (n.take (k + 1)) 3 t = none) : nearH l n t (k + 1) = nearH l n t k := by
  conv => lhs; unfold nearH
  rw [h]
theorem nearH_skip {l : FL} {n : List Nat} {t : Nat} : ∀ {k d : Nat}, (∀ j, k < j → j ≤ k + d → factAt l (n.take j) 3 t = none) → nearH l n t (k + d) = nearH l n t k
  | k, 0, _ => rfl
  | k, d + 1, h => (nearH_miss (k := k + d) (h (k + d + 1) (by omega) (by omega))).trans (nearH_skip fun j h1 h2 => h j h1 (by omega))
def sp_nearest (P : Program) (w : World) (c : Cs) : Sp := fun vs H Q _ => ∃ g fs b n t, vs = [.ref g.a, .ref b, nv t] ∧ CacA P w c H g fs ∧ TN H b n ∧ n.length < 1000 ∧ ∀ H', Same H H' → Q (fref (nearH g.fs n t n.length)) H'
theorem ok_Cache_nearest_handing_on {f : Addr} {fd : FuncData} (F : Fun K "nearest_handing_on" "Cache.nearest_handing_on" s_Cache_nearest_handing_on f fd) (T : Txt K mg c) (cok : COk c) (d_Cache_fact_of : MFn P w K mg base 2 c.ccac "fact_of" ["self", "name", "kind", "now"] (sp_fact_of P w c)) : FnOk P w K mg base CX0 3 f fd ["self", "name", "now"] (sp_nearest P w c) := by
  refine F.ok sc_Cache_nearest_handing_on (fun vs H Q E h => ?_) (fun cdv A outer s H vs Q E hr h => ?_)
  · obtain ⟨g, fs, b, n, t, rfl, _⟩ := h
    rfl
  · refine ⟨_, (pss_cons (ps_for PassesOwn.never rfl (pi_range3 (by rfl) T.f_range (pa_cons (pe_callB call_len_seq (by rfl) T.f_len PySem.boot_len (pa_cons (pv 1) pa_nil)) (pa_cons pe_int (pa_cons (pe_un un_neg pe_int) pa_nil)))) (pg_name (i := 3) sc_Cache_nearest_handing_on.nd rfl (Or.inl rfl)) (pss_cons (ps_set (i := 4) sc_Cache_nearest_handing_on.nd rfl (Or.inl rfl) (km (pv 0) d_Cache_fact_of (hr.mono (by decide)) (pa_cons (pe_slice sl_tupA (pv 1) po_none (po_some (pv 3))) (pa_cons (kn T.k_HANDED_ON) (pa_cons (pv 2) pa_nil)))))
      (pss_one (ps_if (pt_cmpR op_notN (pv 4) pe_non (nomark _)) (pss_one (ps_ret (pv 4))) pss_nil))))
      (pss_one (ps_ret pe_non))), ?_⟩
    obtain ⟨g, fs, b, l, t, rfl, hg, hl, ll, k⟩ := h
    obtain ⟨⟨dx, h1⟩, h2, h3⟩ := id hg
    have e0 : (((l.map nv).length : Nat) : Int) = (l.length : Int) := by rw [List.length_map]
    have rg : RgC (((l.map nv).length : Nat) : Int) 0 (-1) l.length := by
      have := RgC.neg (i := (((l.map nv).length : Nat) : Int)) (j := 0) (by omega) (by omega) (by omega) (by omega)
      rwa [show ((((l.map nv).length : Nat) : Int) - 0).toNat = l.length by omega] at this
    refine ⟨_, rfl, _, _, rfl, .inr (SqT.of hl), _, rfl, _, _, _, _, rfl, rg, for_rangeC (lo := (((l.map nv).length : Nat) : Int)) (c := -1) (n := l.length) (fun i σ H' => (∃ v u, σ = [some (.ref g.a), some (.ref b), some (nv t), v, u]) ∧ Same H H' ∧ ∀ j, l.length < j + i → j ≤ l.length → factAt g.fs (l.take j) 3 t = none) ⟨⟨none, none, rfl⟩, Same.refl H, fun j h1 h2 => absurd h1 (by omega)⟩ ?_ ?_⟩
    · rintro i σ H1 hi ⟨⟨v, u, rfl⟩, s1, hno⟩
      have ei : (((l.map nv).length : Nat) : Int) + (i : Nat) * -1 = ((l.length - i : Nat) : Int) := by omega
      rw [ei]
      refine ⟨_, rfl, g.a, dx, _, rfl, s1 _ _ h1, no_cac_fact_of, _, rfl, _, rfl, _, rfl, sl_take (i := ((l.length - i : Nat) : Int)) (k := l.length - i) rfl (hl.same s1) fun p2 H2 s2 h2' => ⟨_, rfl, g, fs, p2, _, 3, t, rfl, hg.same (s1.trans s2), h2', fun H3 s3 => ?_⟩⟩
      have s13 := (s1.trans s2).trans s3
      cases e : factAt g.fs (l.take (l.length - i)) 3 t with
      | some x =>
        have e2 : nearH g.fs l t l.length = some x := by
          have := nearH_skip (l := g.fs) (n := l) (t := t) (k := l.length - i) (d := i) fun j h1 h2 => hno j (by omega) (by omega)
          rw [show l.length - i + i = l.length by omega] at this
          rw [this]
          cases e3 : l.length - i with
          | zero => omega
          | succ m =>
            rw [e3] at e
            unfold nearH
            rw [e]
        rw [e2] at k
        exact ⟨_, rfl, rfl, _, rfl, iteT ⟨_, rfl, k _ s13⟩⟩
      | none =>
        refine ⟨_, rfl, rfl, _, rfl, iteF ⟨⟨_, _, rfl⟩, s13, fun j h1 h2 => ?_⟩⟩
        rcases Nat.lt_or_ge l.length (j + i) with h | h
        · exact hno j h h2
        · rw [show j = l.length - i by omega]
          exact e
    · rintro σ H1 ⟨⟨v, u, rfl⟩, s1, hno⟩
      have e2 : nearH g.fs l t l.length = none := by
        have := nearH_skip (l := g.fs) (n := l) (t := t) (k := 0) (d := l.length) fun j h1 h2 => hno j (by omega) (by omega)
        rw [Nat.zero_add] at this
        rw [this]
        rfl
      rw [e2] at k
      exact k H1 s1
def sp_known_facts (P : Program) (w : World) (c : Cs) : Sp := fun vs H Q _ => ∃ g fs t, vs = [.ref g.a, nv t] ∧ CacA P w c H g fs ∧ g.fs.length < 100000 ∧
  ∀ H' p, Same H H' → H p = none → H' p = some (.lst ((g.fs.filter fun x => decide (t < x.2.until_)).map fun x => V.ref x.1.2.2)) → Q (.ref p) H'
theorem walk_f {P : Program} {w : World} {d : Addr} {o : Obj} {l : FL} : Walk (Itn P w d o (l.map (·.1))) (l.map fun x => V.ref x.1.2.2).length (fun H => H d = some (.frz o (factsO P w d (l.map (·.1))))) (YAt (l.map fun x => V.ref x.1.2.2)) := by
  have e : (l.map fun x => V.ref x.1.2.2).length = (l.map (·.1)).length := by rw [List.length_map, List.length_map]
  refine ⟨fun i H hi q => walk_n.goes i H (by omega) q, fun H q => ?_, fun i H x H' hi q y => ?_⟩
  · rw [e]
    exact walk_n.stops H q
  · obtain ⟨h1, e', h2, h3⟩ := walk_n.yields i H x H' (by omega) q y
    refine ⟨h1, ?_⟩
    rw [List.getElem?_map] at h2 ⊢
    obtain ⟨z, hz, rfl⟩ := Option.map_eq_some_iff.mp h2
    rw [hz, h3]
    rfl
theorem ok_Cache_known_facts {f : Addr} {fd : FuncData} (F : Fun K "known_facts" "Cache.known_facts" s_Cache_known_facts f fd) (T : Txt K mg c) (cok : COk c) (d_Fact_is_known : MFn P w K mg base 1 c.cfac "is_known" ["self", "now"] (sp_is_known c)) : FnOk P w K mg base CX0 2 f fd ["self", "now"] (sp_known_facts P w c) := by
  refine F.ok sc_Cache_known_facts (fun vs H Q E h => ?_) (fun cdv A outer s H vs Q E hr h => ?_)
  · obtain ⟨g, fs, t, rfl, _⟩ := h
    rfl
  · refine ⟨_, (pss_one (ps_ret (pe_lock (pe_lc (own := [("fact", 2)]) (by rfl) sc_Cache_known_facts.nd (knvals (kf (pv 0) T.cl_cac T.n_cac_facts)) (blkOk_by (own := [("fact", 2)]) (N := ["self", "now", "fact"]) (sc := defScope s_Cache_known_facts) (by decide +kernel)) (fun _ _ _ _ _ => pg_name (i := 2) sc_Cache_known_facts.nd rfl (Or.inl rfl)) (fun _ _ _ _ _ => pts_one (pt_val (km (pv 2) d_Fact_is_known (hr.mono (by decide)) (pa_cons (pv 1) pa_nil)))) (fun _ _ _ _ _ => (pv 2)))))), ?_⟩
    obtain ⟨g, fs, t, rfl, hg, ll, k⟩ := h
    obtain ⟨⟨dx, h1⟩, h2, h3⟩ := id hg
    have line : 100000 < sizeLine := by decide
    have hd := h2.1.at_
    have nda : g.d ≠ g.a := fun z => by rw [z, h1] at hd; cases hd
    refine ⟨g.d, _, hd, (by trivial), fun od => ?_⟩
    refine ⟨_, rfl, g.a, dx, _, _, rfl, (upd_ne (Ne.symm nda)).trans h1, lk_cac_facts, g.d, od, g.fs.map (·.1), rfl, h2.1.low, upd_same, fun D hD => ?_⟩
    have nD : D ≠ g.d := fun z => by rw [z, upd_same] at hD; cases hD
    have hD' : H D = none := by rw [upd_ne nD] at hD; exact hD
    have im : Imm c [] H (upd H g.d (.frz od (factsO P w g.d (g.fs.map (·.1))))) := Kp.imm (L := [g.d]) cok (Kp.put (by simp)) fun x hx o e => by
      rw [List.mem_singleton.mp hx, hd] at e
      cases e
      exact fun z => z
    refine lc_by (l := g.fs) (emb := fun x => V.ref x.1.2.2) walk_f (fun x => decide (t < x.2.until_)) (fun x => V.ref x.1.2.2) hD (fun H1 s => s _ _ upd_same) (by omega) (fun x hx H4 acc N s4 hacc hz kN => ?_) fun H4 s4 hD4 => ?_
    · have hf := ((h2.2 x hx).2.imm im).same s4
      obtain ⟨ta, life, ⟨dy, g1⟩, g2⟩ := id hf
      refine ⟨rfl, _, rfl, x.1.2.2, dy, _, rfl, g1, no_fac_is_known, _, rfl, x.1.2.2, x.2, t, rfl, hf, _, rfl, ?_⟩
      refine ite_b (fun e => ?_) fun e => ?_
      · refine ⟨_, rfl, acc, hacc, hz, ?_⟩
        have := kN H4 (Same.refl H4)
        rw [if_pos e] at this
        exact this
      · have := kN H4 (Same.refl H4)
        rw [if_neg (by rw [e]; exact Bool.false_ne_true)] at this
        exact this
    · refine ⟨s4 _ _ upd_same, k _ D (fun b o e => ?_) hD' ((upd_ne nD).trans hD4)⟩
      by_cases eb : b = g.d
      · rw [eb, upd_same, ← hd, ← eb, e]
      · rw [upd_ne eb]
        exact s4 _ _ ((upd_ne eb).trans e)
theorem abs_heap {R : Hp → Prop} {H0 H9 : Hp} (e : H9 = H0) (h : R H9) : R H0 := e ▸ h
def learnL (l : FL) (f : Dn01.Fact) (ka fa : Addr) : FL := l.filter (fun x => decide (x.1.1 ≠ (f.name, f.sort))) ++ [(((f.name, f.sort), ka, fa), f)]
def sp_cac_learn (P : Program) (w : World) (c : Cs) : Sp := fun vs H Q _ => ∃ g fs ta ak t f life, vs = [.ref g.a, .ref ta, nv ak, nv t] ∧ CacA P w c H g fs ∧ TelA c H ta ⟨ocOf f.what, f.name, life, rowsOf f.what⟩ ∧ f.sort = kindOf (ocOf f.what) ak ∧ f.until_ = t + life ∧ g.fs.length < 100000 ∧
  ∀ H' ka fa, Kp [g.d] H H' → FacsA P w c H' g.d (learnL g.fs f ka fa) → Q .non H'
theorem dropE_map (l : FL) (k : List Nat × Nat) : dropE (l.map (·.1)) k = (l.filter fun x => decide (x.1.1 ≠ k)).map (·.1) := by
  unfold dropE
  rw [List.filter_map]
  rfl
theorem look_drop (xs : List En) (k : List Nat × Nat) : look (dropE xs k) k = none := by
  unfold look dropE
  rw [List.find?_eq_none.mpr]
  · rfl
  · intro x hx z
    have := (List.mem_filter.mp hx).2
    simp only [decide_eq_true_eq] at this z
    exact this z
theorem ok_Cache_learn {f : Addr} {fd : FuncData} (F : Fun K "learn" "Cache.learn" s_Cache_learn f fd) (T : Txt K mg c) (cok : COk c) (d_kind_of_fact : GFn P w K mg base 1 "kind_of_fact" ["outcome", "asked_kind"] sp_kind_of) (d_Fact_init : CFn P w K mg base 1 c.cfac "Fact" ["self", "telling", "kind", "until"] (spIni c.cfac 3 facI)) : FnOk P w K mg base CX0 3 f fd ["self", "telling", "asked_kind", "now"] (sp_cac_learn P w c) := by
  refine F.ok sc_Cache_learn (fun vs H Q E h => ?_) (fun cdv A outer s H vs Q E hr h => ?_)
  · obtain ⟨g, fs, ta, ak, t, f, life, rfl, _⟩ := h
    rfl
  · refine ⟨_, (pss_cons (ps_set (i := 4) sc_Cache_learn.nd rfl (Or.inl rfl) (kg d_kind_of_fact (hr.mono (by decide)) (pa_cons (kf (pv 1) T.cl_tel T.n_tel_outcome) (pa_cons (pv 2) pa_nil))))
      (pss_cons (ps_expr (knpop hr.units (kf (pv 0) T.cl_cac T.n_cac_facts) (pe_tup (pa_cons (kf (pv 1) T.cl_tel T.n_tel_name) (pa_cons (pv 4) pa_nil))) pe_non ⟨rfl, rfl, rfl, rfl⟩))
      (pss_one (knput hr.units (kf (pv 0) T.cl_cac T.n_cac_facts) (pe_tup (pa_cons (kf (pv 1) T.cl_tel T.n_tel_name) (pa_cons (pv 4) pa_nil))) (kc d_Fact_init (hr.mono (by decide)) (pa_cons (pv 1) (pa_cons (pv 4) (pa_cons (pe_op op_add (pv 3) (kf (pv 1) T.cl_tel T.n_tel_life)) pa_nil)))) rfl)))), ?_⟩
    obtain ⟨g, fs, ta, ak, t, f', life, rfl, hg, ht, hs, hu, ll, k⟩ := h
    obtain ⟨⟨dx, h1⟩, h2, h3⟩ := id hg
    obtain ⟨na, ra, ⟨dz, t1⟩, t2, t3⟩ := id ht
    have line : 100000 < sizeLine := by decide
    have hd := h2.1.at_
    have nda : g.d ≠ g.a := fun z => by rw [z, h1] at hd; cases hd
    have ndt : g.d ≠ ta := fun z => by rw [z, t1] at hd; cases hd
    refine ⟨_, rfl, ta, dz, _, _, rfl, t1, lk_tel_outcome, _, rfl, _, _, rfl, ?_⟩
    rw [← hs]
    refine ⟨_, rfl, g.a, dx, _, _, rfl, h1, lk_cac_facts, g.d, List.map (fun x : En × Dn01.Fact => x.1) g.fs, rfl, h2.1, _, rfl, ta, dz, _, _, rfl, t1, lk_tel_name, _, rfl, (by show 2 ≤ sizeLine; decide), fun p1 hp1 => ?_⟩
    have s1 : Same H (upd H p1 (.tup [.ref na, nv f'.sort])) := Same.laid hp1
    refine ⟨(f'.name, f'.sort), p1, rfl, h2.1.same s1, ⟨na, upd_same, s1 _ _ t2⟩, fun v => ?_⟩
    have nd1 : g.d ≠ p1 := fun z => by rw [z, hp1] at hd; cases hd
    obtain ⟨H9, e9⟩ : ∃ H9, H9 = (upd (upd H p1 (.tup [.ref na, nv f'.sort])) g.d (factsO P w g.d (dropE (g.fs.map (·.1)) (f'.name, f'.sort)))) := ⟨_, rfl⟩
    have d9 : H9 g.d = some (factsO P w g.d (dropE (g.fs.map (·.1)) (f'.name, f'.sort))) := by rw [e9, upd_same]
    have k1 : Kp [g.d] H (upd (upd H p1 (.tup [.ref na, nv f'.sort])) g.d (factsO P w g.d (dropE (g.fs.map (·.1)) (f'.name, f'.sort)))) := (Same.kp _ s1).trans (Kp.put (by simp))
    refine abs_heap e9 ?_
    rw [← e9] at k1
    have t1' := k1 _ _ t1 (by simpa using Ne.symm ndt)
    refine ⟨_, rfl, _, rfl, _, rfl, _, rfl, ta, dz, _, _, rfl, t1', lk_tel_life, _, _, rfl, rfl, ?_⟩
    intro x dx2 hx hdx2 ne2
    refine ⟨x, dx2, [.ref ta, nv f'.sort, .int ((t : Int) + (life : Int))], rfl, rfl, upd_same, rfl, ?_⟩
    have s2 := made_same (C := c.cfac) (fs := facI [.ref ta, nv f'.sort, .int ((t : Int) + (life : Int))]) hx hdx2 ne2
    have hat : At c.cfac (upd (upd (upd H9 dx2 (.own x)) x (.ins c.cfac dx2 [])) x (.ins c.cfac dx2 (facI [.ref ta, nv f'.sort, .int ((t : Int) + (life : Int))]))) x _ := ⟨dx2, upd_same⟩
    generalize upd (upd (upd H9 dx2 (.own x)) x (.ins c.cfac dx2 [])) x (.ins c.cfac dx2 (facI [.ref ta, nv f'.sort, .int ((t : Int) + (life : Int))])) = H2 at s2 hat ⊢
    have k2 := k1.trans (Same.kp _ s2)
    refine ⟨_, rfl, g.a, dx, _, _, rfl, k2 _ _ h1 (by simpa using Ne.symm nda), lk_cac_facts, _, rfl, ta, dz, _, _, rfl, k2 _ _ t1 (by simpa using Ne.symm ndt), lk_tel_name, _, rfl, (by show 2 ≤ sizeLine; decide), fun p2 hp2 => ?_⟩
    have s3 : Same H2 (upd H2 p2 (.tup [.ref na, nv f'.sort])) := Same.laid hp2
    have k3 := k2.trans (Same.kp _ s3)
    have im : Imm c [] H _ := k3.imm (F := []) cok fun y hy o e => by
      rw [List.mem_singleton.mp hy, hd] at e
      cases e
      exact fun z => z
    have hd3 := (s2.trans s3) _ _ d9
    have nd3 : ND P w (upd H2 p2 (.tup [.ref na, nv f'.sort])) g.d (dropE (g.fs.map (·.1)) (f'.name, f'.sort)) := ⟨hd3, fun x hx => (h2.1.keys x (List.mem_filter.mp hx).1).imm im, (List.filter_sublist.map _).nodup h2.1.nd, h2.1.low, Nat.le_trans (List.length_filter_le _ _) h2.1.sz⟩
    have kt : KeyT (upd H2 p2 (.tup [.ref na, nv f'.sort])) (f'.name, f'.sort) p2 := ⟨na, upd_same, TN.imm im t2⟩
    refine ⟨g.d, _, (f'.name, f'.sort), p2, x, rfl, rfl, rfl, nd3, kt, look_drop _ _, ?_⟩
    have n2d : p2 ≠ g.d := fun z => by rw [z, s2 _ _ d9] at hp2; cases hp2
    have k4 : Kp [g.d] H (upd (upd H2 p2 (.tup [.ref na, nv f'.sort])) g.d (factsO P w g.d (dropE (g.fs.map (·.1)) (f'.name, f'.sort) ++ [((f'.name, f'.sort), p2, x)]))) := k3.trans (Kp.put (by simp))
    have im4 : Imm c [] H _ := k4.imm (F := []) cok fun y hy o e => by
      rw [List.mem_singleton.mp hy, hd] at e
      cases e
      exact fun z => z
    have nxd : x ≠ g.d := fun z => by rw [z, d9] at hx; cases hx
    have e5 : (learnL g.fs f' p2 x).map (·.1) = dropE (g.fs.map (·.1)) (f'.name, f'.sort) ++ [((f'.name, f'.sort), p2, x)] := by
      rw [dropE_map]
      unfold learnL
      rw [List.map_append]
      rfl
    refine k _ p2 x k4 ⟨?_, fun y hy => ?_⟩
    · rw [e5]
      refine ⟨upd_same, fun y hy => ?_, ?_, h2.1.low, ?_⟩
      · rcases List.mem_append.mp hy with m | m
        · exact (h2.1.keys y (List.mem_filter.mp m).1).imm im4
        · rw [List.mem_singleton.mp m]
          exact ⟨na, (upd_ne n2d).trans upd_same, TN.imm im4 t2⟩
      · rw [List.map_append, List.nodup_append]
        refine ⟨nd3.nd, by simp, fun a ha b hb => ?_⟩
        obtain ⟨y, hy, rfl⟩ := List.mem_map.mp ha
        have := (List.mem_filter.mp hy).2
        simp only [decide_eq_true_eq] at this
        simp only [List.map_cons, List.map_nil, List.mem_singleton] at hb
        rw [hb]
        exact this
      · rw [List.length_append]
        have := List.length_filter_le (fun x : En => decide (x.1 ≠ (f'.name, f'.sort))) (g.fs.map (·.1))
        unfold dropE
        rw [List.length_map] at this
        simp only [List.length_singleton]
        omega
    · rcases List.mem_append.mp hy with m | m
      · obtain ⟨m1, _⟩ := List.mem_filter.mp m
        exact ⟨(h2.2 y m1).1, (h2.2 y m1).2.imm im4⟩
      · rw [List.mem_singleton.mp m]
        refine ⟨rfl, ta, life, ?_, TelA.imm im4 ht⟩
        rw [hu]
        exact At.kp (L := [g.d]) (At.same hat s3) (Kp.put (by simp)) (by simpa using nxd)
end
end Nn


namespace Nn
open PySem PySem.Spec PyProof.Rows L2
/-! ### what a call leaves as it was -/
def frK (c : Cs) : HO → Prop
  | .ins C _ _ => C ∉ muts c ∨ C = c.crdr
  | .dT _ => False
  | .dK _ => False
  | .ext _ => False
  | .set _ _ => False
  | _ => True
def FrmX (c : Cs) (X : List Addr) (H H' : Hp) : Prop := ∀ b o, H b = some o → frK c o → b ∉ X → H' b = some o
abbrev Frm (c : Cs) (H H' : Hp) : Prop := FrmX c [] H H'
def srvK (c : Cs) : HO → Prop
  | .dT _ => True
  | .ins C _ _ => C = c.csrv ∨ C = c.chol ∨ C = c.czon
  | _ => False
def cacK (c : Cs) : HO → Prop
  | .ext _ => True
  | .ins C _ _ => C = c.ccac
  | _ => False
structure Ne (c : Cs) : Prop where
  srv : c.csrv ≠ c.ccac ∧ c.csrv ≠ c.cnet ∧ c.csrv ≠ c.crdr ∧ c.csrv ≠ c.csea ∧ c.csrv ∈ muts c
  hol : c.chol ≠ c.ccac ∧ c.chol ≠ c.cnet ∧ c.chol ≠ c.crdr ∧ c.chol ≠ c.csea ∧ c.chol ∈ muts c
  zon : c.czon ≠ c.ccac ∧ c.czon ≠ c.cnet ∧ c.czon ≠ c.crdr ∧ c.czon ≠ c.csea ∧ c.czon ∈ muts c
  cac : c.ccac ≠ c.cnet ∧ c.ccac ≠ c.crdr ∧ c.ccac ≠ c.csea ∧ c.ccac ∈ muts c
  net : c.cnet ≠ c.crdr ∧ c.cnet ≠ c.csea ∧ c.cnet ∈ muts c
  sea : c.csea ≠ c.crdr ∧ c.csea ∈ muts c
  rdr : c.crdr ∈ muts c
  hz : c.chol ≠ c.czon ∧ c.chol ≠ c.csrv ∧ c.csrv ≠ c.czon
theorem COk.all (k : COk c) : Ne c := by
  have h := k.nd
  simp only [List.nodup_cons, List.mem_cons, List.not_mem_nil, or_false, not_or] at h
  obtain ⟨⟨h1, h2, h3, h4, h5, h6, h7, h8, h9, h10⟩, ⟨g1, g2, g3, g4, g5, g6, g7, g8, g9⟩, ⟨k1, k2, k3, k4, k5, k6, k7, k8⟩, ⟨l1, l2, l3, l4, l5, l6, l7⟩, ⟨m1, m2, m3, m4, m5, m6⟩, ⟨n1, n2, n3, n4, n5⟩, ⟨o1, o2, o3, o4⟩, ⟨p1, p2, p3⟩, ⟨q1, q2⟩, r1, _⟩ := h
  exact ⟨⟨o2, o3, o4, Ne.symm m2, by simp [muts]⟩, ⟨n3, n4, n5, Ne.symm m1, by simp [muts]⟩, ⟨k6, k7, k8, k2, by simp [muts]⟩, ⟨q1, q2, Ne.symm m4, by simp [muts]⟩, ⟨r1, Ne.symm m5, by simp [muts]⟩, ⟨m6, by simp [muts]⟩, by simp [muts], ⟨Ne.symm k3, n1, Ne.symm k4⟩⟩
section
variable {P : Program} {w : World} {c : Cs} {F X L : List Addr} {H H' H1 : Hp} {g : GN} {h : Dn01.House} {i : Nat}
theorem srvK.nfr (n : Ne c) {o : HO} (k : srvK c o) : ¬ frK c o := fun z => by
  cases o with
  | ins C d fs =>
    rcases (show C = c.csrv ∨ C = c.chol ∨ C = c.czon from k) with rfl | rfl | rfl
    · exact (show c.csrv ∉ muts c ∨ c.csrv = c.crdr from z).elim (fun z => z n.srv.2.2.2.2) n.srv.2.2.1
    · exact (show c.chol ∉ muts c ∨ c.chol = c.crdr from z).elim (fun z => z n.hol.2.2.2.2) n.hol.2.2.1
    · exact (show c.czon ∉ muts c ∨ c.czon = c.crdr from z).elim (fun z => z n.zon.2.2.2.2) n.zon.2.2.1
  | dT _ => exact z
  | _ => exact k
theorem cacK.nfr (n : Ne c) {o : HO} (k : cacK c o) : ¬ frK c o := fun z => by
  cases o with
  | ins C d fs =>
    cases (show C = c.ccac from k)
    exact (show c.ccac ∉ muts c ∨ c.ccac = c.crdr from z).elim (fun z => z n.cac.2.2.2) n.cac.2.1
  | ext _ => exact z
  | _ => exact k
theorem srvK.ncac (n : Ne c) {o : HO} (k : srvK c o) : ¬ cacK c o := fun z => by
  cases o with
  | ins C d fs =>
    cases (show C = c.ccac from z)
    rcases (show c.ccac = c.csrv ∨ c.ccac = c.chol ∨ c.ccac = c.czon from k) with e | e | e
    · exact n.srv.1 e.symm
    · exact n.hol.1 e.symm
    · exact n.zon.1 e.symm
  | dT _ => exact z
  | _ => exact k
theorem FrmX.same (s : Same H H') : FrmX c X H H' := fun b o e _ _ => s b o e
theorem FrmX.refl : FrmX c X H H := fun b o e _ _ => e
theorem FrmX.trans (a : FrmX c X H H1) (b : FrmX c X H1 H') : FrmX c X H H' := fun y o e f n => b y o (a y o e f n) f n
theorem FrmX.kp (k : Kp L H H') (n : ∀ y ∈ L, ∀ o, H y = some o → y ∉ X → ¬ frK c o) : FrmX c X H H' := fun b o e f nx => k b o e fun m => n b m o e nx f
theorem frK.of_stays {b : Addr} {o : HO} (s : stays c F b o) : frK c o := by
  cases o with
  | ins _ _ _ => exact .inl s
  | dT _ => exact s
  | dK _ => exact s
  | ext _ => exact s
  | set _ _ => exact s
  | _ => exact True.intro
theorem FrmX.imm (ok : COk c) (s : ∀ x ∈ X, x ∈ F) (fo : FOk F H) (f : FrmX c X H H') : Imm c F H H' := ⟨ok, fun b o e st => f b o e (frK.of_stays st) fun m => by
  obtain ⟨xs, e2⟩ := fo b (s b m)
  rw [e] at e2
  cases e2
  exact st (s b m)⟩
theorem Frm.imm (ok : COk c) (f : Frm c H H') : Imm c F H H' := ⟨ok, fun b o e st => f b o e (frK.of_stays st) (by simp)⟩
theorem Frm.lst (f : Frm c H H') {a : Addr} {xs : List V} (e : H a = some (.lst xs)) : H' a = some (.lst xs) := f _ _ e True.intro (by simp)
theorem Frm.fok (f : Frm c H H') (fo : FOk F H) : FOk F H' := fun b m => let ⟨xs, e⟩ := fo b m; ⟨xs, f.lst e⟩
theorem Frm.x (f : Frm c H H') : FrmX c X H H' := fun b o e k _ => f b o e k (by simp)
theorem Frm.rdr (f : Frm c H H') {a : Addr} {fs : List (Str × V)} (e : At c.crdr H a fs) : At c.crdr H' a fs := let ⟨dx, e⟩ := e; ⟨dx, f _ _ e (.inr rfl) (by simp)⟩
theorem SrvA.kind {gs : GS} {s : Dn01.Server} (x : SrvA c F H gs s) : ∀ y ∈ gs.foot, ∃ o, H y = some o ∧ srvK c o := by
  intro y hy
  simp only [GS.foot, List.mem_cons, List.mem_flatMap, List.not_mem_nil, or_false] at hy
  rcases hy with rfl | rfl | ⟨q, hq, rfl | rfl⟩
  · obtain ⟨dx, e⟩ := x.at_
    exact ⟨_, e, .inl rfl⟩
  · exact ⟨_, x.dict, True.intro⟩
  · obtain ⟨sv, ⟨dx, e⟩, _⟩ := x.held q hq
    exact ⟨_, e, .inr (.inl rfl)⟩
  · obtain ⟨sv, _, _, pa, ra, ca, ⟨dx, e⟩, _⟩ := x.held q hq
    exact ⟨_, e, .inr (.inr rfl)⟩
theorem CacA.kind {gc : GC} {fs : List Dn01.Fact} (x : CacA P w c H gc fs) : ∀ y ∈ gc.foot, ∃ o, H y = some o ∧ cacK c o := by
  intro y hy
  simp only [GC.foot, List.mem_cons, List.not_mem_nil, or_false] at hy
  rcases hy with rfl | rfl
  · obtain ⟨dx, e⟩ := x.1
    exact ⟨_, e, rfl⟩
  · exact ⟨_, x.2.1.1.at_, True.intro⟩
theorem NetA.srvAt (x : NetA P w c F H g h) {s : Dn01.Server} (e : h.servers[i]? = some s) : ∃ gs, g.srv[i]? = some gs ∧ SrvA c F H gs s := by
  have hl : i < g.srv.length := by
    rw [x.slen]
    exact (List.getElem?_eq_some_iff.mp e).1
  exact ⟨_, List.getElem?_eq_getElem hl, x.srv i _ s (List.getElem?_eq_getElem hl) e⟩
theorem NetA.cacAt (x : NetA P w c F H g h) {s : List Dn01.Fact} (e : h.caches[i]? = some s) : ∃ gs, g.cas[i]? = some gs ∧ CacA P w c H gs s := by
  have hl : i < g.cas.length := by
    rw [x.clen]
    exact (List.getElem?_eq_some_iff.mp e).1
  exact ⟨_, List.getElem?_eq_getElem hl, x.cas i _ s (List.getElem?_eq_getElem hl) e⟩
theorem NetA.srvK (x : NetA P w c F H g h) {gs : GS} (e : g.srv[i]? = some gs) : ∀ y ∈ gs.foot, ∃ o, H y = some o ∧ Nn.srvK c o := by
  have hl : i < h.servers.length := by
    rw [← x.slen]
    exact (List.getElem?_eq_some_iff.mp e).1
  exact (x.srv i gs _ e (List.getElem?_eq_getElem hl)).kind
theorem NetA.cacK (x : NetA P w c F H g h) {gs : GC} (e : g.cas[i]? = some gs) : ∀ y ∈ gs.foot, ∃ o, H y = some o ∧ Nn.cacK c o := by
  have hl : i < h.caches.length := by
    rw [← x.clen]
    exact (List.getElem?_eq_some_iff.mp e).1
  exact (x.cas i gs _ e (List.getElem?_eq_getElem hl)).kind
theorem map_set_same {α β : Type} {f : α → β} {l : List α} {i : Nat} {a b : α} (e : l[i]? = some a) (hf : f b = f a) : (l.set i b).map f = l.map f := by
  apply List.ext_getElem?
  intro j
  rw [List.getElem?_map, List.getElem?_map, List.getElem?_set]
  by_cases hj : i = j
  · subst hj
    have hl := (List.getElem?_eq_some_iff.mp e).1
    rw [if_pos rfl, if_pos hl, e]
    exact congrArg some hf
  · rw [if_neg hj]
theorem set_cases {α : Type} {l : List α} {i j : Nat} {a x : α} (e : (l.set i a)[j]? = some x) : (i = j ∧ x = a) ∨ (i ≠ j ∧ l[j]? = some x) := by
  rw [List.getElem?_set] at e
  by_cases hj : i = j
  · rw [if_pos hj] at e
    split at e
    · exact .inl ⟨hj, (Option.some.inj e).symm⟩
    · cases e
  · rw [if_neg hj] at e
    exact .inr ⟨hj, e⟩
theorem SrvA.frm (ok : COk c) {gs : GS} {s : Dn01.Server} (x : SrvA c F H gs s) (k : Kp L H H') (hL : ∀ y ∈ L, y ∈ gs.foot) : Frm c H H' := FrmX.kp k fun y m o e _ => by
  obtain ⟨o', e', k'⟩ := x.kind y (hL y m)
  rw [e] at e'
  cases e'
  exact k'.nfr ok.all
theorem NetA.srvS (ok : COk c) (x : NetA P w c F H g h) {gs gs' : GS} {s s' : Dn01.Server} (hg : g.srv[i]? = some gs) (hs : h.servers[i]? = some s) (k : Kp L H H') (hL : ∀ y ∈ L, y ∈ gs.foot) (ha : gs'.a = gs.a)
    (hf : ∀ y ∈ gs'.foot, y ∈ gs.foot ∨ H y = none) (new : SrvA c F H' gs' s') : NetA P w c F H' { g with srv := g.srv.set i gs' } { h with servers := h.servers.set i s' } := by
  have n := ok.all
  have xs := x.srv i gs s hg hs
  have fr := xs.frm ok k hL
  have im : Imm c F H H' := fr.imm ok
  have kL : ∀ y ∈ L, ∃ o, H y = some o ∧ Nn.srvK c o := fun y m => xs.kind y (hL y m)
  refine ⟨x.at_.kp k fun m => ?_, x.slF, x.clF, ?_, fr.lst x.cl, x.roots.imm im, by simp [x.slen], fun j a b e1 e2 => ?_, x.clen, fun j a b e1 e2 => ?_, fun j l a b e1 e2 hn y m1 m2 => ?_, x.apc⟩
  · obtain ⟨o, e, kk⟩ := kL _ m
    obtain ⟨dx, e2⟩ := x.at_
    rw [e2] at e
    cases e
    rcases kk with e | e | e
    · exact n.srv.2.1 e.symm
    · exact n.hol.2.1 e.symm
    · exact n.zon.2.1 e.symm
  · have := fr.lst x.sl
    rw [show ({ g with srv := g.srv.set i gs' } : GN).srv = g.srv.set i gs' from rfl, map_set_same (f := fun s : GS => V.ref s.a) hg (by rw [ha])]
    exact this
  · rcases set_cases e1 with ⟨rfl, rfl⟩ | ⟨hj, e1⟩
    · rcases set_cases e2 with ⟨_, rfl⟩ | ⟨hj, _⟩
      · exact new
      · exact absurd rfl hj
    · rcases set_cases e2 with ⟨rfl, _⟩ | ⟨_, e2⟩
      · exact absurd rfl hj
      · exact (x.srv j a b e1 e2).kp im k fun y m1 m2 => x.aps i j gs a hg e1 hj y (hL y m2) m1
  · exact (x.cas j a b e1 e2).kp im k fun y m1 m2 => by
      obtain ⟨o, e, k1⟩ := kL y m2
      obtain ⟨o', e', k2⟩ := (x.cas j a b e1 e2).kind y m1
      rw [e] at e'
      cases e'
      exact k1.ncac n k2
  · rcases set_cases e1 with ⟨rfl, rfl⟩ | ⟨hj, f1⟩
    · rcases set_cases e2 with ⟨rfl, _⟩ | ⟨hj, e2⟩
      · exact hn rfl
      · rcases hf y m1 with m1 | m1
        · exact x.aps i l gs b hg e2 hj y m1 m2
        · obtain ⟨o, e, _⟩ := x.srvK e2 y m2
          rw [m1] at e
          cases e
    · rcases set_cases e2 with ⟨rfl, rfl⟩ | ⟨hl, e2⟩
      · rcases hf y m2 with m2 | m2
        · exact x.aps i j gs a hg f1 hj y m2 m1
        · obtain ⟨o, e, _⟩ := x.srvK f1 y m1
          rw [m2] at e
          cases e
      · exact x.aps j l a b f1 e2 hn y m1 m2
/-- the addresses of a search: its own, its names' -/
def SeaL (c : Cs) (F : List Addr) (H : Hp) (y : Addr) : Prop := (∃ dx fs, H y = some (.ins c.csea dx fs)) ∨ (y ∈ F ∧ ∃ xs, H y = some (.lst xs))
theorem SeaL.ncac (n : Ne c) {y : Addr} (k : SeaL c F H y) {o : HO} (e : H y = some o) : ¬ cacK c o ∧ ¬ srvK c o := by
  rcases k with ⟨dx, fs, e2⟩ | ⟨_, xs, e2⟩
  · rw [e2] at e
    cases e
    refine ⟨fun z => n.cac.2.2.1 z.symm, fun z => ?_⟩
    rcases z with z | z | z
    · exact n.srv.2.2.2.1 z.symm
    · exact n.hol.2.2.2.1 z.symm
    · exact n.zon.2.2.2.1 z.symm
  · rw [e2] at e
    cases e
    exact ⟨fun z => z, fun z => z⟩
theorem NetA.cacS (ok : COk c) (x : NetA P w c F H g h) {gs gs' : GC} {s' : List Dn01.Fact} (hg : g.cas[i]? = some gs) (k : Kp L H H') (hL : ∀ y ∈ L, y ∈ gs.foot ∨ SeaL c F H y) (ha : gs'.a = gs.a)
    (hf : ∀ y ∈ gs'.foot, y ∈ gs.foot ∨ H y = none) (new : CacA P w c H' gs' s') : NetA P w c F H' { g with cas := g.cas.set i gs' } { h with caches := h.caches.set i s' } := by
  have n := ok.all
  have kg := x.cacK hg
  have im : Imm c F H H' := Kp.imm ok k fun y m o e st => by
    rcases hL y m with m | m
    · obtain ⟨o', e', k'⟩ := kg y m
      rw [e] at e'
      cases e'
      exact k'.nfr n (frK.of_stays st)
    · rcases m with ⟨dx, fs, e2⟩ | ⟨mF, xs, e2⟩
      · rw [e] at e2
        cases e2
        exact st n.sea.2
      · rw [e] at e2
        cases e2
        exact st mF
  refine ⟨x.at_.kp k fun m => ?_, x.slF, x.clF, im.st _ _ x.sl x.slF, ?_, x.roots.imm im, x.slen, fun j a b e1 e2 => ?_, by simp [x.clen], fun j a b e1 e2 => ?_, x.aps, fun j l a b e1 e2 hn y m1 m2 => ?_⟩
  · obtain ⟨dx, e2⟩ := x.at_
    rcases hL _ m with m | m
    · obtain ⟨o', e', k'⟩ := kg _ m
      rw [e2] at e'
      cases e'
      exact n.cac.1 k'.symm
    · rcases m with ⟨dx, fs, e3⟩ | ⟨mF, xs, e3⟩
      · rw [e2] at e3
        have := HO.ins.inj (Option.some.inj e3)
        exact n.net.2.1 this.1
      · rw [e2] at e3
        cases e3
  · rw [show ({ g with cas := g.cas.set i gs' } : GN).cas = g.cas.set i gs' from rfl, map_set_same (f := fun s : GC => V.ref s.a) hg (by rw [ha])]
    exact im.st _ _ x.cl x.clF
  · exact (x.srv j a b e1 e2).kp im k fun y m1 m2 => by
      obtain ⟨o', e', k2⟩ := (x.srv j a b e1 e2).kind y m1
      rcases hL y m2 with m | m
      · obtain ⟨o, e, k1⟩ := kg y m
        rw [e] at e'
        cases e'
        exact k2.ncac n k1
      · exact (m.ncac n e').2 k2
  · rcases set_cases e1 with ⟨rfl, rfl⟩ | ⟨hj, e1⟩
    · rcases set_cases e2 with ⟨_, rfl⟩ | ⟨hj, _⟩
      · exact new
      · exact absurd rfl hj
    · rcases set_cases e2 with ⟨rfl, _⟩ | ⟨_, e2⟩
      · exact absurd rfl hj
      · exact (x.cas j a b e1 e2).kp im k fun y m1 m2 => by
          rcases hL y m2 with m | m
          · exact x.apc i j gs a hg e1 hj y m m1
          · obtain ⟨o', e', k2⟩ := (x.cas j a b e1 e2).kind y m1
            exact (m.ncac n e').1 k2
  · rcases set_cases e1 with ⟨rfl, rfl⟩ | ⟨hj, f1⟩
    · rcases set_cases e2 with ⟨rfl, _⟩ | ⟨hj, e2⟩
      · exact hn rfl
      · rcases hf y m1 with m1 | m1
        · exact x.apc i l gs b hg e2 hj y m1 m2
        · obtain ⟨o, e, _⟩ := x.cacK e2 y m2
          rw [m1] at e
          cases e
    · rcases set_cases e2 with ⟨rfl, rfl⟩ | ⟨hl, e2⟩
      · rcases hf y m2 with m2 | m2
        · exact x.apc i j gs a hg f1 hj y m2 m1
        · obtain ⟨o, e, _⟩ := x.cacK f1 y m1
          rw [m2] at e
          cases e
      · exact x.apc j l a b f1 e2 hn y m1 m2
/-- where only a search's own has changed -/
theorem NetA.sea (ok : COk c) (x : NetA P w c F H g h) (k : Kp L H H') (hL : ∀ y ∈ L, SeaL c F H y) : NetA P w c F H' g h := by
  have n := ok.all
  have im : Imm c F H H' := Kp.imm ok k fun y m o e st => by
    rcases hL y m with ⟨dx, fs, e2⟩ | ⟨mF, xs, e2⟩
    · rw [e] at e2
      cases e2
      exact st n.sea.2
    · rw [e] at e2
      cases e2
      exact st mF
  refine ⟨x.at_.kp k fun m => ?_, x.slF, x.clF, im.st _ _ x.sl x.slF, im.st _ _ x.cl x.clF, x.roots.imm im, x.slen, fun j a b e1 e2 => ?_, x.clen, fun j a b e1 e2 => ?_, x.aps, x.apc⟩
  · obtain ⟨dx, e2⟩ := x.at_
    rcases hL _ m with ⟨dx, fs, e3⟩ | ⟨mF, xs, e3⟩
    · rw [e2] at e3
      exact n.net.2.1 (HO.ins.inj (Option.some.inj e3)).1
    · rw [e2] at e3
      cases e3
  · exact (x.srv j a b e1 e2).kp im k fun y m1 m2 => by
      obtain ⟨o', e', k2⟩ := (x.srv j a b e1 e2).kind y m1
      exact ((hL y m2).ncac n e').2 k2
  · exact (x.cas j a b e1 e2).kp im k fun y m1 m2 => by
      obtain ⟨o', e', k2⟩ := (x.cas j a b e1 e2).kind y m1
      exact ((hL y m2).ncac n e').1 k2
/-! ### F grows by what is new, shrinks -/
theorem RecsA.sub {F' : List Addr} (s : ∀ x ∈ F', x ∈ F) {a : Addr} {r : List Dn01.Rec} (x : RecsA c F H a r) : RecsA c F' H a r := ⟨fun m => x.1 (s _ m), x.2⟩
theorem ChgsA.sub {F' : List Addr} (s : ∀ x ∈ F', x ∈ F) {a : Addr} {r : List Dn01.Change} (x : ChgsA c F H a r) : ChgsA c F' H a r := ⟨fun m => x.1 (s _ m), x.2⟩
theorem ZonA.sub {F' : List Addr} (s : ∀ x ∈ F', x ∈ F) {a : Addr} {z : Dn01.Zone} (x : ZonA c F H a z) : ZonA c F' H a z := by
  obtain ⟨pa, ra, ca, h1, h2, h3, h4⟩ := x
  exact ⟨pa, ra, ca, h1, h2, h3.sub s, h4.sub s⟩
theorem HolA.sub {F' : List Addr} (s : ∀ x ∈ F', x ∈ F) {a : Addr × Addr} {z : Dn01.Held} (x : HolA c F H a z) : HolA c F' H a z := by
  obtain ⟨sv, h1, h2, h3⟩ := x
  exact ⟨sv, h1, h2, h3.sub s⟩
theorem SrvA.sub {F' : List Addr} (s : ∀ x ∈ F', x ∈ F) {a : GS} {z : Dn01.Server} (x : SrvA c F H a z) : SrvA c F' H a z := ⟨x.at_, x.dict, fun q m => (x.held q m).sub s, x.zones, x.apart⟩
theorem NetA.sub {F' : List Addr} (s : ∀ x ∈ F', x ∈ F) (x : NetA P w c F H g h) : NetA P w c F' H g h :=
  ⟨x.at_, fun m => x.slF (s _ m), fun m => x.clF (s _ m), x.sl, x.cl, x.roots, x.slen, fun i a b e1 e2 => (x.srv i a b e1 e2).sub s, x.clen, x.cas, x.aps, x.apc⟩
theorem nm_add {p a : Addr} (hp : H p = none) {o : HO} (e : H a = some o) (n : a ∉ F) : a ∉ p :: F := fun m => by
  rcases List.mem_cons.mp m with rfl | m
  · rw [hp] at e
    cases e
  · exact n m
theorem ZonA.add {p a : Addr} (hp : H p = none) {z : Dn01.Zone} (x : ZonA c F H a z) : ZonA c (p :: F) H a z := by
  obtain ⟨pa, ra, ca, h1, h2, ⟨h3, l, e, h4, h5⟩, ⟨g3, m, e2, g4, g5⟩⟩ := x
  exact ⟨pa, ra, ca, h1, h2, ⟨nm_add hp h4 h3, l, e, h4, h5⟩, ⟨nm_add hp g4 g3, m, e2, g4, g5⟩⟩
theorem NetA.add {p : Addr} (hp : H p = none) (x : NetA P w c F H g h) : NetA P w c (p :: F) H g h :=
  ⟨x.at_, nm_add hp x.sl x.slF, nm_add hp x.cl x.clF, x.sl, x.cl, x.roots, x.slen, fun i a b e1 e2 => let y := x.srv i a b e1 e2; ⟨y.at_, y.dict, fun q m => let ⟨sv, h1, h2, h3⟩ := y.held q m; ⟨sv, h1, h2, h3.add hp⟩, y.zones, y.apart⟩, x.clen, x.cas, x.aps, x.apc⟩
end
end Nn

namespace Nn
open PySem PySem.Spec PyProof.Rows L2
section
variable {P : Program} {w : World} {K : PySem.W.Frag} {mg : Str → Option Value} {base : Heap} {c : Cs}
/-! ### searches: what they find, in plain words -/
def learnF (fs : List Dn01.Fact) (f : Dn01.Fact) : List Dn01.Fact := fs.filter (fun x => !(x.name == f.name && x.sort == f.sort)) ++ [f]
theorem learnL_snd {P : Program} {w : World} {H : Hp} {d : Addr} {l : FL} (h : FacsA P w c H d l) (f : Dn01.Fact) (ka fa : Addr) : (learnL l f ka fa).map (·.2) = learnF (l.map (·.2)) f := by
  unfold learnL learnF
  rw [List.map_append, List.filter_map]
  congr 2
  refine List.filter_congr fun x hx => ?_
  rw [(h.2 x hx).1]
  show decide ((x.2.name, x.2.sort) ≠ (f.name, f.sort)) = !(x.2.name == f.name && x.2.sort == f.sort)
  by_cases e1 : x.2.name = f.name
  · by_cases e2 : x.2.sort = f.sort
    · simp [e1, e2]
    · simp [e1, e2]
  · simp [e1]
structure SeaA (P : Program) (w : World) (c : Cs) (F : List Addr) (H : Hp) (sa na : Addr) (i : Nat) (g : GN) (h : Dn01.House) (k asked good : Nat) (names : List (List Nat)) : Prop where
  net : NetA P w c F H g h
  at_ : ∃ gc, g.cas[i]? = some gc ∧ At c.csea H sa (seaF (.ref g.n) (.ref gc.a) (nv k) (nv asked) (nv good) (.ref na))
  naF : na ∈ F
  nm : ∃ l : List (Addr × List Nat), l.map (·.2) = names ∧ H na = some (.lst (l.map fun p => V.ref p.1)) ∧ ∀ p ∈ l, TN H p.1 p.2
theorem SeaA.same {F : List Addr} {H H' : Hp} {sa na : Addr} {i k asked good : Nat} {g : GN} {h : Dn01.House} {names : List (List Nat)} (x : SeaA P w c F H sa na i g h k asked good names) (s : Same H H') : SeaA P w c F H' sa na i g h k asked good names := by
  obtain ⟨gc, e, a⟩ := x.at_
  obtain ⟨l, e1, e2, e3⟩ := x.nm
  exact ⟨x.net.same s, ⟨gc, e, a.same s⟩, x.naF, l, e1, s _ _ e2, fun p m => (e3 p m).same s⟩
def sp_sea_init (c : Cs) : Sp := fun vs H Q _ => ∃ p dx n a k, vs = [.ref p, n, a, k] ∧ H p = some (.ins c.csea dx []) ∧
  ∀ H' r, Kp [p] H H' → H r = none → At c.csea H' p (seaF n a k (nv 0) (nv 1000000000) (.ref r)) → H' r = some (.lst []) → Q .non H'
theorem ok_Search_init {f : Addr} {fd : FuncData} (F : Fun K "__init__" "Search.__init__" s_Search_init f fd) (T : Txt K mg c) (cok : COk c)  : FnOk P w K mg base CX0 1 f fd ["self", "net", "cache", "kind"] (sp_sea_init c) := by
  refine F.ok sc_Search_init (fun vs H Q E h => ?_) (fun cdv A outer s H vs Q E hr h => ?_)
  · obtain ⟨p, dx, n, a, k, rfl, _⟩ := h
    rfl
  · refine ⟨_, (pss_cons (kfs (pv 0) (pv 1) T.cl_sea T.n_sea_net)
      (pss_cons (kfs (pv 0) (pv 2) T.cl_sea T.n_sea_cache)
      (pss_cons (kfs (pv 0) (pv 3) T.cl_sea T.n_sea_kind)
      (pss_cons (kfs (pv 0) pe_int T.cl_sea T.n_sea_asked)
      (pss_cons (kfs (pv 0) (kn T.k_LONGEST_GOOD_search) T.cl_sea T.n_sea_good)
      (pss_one (kfs (pv 0) (pe_lst pa_nil) T.cl_sea T.n_sea_names))))))), ?_⟩
    obtain ⟨p, dx, n, a, k', rfl, hp, k⟩ := h
    refine ⟨_, rfl, _, rfl, p, dx, _, rfl, hp, (by show 0 < 1000; decide), _, rfl, _, rfl, p, dx, _, rfl, upd_same, (by show 1 < 1000; decide), _, rfl, _, rfl, p, dx, _, rfl, upd_same, (by show 2 < 1000; decide), _, rfl, p, dx, _, rfl, upd_same, (by show 3 < 1000; decide), _, rfl, p, dx, _, rfl, upd_same, (by show 4 < 1000; decide), (by show 0 ≤ sizeLine; exact Nat.zero_le _), fun r hr => ?_⟩
    simp only [upd_upd] at hr ⊢
    have nr : r ≠ p := fun z => by rw [z, upd_same] at hr; cases hr
    rw [upd_ne nr] at hr
    refine ⟨_, rfl, p, dx, _, rfl, (upd_ne (Ne.symm nr)).trans upd_same, (by show 5 < 1000; decide), ?_⟩
    rw [new_sea]
    refine k _ r (fun b o e n => ?_) hr ⟨dx, upd_same⟩ ((upd_ne nr).trans upd_same)
    have nb : b ≠ p := fun z => n (by simp [z])
    rw [upd_ne nb, upd_ne (ne_of_none e hr), upd_ne nb]
    exact e
/-- what is told, if anything: a telling of such an outcome and such rows -/
def TelO (c : Cs) (H : Hp) (o : Option Dn01.What) (v : V) : Prop := match o with
  | none => v = .non
  | some wh => ∃ p nm lf, v = .ref p ∧ TelA c H p ⟨ocOf wh, nm, lf, rowsOf wh⟩
def goesOn (k : Nat) : Option Dn01.What → Bool
  | none => false
  | some wh => ocOf wh == 4 && !(k == 2)
def sp_goes_on (P : Program) (w : World) (c : Cs) : Sp := fun vs H Q _ => ∃ sa v F na i g h k asked good names o, vs = [.ref sa, v] ∧ SeaA P w c F H sa na i g h k asked good names ∧ TelO c H o v ∧ Q (.bl (goesOn k o)) H
theorem ok_Search_is_to_go_on {f : Addr} {fd : FuncData} (F : Fun K "is_to_go_on" "Search.is_to_go_on" s_Search_is_to_go_on f fd) (T : Txt K mg c) (cok : COk c)  : FnOk P w K mg base CX0 1 f fd ["self", "telling"] (sp_goes_on P w c) := by
  refine F.ok sc_Search_is_to_go_on (fun vs H Q E h => ?_) (fun cdv A outer s H vs Q E hr h => ?_)
  · obtain ⟨sa, v, F, na, i, g, h, k, asked, good, names, o, rfl, _⟩ := h
    rfl
  · refine ⟨_, (pss_one (ps_ret (pe_and (pe_cmpR op_notN (pv 1) pe_non (nomark _)) (pe_and (pe_cmpR op_eq (kf (pv 1) T.cl_tel T.n_tel_outcome) (kn T.k_LEADS_ON) (nomark _)) (pe_one (pe_cmpR op_ne (kf (pv 0) T.cl_sea T.n_sea_kind) (kn T.k_ALIAS) (nomark _))))))), ?_⟩
    obtain ⟨sa, v, F, na, i, g, h, k, asked, good, names, o, rfl, hs, ht, q⟩ := h
    obtain ⟨gc, _, ⟨dx, h1⟩⟩ := hs.at_
    match o, ht, q with
    | none, ht, q =>
      cases (show v = .non from ht)
      exact ⟨_, rfl, rfl, _, rfl, iteF q⟩
    | some wh, ht, q =>
      obtain ⟨p, nm, lf, rfl, na', ra', ⟨dy, h2⟩, _⟩ := ht
      have q : Q (.bl (ocOf wh == 4 && !(k == 2))) H := q
      refine ⟨_, rfl, rfl, _, rfl, iteT ⟨_, rfl, p, dy, _, _, rfl, h2, lk_tel_outcome, rfl, _, rfl, ite_b (fun e => ?_) fun e => ?_⟩⟩
      · rw [show decide (nv (ocOf wh) = V.int 4) = (ocOf wh == 4) from nv_eq _ 4] at e
        refine ⟨_, rfl, sa, dx, _, _, rfl, h1, lk_sea_kind, rfl, ?_⟩
        rw [e, Bool.true_and] at q
        show Q (.bl (!decide (nv k = V.int 2))) H
        rw [show decide (nv k = V.int 2) = (k == 2) from nv_eq k 2]
        exact q
      · rw [show decide (nv (ocOf wh) = V.int 4) = (ocOf wh == 4) from nv_eq _ 4] at e
        rw [e, Bool.false_and] at q
        exact q
structure HFit (h : Dn01.House) : Prop where
  aps : ∀ s ∈ h.servers, (s.zones.map fun z => z.zone.apex).Nodup
  fit : ∀ s ∈ h.servers, ∀ z ∈ s.zones, ZFit z.zone ∧ (∀ r ∈ z.zone.recs, r.sort = 3 → ∀ v ∈ r.value, v < h.servers.length) ∧ ∀ r ∈ z.zone.recs, r.sort = 2 → r.value.length < 1000
  roots : ∀ r ∈ h.roots, r < h.servers.length
def sp_told_by (P : Program) (w : World) (c : Cs) : Sp := fun vs H Q _ => ∃ sa b F na i g h k asked good names x n, vs = [.ref sa, nv x, .ref b] ∧ SeaA P w c F H sa na i g h k asked good names ∧ FOk F H ∧ HFit h ∧ TN H b n ∧ n.length < 1000 ∧ x < h.servers.length ∧
  ∀ H' p, Frm c H H' → SeaA P w c F H' sa na i g h k (asked + 1) good names → TelA c H' p (tlOf n (askT (h.server x) h.now n k)) → Q (.ref p) H'
theorem srv_maps {g : GS} {s : Dn01.Server} (e : g.hs.map (·.2) = s.zones) (u : (s.zones.map fun z => z.zone.apex).Nodup) : (g.hs.map fun h => h.2.zone.apex).Nodup := by
  rw [← e, List.map_map] at u
  exact u
theorem SeaA.seaL {F : List Addr} {H : Hp} {sa na : Addr} {i k asked good : Nat} {g : GN} {h : Dn01.House} {names : List (List Nat)} (x : SeaA P w c F H sa na i g h k asked good names) : SeaL c F H sa ∧ SeaL c F H na ∧ sa ≠ na := by
  obtain ⟨gc, _, ⟨dx, a⟩⟩ := x.at_
  obtain ⟨l, e1, e2, e3⟩ := x.nm
  refine ⟨.inl ⟨dx, _, a⟩, .inr ⟨x.naF, _, e2⟩, fun z => ?_⟩
  rw [z, e2] at a
  cases a
theorem ok_Search_told_by {f : Addr} {fd : FuncData} (F : Fun K "told_by" "Search.told_by" s_Search_told_by f fd) (T : Txt K mg c) (cok : COk c) (d_Server_told_when_asked : MFn P w K mg base 7 c.csrv "told_when_asked" ["self", "name", "kind", "now"] (sp_srv_asked c)) : FnOk P w K mg base CX0 8 f fd ["self", "server", "name"] (sp_told_by P w c) := by
  refine F.ok sc_Search_told_by (fun vs H Q E h => ?_) (fun cdv A outer s H vs Q E hr h => ?_)
  · obtain ⟨sa, b, F, na, i, g, h, k, asked, good, names, x, n, rfl, _⟩ := h
    rfl
  · refine ⟨_, (pss_cons (kfa (pv 0) pe_int in_add T.cl_sea T.n_sea_asked)
      (pss_one (ps_ret (km (pe_ix ix_list (kf (kf (pv 0) T.cl_sea T.n_sea_net) T.cl_net T.n_net_servers) (pv 1) (fun _ _ => rfl)) d_Server_told_when_asked (hr.mono (by decide)) (pa_cons (pv 2) (pa_cons (kf (pv 0) T.cl_sea T.n_sea_kind) (pa_cons (kf (kf (pv 0) T.cl_sea T.n_sea_net) T.cl_net T.n_net_now) pa_nil))))))), ?_⟩
    obtain ⟨sa, b, F, na, i, g, h, k, asked, good, names, x, n, rfl, hs, fo, fit, hn, nl, hx, q⟩ := h
    obtain ⟨gc, hgc, ⟨dx, h1⟩⟩ := hs.at_
    obtain ⟨l, l1, l2, l3⟩ := hs.nm
    obtain ⟨sL, nL, nsn⟩ := hs.seaL
    obtain ⟨dn, n1⟩ := hs.net.at_
    have nsg : g.n ≠ sa := fun z => by
      rw [z, h1] at n1
      exact cok.all.net.2.1 (HO.ins.inj (Option.some.inj n1)).1.symm
    have ss : h.servers[x]? = some h.servers[x] := List.getElem?_eq_getElem hx
    have hsv : h.server x = h.servers[x] := by
      unfold Dn01.House.server
      rw [ss]
      rfl
    refine ⟨_, rfl, sa, dx, _, _, rfl, h1, lk_sea_asked, _, _, rfl, rfl, dx, _, h1, (by show 6 < 1000; decide), ?_⟩
    rw [put_sea_asked]
    have kp : Kp [sa] H (upd H sa (.ins c.csea dx (seaF (.ref g.n) (.ref gc.a) (nv k) (.int ((asked : Int) + 1)) (nv good) (.ref na)))) := Kp.put (by simp)
    have fr : Frm c H _ := FrmX.kp kp fun y m o e _ f => by
      rw [List.mem_singleton.mp m, h1] at e
      cases e
      exact f.elim (fun z => z cok.all.sea.2) cok.all.sea.1
    have net2 : NetA P w c F _ g h := hs.net.sea cok kp fun y m => by rw [List.mem_singleton.mp m]; exact sL
    have im : Imm c F H _ := fr.imm cok
    have sea2 : SeaA P w c F (upd H sa (.ins c.csea dx (seaF (.ref g.n) (.ref gc.a) (nv k) (.int ((asked : Int) + 1)) (nv good) (.ref na)))) sa na i g h k (asked + 1) good names :=
      ⟨net2, ⟨gc, hgc, dx, upd_same⟩, hs.naF, l, l1, (upd_ne (Ne.symm nsn)).trans l2, fun p m => (l3 p m).imm im⟩
    obtain ⟨gs, hgs, sx⟩ := net2.srvAt ss
    obtain ⟨dv, v1⟩ := id sx.at_
    refine ⟨_, rfl, sa, dx, _, _, rfl, upd_same, lk_sea_net, g.n, dn, _, _, rfl, (upd_ne nsg).trans n1, lk_net_servers, _, rfl, g.sl, _, x, .ref gs.a, rfl, rfl, SqL.of net2.sl, atI_nat (by rw [List.getElem?_map, hgs]; rfl), gs.a, dv, _, rfl, v1, no_srv_told_when_asked, _, rfl, _, rfl, sa, dx, _, _, rfl, upd_same, lk_sea_kind, _, rfl, sa, dx, _, _, rfl, upd_same, lk_sea_net, g.n, dn, _, _, rfl, (upd_ne nsg).trans n1, lk_net_now, b, F, gs, h.servers[x], n, k, h.now, rfl, sx, TN.imm im hn, nl, srv_maps sx.zones (fit.aps _ (List.getElem_mem hx)), fun z m => ?_, fun H' p s' hp ht => ?_⟩
    · refine (fit.fit _ (List.getElem_mem hx) z.2 ?_).1
      rw [← sx.zones]
      exact List.mem_map.mpr ⟨z, m, rfl⟩
    · rw [← hsv] at ht
      exact q H' p (fr.trans (FrmX.same s')) (sea2.same s') ht
def hc (h : Dn01.House) (i : Nat) (fs : List Dn01.Fact) : Dn01.House := { h with caches := h.caches.set i fs }
theorem set_id {α : Type} {l : List α} {i : Nat} {a : α} (e : l[i]? = some a) : l.set i a = l := by
  obtain ⟨hl, rfl⟩ := List.getElem?_eq_some_iff.mp e
  exact List.set_getElem_self hl
theorem hc_id {h : Dn01.House} {i : Nat} {fs : List Dn01.Fact} (e : h.caches[i]? = some fs) : hc h i fs = h := by
  unfold hc
  rw [set_id e]
theorem hc_hc {h : Dn01.House} {i : Nat} {fs gs : List Dn01.Fact} : hc (hc h i fs) i gs = hc h i gs := by
  unfold hc
  simp only [List.set_set]
def sp_sea_learn (P : Program) (w : World) (c : Cs) : Sp := fun vs H Q _ => ∃ sa ta F na i g h k asked good names fs f life, vs = [.ref sa, .ref ta] ∧ SeaA P w c F H sa na i g h k asked good names ∧ h.caches[i]? = some fs ∧ fs.length < 100000 ∧
  TelA c H ta ⟨ocOf f.what, f.name, life, rowsOf f.what⟩ ∧ f.sort = kindOf (ocOf f.what) k ∧ f.until_ = h.now + life ∧
  ∀ H' g', Frm c H H' → g'.n = g.n → SeaA P w c F H' sa na i g' (hc h i (learnF fs f)) k asked good names → Q .non H'
theorem ok_Search_learn {f : Addr} {fd : FuncData} (F : Fun K "learn" "Search.learn" s_Search_learn f fd) (T : Txt K mg c) (cok : COk c) (d_Cache_learn : MFn P w K mg base 3 c.ccac "learn" ["self", "telling", "asked_kind", "now"] (sp_cac_learn P w c)) : FnOk P w K mg base CX0 4 f fd ["self", "telling"] (sp_sea_learn P w c) := by
  refine F.ok sc_Search_learn (fun vs H Q E h => ?_) (fun cdv A outer s H vs Q E hr h => ?_)
  · obtain ⟨sa, ta, F, na, i, g, h, k, asked, good, names, fs, f, life, rfl, _⟩ := h
    rfl
  · refine ⟨_, (pss_one (ps_expr (km (kf (pv 0) T.cl_sea T.n_sea_cache) d_Cache_learn (hr.mono (by decide)) (pa_cons (pv 1) (pa_cons (kf (pv 0) T.cl_sea T.n_sea_kind) (pa_cons (kf (kf (pv 0) T.cl_sea T.n_sea_net) T.cl_net T.n_net_now) pa_nil)))))), ?_⟩
    obtain ⟨sa, ta, F, na, i, g, h, k, asked, good, names, fs, f', life, rfl, hs, hfs, fl, ht, e1, e2, q⟩ := h
    obtain ⟨gc, hgc, ⟨dx, h1⟩⟩ := hs.at_
    obtain ⟨l, l1, l2, l3⟩ := hs.nm
    obtain ⟨dn, n1⟩ := hs.net.at_
    have hcac := hs.net.cas i gc fs hgc hfs
    obtain ⟨⟨da, a1⟩, a2, a3⟩ := id hcac
    have hd := a2.1.at_
    have gl : gc.fs.length < 100000 := by
      rw [← List.length_map (f := fun x : En × Dn01.Fact => x.2), a3]
      exact fl
    have nda : gc.d ≠ gc.a := fun z => by rw [z, a1] at hd; cases hd
    have nds : gc.d ≠ sa := fun z => by rw [z, h1] at hd; cases hd
    have ndn : gc.d ≠ na := fun z => by rw [z, l2] at hd; cases hd
    refine ⟨_, rfl, sa, dx, _, _, rfl, h1, lk_sea_cache, gc.a, da, _, rfl, a1, no_cac_learn, _, rfl, _, rfl, sa, dx, _, _, rfl, h1, lk_sea_kind, _, rfl, sa, dx, _, _, rfl, h1, lk_sea_net, g.n, dn, _, _, rfl, n1, lk_net_now, gc, fs, ta, k, h.now, f', life, rfl, hcac, ht, e1, e2, gl, fun H' ka fa kp hf => ?_⟩
    have fr : Frm c H H' := FrmX.kp kp fun y m o e _ f => by
      rw [List.mem_singleton.mp m, hd] at e
      cases e
      exact f
    have new : CacA P w c H' { gc with fs := learnL gc.fs f' ka fa } (learnF fs f') := ⟨⟨da, kp _ _ a1 (by simpa using Ne.symm nda)⟩, hf, by rw [learnL_snd a2, a3]⟩
    have net2 := hs.net.cacS cok (gs' := { gc with fs := learnL gc.fs f' ka fa }) hgc kp (fun y m => .inl (by rw [List.mem_singleton.mp m]; simp [GC.foot])) rfl (fun y m => .inl m) new
    refine q H' { g with cas := g.cas.set i { gc with fs := learnL gc.fs f' ka fa } } fr rfl ⟨net2, ⟨{ gc with fs := learnL gc.fs f' ka fa }, ?_, dx, kp _ _ h1 (by simpa using Ne.symm nds)⟩, hs.naF, l, l1, kp _ _ l2 (by simpa using Ne.symm ndn), fun p m => (l3 p m).imm (F := []) (fr.imm cok)⟩
    show (g.cas.set i _)[i]? = _
    rw [List.getElem?_set, if_pos rfl, if_pos (List.getElem?_eq_some_iff.mp hgc).1]
end
end Nn


namespace Nn
open PySem PySem.Spec PyProof.Rows L2
/-! ### what servers tell, in plain words -/
structure FGood (nS : Nat) (f : Dn01.Fact) : Prop where
  cut : ∀ ss, f.what = .cut ss → f.sort = 3 ∧ ∀ v ∈ ss, v < nS
  three : f.sort = 3 → ∃ ss, f.what = .cut ss
  nev : f.what = .never → f.sort = 0
  zero : f.sort = 0 → f.what = .never
  ali : ∀ m, f.what = .alias m → f.sort = 2 ∧ m.length < 1000
def atF (fs : List Dn01.Fact) (n : List Nat) (k t : Nat) : Option Dn01.Fact := fs.find? fun f => (f.name == n && f.sort == k) && decide (t < f.until_)
theorem atF_mem {fs : List Dn01.Fact} {n : List Nat} {k t : Nat} {f : Dn01.Fact} (h : atF fs n k t = some f) : f ∈ fs ∧ f.name = n ∧ f.sort = k ∧ t < f.until_ := by
  have h1 := List.find?_some h
  simp only [Bool.and_eq_true, beq_iff_eq, decide_eq_true_eq] at h1
  exact ⟨List.mem_of_find?_eq_some h, h1.1.1, h1.1.2, h1.2⟩
theorem factAt_snd (l : FL) (n : List Nat) (k t : Nat) : atF (l.map (·.2)) n k t = (factAt l n k t).map (·.2) := by
  unfold atF factAt
  rw [List.find?_map]
  rfl
def nearF (fs : List Dn01.Fact) (n : List Nat) (t : Nat) : Nat → Option Dn01.Fact
  | 0 => none
  | k + 1 => match atF fs (n.take (k + 1)) 3 t with
    | some p => some p
    | none => nearF fs n t k
theorem nearH_snd (l : FL) (n : List Nat) (t : Nat) : ∀ k, nearF (l.map (·.2)) n t k = (nearH l n t k).map (·.2)
  | 0 => rfl
  | k + 1 => by
    unfold nearF nearH
    rw [factAt_snd]
    cases factAt l (n.take (k + 1)) 3 t with
    | some p => rfl
    | none => exact nearH_snd l n t k
theorem nearF_mem {fs : List Dn01.Fact} {n : List Nat} {t : Nat} {f : Dn01.Fact} : ∀ {k}, nearF fs n t k = some f → f ∈ fs ∧ f.sort = 3
  | k + 1, h => by
    unfold nearF at h
    cases e : atF fs (n.take (k + 1)) 3 t with
    | some p =>
      rw [e] at h
      cases h
      exact ⟨(atF_mem e).1, (atF_mem e).2.2.1⟩
    | none =>
      rw [e] at h
      exact nearF_mem h
def cutOf : Dn01.What → List Nat
  | .cut ss => ss
  | _ => []
def factOf (now : Nat) (n : List Nat) (k : Nat) : Dn01.Tells → Dn01.Fact
  | .data vs l => ⟨n, k, .data vs, now + l⟩
  | .nothing l => ⟨n, k, .nothing, now + l⟩
  | .never l => ⟨n, 0, .never, now + l⟩
  | .alias m l => ⟨n, 2, .alias m, now + l⟩
  | .refers b ss l => ⟨b, 3, .cut ss, now + l⟩
  | .refuses => ⟨n, k, .nothing, now⟩
def lifeOf : Dn01.Tells → Nat
  | .data _ l => l
  | .nothing l => l
  | .never l => l
  | .alias _ l => l
  | .refers _ _ l => l
  | .refuses => 0
def askM (h : Dn01.House) (k : Nat) (n : List Nat) : Nat → List Nat → Nat → List Dn01.Fact → Nat → List Dn01.Fact × Nat × Option Dn01.Tells
  | 0, _, _, c, a => (c, a, none)
  | _ + 1, [], _, c, a => (c, a, none)
  | m + 1, x :: l, pl, c, a => match askT (h.server x) h.now n k with
    | .refuses => askM h k n m l pl c (a + 1)
    | .refers b ss life => if pl < b.length then askM h k n m ss b.length (learnF c ⟨b, 3, .cut ss, h.now + life⟩) (a + 1) else askM h k n m l pl c (a + 1)
    | t => (learnF c (factOf h.now n k t), a + 1, some t)
theorem learnF_len (fs : List Dn01.Fact) (f : Dn01.Fact) : (learnF fs f).length ≤ fs.length + 1 := by
  unfold learnF
  rw [List.length_append]
  have := List.length_filter_le (fun x : Dn01.Fact => !(x.name == f.name && x.sort == f.sort)) fs
  simp only [List.length_singleton]
  omega
theorem tl_fact (now : Nat) (n : List Nat) (k : Nat) : ∀ t : Dn01.Tells, t ≠ .refuses → tlOf n t = ⟨ocOf (factOf now n k t).what, (factOf now n k t).name, lifeOf t, rowsOf (factOf now n k t).what⟩ ∧ (factOf now n k t).sort = kindOf (ocOf (factOf now n k t).what) k ∧ (factOf now n k t).until_ = now + lifeOf t
  | .data _ _, _ => ⟨rfl, rfl, rfl⟩
  | .nothing _, _ => ⟨rfl, rfl, rfl⟩
  | .never _, _ => ⟨rfl, rfl, rfl⟩
  | .alias _ _, _ => ⟨rfl, rfl, rfl⟩
  | .refers _ _ _, _ => ⟨rfl, rfl, rfl⟩
  | .refuses, h => absurd rfl h
theorem zoneOf_mem {s : Dn01.Server} {n : List Nat} {z : Dn01.Held} (e : s.zoneOf n = some z) : z ∈ s.zones := by
  rw [zoneOf_fold] at e
  obtain ⟨b1, b2⟩ := best_fold (s.zones.filter fun z => z.zone.apex.isPrefixOf n) none
  by_cases hl : (s.zones.filter fun z => z.zone.apex.isPrefixOf n) = []
  · rw [b1 rfl hl] at e
    cases e
  · obtain ⟨y, e2, h1, _⟩ := b2 (.inr hl)
    rw [e2] at e
    cases e
    rcases h1 with h1 | h1
    · exact (List.mem_filter.mp h1).1
    · cases h1
theorem tells_not_refers {z : Dn01.Zone} {n b : List Nat} {k l : Nat} {ss : List Nat} : z.tells n k ≠ .refers b ss l := by
  unfold Dn01.Zone.tells
  split
  · exact fun e => nomatch e
  · split
    · exact fun e => nomatch e
    · exact fun e => nomatch e
  · exact fun e => nomatch e
  · exact fun e => nomatch e
theorem tells_alias_of {z : Dn01.Zone} {n m : List Nat} {k l : Nat} (e : z.tells n k = .alias m l) : (∃ r ∈ z.recs, r.sort = 2 ∧ r.value = m) ∧ k ≠ 2 := by
  unfold Dn01.Zone.tells at e
  split at e
  · rename_i a r h1 h2
    cases e
    refine ⟨⟨a, ?_, ?_, rfl⟩, fun z => ?_⟩
    · exact (of_mem (z := z) (n := n) (s := 2) (by rw [h1]; exact List.mem_cons_self ..)).1
    · exact (of_mem (z := z) (n := n) (s := 2) (by rw [h1]; exact List.mem_cons_self ..)).2.2
    · subst z
      rw [h1] at h2
      cases h2
  · rename_i a r b s h1 h2
    split at e
    · cases e
    · rename_i hk
      cases e
      refine ⟨⟨a, ?_, ?_, rfl⟩, hk⟩
      · exact (of_mem (z := z) (n := n) (s := 2) (by rw [h1]; exact List.mem_cons_self ..)).1
      · exact (of_mem (z := z) (n := n) (s := 2) (by rw [h1]; exact List.mem_cons_self ..)).2.2
  · cases e
  · cases e
theorem answers_refers {z : Dn01.Zone} {n b : List Nat} {k l : Nat} {ss : List Nat} (e : z.answers n k = .refers b ss l) : z.cut n = some b ∧ ∀ v ∈ ss, ∃ r ∈ z.recs, r.sort = 3 ∧ v ∈ r.value := by
  cases h : z.cut n with
  | some b' =>
    rw [answers_cut h] at e
    cases e
    refine ⟨rfl, fun v hv => ?_⟩
    unfold srt at hv
    rw [List.mem_mergeSort] at hv
    obtain ⟨r, h1, h2⟩ := List.mem_flatMap.mp hv
    exact ⟨r, (of_mem h1).1, (of_mem h1).2.2, h2⟩
  | none =>
    cases h2 : z.has n with
    | true =>
      rw [answers_has h h2] at e
      exact absurd e tells_not_refers
    | false =>
      cases h3 : (z.recs.any fun r => r.name == closest z n ++ [0]) with
      | true =>
        rw [answers_others h h2 h3] at e
        exact absurd e tells_not_refers
      | false =>
        rw [answers_never h h2 h3] at e
        cases e
theorem answers_alias {z : Dn01.Zone} {n m : List Nat} {k l : Nat} (e : z.answers n k = .alias m l) : (∃ r ∈ z.recs, r.sort = 2 ∧ r.value = m) ∧ k ≠ 2 := by
  cases h : z.cut n with
  | some b' =>
    rw [answers_cut h] at e
    cases e
  | none =>
    cases h2 : z.has n with
    | true =>
      rw [answers_has h h2] at e
      exact tells_alias_of e
    | false =>
      cases h3 : (z.recs.any fun r => r.name == closest z n ++ [0]) with
      | true =>
        rw [answers_others h h2 h3] at e
        exact tells_alias_of e
      | false =>
        rw [answers_never h h2 h3] at e
        cases e
theorem askT_zone {s : Dn01.Server} {t : Nat} {n : List Nat} {k : Nat} {r : Dn01.Tells} (e : askT s t n k = r) (hr : r ≠ .refuses) : ∃ z ∈ s.zones, z.zone.answers n k = r := by
  unfold askT at e
  split at e
  · exact absurd e.symm hr
  · unfold Dn01.Server.tells at e
    cases h : s.zoneOf n with
    | none =>
      rw [h] at e
      exact absurd e.symm hr
    | some z =>
      rw [h] at e
      dsimp only at e
      split at e
      · exact ⟨z, zoneOf_mem h, e⟩
      · exact absurd e.symm hr
theorem server_mem {h : Dn01.House} {x : Nat} {z : Dn01.Held} (m : z ∈ (h.server x).zones) : h.server x ∈ h.servers := by
  unfold Dn01.House.server at m ⊢
  cases e : h.servers[x]? with
  | none =>
    rw [e] at m
    cases m
  | some s => exact List.mem_of_getElem? e
theorem refers_ok {h : Dn01.House} (fit : HFit h) {x k l : Nat} {n b ss : List Nat} (e : askT (h.server x) h.now n k = .refers b ss l) : ∀ v ∈ ss, v < h.servers.length := fun v hv => by
  obtain ⟨z, hz, ez⟩ := askT_zone e (fun z => nomatch z)
  obtain ⟨r, h1, h2, h3⟩ := (answers_refers ez).2 v hv
  exact (fit.fit _ (server_mem hz) z hz).2.1 r h1 h2 v h3
theorem alias_ok {h : Dn01.House} (fit : HFit h) {x k l : Nat} {n m : List Nat} (e : askT (h.server x) h.now n k = .alias m l) : m.length < 1000 ∧ k ≠ 2 := by
  obtain ⟨z, hz, ez⟩ := askT_zone e (fun z => nomatch z)
  obtain ⟨⟨r, h1, h2, h3⟩, h4⟩ := answers_alias ez
  rw [← h3]
  exact ⟨(fit.fit _ (server_mem hz) z hz).2.2 r h1 h2, h4⟩
section
variable {P : Program} {w : World} {K : PySem.W.Frag} {mg : Str → Option Value} {base : Heap} {c : Cs}
def TelT (c : Cs) (H : Hp) (n : List Nat) (o : Option Dn01.Tells) (v : V) : Prop := match o with
  | none => v = .non
  | some t => ∃ p, v = .ref p ∧ TelA c H p (tlOf n t)
def startAt (h : Dn01.House) (fs : List Dn01.Fact) (n : List Nat) : List Nat × Nat := match nearF fs n h.now n.length with
  | none => (h.roots, 0)
  | some f => (cutOf f.what, f.name.length)
def srvM (h : Dn01.House) (k : Nat) (n : List Nat) (fs : List Dn01.Fact) (a : Nat) : List Dn01.Fact × Nat × Option Dn01.Tells := askM h k n (40 - a) (startAt h fs n).1 (startAt h fs n).2 fs a
def sp_by_servers (P : Program) (w : World) (c : Cs) : Sp := fun vs H Q _ => ∃ sa b F na i g h k asked good names fs n, vs = [.ref sa, .ref b] ∧ SeaA P w c F H sa na i g h k asked good names ∧ FOk F H ∧ HFit h ∧ h.caches[i]? = some fs ∧ (∀ f ∈ fs, FGood h.servers.length f) ∧ fs.length + (40 - asked) < 100000 ∧ TN H b n ∧ n.length < 1000 ∧
  ∀ H' g' v, Frm c H H' → g'.n = g.n → SeaA P w c F H' sa na i g' (hc h i (srvM h k n fs asked).1) k (srvM h k n fs asked).2.1 good names → TelT c H' n (srvM h k n fs asked).2.2 v → Q v H'
theorem TelA.tr {H : Hp} {p : Addr} {t : Tl} {r : List Nat} (h : TelA c H p t) (e : t.rows = [r]) : ∃ dx na ra b, H p = some (.ins c.ctel dx (telF (nv t.oc) (.ref na) (nv t.life) (.ref ra))) ∧ TN H na t.name ∧ SqT K H ra [.ref b] ∧ TN H b r := by
  obtain ⟨na, ra, ⟨dx, h1⟩, h2, l, e1, e2, e3⟩ := h
  rw [e] at e1
  match l, e1, e2, e3 with
  | [q], e1, e2, e3 =>
    simp only [List.map_cons, List.map_nil, List.cons.injEq, and_true] at e1
    refine ⟨dx, na, ra, q.1, h1, h2, SqT.of e2, ?_⟩
    rw [← e1]
    exact e3 q (List.mem_cons_self ..)
theorem inV_def (n : List Nat) : ∀ t : Dn01.Tells, t ≠ .refuses → (∀ b ss l, t ≠ .refers b ss l) → inV (nv (tlOf n t).oc) [V.int 5, V.int 0] = false
  | .data _ _, _, _ => rfl
  | .nothing _, _, _ => rfl
  | .never _, _, _ => rfl
  | .alias _ _, _, _ => rfl
  | .refers b ss l, _, h => absurd rfl (h b ss l)
  | .refuses, h, _ => absurd rfl h
theorem hc_at {h : Dn01.House} {i : Nat} {fs cc : List Dn01.Fact} (e : h.caches[i]? = some fs) : (hc h i cc).caches[i]? = some cc := by
  show (h.caches.set i cc)[i]? = _
  rw [List.getElem?_set, if_pos rfl, if_pos (List.getElem?_eq_some_iff.mp e).1]
theorem loop_go (h : Dn01.House) (k : Nat) (n : List Nat) (m x : Nat) (l : List Nat) (pl : Nat) (cc : List Dn01.Fact) (a : Nat) (t : Dn01.Tells) (e : askT (h.server x) h.now n k = t) (h1 : t ≠ .refuses) (h2 : ∀ b ss l, t ≠ .refers b ss l) :
    askM h k n (m + 1) (x :: l) pl cc a = (learnF cc (factOf h.now n k t), a + 1, some t) := by
  conv => lhs; unfold askM
  rw [e]
  cases t with
  | refuses => exact absurd rfl h1
  | refers b ss l => exact absurd rfl (h2 b ss l)
  | _ => rfl
theorem ok_Search_told_by_servers {f : Addr} {fd : FuncData} (F : Fun K "told_by_servers" "Search.told_by_servers" s_Search_told_by_servers f fd) (T : Txt K mg c) (cok : COk c) (d_Cache_nearest_handing_on : MFn P w K mg base 3 c.ccac "nearest_handing_on" ["self", "name", "now"] (sp_nearest P w c)) (d_Search_told_by : MFn P w K mg base 8 c.csea "told_by" ["self", "server", "name"] (sp_told_by P w c)) (d_Search_learn : MFn P w K mg base 4 c.csea "learn" ["self", "telling"] (sp_sea_learn P w c)) : FnOk P w K mg base CX0 9 f fd ["self", "name"] (sp_by_servers P w c) := by
  refine F.ok sc_Search_told_by_servers (fun vs H Q E h => ?_) (fun cdv A outer s H vs Q E hr h => ?_)
  · obtain ⟨sa, b, F, na, i, g, h, k, asked, good, names, fs, n, rfl, _⟩ := h
    rfl
  · refine ⟨_, (pss_cons (ps_set (i := 2) sc_Search_told_by_servers.nd rfl (Or.inl rfl) pe_int)
      (pss_cons (ps_set (i := 3) sc_Search_told_by_servers.nd rfl (Or.inl rfl) (kf (kf (pv 0) T.cl_sea T.n_sea_net) T.cl_net T.n_net_roots))
      (pss_cons (ps_set (i := 4) sc_Search_told_by_servers.nd rfl (Or.inl rfl) (km (kf (pv 0) T.cl_sea T.n_sea_cache) d_Cache_nearest_handing_on (hr.mono (by decide)) (pa_cons (pv 1) (pa_cons (kf (kf (pv 0) T.cl_sea T.n_sea_net) T.cl_net T.n_net_now) pa_nil))))
      (pss_cons (ps_if (pt_cmpR op_notN (pv 4) pe_non (nomark _)) (pss_cons (ps_set (i := 2) sc_Search_told_by_servers.nd rfl (Or.inl rfl) (pe_callB call_len_seq (by rfl) T.f_len PySem.boot_len (pa_cons (kf (kf (pv 4) T.cl_fac T.n_fac_telling) T.cl_tel T.n_tel_name) pa_nil)))
      (pss_one (ps_set (i := 3) sc_Search_told_by_servers.nd rfl (Or.inl rfl) (pe_ix (ix_tupK (K := K) rfl) (kf (kf (pv 4) T.cl_fac T.n_fac_telling) T.cl_tel T.n_tel_rows) pe_int (fun _ _ => rfl))))) pss_nil)
      (pss_cons (ps_set (i := 5) sc_Search_told_by_servers.nd rfl (Or.inl rfl) pe_int)
      (pss_cons (ps_while PassesOwn.never (PW.pt (pw_and (pt_cmpR op_lt (pv 5) (pe_callB call_len_seq (by rfl) T.f_len PySem.boot_len (pa_cons (pv 3) pa_nil)) (nomark _)) (pw_and1 (pt_cmpR op_lt (kf (pv 0) T.cl_sea T.n_sea_asked) (kn T.k_MOST_ASKED) (nomark _))))) (pss_cons (ps_set (i := 6) sc_Search_told_by_servers.nd rfl (Or.inl rfl) (km (pv 0) d_Search_told_by (hr.mono (by decide)) (pa_cons (pe_ix (ix_tupK (K := K) rfl) (pv 3) (pv 5) (fun _ _ => rfl)) (pa_cons (pv 1) pa_nil))))
      (pss_cons (ps_aug (i := 5) sc_Search_told_by_servers.nd rfl (Or.inl rfl) pe_int ip_add)
      (pss_cons (ps_if (pt_cmpR op_notIn_seq (kf (pv 6) T.cl_tel T.n_tel_outcome) (pe_tup (pa_cons (kn T.k_HANDS_ON) (pa_cons (kn T.k_REFUSES) pa_nil))) (by rfl)) (pss_cons (ps_expr (km (pv 0) d_Search_learn (hr.mono (by decide)) (pa_cons (pv 6) pa_nil)))
      (pss_one (ps_ret (pv 6)))) pss_nil)
      (pss_one (ps_if (PW.pt (pw_and (pt_cmpR op_eq (kf (pv 6) T.cl_tel T.n_tel_outcome) (kn T.k_HANDS_ON) (nomark _)) (pw_and1 (pt_cmpR op_gt (pe_callB call_len_seq (by rfl) T.f_len PySem.boot_len (pa_cons (kf (pv 6) T.cl_tel T.n_tel_name) pa_nil)) (pv 2) (nomark _))))) (pss_cons (ps_expr (km (pv 0) d_Search_learn (hr.mono (by decide)) (pa_cons (pv 6) pa_nil)))
      (pss_cons (ps_set (i := 2) sc_Search_told_by_servers.nd rfl (Or.inl rfl) (pe_callB call_len_seq (by rfl) T.f_len PySem.boot_len (pa_cons (kf (pv 6) T.cl_tel T.n_tel_name) pa_nil)))
      (pss_cons (ps_set (i := 3) sc_Search_told_by_servers.nd rfl (Or.inl rfl) (pe_ix (ix_tupK (K := K) rfl) (kf (pv 6) T.cl_tel T.n_tel_rows) pe_int (fun _ _ => rfl)))
      (pss_one (ps_set (i := 5) sc_Search_told_by_servers.nd rfl (Or.inl rfl) pe_int))))) pss_nil))))))
      (pss_one (ps_ret pe_non)))))))), ?_⟩
    obtain ⟨sa, b, F, na, i, g, h, k, asked, good, names, fs, n, rfl, hs, fo, fit, hfs, fg, fl, hn, nl, q⟩ := h
    have line : 100000 < sizeLine := by decide
    obtain ⟨gc, hgc, ⟨dx, h1⟩⟩ := hs.at_
    obtain ⟨dn, n1⟩ := hs.net.at_
    have hcac := hs.net.cas i gc fs hgc hfs
    obtain ⟨⟨da, a1⟩, a2, a3⟩ := id hcac
    refine ⟨_, rfl, sa, dx, _, _, rfl, h1, lk_sea_net, g.n, dn, _, _, rfl, n1, lk_net_roots, _, rfl, sa, dx, _, _, rfl, h1, lk_sea_cache, gc.a, da, _, rfl, a1, no_cac_nearest_handing_on, _, rfl, _, rfl, sa, dx, _, _, rfl, h1, lk_sea_net, g.n, dn, _, _, rfl, n1, lk_net_now, gc, fs, b, n, h.now, rfl, hcac, hn, nl, fun H1 s1 => ?_⟩
    dsimp only [gName]
    refine seq_cut (fun σ' H' => ∃ la u, σ' = [some (.ref sa), some (.ref b), some (nv (startAt h fs n).2), some (.ref la), u, none, none] ∧ H' = H1 ∧ TN H1 la (startAt h fs n).1 ∧ ∀ v ∈ (startAt h fs n).1, v < h.servers.length) (fun NX nx => ?_) ?rest
    · have e0 := nearH_snd gc.fs n h.now n.length
      rw [a3] at e0
      unfold startAt at nx
      cases e : nearH gc.fs n h.now n.length with
      | none =>
        rw [e] at e0
        rw [e0] at nx
        exact ⟨_, rfl, rfl, _, rfl, iteF (nx _ _ ⟨g.ra, _, rfl, rfl, hs.net.roots.same s1, fit.roots⟩)⟩
      | some x =>
        rw [e] at e0
        rw [e0] at nx
        obtain ⟨m1, m2⟩ := nearF_mem e0
        obtain ⟨ss, es⟩ := (fg _ m1).three m2
        have hx : x ∈ gc.fs := by
          have e3 : nearH gc.fs n h.now n.length = some x := e
          have : ∀ {k}, nearH gc.fs n h.now k = some x → x ∈ gc.fs := by
            intro k
            induction k with
            | zero => exact fun z => nomatch z
            | succ k ih =>
              intro z
              unfold nearH at z
              cases e4 : factAt gc.fs (n.take (k + 1)) 3 h.now with
              | some p =>
                rw [e4] at z
                cases z
                exact (factAt_mem e4).1
              | none =>
                rw [e4] at z
                exact ih z
          exact this e3
        obtain ⟨ta, life, ⟨dy, f1⟩, f2⟩ := (a2.2 x hx).2.same s1
        obtain ⟨dz, nn, rr, bb, g1, g2, g3, g4⟩ := TelA.tr (K := K) f2 (r := ss) (by rw [es]; rfl)
        refine ⟨_, rfl, rfl, _, rfl, iteT ⟨_, rfl, x.1.2.2, dy, _, _, rfl, f1, lk_fac_telling, ta, dz, _, _, rfl, g1, lk_tel_name, _, _, rfl, .inr (SqT.of g2), _, rfl, x.1.2.2, dy, _, _, rfl, f1, lk_fac_telling, ta, dz, _, _, rfl, g1, lk_tel_rows, rr, _, 0, .ref bb, rfl, rfl, g3, at0, nx _ _ ⟨bb, some (.ref x.1.2.2), ?_, rfl, ?_, ?_⟩⟩⟩
        · show [some (V.ref sa), some (V.ref b), some (V.int ((x.2.name.map nv).length : Nat)), some (V.ref bb), some (V.ref x.1.2.2), none, none] = _
          rw [List.length_map]
          rfl
        · show TN H1 bb (cutOf x.2.what)
          rw [es]
          exact g4
        · show ∀ v ∈ cutOf x.2.what, _
          rw [es]
          exact ((fg _ m1).cut ss es).2
    case rest =>
      rintro σ' H' ⟨la, u, rfl, rfl, hla, hlv⟩
      refine ⟨fun m σ H' => ∃ pl lst turn la u t cc a g', m = 40 - a ∧ asked ≤ a ∧ turn ≤ lst.length ∧ σ = [some (.ref sa), some (.ref b), some (nv pl), some (.ref la), u, some (nv turn), t] ∧ Frm c H H' ∧ g'.n = g.n ∧ SeaA P w c F H' sa na i g' (hc h i cc) k a good names ∧ TN H' la lst ∧ (∀ v ∈ lst, v < h.servers.length) ∧ cc.length + (40 - a) < 100000 ∧
        askM h k n (40 - a) (lst.drop turn) pl cc a = srvM h k n fs asked, ⟨40 - asked, (startAt h fs n).2, _, 0, la, u, none, fs, asked, g, rfl, Nat.le_refl _, Nat.zero_le _, rfl, FrmX.same s1, rfl, by rw [hc_id hfs]; exact hs.same s1, hla, hlv, fl, rfl⟩, ?_⟩
      rintro m σ H2 ⟨pl, lst, turn, la2, u2, tl2, cc, a, g', rfl, ha, ht, rfl, fr, gn, hs2, hla2, hlv2, cl, eR⟩
      obtain ⟨gc2, hgc2, ⟨dx2, h12⟩⟩ := hs2.at_
      have hn2 : TN H2 b n := TN.imm (F := []) (fr.imm cok) hn
      refine ⟨_, rfl, _, rfl, _, _, rfl, .inr (SqT.of hla2), _, _, rfl, rfl, _, rfl, ite_b (fun e1 => ?_) fun e1 => ?_⟩
      · have lt1 : turn < lst.length := by
          have := of_decide_eq_true e1
          rw [List.length_map] at this
          omega
        refine ⟨_, rfl, sa, dx2, _, _, rfl, h12, lk_sea_asked, _, _, rfl, rfl, _, rfl, ite_b (fun e2 => ?_) fun e2 => ?_⟩
        · have lt2 : a < 40 := by
            have := of_decide_eq_true e2
            omega
          have hx : lst[turn]? = some lst[turn] := List.getElem?_eq_getElem lt1
          have hd : lst.drop turn = lst[turn] :: lst.drop (turn + 1) := List.drop_eq_getElem_cons lt1
          obtain ⟨m', em⟩ : ∃ m', 40 - a = m' + 1 := ⟨39 - a, by omega⟩
          have em2 : 40 - (a + 1) = m' := by omega
          have lx : lst[turn] < (hc h i cc).servers.length := hlv2 _ (List.getElem_mem lt1)
          have fit2 : HFit (hc h i cc) := ⟨fit.aps, fit.fit, fit.roots⟩
          have fo2 := fr.fok fo
          refine ⟨fun σ' H' => ∃ pl lst turn la u t cc a' g', a < a' ∧ a' ≤ 40 ∧ turn ≤ lst.length ∧ σ' = [some (.ref sa), some (.ref b), some (nv pl), some (.ref la), u, some (nv turn), t] ∧ Frm c H H' ∧ g'.n = g.n ∧ SeaA P w c F H' sa na i g' (hc h i cc) k a' good names ∧ TN H' la lst ∧ (∀ v ∈ lst, v < h.servers.length) ∧ cc.length + (40 - a') < 100000 ∧
            askM h k n (40 - a') (lst.drop turn) pl cc a' = srvM h k n fs asked, fun σ' H' ⟨pl, lst, turn, la, u, t, cc, a', g', q1, q2, q3⟩ => ⟨40 - a', by omega, pl, lst, turn, la, u, t, cc, a', g', rfl, by omega, q3⟩, ?_⟩
          rw [hd, em] at eR
          refine ⟨_, rfl, sa, dx2, _, rfl, h12, no_sea_told_by, _, rfl, _, rfl, la2, _, turn, nv lst[turn], rfl, rfl, SqT.of hla2, atI_nat (by rw [List.getElem?_map, hx]; rfl), _, rfl, sa, b, F, na, i, g', hc h i cc, k, a, good, names, lst[turn], n, rfl, hs2, fo2, fit2, hn2, nl, lx, fun H3 p3 fr3 hs3 ht3 => ?_⟩
          have fr13 := fr.trans fr3
          have im3 : Imm c F H2 H3 := fr3.imm cok
          refine ⟨_, rfl, _, _, rfl, rfl, ?_⟩
          obtain ⟨nn, rr, ⟨dt, t1⟩, t2, t3⟩ := id ht3
          obtain ⟨gc3, hgc3, ⟨dx3, h13⟩⟩ := hs3.at_
          have sg : [some (V.ref sa), some (V.ref b), some (nv pl), some (V.ref la2), u2, some (V.int ((turn : Int) + 1)), some (V.ref p3)] = [some (V.ref sa), some (V.ref b), some (nv pl), some (V.ref la2), u2, some (nv (turn + 1)), some (V.ref p3)] := rfl
          have hcc := hc_at (cc := cc) hfs
          have ll := learnF_len cc
          rcases et : askT (h.server lst[turn]) h.now n k with _ | ⟨bn, ss, life⟩ | _ | _ | _ | _
          case refuses =>
            have ht4 : TelA c H3 p3 (tlOf n .refuses) := by rw [← et]; exact ht3
            unfold askM at eR
            rw [et] at eR
            dsimp only at eR
            obtain ⟨nn, rr, ⟨dt, t1⟩, t2, t3⟩ := id ht4
            refine ⟨_, rfl, p3, dt, _, _, rfl, t1, lk_tel_outcome, (by show 2 ≤ sizeLine; decide), fun p4 hp4 => ?_⟩
            have s4 : Same H3 (upd H3 p4 (.tup [V.int 5, V.int 0])) := Same.laid hp4
            refine ⟨p4, _, rfl, .inr (SqT.of upd_same), rfl, rfl, _, rfl, if_f (by rfl) ⟨_, rfl, p3, dt, _, _, rfl, s4 _ _ t1, lk_tel_outcome, rfl, _, rfl, iteF (iteF ?_)⟩⟩
            exact ⟨pl, lst, turn + 1, la2, u2, some (.ref p3), cc, a + 1, g', by omega, by omega, by omega, sg, fr13.trans (FrmX.same s4), gn, hs3.same s4, (TN.imm im3 hla2).same s4, hlv2, by omega, by rw [em2]; exact eR⟩
          case refers =>
            have ht4 : TelA c H3 p3 (tlOf n (.refers bn ss life)) := by rw [← et]; exact ht3
            have hss := refers_ok fit et
            unfold askM at eR
            rw [et] at eR
            dsimp only at eR
            obtain ⟨nn, rr, ⟨dt, t1⟩, t2, t3⟩ := id ht4
            refine ⟨_, rfl, p3, dt, _, _, rfl, t1, lk_tel_outcome, (by show 2 ≤ sizeLine; decide), fun p4 hp4 => ?_⟩
            have s4 : Same H3 (upd H3 p4 (.tup [V.int 5, V.int 0])) := Same.laid hp4
            refine ⟨p4, _, rfl, .inr (SqT.of upd_same), rfl, rfl, _, rfl, if_f (by rfl) ⟨_, rfl, p3, dt, _, _, rfl, s4 _ _ t1, lk_tel_outcome, rfl, _, rfl, iteT ⟨_, rfl, p3, dt, _, _, rfl, s4 _ _ t1, lk_tel_name, _, _, rfl, .inr (SqT.of (t2.same s4)), _, rfl, _, _, rfl, rfl, _, rfl, ite_b (fun e4 => ?_) fun e4 => ?_⟩⟩⟩
            · have hlt : pl < bn.length := by
                have := of_decide_eq_true e4
                rw [List.length_map] at this
                have := Int.ofNat_lt.mp this
                exact this
              rw [if_pos hlt] at eR
              have l5 := ll ⟨bn, 3, .cut ss, h.now + life⟩
              refine ⟨_, rfl, sa, dx3, _, rfl, s4 _ _ h13, no_sea_learn, _, rfl, sa, p3, F, na, i, g', hc h i cc, k, a + 1, good, names, cc, ⟨bn, 3, .cut ss, h.now + life⟩, life, rfl, hs3.same s4, hcc, by omega, ht4.same s4, rfl, rfl, fun H5 g5 fr5 gn5 hs5 => ?_⟩
              rw [hc_hc] at hs5
              have ht5 : TelA c H5 p3 (tlOf n (.refers bn ss life)) := TelA.imm (F := []) (fr5.imm cok) (ht4.same s4)
              obtain ⟨dz, nn5, rr5, bb, g1, g2, g3, g4⟩ := TelA.tr (K := K) ht5 (r := ss) rfl
              refine ⟨_, rfl, p3, dz, _, _, rfl, g1, lk_tel_name, _, _, rfl, .inr (SqT.of g2), _, rfl, p3, dz, _, _, rfl, g1, lk_tel_rows, rr5, _, 0, .ref bb, rfl, rfl, g3, at0, bn.length, ss, 0, bb, u2, some (.ref p3), _, a + 1, g5, by omega, by omega, Nat.zero_le _, ?_, (fr13.trans (FrmX.same s4)).trans fr5, gn5.trans gn, hs5, g4, hss, by omega, by rw [em2]; exact eR⟩
              show [some (V.ref sa), some (V.ref b), some (V.int ((bn.map nv).length : Nat)), some (V.ref bb), u2, some (V.int 0), some (V.ref p3)] = _
              rw [List.length_map]
              rfl
            · have hlt : ¬ pl < bn.length := by
                have := of_decide_eq_false e4
                rw [List.length_map] at this
                intro z
                exact this (Int.ofNat_lt.mpr z)
              rw [if_neg hlt] at eR
              exact ⟨pl, lst, turn + 1, la2, u2, some (.ref p3), cc, a + 1, g', by omega, by omega, by omega, sg, fr13.trans (FrmX.same s4), gn, hs3.same s4, (TN.imm im3 hla2).same s4, hlv2, by omega, by rw [em2]; exact eR⟩
          all_goals
            have ht4 : TelA c H3 p3 (tlOf n (askT (h.server lst[turn]) h.now n k)) := ht3
            have n1' : askT (h.server lst[turn]) h.now n k ≠ .refuses := by rw [et]; exact fun z => nomatch z
            have n2' : ∀ b ss l, askT (h.server lst[turn]) h.now n k ≠ .refers b ss l := by rw [et]; exact fun _ _ _ z => nomatch z
            rw [loop_go h k n m' _ _ pl cc a _ rfl n1' n2'] at eR
            rw [← eR] at q
            obtain ⟨f1, f2, f3⟩ := tl_fact h.now n k _ n1'
            obtain ⟨nn, rr, ⟨dt, t1⟩, t2, t3⟩ := id ht4
            refine ⟨_, rfl, p3, dt, _, _, rfl, t1, lk_tel_outcome, (by show 2 ≤ sizeLine; decide), fun p4 hp4 => ?_⟩
            have s4 : Same H3 (upd H3 p4 (.tup [V.int 5, V.int 0])) := Same.laid hp4
            refine ⟨p4, _, rfl, .inr (SqT.of upd_same), rfl, rfl, _, rfl, if_t (by rw [if_pos rfl, inV_def n _ n1' n2']; rfl) ⟨_, rfl, sa, dx3, _, rfl, s4 _ _ h13, no_sea_learn, _, rfl, sa, p3, F, na, i, g', hc h i cc, k, a + 1, good, names, cc, factOf h.now n k (askT (h.server lst[turn]) h.now n k), lifeOf (askT (h.server lst[turn]) h.now n k), rfl, hs3.same s4, hcc, by omega, by rw [← f1]; exact ht4.same s4, f2, f3, fun H5 g5 fr5 gn5 hs5 => ?_⟩⟩
            rw [hc_hc] at hs5
            exact ⟨_, rfl, q H5 g5 _ ((fr13.trans (FrmX.same s4)).trans fr5) (gn5.trans gn) hs5 ⟨p3, rfl, TelA.imm (F := []) (fr5.imm cok) (ht4.same s4)⟩⟩
        · have e3 : 40 - a = 0 := by
            have := of_decide_eq_false e2
            omega
          rw [e3] at eR
          unfold askM at eR
          rw [← eR] at q
          exact q H2 g' .non fr gn hs2 rfl
      · have e3 : lst.drop turn = [] := by
          have := of_decide_eq_false e1
          rw [List.length_map] at this
          exact List.drop_of_length_le (by omega)
        have eR2 : (cc, a, none) = srvM h k n fs asked := by
          rw [← eR, e3]
          cases 40 - a <;> rfl
        rw [← eR2] at q
        exact q H2 g' .non fr gn hs2 rfl
end
end Nn


namespace Nn
open PySem PySem.Spec PyProof.Rows L2
/-! ### found, in plain words -/
def recF_ (fs : List Dn01.Fact) (n : List Nat) (k t : Nat) : Option Dn01.Fact := match atF fs n 0 t with
  | some p => some p
  | none => match atF fs n k t with
    | some p => some p
    | none => (atF fs n 2 t).filter fun f => ocOf f.what == 4
theorem recalled_snd (l : FL) (n : List Nat) (k t : Nat) : recF_ (l.map (·.2)) n k t = (recalledAt l n k t).map (·.2) := by
  unfold recF_ recalledAt aliasAt
  rw [factAt_snd, factAt_snd, factAt_snd]
  cases factAt l n 0 t with
  | some p => rfl
  | none =>
    cases factAt l n k t with
    | some p => rfl
    | none =>
      cases factAt l n 2 t with
      | none => rfl
      | some p =>
        show Option.filter _ (some p.2) = Option.map _ (Option.filter _ (some p))
        rw [Option.filter_some, Option.filter_some]
        cases ocOf p.2.what == 4 <;> rfl
theorem recF_mem {fs : List Dn01.Fact} {n : List Nat} {k t : Nat} {f : Dn01.Fact} (e : recF_ fs n k t = some f) : f ∈ fs ∧ t < f.until_ := by
  unfold recF_ at e
  cases e1 : atF fs n 0 t with
  | some p =>
    rw [e1] at e
    cases e
    exact ⟨(atF_mem e1).1, (atF_mem e1).2.2.2⟩
  | none =>
    rw [e1] at e
    cases e2 : atF fs n k t with
    | some p =>
      rw [e2] at e
      cases e
      exact ⟨(atF_mem e2).1, (atF_mem e2).2.2.2⟩
    | none =>
      rw [e2] at e
      cases e3 : atF fs n 2 t with
      | none =>
        rw [e3] at e
        cases e
      | some p =>
        rw [e3] at e
        dsimp only at e
        rw [Option.filter_some] at e
        split at e
        · cases e
          exact ⟨(atF_mem e3).1, (atF_mem e3).2.2.2⟩
        · cases e
def toldM (h : Dn01.House) (k : Nat) (n : List Nat) (fs : List Dn01.Fact) (a good : Nat) : List Dn01.Fact × Nat × Nat × Option Dn01.What := match recF_ fs n k h.now with
  | some f => (fs, a, min good (f.until_ - h.now), some f.what)
  | none => match (srvM h k n fs a).2.2 with
    | none => ((srvM h k n fs a).1, (srvM h k n fs a).2.1, good, none)
    | some t => ((srvM h k n fs a).1, (srvM h k n fs a).2.1, min good (lifeOf t), some (factOf h.now n k t).what)
def contM (h : Dn01.House) (k : Nat) : Nat → List Dn01.Fact → Nat → Nat → List (List Nat) → Option Dn01.What → List Dn01.Fact × Nat × Nat × List (List Nat) × Option Dn01.What
  | 0, fs, a, g, ns, _ => (fs, a, g, ns, none)
  | j + 1, fs, a, g, ns, o => match o with
    | some (.alias m) => if k = 2 then (fs, a, g, ns, o) else if ns.length = 6 then (fs, a, g, ns, none) else
      contM h k j (toldM h k m fs a g).1 (toldM h k m fs a g).2.1 (toldM h k m fs a g).2.2.1 (ns ++ [m]) (toldM h k m fs a g).2.2.2
    | _ => (fs, a, g, ns, o)
theorem learnF_good {nS : Nat} {fs : List Dn01.Fact} {f : Dn01.Fact} (h : ∀ x ∈ fs, FGood nS x) (hf : FGood nS f) : ∀ x ∈ learnF fs f, FGood nS x := fun x hx => by
  rcases List.mem_append.mp hx with m | m
  · exact h x (List.mem_filter.mp m).1
  · rw [List.mem_singleton.mp m]
    exact hf
theorem factOf_good {h : Dn01.House} (fit : HFit h) {k x : Nat} (hk : k = 1 ∨ k = 2) {n : List Nat} : ∀ t : Dn01.Tells, askT (h.server x) h.now n k = t → FGood h.servers.length (factOf h.now n k t)
  | .data _ _, _ => ⟨fun ss e => (nomatch e), fun e => by have e : k = 3 := e; omega, fun e => (nomatch e), fun e => by have e : k = 0 := e; omega, fun m e => (nomatch e)⟩
  | .nothing _, _ => ⟨fun ss e => (nomatch e), fun e => by have e : k = 3 := e; omega, fun e => (nomatch e), fun e => by have e : k = 0 := e; omega, fun m e => (nomatch e)⟩
  | .never _, _ => ⟨fun ss e => (nomatch e), fun e => (nomatch e), fun _ => rfl, fun _ => rfl, fun m e => (nomatch e)⟩
  | .alias m l, e => ⟨fun ss e => (nomatch e), fun e => (nomatch e), fun e => (nomatch e), fun e => (nomatch e), fun m' e' => by cases e'; exact ⟨rfl, (alias_ok fit e).1⟩⟩
  | .refers b ss l, e => ⟨fun ss' e' => by cases e'; exact ⟨rfl, refers_ok fit e⟩, fun _ => ⟨_, rfl⟩, fun e => (nomatch e), fun e => (nomatch e), fun m e => (nomatch e)⟩
  | .refuses, _ => ⟨fun ss e => (nomatch e), fun e => by have e : k = 3 := e; omega, fun e => (nomatch e), fun e => by have e : k = 0 := e; omega, fun m e => (nomatch e)⟩
theorem askM_ok {h : Dn01.House} (fit : HFit h) {k : Nat} (hk : k = 1 ∨ k = 2) (n : List Nat) : ∀ (m : Nat) (l : List Nat) (pl : Nat) (fs : List Dn01.Fact) (a : Nat), (∀ x ∈ fs, FGood h.servers.length x) →
    (∀ x ∈ (askM h k n m l pl fs a).1, FGood h.servers.length x) ∧ a ≤ (askM h k n m l pl fs a).2.1 ∧ (askM h k n m l pl fs a).2.1 ≤ a + m ∧ (askM h k n m l pl fs a).1.length + a ≤ fs.length + (askM h k n m l pl fs a).2.1 ∧
    ∀ mm ll, (askM h k n m l pl fs a).2.2 = some (.alias mm ll) → mm.length < 1000 ∧ k ≠ 2
  | 0, l, pl, fs, a, g => ⟨g, Nat.le_refl _, Nat.le_refl _, Nat.le_refl _, fun _ _ e => (nomatch e)⟩
  | m + 1, [], pl, fs, a, g => ⟨g, Nat.le_refl _, by show a ≤ _; omega, Nat.le_refl _, fun _ _ e => (nomatch e)⟩
  | m + 1, x :: l, pl, fs, a, g => by
    rcases et : askT (h.server x) h.now n k with _ | ⟨b, ss, life⟩ | _ | _ | _ | _
    case refuses =>
      have e : askM h k n (m + 1) (x :: l) pl fs a = askM h k n m l pl fs (a + 1) := by
        conv => lhs; unfold askM
        rw [et]
      obtain ⟨h1, h2, h3, h4, h5⟩ := askM_ok fit hk n m l pl fs (a + 1) g
      rw [e]
      exact ⟨h1, by omega, by omega, by omega, h5⟩
    case refers =>
      by_cases hp : pl < b.length
      · have e : askM h k n (m + 1) (x :: l) pl fs a = askM h k n m ss b.length (learnF fs ⟨b, 3, .cut ss, h.now + life⟩) (a + 1) := by
          conv => lhs; unfold askM
          rw [et]
          dsimp only
          rw [if_pos hp]
        obtain ⟨h1, h2, h3, h4, h5⟩ := askM_ok fit hk n m ss b.length (learnF fs ⟨b, 3, .cut ss, h.now + life⟩) (a + 1) (learnF_good g (factOf_good fit hk _ et))
        have hl := learnF_len fs ⟨b, 3, .cut ss, h.now + life⟩
        rw [e]
        exact ⟨h1, by omega, by omega, by omega, h5⟩
      · have e : askM h k n (m + 1) (x :: l) pl fs a = askM h k n m l pl fs (a + 1) := by
          conv => lhs; unfold askM
          rw [et]
          dsimp only
          rw [if_neg hp]
        obtain ⟨h1, h2, h3, h4, h5⟩ := askM_ok fit hk n m l pl fs (a + 1) g
        rw [e]
        exact ⟨h1, by omega, by omega, by omega, h5⟩
    all_goals
      have n1' : askT (h.server x) h.now n k ≠ .refuses := by rw [et]; exact fun z => (nomatch z)
      have n2' : ∀ b ss l, askT (h.server x) h.now n k ≠ .refers b ss l := by rw [et]; exact fun _ _ _ z => (nomatch z)
      rw [loop_go h k n m x l pl fs a _ rfl n1' n2']
      have hl := learnF_len fs (factOf h.now n k (askT (h.server x) h.now n k))
      refine ⟨learnF_good g (factOf_good fit hk _ rfl), by show a ≤ a + 1; omega, by show a + 1 ≤ _; omega, by show (learnF fs _).length + a ≤ fs.length + (a + 1); omega, fun mm ll e => ?_⟩
      have e : askT (h.server x) h.now n k = .alias mm ll := Option.some.inj e
      exact alias_ok fit e
theorem toldM_ok {h : Dn01.House} (fit : HFit h) {k : Nat} (hk : k = 1 ∨ k = 2) (n : List Nat) (fs : List Dn01.Fact) (a good : Nat) (g : ∀ x ∈ fs, FGood h.servers.length x) :
    (∀ x ∈ (toldM h k n fs a good).1, FGood h.servers.length x) ∧ a ≤ (toldM h k n fs a good).2.1 ∧ (toldM h k n fs a good).1.length + a ≤ fs.length + (toldM h k n fs a good).2.1 ∧ ((toldM h k n fs a good).2.1 ≤ a + (40 - a)) ∧
    ∀ mm, (toldM h k n fs a good).2.2.2 = some (.alias mm) → mm.length < 1000 := by
  unfold toldM
  obtain ⟨h1, h2, h3, h4, h5⟩ := askM_ok fit hk n (40 - a) (startAt h fs n).1 (startAt h fs n).2 fs a g
  cases e : recF_ fs n k h.now with
  | some f => exact ⟨g, Nat.le_refl _, Nat.le_refl _, Nat.le_add_right _ _, fun mm e2 => ((g _ (recF_mem e).1).ali mm (Option.some.inj e2)).2⟩
  | none =>
    cases e2 : (srvM h k n fs a).2.2 with
    | none => exact ⟨h1, h2, h4, h3, fun mm e2 => (nomatch e2)⟩
    | some t =>
      refine ⟨h1, h2, h4, h3, fun mm e3 => ?_⟩
      have e3 : (factOf h.now n k t).what = .alias mm := Option.some.inj e3
      rcases t with _ | ⟨b, ss, ll⟩ | ⟨vs, ll⟩ | ⟨mm', ll⟩ | ll | ll <;> cases e3
      exact (h5 _ _ e2).1
theorem whatT_tl (now : Nat) (n : List Nat) (k : Nat) (t : Dn01.Tells) (h1 : t ≠ .refuses) : tlOf n t = ⟨ocOf (factOf now n k t).what, (factOf now n k t).name, lifeOf t, rowsOf (factOf now n k t).what⟩ := (tl_fact now n k t h1).1
theorem askM_def {h : Dn01.House} {k : Nat} {n : List Nat} : ∀ {m : Nat} {l : List Nat} {pl : Nat} {fs : List Dn01.Fact} {a : Nat} {t : Dn01.Tells}, (askM h k n m l pl fs a).2.2 = some t → t ≠ .refuses ∧ ∀ b ss l, t ≠ .refers b ss l
  | m + 1, x :: l, pl, fs, a, t, e => by
    rcases et : askT (h.server x) h.now n k with _ | ⟨b, ss, life⟩ | _ | _ | _ | _
    case refuses =>
      unfold askM at e
      rw [et] at e
      exact askM_def e
    case refers =>
      unfold askM at e
      rw [et] at e
      dsimp only at e
      split at e
      · exact askM_def e
      · exact askM_def e
    all_goals
      unfold askM at e
      rw [et] at e
      cases e
      exact ⟨fun z => (nomatch z), fun _ _ _ z => (nomatch z)⟩
theorem min_nv (a b : Nat) : V.int (if (b : Int) < (a : Int) then (b : Int) else (a : Int)) = nv (min a b) := by
  unfold nv
  congr 1
  split <;> omega
section
variable {P : Program} {w : World} {K : PySem.W.Frag} {mg : Str → Option Value} {base : Heap} {c : Cs}
theorem SeaA.put (ok : COk c) {F : List Addr} {H : Hp} {sa na dx : Addr} {i k asked good : Nat} {g : GN} {gc : GC} {h : Dn01.House} {names : List (List Nat)} (x : SeaA P w c F H sa na i g h k asked good names) (hgc : g.cas[i]? = some gc)
    (e : H sa = some (.ins c.csea dx (seaF (.ref g.n) (.ref gc.a) (nv k) (nv asked) (nv good) (.ref na)))) (a2 g2 : Nat) :
    SeaA P w c F (upd H sa (.ins c.csea dx (seaF (.ref g.n) (.ref gc.a) (nv k) (nv a2) (nv g2) (.ref na)))) sa na i g h k a2 g2 names ∧ Frm c H (upd H sa (.ins c.csea dx (seaF (.ref g.n) (.ref gc.a) (nv k) (nv a2) (nv g2) (.ref na)))) := by
  obtain ⟨l, l1, l2, l3⟩ := x.nm
  obtain ⟨sL, nL, nsn⟩ := x.seaL
  have kp : Kp [sa] H (upd H sa (.ins c.csea dx (seaF (.ref g.n) (.ref gc.a) (nv k) (nv a2) (nv g2) (.ref na)))) := Kp.put (by simp)
  have fr : Frm c H _ := FrmX.kp kp fun y m o e' _ f => by
    rw [List.mem_singleton.mp m, e] at e'
    cases e'
    exact f.elim (fun z => z ok.all.sea.2) ok.all.sea.1
  exact ⟨⟨x.net.sea ok kp fun y m => by rw [List.mem_singleton.mp m]; exact sL, ⟨gc, hgc, dx, upd_same⟩, x.naF, l, l1, (upd_ne (Ne.symm nsn)).trans l2, fun p m => (l3 p m).imm (F := []) (fr.imm ok)⟩, fr⟩
def sp_sea_told (P : Program) (w : World) (c : Cs) : Sp := fun vs H Q _ => ∃ sa b F na i g h k asked good names fs n, vs = [.ref sa, .ref b] ∧ SeaA P w c F H sa na i g h k asked good names ∧ FOk F H ∧ HFit h ∧ h.caches[i]? = some fs ∧ (∀ f ∈ fs, FGood h.servers.length f) ∧ fs.length + (40 - asked) < 100000 ∧ TN H b n ∧ n.length < 1000 ∧
  ∀ H' g' v, Frm c H H' → g'.n = g.n → SeaA P w c F H' sa na i g' (hc h i (toldM h k n fs asked good).1) k (toldM h k n fs asked good).2.1 (toldM h k n fs asked good).2.2.1 names → TelO c H' (toldM h k n fs asked good).2.2.2 v → Q v H'
theorem ok_Search_told_of {f : Addr} {fd : FuncData} (F : Fun K "told_of" "Search.told_of" s_Search_told_of f fd) (T : Txt K mg c) (cok : COk c) (d_Cache_recalled : MFn P w K mg base 4 c.ccac "recalled" ["self", "name", "kind", "now"] (sp_recalled P w c)) (d_Fact_left : MFn P w K mg base 1 c.cfac "left" ["self", "now"] (sp_left c)) (d_Search_told_by_servers : MFn P w K mg base 9 c.csea "told_by_servers" ["self", "name"] (sp_by_servers P w c)) : FnOk P w K mg base CX0 10 f fd ["self", "name"] (sp_sea_told P w c) := by
  refine F.ok sc_Search_told_of (fun vs H Q E h => ?_) (fun cdv A outer s H vs Q E hr h => ?_)
  · obtain ⟨sa, b, F, na, i, g, h, k, asked, good, names, fs, n, rfl, _⟩ := h
    rfl
  · refine ⟨_, (pss_cons (ps_set (i := 2) sc_Search_told_of.nd rfl (Or.inl rfl) (km (kf (pv 0) T.cl_sea T.n_sea_cache) d_Cache_recalled (hr.mono (by decide)) (pa_cons (pv 1) (pa_cons (kf (pv 0) T.cl_sea T.n_sea_kind) (pa_cons (kf (kf (pv 0) T.cl_sea T.n_sea_net) T.cl_net T.n_net_now) pa_nil)))))
      (pss_cons (ps_if (pt_cmpR op_notN (pv 2) pe_non (nomark _)) (pss_cons (kfs (pv 0) (pe_callB (call_min2 rfl) (by rfl) T.f_min (by decide +kernel) (pa_cons (kf (pv 0) T.cl_sea T.n_sea_good) (pa_cons (km (pv 2) d_Fact_left (hr.mono (by decide)) (pa_cons (kf (kf (pv 0) T.cl_sea T.n_sea_net) T.cl_net T.n_net_now) pa_nil)) pa_nil))) T.cl_sea T.n_sea_good)
      (pss_one (ps_ret (kf (pv 2) T.cl_fac T.n_fac_telling)))) pss_nil)
      (pss_cons (ps_set (i := 3) sc_Search_told_of.nd rfl (Or.inl rfl) (km (pv 0) d_Search_told_by_servers (hr.mono (by decide)) (pa_cons (pv 1) pa_nil)))
      (pss_cons (ps_if (pt_cmpR op_notN (pv 3) pe_non (nomark _)) (pss_one (kfs (pv 0) (pe_callB (call_min2 rfl) (by rfl) T.f_min (by decide +kernel) (pa_cons (kf (pv 0) T.cl_sea T.n_sea_good) (pa_cons (kf (pv 3) T.cl_tel T.n_tel_life) pa_nil))) T.cl_sea T.n_sea_good)) pss_nil)
      (pss_one (ps_ret (pv 3))))))), ?_⟩
    obtain ⟨sa, b, F, na, i, g, h, k, asked, good, names, fs, n, rfl, hs, fo, fit, hfs, fg, fl, hn, nl, q⟩ := h
    obtain ⟨gc, hgc, ⟨dx, h1⟩⟩ := hs.at_
    obtain ⟨dn, n1⟩ := hs.net.at_
    have hcac := hs.net.cas i gc fs hgc hfs
    obtain ⟨⟨da, a1⟩, a2, a3⟩ := id hcac
    refine ⟨_, rfl, sa, dx, _, _, rfl, h1, lk_sea_cache, gc.a, da, _, rfl, a1, no_cac_recalled, _, rfl, _, rfl, sa, dx, _, _, rfl, h1, lk_sea_kind, _, rfl, sa, dx, _, _, rfl, h1, lk_sea_net, g.n, dn, _, _, rfl, n1, lk_net_now, gc, fs, b, n, k, h.now, rfl, hcac, hn, fun H1 s1 => ?_⟩
    have e0 := recalled_snd gc.fs n k h.now
    rw [a3] at e0
    unfold toldM at q
    cases e : recalledAt gc.fs n k h.now with
    | some x =>
      rw [e] at e0
      rw [e0] at q
      obtain ⟨xm, xl⟩ := recF_mem e0
      have hx : x ∈ gc.fs := by
        unfold recalledAt aliasAt at e
        cases e1 : factAt gc.fs n 0 h.now with
        | some p =>
          rw [e1] at e
          cases e
          exact (factAt_mem e1).1
        | none =>
          rw [e1] at e
          cases e2 : factAt gc.fs n k h.now with
          | some p =>
            rw [e2] at e
            cases e
            exact (factAt_mem e2).1
          | none =>
            rw [e2] at e
            cases e3 : factAt gc.fs n 2 h.now with
            | none =>
              rw [e3] at e
              cases e
            | some p =>
              rw [e3] at e
              dsimp only at e
              rw [Option.filter_some] at e
              split at e
              · cases e
                exact (factAt_mem e3).1
              · cases e
      have hf := (a2.2 x hx).2.same s1
      obtain ⟨ta, life, ⟨dy, f1⟩, f2⟩ := id hf
      obtain ⟨sp, fr⟩ := (hs.same s1).put cok hgc (s1 _ _ h1) asked (min good (x.2.until_ - h.now))
      refine ⟨_, rfl, rfl, _, rfl, iteT ⟨_, rfl, sa, dx, _, _, rfl, s1 _ _ h1, lk_sea_good, _, rfl, x.1.2.2, dy, _, rfl, f1, no_fac_left, _, rfl, sa, dx, _, _, rfl, s1 _ _ h1, lk_sea_net, g.n, dn, _, _, rfl, s1 _ _ n1, lk_net_now, x.1.2.2, x.2, h.now, rfl, hf, Nat.le_of_lt xl, _, _, rfl, _, rfl, sa, dx, _, rfl, s1 _ _ h1, (by show 6 < 1000; decide), ?_⟩⟩
      rw [min_nv, put_sea_good]
      have im := fr.imm (F := []) cok
      obtain ⟨dy', f1'⟩ := (At.imm (F := []) (a := x.1.2.2) ⟨dy, f1⟩ im cok.ne.2.2.2)
      refine ⟨_, rfl, x.1.2.2, dy', _, _, rfl, f1', lk_fac_telling, q _ g _ ((FrmX.same s1).trans fr) rfl ?_ ⟨ta, _, life, rfl, f2.imm im⟩⟩
      show SeaA P w c F _ sa na i g (hc h i fs) k asked _ names
      rw [hc_id hfs]
      exact sp
    | none =>
      rw [e] at e0
      rw [e0] at q
      obtain ⟨s2, fr0⟩ := (hs.same s1).put cok hgc (s1 _ _ h1) asked good
      refine ⟨_, rfl, rfl, _, rfl, iteF ⟨_, rfl, sa, dx, _, rfl, s1 _ _ h1, no_sea_told_by_servers, _, rfl, sa, b, F, na, i, g, h, k, asked, good, names, fs, n, rfl, hs.same s1, fo.same s1, fit, hfs, fg, fl, hn.same s1, nl, fun H2 g2 v fr gn hs2 ht => ?_⟩⟩
      have fr2 : Frm c H H2 := (FrmX.same s1).trans fr
      cases e2 : (srvM h k n fs asked).2.2 with
      | none =>
        rw [e2] at q ht
        cases (show v = .non from ht)
        exact ⟨_, rfl, rfl, _, rfl, iteF ⟨_, rfl, q H2 g2 _ fr2 gn hs2 rfl⟩⟩
      | some t =>
        rw [e2] at q ht
        obtain ⟨p, rfl, ht⟩ := ht
        obtain ⟨d1, d2⟩ := askM_def e2
        rw [whatT_tl h.now n k t d1] at ht
        obtain ⟨gc2, hgc2, ⟨dx2, h2⟩⟩ := hs2.at_
        obtain ⟨nn, rr, ⟨dt, t1⟩, t2, t3⟩ := id ht
        obtain ⟨sp, fr3⟩ := hs2.put cok hgc2 h2 (srvM h k n fs asked).2.1 (min good (lifeOf t))
        refine ⟨_, rfl, rfl, _, rfl, iteT ⟨_, rfl, sa, dx2, _, _, rfl, h2, lk_sea_good, _, rfl, p, dt, _, _, rfl, t1, lk_tel_life, _, _, rfl, _, rfl, sa, dx2, _, rfl, h2, (by show 6 < 1000; decide), ?_⟩⟩
        rw [min_nv, put_sea_good]
        exact ⟨_, rfl, q _ g2 _ (fr2.trans fr3) gn sp ⟨p, _, _, rfl, ht.imm (F := []) (fr3.imm cok)⟩⟩
def sp_found (P : Program) (w : World) (c : Cs) : Sp := fun vs H Q _ => ∃ sa b F na i g h k fs n, vs = [.ref sa, .ref b] ∧ SeaA P w c F H sa na i g h k 0 1000000000 [] ∧ FOk F H ∧ HFit h ∧ (k = 1 ∨ k = 2) ∧ h.caches[i]? = some fs ∧ (∀ f ∈ fs, FGood h.servers.length f) ∧ fs.length + 40 < 100000 ∧ TN H b n ∧ n.length < 1000 ∧
  ∀ H' g' v fs' a' good' names' o, contM h k 7 (toldM h k n fs 0 1000000000).1 (toldM h k n fs 0 1000000000).2.1 (toldM h k n fs 0 1000000000).2.2.1 [] (toldM h k n fs 0 1000000000).2.2.2 = (fs', a', good', names', o) →
    FrmX c [na] H H' → g'.n = g.n → SeaA P w c F H' sa na i g' (hc h i fs') k a' good' names' → TelO c H' o v → Q v H'
theorem hc_fit {h : Dn01.House} {i : Nat} {cc : List Dn01.Fact} (f : HFit h) : HFit (hc h i cc) := ⟨f.aps, f.fit, f.roots⟩
theorem goesOn_alias {k : Nat} : ∀ {o : Option Dn01.What}, goesOn k o = true → (∃ m, o = some (.alias m)) ∧ k ≠ 2
  | some (.alias m), e => ⟨⟨m, rfl⟩, fun z => by subst z; cases e⟩
theorem contM_stop {h : Dn01.House} {k j : Nat} {fs : List Dn01.Fact} {a g : Nat} {ns : List (List Nat)} : ∀ {o : Option Dn01.What}, goesOn k o = false → contM h k (j + 1) fs a g ns o = (fs, a, g, ns, o)
  | some (.alias m), e => by
    have hk : k = 2 := by
      unfold goesOn ocOf at e
      simpa using e
    unfold contM
    dsimp only
    rw [if_pos hk]
  | none, _ => rfl
  | some (.data _), _ => rfl
  | some .nothing, _ => rfl
  | some .never, _ => rfl
  | some (.cut _), _ => rfl
theorem askM_hc {h : Dn01.House} {i k : Nat} {fs : List Dn01.Fact} {n : List Nat} : ∀ (m : Nat) (l : List Nat) (pl : Nat) (cc : List Dn01.Fact) (a : Nat), askM (hc h i fs) k n m l pl cc a = askM h k n m l pl cc a
  | 0, _, _, _, _ => rfl
  | _ + 1, [], _, _, _ => rfl
  | m + 1, x :: l, pl, cc, a => by
    conv => lhs; unfold askM
    conv => rhs; unfold askM
    rw [show askT ((hc h i fs).server x) (hc h i fs).now n k = askT (h.server x) h.now n k from rfl, show (hc h i fs).now = h.now from rfl]
    rcases et : askT (h.server x) h.now n k with _ | ⟨b, ss, life⟩ | _ | _ | _ | _
    case refuses => exact askM_hc m l pl cc (a + 1)
    case refers =>
      dsimp only
      rw [askM_hc m ss, askM_hc m l]
    all_goals rfl
theorem toldM_hc {h : Dn01.House} {i k : Nat} {fs : List Dn01.Fact} {n : List Nat} (cc : List Dn01.Fact) (a good : Nat) : toldM (hc h i fs) k n cc a good = toldM h k n cc a good := by
  unfold toldM srvM
  rw [show startAt (hc h i fs) cc n = startAt h cc n from rfl, askM_hc]
  rfl
theorem ok_Search_found {f : Addr} {fd : FuncData} (F : Fun K "found" "Search.found" s_Search_found f fd) (T : Txt K mg c) (cok : COk c) (d_Search_told_of : MFn P w K mg base 10 c.csea "told_of" ["self", "name"] (sp_sea_told P w c)) (d_Search_is_to_go_on : MFn P w K mg base 1 c.csea "is_to_go_on" ["self", "telling"] (sp_goes_on P w c)) : FnOk P w K mg base CX0 11 f fd ["self", "name"] (sp_found P w c) := by
  refine F.ok sc_Search_found (fun vs H Q E h => ?_) (fun cdv A outer s H vs Q E hr h => ?_)
  · obtain ⟨sa, b, F, na, i, g, h, k, fs, n, rfl, _⟩ := h
    rfl
  · refine ⟨_, (pss_cons (ps_set (i := 2) sc_Search_found.nd rfl (Or.inl rfl) (km (pv 0) d_Search_told_of (hr.mono (by decide)) (pa_cons (pv 1) pa_nil)))
      (pss_cons (ps_while PassesOwn.never (pt_val (km (pv 0) d_Search_is_to_go_on (hr.mono (by decide)) (pa_cons (pv 2) pa_nil))) (pss_cons (ps_if (pt_cmpR op_eq (pe_callB call_len_seq (by rfl) T.f_len PySem.boot_len (pa_cons (kf (pv 0) T.cl_sea T.n_sea_names) pa_nil)) (kn T.k_MOST_NAMES) (nomark _)) (pss_one (ps_ret pe_non)) pss_nil)
      (pss_cons (ps_set (i := 3) sc_Search_found.nd rfl (Or.inl rfl) (pe_ix (ix_tupK (K := K) rfl) (kf (pv 2) T.cl_tel T.n_tel_rows) pe_int (fun _ _ => rfl)))
      (pss_cons (ps_expr (pe_bm PySem.F.plainAttrs_list PySem.F.slot_list_append PySem.F.type_list_append mt_append (kf (pv 0) T.cl_sea T.n_sea_names) (pa_cons (pv 3) pa_nil)))
      (pss_one (ps_set (i := 2) sc_Search_found.nd rfl (Or.inl rfl) (km (pv 0) d_Search_told_of (hr.mono (by decide)) (pa_cons (pv 3) pa_nil))))))))
      (pss_one (ps_ret (pv 2))))), ?_⟩
    obtain ⟨sa, b, F, na, i, g, h, k, fs, n, rfl, hs, fo, fit, hk, hfs, fg, fl, hn, nl, q⟩ := h
    obtain ⟨gc, hgc, ⟨dx, h1⟩⟩ := hs.at_
    have line : 100000 < sizeLine := by decide
    refine ⟨_, rfl, sa, dx, _, rfl, h1, no_sea_told_of, _, rfl, sa, b, F, na, i, g, h, k, 0, 1000000000, [], fs, n, rfl, hs, fo, fit, hfs, fg, by omega, hn, nl, fun H1 g1 v1 fr1 gn1 hs1 ht1 => ?_⟩
    obtain ⟨o1, o2, o3, o4, o5⟩ := toldM_ok fit hk n fs 0 1000000000 fg
    generalize eR0 : contM h k 7 (toldM h k n fs 0 1000000000).1 (toldM h k n fs 0 1000000000).2.1 (toldM h k n fs 0 1000000000).2.2.1 [] (toldM h k n fs 0 1000000000).2.2.2 = R at q
    refine ⟨fun m σ H' => ∃ ns o v u cc a good g', m = 6 - ns.length ∧ ns.length ≤ 6 ∧ a ≤ 40 ∧ σ = [some (.ref sa), some (.ref b), some v, u] ∧ FrmX c [na] H H' ∧ g'.n = g.n ∧ SeaA P w c F H' sa na i g' (hc h i cc) k a good ns ∧ TelO c H' o v ∧ (∀ mm, o = some (.alias mm) → mm.length < 1000) ∧ (∀ f ∈ cc, FGood h.servers.length f) ∧ cc.length + (40 - a) < 100000 ∧
      contM h k (7 - ns.length) cc a good ns o = R, ⟨6, [], _, v1, none, _, _, _, g1, rfl, Nat.zero_le _, by omega, rfl, fr1.x, gn1, hs1, ht1, o5, o1, by omega, eR0⟩, ?_⟩
    rintro m σ H2 ⟨ns, o, v, u, cc, a, good, g', rfl, nsl, al, rfl, fr, gn, hs2, ht2, oa, fg2, cl, eR⟩
    obtain ⟨gc2, hgc2, ⟨dx2, h2⟩⟩ := hs2.at_
    obtain ⟨l, l1, l2, l3⟩ := hs2.nm
    obtain ⟨sL, nL, nsn⟩ := hs2.seaL
    have fo2 : FOk F H2 := fun y hy => by
      by_cases e : y = na
      · exact ⟨_, by rw [e]; exact l2⟩
      · obtain ⟨xs, e2⟩ := fo y hy
        exact ⟨xs, fr _ _ e2 True.intro (by simpa using e)⟩
    have ll : l.length = ns.length := by rw [← l1, List.length_map]
    refine ⟨_, rfl, sa, dx2, _, rfl, h2, no_sea_is_to_go_on, _, rfl, sa, v, F, na, i, g', hc h i cc, k, a, good, ns, o, rfl, hs2, ht2, _, rfl, ite_b (fun e1 => ?_) fun e1 => ?_⟩
    · obtain ⟨⟨mm, rfl⟩, hk2⟩ := goesOn_alias e1
      obtain ⟨p, nm, lf, rfl, ht⟩ := ht2
      obtain ⟨dz, nn, rr, bb, t1, t2, t3, t4⟩ := TelA.tr (K := K) ht (r := mm) rfl
      refine ⟨fun σ' H' => ∃ ns' o v u cc a good g', ns'.length = ns.length + 1 ∧ ns'.length ≤ 6 ∧ a ≤ 40 ∧ σ' = [some (.ref sa), some (.ref b), some v, u] ∧ FrmX c [na] H H' ∧ g'.n = g.n ∧ SeaA P w c F H' sa na i g' (hc h i cc) k a good ns' ∧ TelO c H' o v ∧ (∀ mm, o = some (.alias mm) → mm.length < 1000) ∧ (∀ f ∈ cc, FGood h.servers.length f) ∧ cc.length + (40 - a) < 100000 ∧
        contM h k (7 - ns'.length) cc a good ns' o = R, fun σ' H' ⟨ns', o, v, u, cc, a, good, g', q1, q2, q3⟩ => ⟨6 - ns'.length, by omega, ns', o, v, u, cc, a, good, g', rfl, q2, q3⟩, ?_⟩
      refine ⟨_, rfl, sa, dx2, _, _, rfl, h2, lk_sea_names, na, _, rfl, .inl (SqL.of l2), rfl, _, rfl, ite_b (fun e2 => ?_) fun e2 => ?_⟩
      · have n6 : ns.length = 6 := by
          have := V.int.inj (of_decide_eq_true e2)
          rw [List.length_map] at this
          omega
        rw [show 7 - ns.length = 0 + 1 by omega] at eR
        unfold contM at eR
        dsimp only at eR
        rw [if_neg hk2, if_pos n6] at eR
        exact q H2 g' .non cc a good ns none eR.symm fr gn hs2 rfl
      · have n6 : ¬ ns.length = 6 := fun z => by
          rw [List.length_map, ll, z] at e2
          exact absurd e2 (by decide)
        obtain ⟨j, ej⟩ : ∃ j, 7 - ns.length = j + 1 := ⟨6 - ns.length, by omega⟩
        rw [ej] at eR
        unfold contM at eR
        dsimp only at eR
        rw [if_neg hk2, if_neg n6] at eR
        have kp : Kp [na] H2 (upd H2 na (.lst (l.map (fun p => V.ref p.1) ++ [V.ref bb]))) := Kp.put (by simp)
        have fx : FrmX c [na] H2 (upd H2 na (.lst (l.map (fun p => V.ref p.1) ++ [V.ref bb]))) := FrmX.kp kp fun y m o _ nx => absurd (by rw [List.mem_singleton.mp m]; simp) nx
        have im : Imm c F H2 _ := fx.imm cok (fun y m => by rw [List.mem_singleton.mp m]; exact hs2.naF) fo2
        have hs3 : SeaA P w c F (upd H2 na (.lst (l.map (fun p => V.ref p.1) ++ [V.ref bb]))) sa na i g' (hc h i cc) k a good (ns ++ [mm]) := by
          refine ⟨hs2.net.sea cok kp fun y m => by rw [List.mem_singleton.mp m]; exact nL, ⟨gc2, hgc2, dx2, (upd_ne nsn).trans h2⟩, hs2.naF, l ++ [(bb, mm)], by rw [List.map_append, l1]; rfl, by rw [upd_same, List.map_append]; rfl, fun p m => ?_⟩
          rcases List.mem_append.mp m with m | m
          · exact (l3 p m).imm im
          · rw [List.mem_singleton.mp m]
            exact TN.imm im t4
        have fo3 : FOk F (upd H2 na (.lst (l.map (fun p => V.ref p.1) ++ [V.ref bb]))) := fun y hy => by
          by_cases e : y = na
          · exact ⟨_, by rw [e]; exact upd_same⟩
          · obtain ⟨xs, e2⟩ := fo2 y hy
            exact ⟨xs, (upd_ne e).trans e2⟩
        obtain ⟨p1, p2, p3, p4, p5⟩ := toldM_ok fit hk mm cc a good fg2
        refine ⟨_, rfl, p, dz, _, _, rfl, t1, lk_tel_rows, rr, _, 0, .ref bb, rfl, rfl, t3, at0, _, rfl, sa, dx2, _, _, rfl, h2, lk_sea_names, .inl ⟨rfl, _, SqL.of l2⟩, _, rfl, na, _, .ref bb, rfl, rfl, l2, by rw [List.length_map]; omega, _, rfl, sa, dx2, _, rfl, (upd_ne nsn).trans h2, no_sea_told_of, _, rfl, sa, bb, F, na, i, g', hc h i cc, k, a, good, ns ++ [mm], cc, mm, rfl, hs3, fo3, hc_fit fit, hc_at hfs, fg2, cl, TN.imm im t4, oa mm rfl, fun H4 g4 v4 fr4 gn4 hs4 ht4 => ?_⟩
        rw [hc_hc, toldM_hc] at hs4
        rw [toldM_hc] at ht4
        have ln : (ns ++ [mm]).length = ns.length + 1 := by rw [List.length_append, List.length_singleton]
        refine ⟨ns ++ [mm], _, v4, _, _, _, _, g4, ln, by omega, by omega, rfl, (fr.trans fx).trans fr4.x, gn4.trans gn, hs4, ht4, p5, p1, by omega, ?_⟩
        rw [show 7 - (ns ++ [mm]).length = j by omega]
        exact eR
    · obtain ⟨j, ej⟩ : ∃ j, 7 - ns.length = j + 1 := ⟨6 - ns.length, by omega⟩
      rw [ej, contM_stop e1] at eR
      exact ⟨_, rfl, q H2 g' v cc a good ns o eR.symm fr gn hs2 ht2⟩
end
end Nn


namespace Nn
open PySem PySem.Spec PyProof.Rows L2
theorem modify_set {α : Type} {f : α → α} : ∀ {l : List α} {i : Nat} {a : α}, l[i]? = some a → l.modify i f = l.set i (f a)
  | x :: l, 0, a, e => by
    cases e
    rfl
  | x :: l, i + 1, a, e => by
    rw [List.modify_succ_cons, List.set_cons_succ, modify_set (l := l) (by simpa using e)]
  | [], i, a, e => by cases e
section
variable {P : Program} {w : World} {K : PySem.W.Frag} {mg : Str → Option Value} {base : Heap} {c : Cs}
def outV (o : Dn01.Out) : List V := V.int o.value :: o.out.map V.int
/-- what a call must come to: the net as it's due, a new list of the numbers that are due -/
def AnsQ (P : Program) (w : World) (c : Cs) (F : List Addr) (H : Hp) (g : GN) (r : Dn01.House × Dn01.Out) (Q : VK) : Prop := ∀ H' g' p, Frm c H H' → p ∉ F → g'.n = g.n → NetA P w c F H' g' r.1 → H' p = some (.lst (outV r.2)) → Q (.ref p) H'
theorem AnsQ.put {F : List Addr} {H H1 : Hp} {g g1 : GN} {r : Dn01.House × Dn01.Out} {Q : VK} {vs : List V} (q : AnsQ P w c F H g r Q) (fo : FOk F H) (fr : Frm c H H1) (gn : g1.n = g.n) (net : NetA P w c F H1 g1 r.1) (e : outV r.2 = vs) : ∀ p, H1 p = none → Q (.ref p) (upd H1 p (.lst vs)) := fun p hp =>
  have s : Same H1 (upd H1 p (.lst vs)) := Same.laid hp
  q _ g1 p (fr.trans (FrmX.same s)) ((fr.fok fo).new hp) gn (net.same s) (by rw [upd_same, e])
theorem AnsQ.rec_ {F : List Addr} {H H1 : Hp} {g g1 : GN} {r : Dn01.House × Dn01.Out} {Q : VK} (q : AnsQ P w c F H g r Q) (fr : Frm c H H1) (gn : g1.n = g.n) : AnsQ P w c F H1 g1 r Q := fun H' g' p f n e net hp => q H' g' p (fr.trans f) n (e.trans gn) net hp
theorem NetA.atS {F : List Addr} {H : Hp} {g : GN} {h : Dn01.House} (x : NetA P w c F H g h) {i : Nat} {gs : GS} (e : g.srv[i]? = some gs) : SqL K H g.sl (g.srv.map fun s => V.ref s.a) ∧ atI (g.srv.map fun s => V.ref s.a) (i : Int) = some (.ref gs.a) :=
  ⟨SqL.of x.sl, atI_nat (by rw [List.getElem?_map, e]; rfl)⟩
def sp_has_server (P : Program) (w : World) (c : Cs) : Sp := fun vs H Q _ => ∃ F g h s, vs = [.ref g.n, nv s] ∧ NetA P w c F H g h ∧ Q (.bl (decide (s < h.servers.length))) H
theorem ok_Net_has_server {f : Addr} {fd : FuncData} (F : Fun K "has_server" "Net.has_server" s_Net_has_server f fd) (T : Txt K mg c) (cok : COk c)  : FnOk P w K mg base CX0 1 f fd ["self", "server"] (sp_has_server P w c) := by
  refine F.ok sc_Net_has_server (fun vs H Q E h => ?_) (fun cdv A outer s H vs Q E hr h => ?_)
  · obtain ⟨F, g, h, s, rfl, _⟩ := h
    rfl
  · refine ⟨_, (pss_one (ps_ret (pe_cmpR op_lt (pv 1) (pe_callB call_len_seq (by rfl) T.f_len PySem.boot_len (pa_cons (kf (pv 0) T.cl_net T.n_net_servers) pa_nil)) (nomark _)))), ?_⟩
    obtain ⟨F, g, h, s', rfl, x, q⟩ := h
    obtain ⟨dn, n1⟩ := x.at_
    refine ⟨_, rfl, _, rfl, g.n, dn, _, _, rfl, n1, lk_net_servers, _, _, rfl, .inl (SqL.of x.sl), _, _, rfl, rfl, ?_⟩
    rw [← x.slen] at q
    show Q (.bl (decide ((s' : Int) < ((g.srv.map fun s => V.ref s.a).length : Nat)))) H
    rw [nat_lt_dec, List.length_map]
    exact q
def sp_has_cache (P : Program) (w : World) (c : Cs) : Sp := fun vs H Q _ => ∃ F g h s, vs = [.ref g.n, nv s] ∧ NetA P w c F H g h ∧ Q (.bl (decide (s < h.caches.length))) H
theorem ok_Net_has_cache {f : Addr} {fd : FuncData} (F : Fun K "has_cache" "Net.has_cache" s_Net_has_cache f fd) (T : Txt K mg c) (cok : COk c)  : FnOk P w K mg base CX0 1 f fd ["self", "cache"] (sp_has_cache P w c) := by
  refine F.ok sc_Net_has_cache (fun vs H Q E h => ?_) (fun cdv A outer s H vs Q E hr h => ?_)
  · obtain ⟨F, g, h, s, rfl, _⟩ := h
    rfl
  · refine ⟨_, (pss_one (ps_ret (pe_cmpR op_lt (pv 1) (pe_callB call_len_seq (by rfl) T.f_len PySem.boot_len (pa_cons (kf (pv 0) T.cl_net T.n_net_caches) pa_nil)) (nomark _)))), ?_⟩
    obtain ⟨F, g, h, s', rfl, x, q⟩ := h
    obtain ⟨dn, n1⟩ := x.at_
    refine ⟨_, rfl, _, rfl, g.n, dn, _, _, rfl, n1, lk_net_caches, _, _, rfl, .inl (SqL.of x.cl), _, _, rfl, rfl, ?_⟩
    rw [← x.clen] at q
    show Q (.bl (decide ((s' : Int) < ((g.cas.map fun s => V.ref s.a).length : Nat)))) H
    rw [nat_lt_dec, List.length_map]
    exact q
theorem held_look {gs : GS} {s : Dn01.Server} (e : gs.hs.map (·.2) = s.zones) (l : List Nat) : s.held l = (lookH gs.hs l).map (·.2) := by
  unfold Dn01.Server.held lookH
  rw [← e, List.find?_map]
  rfl
theorem lt_at {α : Type} {l : List α} {i : Nat} (h : i < l.length) : ∃ a, l[i]? = some a := ⟨_, List.getElem?_eq_getElem h⟩
theorem at_lt {α : Type} {l : List α} {i : Nat} {a : α} (h : l[i]? = some a) : i < l.length := (List.getElem?_eq_some_iff.mp h).1
theorem none_ge {α : Type} {l : List α} {i : Nat} (h : ¬ i < l.length) : l[i]? = none := List.getElem?_eq_none (by omega)
/-- what a server and a zone of its come to -/
def ZoneQ (h : Dn01.House) (s : Nat) (l : List Nat) (A B : Prop) (C : Dn01.Server → Dn01.Held → Prop) : Prop := (h.servers[s]? = none → A) ∧ (∀ x, h.servers[s]? = some x → x.held l = none → B) ∧ ∀ x z, h.servers[s]? = some x → x.held l = some z → C x z
def sp_ref_zone (P : Program) (w : World) (c : Cs) : Sp := fun vs H Q _ => ∃ F g h s b l, vs = [.ref g.n, nv s, .ref b] ∧ NetA P w c F H g h ∧ TN H b l ∧ ZoneQ h s l (Q (.int (-2)) H) (Q (.int (-3)) H) (fun _ _ => Q (.int 0) H)
theorem ok_refusal_of_zone {f : Addr} {fd : FuncData} (F : Fun K "refusal_of_zone" "refusal_of_zone" s_refusal_of_zone f fd) (T : Txt K mg c) (cok : COk c) (d_Net_has_server : MFn P w K mg base 1 c.cnet "has_server" ["self", "server"] (sp_has_server P w c)) (d_Server_has_zone : MFn P w K mg base 1 c.csrv "has_zone" ["self", "apex"] (sp_has_zone c)) : FnOk P w K mg base CX0 2 f fd ["net", "server", "apex"] (sp_ref_zone P w c) := by
  refine F.ok sc_refusal_of_zone (fun vs H Q E h => ?_) (fun cdv A outer s H vs Q E hr h => ?_)
  · obtain ⟨F, g, h, s, b, l, rfl, _⟩ := h
    rfl
  · refine ⟨_, (pss_cons (ps_if (pt_not (pt_val (km (pv 0) d_Net_has_server (hr.mono (by decide)) (pa_cons (pv 1) pa_nil)))) (pss_one (ps_ret (pe_un un_neg pe_int))) pss_nil)
      (pss_cons (ps_if (pt_not (pt_val (km (pe_ix ix_list (kf (pv 0) T.cl_net T.n_net_servers) (pv 1) (fun _ _ => rfl)) d_Server_has_zone (hr.mono (by decide)) (pa_cons (pv 2) pa_nil)))) (pss_one (ps_ret (pe_un un_neg pe_int))) pss_nil)
      (pss_one (ps_ret pe_int)))), ?_⟩
    obtain ⟨F, g, h, s', b, l, rfl, x, hl, q1, q2, q3⟩ := h
    obtain ⟨dn, n1⟩ := x.at_
    refine ⟨_, rfl, g.n, dn, _, rfl, n1, no_net_has_server, _, rfl, F, g, h, s', rfl, x, _, rfl, ite_b (fun e => ?_) fun e => ?_⟩
    · rw [Bool.not_eq_true', decide_eq_false_iff_not] at e
      exact ⟨_, rfl, q1 (none_ge e)⟩
    rw [Bool.not_eq_false', decide_eq_true_eq] at e
    obtain ⟨y, ey⟩ := lt_at e
    obtain ⟨gs, hgs, sy⟩ := x.srvAt ey
    obtain ⟨dv, v1⟩ := id sy.at_
    obtain ⟨a1, a2⟩ := x.atS (K := K) hgs
    have hh := held_look sy.zones l
    refine ⟨_, rfl, g.n, dn, _, _, rfl, n1, lk_net_servers, _, rfl, g.sl, _, s', .ref gs.a, rfl, rfl, a1, a2, gs.a, dv, _, rfl, v1, no_srv_has_zone, _, rfl, gs.a, gs.d, b, gs.hs, l, rfl, sy.r, hl, _, rfl, ite_b (fun e2 => ?_) fun e2 => ?_⟩
    · rw [Bool.not_eq_true', Option.isSome_eq_false_iff, Option.isNone_iff_eq_none] at e2
      rw [e2] at hh
      exact ⟨_, rfl, q2 y ey hh⟩
    · rw [Bool.not_eq_false'] at e2
      obtain ⟨z, ez⟩ := Option.isSome_iff_exists.mp e2
      rw [ez] at hh
      exact q3 y _ ey hh
def sp_ref_own (P : Program) (w : World) (c : Cs) : Sp := fun vs H Q _ => ∃ F g h s b l, vs = [.ref g.n, nv s, .ref b] ∧ NetA P w c F H g h ∧ TN H b l ∧ ZoneQ h s l (Q (.int (-2)) H) (Q (.int (-3)) H) (fun _ z => ∀ r : Int, r = (if z.from_.isSome = true then -6 else 0) → Q (.int r) H)
theorem ok_refusal_of_own_zone {f : Addr} {fd : FuncData} (F : Fun K "refusal_of_own_zone" "refusal_of_own_zone" s_refusal_of_own_zone f fd) (T : Txt K mg c) (cok : COk c) (d_refusal_of_zone : GFn P w K mg base 2 "refusal_of_zone" ["net", "server", "apex"] (sp_ref_zone P w c)) (d_Holding_is_copy : MFn P w K mg base 1 c.chol "is_copy" ["self"] (sp_is_copy c)) (d_Server_holding_of : MFn P w K mg base 1 c.csrv "holding_of" ["self", "apex"] (sp_holding_of c)) : FnOk P w K mg base CX0 3 f fd ["net", "server", "apex"] (sp_ref_own P w c) := by
  refine F.ok sc_refusal_of_own_zone (fun vs H Q E h => ?_) (fun cdv A outer s H vs Q E hr h => ?_)
  · obtain ⟨F, g, h, s, b, l, rfl, _⟩ := h
    rfl
  · refine ⟨_, (pss_cons (ps_set (i := 3) sc_refusal_of_own_zone.nd rfl (Or.inl rfl) (kg d_refusal_of_zone (hr.mono (by decide)) (pa_cons (pv 0) (pa_cons (pv 1) (pa_cons (pv 2) pa_nil)))))
      (pss_cons (ps_if (PW.pt (pw_and (pt_cmpR op_eq (pv 3) pe_int (nomark _)) (pw_and1 (pt_val (km0 (km (pe_ix ix_list (kf (pv 0) T.cl_net T.n_net_servers) (pv 1) (fun _ _ => rfl)) d_Server_holding_of (hr.mono (by decide)) (pa_cons (pv 2) pa_nil)) d_Holding_is_copy (hr.mono (by decide))))))) (pss_one (ps_ret (pe_un un_neg pe_int))) pss_nil)
      (pss_one (ps_ret (pv 3))))), ?_⟩
    obtain ⟨F, g, h, s', b, l, rfl, x, hl, q1, q2, q3⟩ := h
    obtain ⟨dn, n1⟩ := x.at_
    refine ⟨_, rfl, _, rfl, _, rfl, F, g, h, s', b, l, rfl, x, hl, fun e => ?_, fun y e1 e2 => ?_, fun y z e1 e2 => ?_⟩
    · exact ⟨_, rfl, rfl, _, rfl, iteF (iteF ⟨_, rfl, q1 e⟩)⟩
    · exact ⟨_, rfl, rfl, _, rfl, iteF (iteF ⟨_, rfl, q2 y e1 e2⟩)⟩
    obtain ⟨gs, hgs, sy⟩ := x.srvAt e1
    obtain ⟨dv, v1⟩ := id sy.at_
    obtain ⟨a1, a2⟩ := x.atS (K := K) hgs
    have hh := held_look sy.zones l
    rw [e2] at hh
    obtain ⟨hq, ehq, ez⟩ := Option.map_eq_some_iff.mp hh.symm
    have q : Q (.int (if z.from_.isSome = true then -6 else 0)) H := q3 y z e1 e2 _ rfl
    obtain ⟨sv, ⟨dh, h1⟩, h2⟩ := id (sy.held hq (lookH_some ehq).1)
    refine ⟨_, rfl, rfl, _, rfl, iteT ⟨_, rfl, g.n, dn, _, _, rfl, n1, lk_net_servers, _, rfl, g.sl, _, s', .ref gs.a, rfl, rfl, a1, a2, gs.a, dv, _, rfl, v1, no_srv_holding_of, _, rfl, gs.a, gs.d, b, gs.hs, l, rfl, sy.r, hl, ?_⟩⟩
    rw [ehq]
    refine ⟨hq.1.1, dh, _, rfl, h1, no_hol_is_copy, hq.1.1, hq.1.2, F, hq.2, rfl, sy.held hq (lookH_some ehq).1, _, rfl, ite_b (fun e3 => ?_) fun e3 => ?_⟩
    · rw [ez] at e3
      rw [if_pos e3] at q
      exact ⟨_, rfl, q⟩
    · rw [ez] at e3
      rw [if_neg (by rw [e3]; exact Bool.false_ne_true)] at q
      exact ⟨_, rfl, q⟩
/-- a zone more -/
theorem SrvA.hold {F : List Addr} {H : Hp} {gs : GS} {s : Dn01.Server} (ok : COk c) (x : SrvA c F H gs s) {ha za : Addr} {y : Dn01.Held} (hy : HolA c F H (ha, za) y) (hn : ∀ q ∈ gs.hs, q.1.1 ≠ ha ∧ q.1.2 ≠ za) :
    SrvA c F (upd H gs.d (.dT (hkv gs.hs ++ [(keyOf y.zone.apex, .ref ha)]))) { gs with hs := gs.hs ++ [((ha, za), y)] } { s with zones := s.zones ++ [y] } := by
  have kp : Kp [gs.d] H (upd H gs.d (.dT (hkv gs.hs ++ [(keyOf y.zone.apex, .ref ha)]))) := Kp.put (by simp)
  have im : Imm c F H _ := (x.frm ok kp fun z m => by rw [List.mem_singleton.mp m]; simp [GS.foot]).imm ok
  have nd : ∀ {C : Addr} {a : Addr} {fs}, At C H a fs → a ∉ [gs.d] := fun ⟨dx, e⟩ m => by
    rw [List.mem_singleton.mp m, x.dict] at e
    cases e
  have hk : ∀ {q : Addr × Addr} {z : Dn01.Held}, HolA c F H q z → HolA c F (upd H gs.d (.dT (hkv gs.hs ++ [(keyOf y.zone.apex, .ref ha)]))) q z := fun hq => by
    obtain ⟨sv, h1, h2, h3⟩ := id hq
    obtain ⟨pa, ra, ca, z1, _⟩ := id h3
    exact hq.kp im kp (nd h1) (nd z1)
  refine ⟨x.at_.kp kp (nd x.at_), ?_, fun q m => ?_, ?_, fun i j a b e1 e2 hij => ?_⟩
  · rw [upd_same]
    unfold hkv
    rw [List.map_append]
    rfl
  · rcases List.mem_append.mp m with m | m
    · exact hk (x.held q m)
    · rw [List.mem_singleton.mp m]
      exact hk hy
  · show (gs.hs ++ [((ha, za), y)]).map (·.2) = _
    rw [List.map_append, x.zones]
    rfl
  · have key : ∀ {i : Nat} {a}, (gs.hs ++ [((ha, za), y)])[i]? = some a → (gs.hs[i]? = some a) ∨ (i = gs.hs.length ∧ a = ((ha, za), y)) := by
      intro i a e
      rw [List.getElem?_append] at e
      split at e
      · exact .inl e
      · rename_i hi
        have : i = gs.hs.length := by
          have := (List.getElem?_eq_some_iff.mp e).1
          simp only [List.length_singleton] at this
          omega
        subst this
        rw [Nat.sub_self] at e
        exact .inr ⟨rfl, by cases e; rfl⟩
    rcases key e1 with e1 | ⟨hi, rfl⟩
    · rcases key e2 with e2 | ⟨hj, rfl⟩
      · exact x.apart i j a b e1 e2 hij
      · exact hn a (List.mem_of_getElem? e1)
    · rcases key e2 with e2 | ⟨hj, rfl⟩
      · have := hn b (List.mem_of_getElem? e2)
        exact ⟨Ne.symm this.1, Ne.symm this.2⟩
      · exact absurd (hi.trans hj.symm) hij
theorem SrvA.fresh {F : List Addr} {H : Hp} {gs : GS} {s : Dn01.Server} (x : SrvA c F H gs s) {a : Addr} (h : H a = none) : a ∉ gs.foot := fun m => by
  obtain ⟨o, e, _⟩ := x.kind a m
  rw [h] at e
  cases e
theorem foot_hs {gs : GS} {q : (Addr × Addr) × Dn01.Held} (m : q ∈ gs.hs) : q.1.1 ∈ gs.foot ∧ q.1.2 ∈ gs.foot := by
  simp only [GS.foot, List.mem_cons, List.mem_flatMap, List.not_mem_nil, or_false]
  exact ⟨.inr (.inr ⟨q, m, .inl rfl⟩), .inr (.inr ⟨q, m, .inr rfl⟩)⟩
theorem NetA.num {F : List Addr} {H : Hp} {g : GN} {h : Dn01.House} {dn : Addr} (ok : COk c) (x : NetA P w c F H g h) (e : H g.n = some (.ins c.cnet dn (netF (nv h.now) (.ref g.sl) (.ref g.cl) (.ref g.ra) (nv h.made)))) (t m : Nat) :
    NetA P w c F (upd H g.n (.ins c.cnet dn (netF (nv t) (.ref g.sl) (.ref g.cl) (.ref g.ra) (nv m)))) g { h with now := t, made := m } ∧ Frm c H (upd H g.n (.ins c.cnet dn (netF (nv t) (.ref g.sl) (.ref g.cl) (.ref g.ra) (nv m)))) := by
  have n := ok.all
  have kp : Kp [g.n] H (upd H g.n (.ins c.cnet dn (netF (nv t) (.ref g.sl) (.ref g.cl) (.ref g.ra) (nv m)))) := Kp.put (by simp)
  have fr : Frm c H _ := FrmX.kp kp fun y hy o e' _ f => by
    rw [List.mem_singleton.mp hy, e] at e'
    cases e'
    exact f.elim (fun z => z n.net.2.2) n.net.1
  have im : Imm c F H _ := fr.imm ok
  refine ⟨⟨⟨dn, upd_same⟩, x.slF, x.clF, fr.lst x.sl, fr.lst x.cl, x.roots.imm im, x.slen, fun j a b e1 e2 => (x.srv j a b e1 e2).kp im kp fun y m1 m2 => ?_, x.clen, fun j a b e1 e2 => (x.cas j a b e1 e2).kp im kp fun y m1 m2 => ?_, x.aps, x.apc⟩, fr⟩
  · obtain ⟨o, e3, k⟩ := (x.srv j a b e1 e2).kind y m1
    rw [List.mem_singleton.mp m2, e] at e3
    cases e3
    rcases k with k | k | k
    · exact n.srv.2.1 k.symm
    · exact n.hol.2.1 k.symm
    · exact n.zon.2.1 k.symm
  · obtain ⟨o, e3, k⟩ := (x.cas j a b e1 e2).kind y m1
    rw [List.mem_singleton.mp m2, e] at e3
    cases e3
    exact n.cac.1 k.symm
theorem kp_new2 {H0 H1 : Hp} {x dx C : Addr} (hx : H0 x = none) (hd : H0 dx = none) (k : Kp [x] (upd (upd H0 dx (.own x)) x (.ins C dx [])) H1) : Same H0 H1 := fun b o e => by
  have n1 := ne_of_none e hx
  have n2 := ne_of_none e hd
  exact k b o (by rw [upd_ne n1, upd_ne n2]; exact e) (by simpa using n1)
theorem new_none {H0 : Hp} {x dx r : Addr} {C : Addr} (ne : dx ≠ x) (h : (upd (upd H0 dx (.own x)) x (.ins C dx [])) r = none) : H0 r = none := by
  have n1 : r ≠ x := fun z => by rw [z, upd_same] at h; cases h
  rw [upd_ne n1] at h
  have n2 : r ≠ dx := fun z => by rw [z, upd_same] at h; cases h
  rw [upd_ne n2] at h
  exact h
def heldNew (h : Dn01.House) (l : Nat) (a : List Nat) : Dn01.Held := ⟨⟨h.made, a, 1, l, [], []⟩, none, 0, 0⟩
def sp_make_zone (P : Program) (w : World) (c : Cs) : Sp := fun vs H Q _ => ∃ F g h s l b a x, vs = [.ref g.n, nv s, nv l, .ref b] ∧ NetA P w c F H g h ∧ FOk F H ∧ TN H b a ∧ h.servers[s]? = some x ∧ x.held a = none ∧ x.zones.length < 900 ∧
  ∀ H' g', Frm c H H' → g'.n = g.n → NetA P w c F H' g' { h with servers := h.servers.set s { x with zones := x.zones ++ [heldNew h l a] }, made := h.made + 1 } → Q .non H'
theorem ok_Net_make_zone {f : Addr} {fd : FuncData} (F : Fun K "make_zone" "Net.make_zone" s_Net_make_zone f fd) (T : Txt K mg c) (cok : COk c) (d_Zone_init : CFn P w K mg base 1 c.czon "Zone" ["self", "identity", "apex", "life"] (sp_zon_init c)) (d_Server_hold : MFn P w K mg base 1 c.csrv "hold" ["self", "holding"] (sp_hold c)) (d_Holding_init : CFn P w K mg base 1 c.chol "Holding" ["self", "zone", "origin", "good", "since"] (spIni c.chol 4 holI)) : FnOk P w K mg base CX0 3 f fd ["self", "server", "life", "apex"] (sp_make_zone P w c) := by
  refine F.ok sc_Net_make_zone (fun vs H Q E h => ?_) (fun cdv A outer s H vs Q E hr h => ?_)
  · obtain ⟨F, g, h, s, l, b, a, x, rfl, _⟩ := h
    rfl
  · refine ⟨_, (pss_cons (kfa (pv 0) pe_int in_add T.cl_net T.n_net_zones_made)
      (pss_cons (ps_set (i := 4) sc_Net_make_zone.nd rfl (Or.inl rfl) (kc d_Zone_init (hr.mono (by decide)) (pa_cons (kf (pv 0) T.cl_net T.n_net_zones_made) (pa_cons (pv 3) (pa_cons (pv 2) pa_nil)))))
      (pss_one (ps_expr (km (pe_ix ix_list (kf (pv 0) T.cl_net T.n_net_servers) (pv 1) (fun _ _ => rfl)) d_Server_hold (hr.mono (by decide)) (pa_cons (kc d_Holding_init (hr.mono (by decide)) (pa_cons (pv 4) (pa_cons pe_non (pa_cons pe_int (pa_cons (kf (pv 0) T.cl_net T.n_net_now) pa_nil))))) pa_nil)))))), ?_⟩
    obtain ⟨F, g, h, s', l, b, a, x, rfl, nt, fo, hb, hx, hn, xl, q⟩ := h
    obtain ⟨dn, n1⟩ := nt.at_
    have hF := fo
    refine ⟨_, rfl, g.n, dn, _, _, rfl, n1, lk_net_zones_made, _, _, rfl, rfl, dn, _, n1, (by show 5 < 1000; decide), ?_⟩
    rw [put_net_zones_made]
    obtain ⟨nt1, fr1⟩ := nt.num cok n1 h.now (h.made + 1)
    have hb1 : TN (upd H g.n (.ins c.cnet dn (netF (nv h.now) (.ref g.sl) (.ref g.cl) (.ref g.ra) (nv (h.made + 1))))) b a := TN.imm (F := []) (fr1.imm cok) hb
    have fo1 := fr1.fok fo
    obtain ⟨H1, eH1⟩ : ∃ H1, H1 = upd H g.n (.ins c.cnet dn (netF (nv h.now) (.ref g.sl) (.ref g.cl) (.ref g.ra) (nv (h.made + 1)))) := ⟨_, rfl⟩
    have n2 : H1 g.n = some (.ins c.cnet dn (netF (nv h.now) (.ref g.sl) (.ref g.cl) (.ref g.ra) (nv (h.made + 1)))) := by rw [eH1, upd_same]
    refine abs_heap eH1 ?_
    rw [← eH1] at nt1 fr1 hb1 fo1
    refine ⟨_, rfl, g.n, dn, _, _, rfl, n2, lk_net_zones_made, _, rfl, _, rfl, fun za dz hza hdz ne => ⟨za, dz, _, _, _, rfl, upd_same, fun H2 r q2 kp hr hq ⟨dz2, hat⟩ hr2 hq2 => ⟨rfl, ?_⟩⟩⟩
    have s2 : Same H1 H2 := kp_new2 hza hdz kp
    have hz : ZonA c F H2 za ⟨h.made, a, 1, l, [], []⟩ := ⟨b, r, q2, ⟨dz2, hat⟩, hb1.same s2, ⟨fo1.new (new_none ne hr), [], rfl, hr2, fun p hp => nomatch hp⟩, fo1.new (new_none ne hq), [], rfl, hq2, fun p hp => nomatch hp⟩
    obtain ⟨gs, hgs, sx⟩ := nt1.srvAt (s := x) hx
    have sx2 := sx.same s2
    obtain ⟨dv, v1⟩ := id sx2.at_
    obtain ⟨a1, a2⟩ := (nt1.same s2).atS (K := K) hgs
    refine ⟨_, rfl, g.n, dn, _, _, rfl, s2 _ _ n2, lk_net_servers, _, rfl, g.sl, _, s', .ref gs.a, rfl, rfl, a1, a2, gs.a, dv, _, rfl, v1, no_srv_hold, _, rfl, _, rfl, g.n, dn, _, _, rfl, s2 _ _ n2, lk_net_now, ?_⟩
    intro ha dh hha hdh neh
    refine ⟨ha, dh, [.ref za, .non, .int 0, nv h.now], rfl, rfl, upd_same, rfl, ?_⟩
    have s3 := made_same (C := c.chol) (fs := holF (.ref za) .non (.int 0) (nv h.now)) hha hdh neh
    have hh : upd (upd (upd H2 dh (.own ha)) ha (.ins c.chol dh [])) ha (.ins c.chol dh (holF (.ref za) .non (.int 0) (nv h.now))) ha = some (.ins c.chol dh (holF (.ref za) .non (.int 0) (nv h.now))) := upd_same
    obtain ⟨H3, eH3⟩ : ∃ H3, H3 = upd (upd (upd H2 dh (.own ha)) ha (.ins c.chol dh [])) ha (.ins c.chol dh (holF (.ref za) .non (.int 0) (nv h.now))) := ⟨_, rfl⟩
    refine abs_heap eH3 ?_
    rw [← eH3] at s3 hh
    have s13 := s2.trans s3
    have sx3 := sx.same s13
    have fa : H1 ha = none := same_none s2 hha
    have hol : HolA c F H3 (ha, za) (heldNew h l a) := ⟨nv h.now, ⟨dh, hh⟩, fun z => absurd rfl z, hz.same s3⟩
    have hlk : lookH gs.hs a = none := by
      have := held_look sx.zones a
      rw [hn] at this
      exact Option.map_eq_none_iff.mp this.symm
    have gl : gs.hs.length < 1000 := by
      rw [← List.length_map (f := fun q : (Addr × Addr) × Dn01.Held => q.2), sx.zones]
      omega
    refine ⟨gs.a, gs.d, ha, gs.hs, ⟨h.made, a, 1, l, [], []⟩, rfl, sx3.r, ⟨za, _, _, _, F, ⟨dh, hh⟩, hz.same s3⟩, hlk, gl, ?_⟩
    have hs4 := SrvA.hold cok sx3 hol fun y m => ⟨fun z => sx.fresh fa (by rw [← z]; exact (foot_hs m).1), fun z => sx.fresh hza (by rw [← z]; exact (foot_hs m).2)⟩
    have kp4 : Kp [gs.d] H1 (upd H3 gs.d (.dT (hkv gs.hs ++ [(keyOf a, .ref ha)]))) := (Same.kp _ s13).trans (Kp.put (by simp))
    have hL : ∀ y ∈ [gs.d], y ∈ gs.foot := fun y m => by rw [List.mem_singleton.mp m]; simp [GS.foot]
    refine q _ { g with srv := g.srv.set s' { gs with hs := gs.hs ++ [((ha, za), heldNew h l a)] } } (fr1.trans (sx.frm cok kp4 hL)) rfl (nt1.srvS cok (gs' := { gs with hs := gs.hs ++ [((ha, za), heldNew h l a)] }) hgs hx kp4 hL rfl (fun y m => ?_) hs4)
    simp only [GS.foot, List.mem_cons, List.flatMap_append, List.mem_append, List.flatMap_cons, List.flatMap_nil, List.not_mem_nil, or_false, List.append_nil] at m ⊢
    rcases m with m | m | m | m | m
    · exact .inl (.inl m)
    · exact .inl (.inr (.inl m))
    · exact .inl (.inr (.inr m))
    · exact .inr (by rw [m]; exact fa)
    · exact .inr (by rw [m]; exact hza)
end
end Nn


namespace Nn
open PySem PySem.Spec PyProof.Rows L2
section
variable {P : Program} {w : World} {K : PySem.W.Frag} {mg : Str → Option Value} {base : Heap} {c : Cs}
structure HOk (h : Dn01.House) : Prop where
  fit : HFit h
  frm : ∀ s ∈ h.servers, ∀ z ∈ s.zones, ∀ f, z.from_ = some f → f < h.servers.length
  zn : ∀ s ∈ h.servers, s.zones.length < 900
  lg : ∀ s ∈ h.servers, ∀ z ∈ s.zones, z.zone.log.length < 900
  fg : ∀ fs ∈ h.caches, (∀ f ∈ fs, FGood h.servers.length f) ∧ fs.length + 40 < 100000
theorem set_at {α : Type} {l : List α} {i : Nat} {a b : α} (e : l[i]? = some a) : (l.set i b)[i]? = some b := by
  rw [List.getElem?_set, if_pos rfl, if_pos (at_lt e)]
theorem SrvA.len {F : List Addr} {H : Hp} {gs : GS} {s : Dn01.Server} (x : SrvA c F H gs s) : gs.hs.length = s.zones.length := by
  rw [← x.zones, List.length_map]
theorem gt_dec (a : Nat) (b : Nat) : decide ((b : Int) < (a : Int)) = decide (b < a) := nat_lt_dec b a
def sp_answer_zone (P : Program) (w : World) (c : Cs) : Sp := fun vs H Q _ => ∃ F g h s l b a, vs = [.ref g.n, nv s, nv l, .ref b] ∧ NetA P w c F H g h ∧ FOk F H ∧ HOk h ∧ TN H b a ∧ AnsQ P w c F H g (h.step (.zone s l a)) Q
theorem ok_answer_zone {f : Addr} {fd : FuncData} (F : Fun K "answer_zone" "answer_zone" s_answer_zone f fd) (T : Txt K mg c) (cok : COk c) (d_Net_has_server : MFn P w K mg base 1 c.cnet "has_server" ["self", "server"] (sp_has_server P w c)) (d_is_name : GFn P w K mg base 1 "is_name" ["row"] sp_is_name) (d_Server_has_zone : MFn P w K mg base 1 c.csrv "has_zone" ["self", "apex"] (sp_has_zone c)) (d_Net_make_zone : MFn P w K mg base 3 c.cnet "make_zone" ["self", "server", "life", "apex"] (sp_make_zone P w c)) (d_Server_zone_count : MFn P w K mg base 1 c.csrv "zone_count" ["self"] (sp_zone_count c)) : FnOk P w K mg base CX0 4 f fd ["net", "server", "life", "apex"] (sp_answer_zone P w c) := by
  refine F.ok sc_answer_zone (fun vs H Q E h => ?_) (fun cdv A outer s H vs Q E hr h => ?_)
  · obtain ⟨F, g, h, s, l, b, a, rfl, _⟩ := h
    rfl
  · refine ⟨_, (pss_cons (ps_if (pt_not (pt_val (km (pv 0) d_Net_has_server (hr.mono (by decide)) (pa_cons (pv 1) pa_nil)))) (pss_one (ps_ret (pe_lst (pa_cons (pe_un un_neg pe_int) pa_nil)))) pss_nil)
      (pss_cons (ps_if (PW.pt (pw_or (pt_not (pt_val (kg d_is_name (hr.mono (by decide)) (pa_cons (pv 3) pa_nil)))) (pw_or1 (pt_cmpR op_gt (pv 2) (kn T.k_LONGEST_LIFE) (nomark _))))) (pss_one (ps_ret (pe_lst (pa_cons (pe_un un_neg pe_int) pa_nil)))) pss_nil)
      (pss_cons (ps_if (pt_val (km (pe_ix ix_list (kf (pv 0) T.cl_net T.n_net_servers) (pv 1) (fun _ _ => rfl)) d_Server_has_zone (hr.mono (by decide)) (pa_cons (pv 3) pa_nil))) (pss_one (ps_ret (pe_lst (pa_cons (pe_un un_neg pe_int) pa_nil)))) pss_nil)
      (pss_cons (ps_expr (km (pv 0) d_Net_make_zone (hr.mono (by decide)) (pa_cons (pv 1) (pa_cons (pv 2) (pa_cons (pv 3) pa_nil)))))
      (pss_one (ps_ret (pe_lst (pa_cons (km0 (pe_ix ix_list (kf (pv 0) T.cl_net T.n_net_servers) (pv 1) (fun _ _ => rfl)) d_Server_zone_count (hr.mono (by decide))) pa_nil)))))))), ?_⟩
    obtain ⟨F, g, h, s', l, b, a, rfl, nt, fo, hk, hb, q⟩ := h
    obtain ⟨dn, n1⟩ := nt.at_
    have one : ∀ H1 : Hp, Same H H1 → NetA P w c F H1 g h := fun H1 s1 => nt.same s1
    refine ⟨_, rfl, g.n, dn, _, rfl, n1, no_net_has_server, _, rfl, F, g, h, s', rfl, nt, _, rfl, ite_b (fun e => ?_) fun e => ?_⟩
    · rw [Bool.not_eq_true', decide_eq_false_iff_not] at e
      have es : h.step (.zone s' l a) = (h, Dn01.says (-2)) := by simp only [Dn01.House.step, none_ge e]
      rw [es] at q
      exact ⟨_, rfl, (by show 1 ≤ sizeLine; decide), q.put fo FrmX.refl rfl nt rfl⟩
    rw [Bool.not_eq_false', decide_eq_true_eq] at e
    obtain ⟨x, ex⟩ := lt_at e
    have xm := List.mem_of_getElem? ex
    refine ⟨_, rfl, b, a, rfl, hb, fun H1 s1 => ⟨_, rfl, ?_⟩⟩
    cases e1 : Dn01.isName a with
    | false =>
      have es : h.step (.zone s' l a) = (h, Dn01.says (-1)) := by simp only [Dn01.House.step, ex, e1, true_or, if_true]
      rw [es] at q
      exact iteT (iteT ⟨_, rfl, (by show 1 ≤ sizeLine; decide), q.put fo (FrmX.same s1) rfl (nt.same s1) rfl⟩)
    | true =>
      refine iteF ⟨_, rfl, _, _, rfl, rfl, _, rfl, ite_b (fun e2 => ?_) fun e2 => ?_⟩
      · have e2 : 100000 < l := by
          have := of_decide_eq_true e2
          omega
        have es : h.step (.zone s' l a) = (h, Dn01.says (-1)) := by simp only [Dn01.House.step, ex, Dn01.LIFE, e2, or_true, if_true]
        rw [es] at q
        exact ⟨_, rfl, (by show 1 ≤ sizeLine; decide), q.put fo (FrmX.same s1) rfl (nt.same s1) rfl⟩
      have e2 : ¬ 100000 < l := by
        have := of_decide_eq_false e2
        omega
      have nt1 := nt.same s1
      obtain ⟨gs, hgs, sy⟩ := nt1.srvAt ex
      obtain ⟨dv, v1⟩ := id sy.at_
      obtain ⟨a1, a2⟩ := nt1.atS (K := K) hgs
      have hh := held_look sy.zones a
      refine ⟨_, rfl, g.n, dn, _, _, rfl, s1 _ _ n1, lk_net_servers, _, rfl, g.sl, _, s', .ref gs.a, rfl, rfl, a1, a2, gs.a, dv, _, rfl, v1, no_srv_has_zone, _, rfl, gs.a, gs.d, b, gs.hs, a, rfl, sy.r, hb.same s1, _, rfl, ite_b (fun e3 => ?_) fun e3 => ?_⟩
      · have e4 : (x.held a).isSome = true := by rw [hh, Option.isSome_map, e3]
        have es : h.step (.zone s' l a) = (h, Dn01.says (-4)) := by simp only [Dn01.House.step, ex, Dn01.LIFE, e1, e2, e4, Bool.true_eq_false, or_self, if_false, if_true]
        rw [es] at q
        exact ⟨_, rfl, (by show 1 ≤ sizeLine; decide), q.put fo (FrmX.same s1) rfl nt1 rfl⟩
      have e4 : x.held a = none := by
        rw [Option.isSome_eq_false_iff, Option.isNone_iff_eq_none] at e3
        rw [hh, e3]
        rfl
      have es : h.step (.zone s' l a) = ({ h with servers := h.servers.set s' { x with zones := x.zones ++ [heldNew h l a] }, made := h.made + 1 }, Dn01.says (x.zones.length + 1 : Nat)) := by
        simp only [Dn01.House.step, ex, Dn01.LIFE, e1, e2, e4, Bool.true_eq_false, or_self, if_false, Option.isSome_none, Bool.false_eq_true, Dn01.House.onServer, modify_set ex]
        rfl
      rw [es] at q
      refine ⟨_, rfl, g.n, dn, _, rfl, s1 _ _ n1, no_net_make_zone, _, rfl, _, rfl, _, rfl, F, g, h, s', l, b, a, x, rfl, nt1, fo.same s1, hb.same s1, ex, e4, hk.zn x xm, fun H2 g2 fr2 gn2 nt2 => ?_⟩
      obtain ⟨dn2, n2⟩ := nt2.at_
      rw [gn2] at n2
      obtain ⟨gs2, hgs2, sy2⟩ := nt2.srvAt (i := s') (s := { x with zones := x.zones ++ [heldNew h l a] }) (set_at ex)
      obtain ⟨dv2, v2⟩ := id sy2.at_
      obtain ⟨a3, a4⟩ := nt2.atS (K := K) hgs2
      refine ⟨_, rfl, g.n, dn2, _, _, rfl, n2, lk_net_servers, _, rfl, g2.sl, _, s', .ref gs2.a, rfl, rfl, a3, a4, gs2.a, dv2, _, rfl, v2, no_srv_zone_count, gs2.a, gs2.d, gs2.hs, rfl, sy2.r, (by show 1 ≤ sizeLine; decide), q.put fo ((FrmX.same s1).trans fr2) gn2 nt2 ?_⟩
      rw [sy2.len]
      show [V.int ((x.zones.length + 1 : Nat) : Int)] = [nv (x.zones ++ [heldNew h l a]).length]
      rw [List.length_append]
      rfl
end
end Nn


namespace Nn
open PySem PySem.Spec PyProof.Rows L2
theorem drop_len : ∀ {l : List Dn01.Held} {z : Dn01.Held}, (l.map fun x => x.zone.apex).Nodup → z ∈ l → (l.filter fun x => x.zone.apex != z.zone.apex).length = l.length - 1
  | a :: r, z, u, m => by
    rw [List.map_cons, List.nodup_cons] at u
    by_cases e : a.zone.apex = z.zone.apex
    · rw [List.filter_cons_of_neg (by simp [e]), List.filter_eq_self.mpr fun x hx => ?_]
      · rfl
      · simp only [bne_iff_ne, ne_eq]
        exact fun z2 => u.1 (List.mem_map.mpr ⟨x, hx, by rw [z2, e]⟩)
    · rcases List.mem_cons.mp m with rfl | m
      · exact absurd rfl e
      · rw [List.filter_cons_of_pos (by simp [e]), List.length_cons, drop_len u.2 m]
        have := List.length_pos_of_mem m
        simp only [List.length_cons]
        omega
  | [], z, u, m => nomatch m
theorem apart_pw {hs : List ((Addr × Addr) × Dn01.Held)} : (∀ (i j : Nat) h k, hs[i]? = some h → hs[j]? = some k → i ≠ j → h.1.1 ≠ k.1.1 ∧ h.1.2 ≠ k.1.2) ↔ hs.Pairwise fun h k => h.1.1 ≠ k.1.1 ∧ h.1.2 ≠ k.1.2 := by
  rw [List.pairwise_iff_getElem]
  refine ⟨fun h i j hi hj hij => h i j _ _ (List.getElem?_eq_getElem hi) (List.getElem?_eq_getElem hj) (by omega), fun h i j a b e1 e2 hn => ?_⟩
  obtain ⟨hi, rfl⟩ := List.getElem?_eq_some_iff.mp e1
  obtain ⟨hj, rfl⟩ := List.getElem?_eq_some_iff.mp e2
  rcases Nat.lt_or_gt_of_ne hn with hl | hl
  · exact h i j hi hj hl
  · have := h j i hj hi hl
    exact ⟨Ne.symm this.1, Ne.symm this.2⟩
section
variable {P : Program} {w : World} {K : PySem.W.Frag} {mg : Str → Option Value} {base : Heap} {c : Cs}
theorem SrvA.notd {F : List Addr} {H : Hp} {gs : GS} {s : Dn01.Server} (x : SrvA c F H gs s) {C a : Addr} {fs : List (Str × V)} (h : At C H a fs) : a ∉ [gs.d] := fun m => by
  obtain ⟨dx, e⟩ := h
  rw [List.mem_singleton.mp m, x.dict] at e
  cases e
theorem SrvA.drop {F : List Addr} {H : Hp} {gs : GS} {s : Dn01.Server} (ok : COk c) (x : SrvA c F H gs s) (l : List Nat) :
    SrvA c F (upd H gs.d (.dT (hkv (gs.hs.filter fun h => h.2.zone.apex != l)))) { gs with hs := gs.hs.filter fun h => h.2.zone.apex != l } { s with zones := s.zones.filter fun z => z.zone.apex != l } := by
  have kp : Kp [gs.d] H (upd H gs.d (.dT (hkv (gs.hs.filter fun h => h.2.zone.apex != l)))) := Kp.put (by simp)
  have im : Imm c F H _ := (x.frm ok kp fun z m => by rw [List.mem_singleton.mp m]; simp [GS.foot]).imm ok
  refine ⟨x.at_.kp kp (x.notd x.at_), upd_same, fun q m => ?_, ?_, apart_pw.mpr ((apart_pw.mp x.apart).sublist List.filter_sublist)⟩
  · have hq := x.held q (List.mem_filter.mp m).1
    obtain ⟨sv, h1, h2, h3⟩ := id hq
    obtain ⟨pa, ra, ca, z1, _⟩ := id h3
    exact hq.kp im kp (x.notd h1) (x.notd z1)
  · show (gs.hs.filter fun h => h.2.zone.apex != l).map (·.2) = _
    rw [← x.zones, List.filter_map]
    rfl
theorem foot_drop {gs : GS} {p : (Addr × Addr) × Dn01.Held → Bool} {y : Addr} (m : y ∈ ({ gs with hs := gs.hs.filter p } : GS).foot) : y ∈ gs.foot := by
  simp only [GS.foot, List.mem_cons, List.mem_flatMap, List.not_mem_nil, or_false] at m ⊢
  rcases m with m | m | ⟨q, hq, e⟩
  · exact .inl m
  · exact .inr (.inl m)
  · exact .inr (.inr ⟨q, (List.mem_filter.mp hq).1, e⟩)
theorem server_at {h : Dn01.House} {s : Nat} {x : Dn01.Server} (e : h.servers[s]? = some x) : h.server s = x := by
  unfold Dn01.House.server
  rw [e]
  rfl
theorem held_mem {x : Dn01.Server} {l : List Nat} {z : Dn01.Held} (e : x.held l = some z) : z ∈ x.zones ∧ z.zone.apex = l := ⟨List.mem_of_find?_eq_some e, by simpa using List.find?_some e⟩
def sp_answer_drop (P : Program) (w : World) (c : Cs) : Sp := fun vs H Q _ => ∃ F g h s b a, vs = [.ref g.n, nv s, .ref b] ∧ NetA P w c F H g h ∧ FOk F H ∧ HOk h ∧ TN H b a ∧ AnsQ P w c F H g (h.step (.drop s a)) Q
theorem ok_answer_drop {f : Addr} {fd : FuncData} (F : Fun K "answer_drop" "answer_drop" s_answer_drop f fd) (T : Txt K mg c) (cok : COk c) (d_refusal_of_zone : GFn P w K mg base 2 "refusal_of_zone" ["net", "server", "apex"] (sp_ref_zone P w c)) (d_Server_let_go : MFn P w K mg base 1 c.csrv "let_go" ["self", "apex"] (sp_let_go c)) (d_Server_zone_count : MFn P w K mg base 1 c.csrv "zone_count" ["self"] (sp_zone_count c)) : FnOk P w K mg base CX0 3 f fd ["net", "server", "apex"] (sp_answer_drop P w c) := by
  refine F.ok sc_answer_drop (fun vs H Q E h => ?_) (fun cdv A outer s H vs Q E hr h => ?_)
  · obtain ⟨F, g, h, s, b, a, rfl, _⟩ := h
    rfl
  · refine ⟨_, (pss_cons (ps_set (i := 3) sc_answer_drop.nd rfl (Or.inl rfl) (kg d_refusal_of_zone (hr.mono (by decide)) (pa_cons (pv 0) (pa_cons (pv 1) (pa_cons (pv 2) pa_nil)))))
      (pss_cons (ps_if (pt_cmpR op_lt (pv 3) pe_int (nomark _)) (pss_one (ps_ret (pe_lst (pa_cons (pv 3) pa_nil)))) pss_nil)
      (pss_cons (ps_expr (km (pe_ix ix_list (kf (pv 0) T.cl_net T.n_net_servers) (pv 1) (fun _ _ => rfl)) d_Server_let_go (hr.mono (by decide)) (pa_cons (pv 2) pa_nil)))
      (pss_one (ps_ret (pe_lst (pa_cons (km0 (pe_ix ix_list (kf (pv 0) T.cl_net T.n_net_servers) (pv 1) (fun _ _ => rfl)) d_Server_zone_count (hr.mono (by decide))) pa_nil))))))), ?_⟩
    obtain ⟨F, g, h, s', b, a, rfl, nt, fo, hk, hb, q⟩ := h
    obtain ⟨dn, n1⟩ := nt.at_
    refine ⟨_, rfl, _, rfl, _, rfl, F, g, h, s', b, a, rfl, nt, hb, fun e => ?_, fun y e1 e2 => ?_, fun y z e1 e2 => ?_⟩
    · have es : h.step (.drop s' a) = (h, Dn01.says (-2)) := by simp only [Dn01.House.step, Dn01.House.ofZone, e]
      rw [es] at q
      exact ⟨_, rfl, _, _, rfl, rfl, _, rfl, iteT ⟨_, rfl, (by show 1 ≤ sizeLine; decide), q.put fo FrmX.refl rfl nt rfl⟩⟩
    · have es : h.step (.drop s' a) = (h, Dn01.says (-3)) := by simp only [Dn01.House.step, Dn01.House.ofZone, e1, e2]
      rw [es] at q
      exact ⟨_, rfl, _, _, rfl, rfl, _, rfl, iteT ⟨_, rfl, (by show 1 ≤ sizeLine; decide), q.put fo FrmX.refl rfl nt rfl⟩⟩
    have ym := List.mem_of_getElem? e1
    have es : h.step (.drop s' a) = ({ h with servers := h.servers.set s' { y with zones := y.zones.filter fun z => z.zone.apex != a } }, Dn01.says (y.zones.length - 1 : Nat)) := by
      simp only [Dn01.House.step, Dn01.House.ofZone, e1, e2, Dn01.House.onServer, modify_set e1, server_at e1]
    rw [es] at q
    obtain ⟨gs, hgs, sy⟩ := nt.srvAt e1
    obtain ⟨dv, v1⟩ := id sy.at_
    obtain ⟨a1, a2⟩ := nt.atS (K := K) hgs
    have hh := held_look sy.zones a
    rw [e2] at hh
    obtain ⟨hq, ehq, ez⟩ := Option.map_eq_some_iff.mp hh.symm
    refine ⟨_, rfl, _, _, rfl, rfl, _, rfl, iteF ⟨_, rfl, g.n, dn, _, _, rfl, n1, lk_net_servers, _, rfl, g.sl, _, s', .ref gs.a, rfl, rfl, a1, a2, gs.a, dv, _, rfl, v1, no_srv_let_go, _, rfl, gs.a, gs.d, b, gs.hs, a, rfl, sy.r, hb, by rw [ehq]; rfl, ?_⟩⟩
    have kp : Kp [gs.d] H (upd H gs.d (.dT (hkv (gs.hs.filter fun h => h.2.zone.apex != a)))) := Kp.put (by simp)
    have hL : ∀ y ∈ [gs.d], y ∈ gs.foot := fun y m => by rw [List.mem_singleton.mp m]; simp [GS.foot]
    have nt2 := nt.srvS cok (gs' := { gs with hs := gs.hs.filter fun h => h.2.zone.apex != a }) hgs e1 kp hL rfl (fun y m => .inl (foot_drop m)) (sy.drop cok a)
    have fr := sy.frm cok kp hL
    obtain ⟨dn2, n2⟩ := nt2.at_
    obtain ⟨gs2, hgs2, sy2⟩ := nt2.srvAt (i := s') (set_at e1)
    obtain ⟨dv2, v2⟩ := id sy2.at_
    obtain ⟨a3, a4⟩ := nt2.atS (K := K) hgs2
    refine ⟨_, rfl, g.n, dn2, _, _, rfl, n2, lk_net_servers, _, rfl, g.sl, _, s', .ref gs2.a, rfl, rfl, a3, a4, gs2.a, dv2, _, rfl, v2, no_srv_zone_count, gs2.a, gs2.d, gs2.hs, rfl, sy2.r, (by show 1 ≤ sizeLine; decide), q.put (g1 := { g with srv := g.srv.set s' { gs with hs := gs.hs.filter fun h => h.2.zone.apex != a } }) fo fr rfl nt2 ?_⟩
    rw [sy2.len]
    obtain ⟨zm, za⟩ := held_mem e2
    have := drop_len (hk.fit.aps y ym) zm
    rw [za] at this
    show [V.int ((y.zones.length - 1 : Nat) : Int)] = [nv (y.zones.filter fun z => z.zone.apex != a).length]
    rw [this]
    rfl
def copied (h : Dn01.House) (f gd : Nat) (z : Dn01.Held) : Dn01.Held := ⟨z.zone, some f, gd, sinceOf z h.now⟩
def sp_ref_copy (P : Program) (w : World) (c : Cs) : Sp := fun vs H Q _ => ∃ F g h s f gd b a, vs = [.ref g.n, nv s, nv f, nv gd, .ref b] ∧ NetA P w c F H g h ∧ TN H b a ∧ (∀ r : Int, r < 0 → h.step (.copy s f gd a) = (h, Dn01.says r) → Q (.int r) H) ∧
  ∀ x y z, h.servers[s]? = some x → h.servers[f]? = some y → y.held a = some z → x.held a = none → h.step (.copy s f gd a) = ({ h with servers := h.servers.set s { x with zones := x.zones ++ [copied h f gd z] } }, Dn01.says z.zone.serial) → Q (.int 0) H
theorem ok_refusal_of_copy {f : Addr} {fd : FuncData} (F : Fun K "refusal_of_copy" "refusal_of_copy" s_refusal_of_copy f fd) (T : Txt K mg c) (cok : COk c) (d_Net_has_server : MFn P w K mg base 1 c.cnet "has_server" ["self", "server"] (sp_has_server P w c)) (d_refusal_of_zone : GFn P w K mg base 2 "refusal_of_zone" ["net", "server", "apex"] (sp_ref_zone P w c)) (d_Server_has_zone : MFn P w K mg base 1 c.csrv "has_zone" ["self", "apex"] (sp_has_zone c)) (d_Server_can_hand_out : MFn P w K mg base 3 c.csrv "can_hand_out" ["self", "apex", "now"] (sp_can c)) : FnOk P w K mg base CX0 4 f fd ["net", "server", "origin", "good", "apex"] (sp_ref_copy P w c) := by
  refine F.ok sc_refusal_of_copy (fun vs H Q E h => ?_) (fun cdv A outer s H vs Q E hr h => ?_)
  · obtain ⟨F, g, h, s, f, gd, b, a, rfl, _⟩ := h
    rfl
  · refine ⟨_, (pss_cons (ps_if (pt_not (pt_val (km (pv 0) d_Net_has_server (hr.mono (by decide)) (pa_cons (pv 1) pa_nil)))) (pss_one (ps_ret (pe_un un_neg pe_int))) pss_nil)
      (pss_cons (ps_set (i := 5) sc_refusal_of_copy.nd rfl (Or.inl rfl) (kg d_refusal_of_zone (hr.mono (by decide)) (pa_cons (pv 0) (pa_cons (pv 2) (pa_cons (pv 4) pa_nil)))))
      (pss_cons (ps_if (pt_cmpR op_lt (pv 5) pe_int (nomark _)) (pss_one (ps_ret (pv 5))) pss_nil)
      (pss_cons (ps_if (pt_cmpR op_gt (pv 3) (kn T.k_LONGEST_GOOD_zone_calls) (nomark _)) (pss_one (ps_ret (pe_un un_neg pe_int))) pss_nil)
      (pss_cons (ps_if (pt_val (km (pe_ix ix_list (kf (pv 0) T.cl_net T.n_net_servers) (pv 1) (fun _ _ => rfl)) d_Server_has_zone (hr.mono (by decide)) (pa_cons (pv 4) pa_nil))) (pss_one (ps_ret (pe_un un_neg pe_int))) pss_nil)
      (pss_cons (ps_if (pt_not (pt_val (km (pe_ix ix_list (kf (pv 0) T.cl_net T.n_net_servers) (pv 2) (fun _ _ => rfl)) d_Server_can_hand_out (hr.mono (by decide)) (pa_cons (pv 4) (pa_cons (kf (pv 0) T.cl_net T.n_net_now) pa_nil))))) (pss_one (ps_ret (pe_un un_neg pe_int))) pss_nil)
      (pss_one (ps_ret pe_int)))))))), ?_⟩
    obtain ⟨F, g, h, s', f', gd, b, a, rfl, nt, hb, q1, q2⟩ := h
    obtain ⟨dn, n1⟩ := nt.at_
    refine ⟨_, rfl, g.n, dn, _, rfl, n1, no_net_has_server, _, rfl, F, g, h, s', rfl, nt, _, rfl, ite_b (fun e => ?_) fun e => ?_⟩
    · rw [Bool.not_eq_true', decide_eq_false_iff_not] at e
      exact ⟨_, rfl, q1 (-2) (by decide) (by simp only [Dn01.House.step, none_ge e])⟩
    rw [Bool.not_eq_false', decide_eq_true_eq] at e
    obtain ⟨x, ex⟩ := lt_at e
    refine ⟨_, rfl, _, rfl, _, rfl, F, g, h, f', b, a, rfl, nt, hb, fun e => ?_, fun y e1 e2 => ?_, fun y z e1 e2 => ?_⟩
    · exact ⟨_, rfl, _, _, rfl, rfl, _, rfl, iteT ⟨_, rfl, q1 (-2) (by decide) (by simp only [Dn01.House.step, Dn01.House.ofZone, ex, e])⟩⟩
    · exact ⟨_, rfl, _, _, rfl, rfl, _, rfl, iteT ⟨_, rfl, q1 (-3) (by decide) (by simp only [Dn01.House.step, Dn01.House.ofZone, ex, e1, e2])⟩⟩
    refine ⟨_, rfl, _, _, rfl, rfl, _, rfl, iteF ⟨_, rfl, _, _, rfl, rfl, _, rfl, ite_b (fun e3 => ?_) fun e3 => ?_⟩⟩
    · have e3 : 100000 < gd := by
        have := of_decide_eq_true e3
        omega
      exact ⟨_, rfl, q1 (-1) (by decide) (by simp only [Dn01.House.step, Dn01.House.ofZone, ex, e1, e2, Dn01.LIFE, e3, if_true])⟩
    have e3 : ¬ 100000 < gd := by
      have := of_decide_eq_false e3
      omega
    obtain ⟨gs, hgs, sx⟩ := nt.srvAt ex
    obtain ⟨dv, v1⟩ := id sx.at_
    obtain ⟨a1, a2⟩ := nt.atS (K := K) hgs
    have hh := held_look sx.zones a
    refine ⟨_, rfl, g.n, dn, _, _, rfl, n1, lk_net_servers, _, rfl, g.sl, _, s', .ref gs.a, rfl, rfl, a1, a2, gs.a, dv, _, rfl, v1, no_srv_has_zone, _, rfl, gs.a, gs.d, b, gs.hs, a, rfl, sx.r, hb, _, rfl, ite_b (fun e4 => ?_) fun e4 => ?_⟩
    · have e5 : (x.held a).isSome = true := by rw [hh, Option.isSome_map, e4]
      exact ⟨_, rfl, q1 (-4) (by decide) (by simp only [Dn01.House.step, Dn01.House.ofZone, ex, e1, e2, Dn01.LIFE, e3, e5, if_true, if_false])⟩
    have e5 : x.held a = none := by
      rw [Option.isSome_eq_false_iff, Option.isNone_iff_eq_none] at e4
      rw [hh, e4]
      rfl
    obtain ⟨gf, hgf, sf⟩ := nt.srvAt e1
    obtain ⟨df, f1⟩ := id sf.at_
    obtain ⟨a3, a4⟩ := nt.atS (K := K) hgf
    have hf := held_look sf.zones a
    rw [e2] at hf
    obtain ⟨hq, ehq, ez⟩ := Option.map_eq_some_iff.mp hf.symm
    refine ⟨_, rfl, g.n, dn, _, _, rfl, n1, lk_net_servers, _, rfl, g.sl, _, f', .ref gf.a, rfl, rfl, a3, a4, gf.a, df, _, rfl, f1, no_srv_can_hand_out, _, rfl, _, rfl, g.n, dn, _, _, rfl, n1, lk_net_now, b, F, gf, y, a, h.now, rfl, sf, hb, _, rfl, ?_⟩
    rw [ehq]
    have key : (y.up && hq.2.isGood h.now) = (y.up && z.isGood h.now) := by rw [ez]
    refine ite_b (fun e6 => ?_) fun e6 => ?_
    · rw [Bool.not_eq_true'] at e6
      have e6 : (y.up && z.isGood h.now) = false := by rw [← key]; exact e6
      have e7 : y.up = false ∨ z.isGood h.now = false := by
        cases h1 : y.up with
        | false => exact .inl rfl
        | true =>
          rw [h1] at e6
          exact .inr e6
      exact ⟨_, rfl, q1 (-6) (by decide) (by simp only [Dn01.House.step, Dn01.House.ofZone, ex, e1, e2, Dn01.LIFE, e3, e5, e7, server_at e1, if_true, if_false, Option.isSome_none, Bool.false_eq_true])⟩
    · rw [Bool.not_eq_false'] at e6
      have e6 : (y.up && z.isGood h.now) = true := by rw [← key]; exact e6
      have e7 : ¬ (y.up = false ∨ z.isGood h.now = false) := by
        rw [Bool.and_eq_true] at e6
        rw [e6.1, e6.2]
        simp
      refine q2 x y z ex e1 e2 e5 ?_
      simp only [Dn01.House.step, Dn01.House.ofZone, ex, e1, e2, Dn01.LIFE, e3, e5, e7, server_at e1, if_false, Option.isSome_none, Bool.false_eq_true, Dn01.House.onServer, modify_set ex]
      rfl
def sp_answer_copy (P : Program) (w : World) (c : Cs) : Sp := fun vs H Q _ => ∃ F g h s f gd b a, vs = [.ref g.n, nv s, nv f, nv gd, .ref b] ∧ NetA P w c F H g h ∧ FOk F H ∧ HOk h ∧ TN H b a ∧ AnsQ P w c F H g (h.step (.copy s f gd a)) Q
theorem ok_answer_copy {f : Addr} {fd : FuncData} (F : Fun K "answer_copy" "answer_copy" s_answer_copy f fd) (T : Txt K mg c) (cok : COk c) (d_refusal_of_copy : GFn P w K mg base 4 "refusal_of_copy" ["net", "server", "origin", "good", "apex"] (sp_ref_copy P w c)) (d_Server_holding_of : MFn P w K mg base 1 c.csrv "holding_of" ["self", "apex"] (sp_holding_of c)) (d_Holding_since_for_copies : MFn P w K mg base 2 c.chol "since_for_copies" ["self", "now"] (sp_since c)) (d_Server_hold : MFn P w K mg base 1 c.csrv "hold" ["self", "holding"] (sp_hold c)) (d_Holding_init : CFn P w K mg base 1 c.chol "Holding" ["self", "zone", "origin", "good", "since"] (spIni c.chol 4 holI)) (d_Zone_twin : MFn P w K mg base 3 c.czon "twin" ["self"] (sp_twin c)) : FnOk P w K mg base CX0 5 f fd ["net", "server", "origin", "good", "apex"] (sp_answer_copy P w c) := by
  refine F.ok sc_answer_copy (fun vs H Q E h => ?_) (fun cdv A outer s H vs Q E hr h => ?_)
  · obtain ⟨F, g, h, s, f, gd, b, a, rfl, _⟩ := h
    rfl
  · refine ⟨_, (pss_cons (ps_set (i := 5) sc_answer_copy.nd rfl (Or.inl rfl) (kg d_refusal_of_copy (hr.mono (by decide)) (pa_cons (pv 0) (pa_cons (pv 1) (pa_cons (pv 2) (pa_cons (pv 3) (pa_cons (pv 4) pa_nil)))))))
      (pss_cons (ps_if (pt_cmpR op_lt (pv 5) pe_int (nomark _)) (pss_one (ps_ret (pe_lst (pa_cons (pv 5) pa_nil)))) pss_nil)
      (pss_cons (ps_set (i := 6) sc_answer_copy.nd rfl (Or.inl rfl) (km (pe_ix ix_list (kf (pv 0) T.cl_net T.n_net_servers) (pv 2) (fun _ _ => rfl)) d_Server_holding_of (hr.mono (by decide)) (pa_cons (pv 4) pa_nil)))
      (pss_cons (ps_set (i := 7) sc_answer_copy.nd rfl (Or.inl rfl) (km (pv 6) d_Holding_since_for_copies (hr.mono (by decide)) (pa_cons (kf (pv 0) T.cl_net T.n_net_now) pa_nil)))
      (pss_cons (ps_expr (km (pe_ix ix_list (kf (pv 0) T.cl_net T.n_net_servers) (pv 1) (fun _ _ => rfl)) d_Server_hold (hr.mono (by decide)) (pa_cons (kc d_Holding_init (hr.mono (by decide)) (pa_cons (km0 (kf (pv 6) T.cl_hol T.n_hol_zone) d_Zone_twin (hr.mono (by decide))) (pa_cons (pv 2) (pa_cons (pv 3) (pa_cons (pv 7) pa_nil))))) pa_nil)))
      (pss_one (ps_ret (pe_lst (pa_cons (kf (kf (pv 6) T.cl_hol T.n_hol_zone) T.cl_zon T.n_zon_serial) pa_nil))))))))), ?_⟩
    obtain ⟨F, g, h, s', f', gd, b, a, rfl, nt, fo, hk, hb, q⟩ := h
    obtain ⟨dn, n1⟩ := nt.at_
    refine ⟨_, rfl, _, rfl, _, rfl, _, rfl, _, rfl, F, g, h, s', f', gd, b, a, rfl, nt, hb, fun r hr es => ?_, fun x y z ex e1 e2 e5 es => ?_⟩
    · rw [es] at q
      exact ⟨_, rfl, _, _, rfl, rfl, _, rfl, if_t (decide_eq_true hr) ⟨_, rfl, (by show 1 ≤ sizeLine; decide), q.put fo FrmX.refl rfl nt rfl⟩⟩
    rw [es] at q
    have xm := List.mem_of_getElem? ex
    obtain ⟨gs, hgs, sx⟩ := nt.srvAt ex
    obtain ⟨dv, v1⟩ := id sx.at_
    obtain ⟨a1, a2⟩ := nt.atS (K := K) hgs
    obtain ⟨gf, hgf, sf⟩ := nt.srvAt e1
    obtain ⟨df, f1⟩ := id sf.at_
    obtain ⟨a3, a4⟩ := nt.atS (K := K) hgf
    have hf := held_look sf.zones a
    rw [e2] at hf
    obtain ⟨hq, ehq, ez⟩ := Option.map_eq_some_iff.mp hf.symm
    have hol := sf.held hq (lookH_some ehq).1
    rw [ez] at hol
    obtain ⟨sv, ⟨dh, h1⟩, h2, h3⟩ := id hol
    refine ⟨_, rfl, _, _, rfl, rfl, _, rfl, iteF ⟨_, rfl, g.n, dn, _, _, rfl, n1, lk_net_servers, _, rfl, g.sl, _, f', .ref gf.a, rfl, rfl, a3, a4, gf.a, df, _, rfl, f1, no_srv_holding_of, _, rfl, gf.a, gf.d, b, gf.hs, a, rfl, sf.r, hb, ?_⟩⟩
    rw [ehq]
    refine ⟨_, rfl, hq.1.1, dh, _, rfl, h1, no_hol_since_for_copies, _, rfl, g.n, dn, _, _, rfl, n1, lk_net_now, hq.1.1, hq.1.2, F, z, h.now, rfl, hol, ?_⟩
    refine ⟨_, rfl, g.n, dn, _, _, rfl, n1, lk_net_servers, _, rfl, g.sl, _, s', .ref gs.a, rfl, rfl, a1, a2, gs.a, dv, _, rfl, v1, no_srv_hold, ?_⟩
    obtain ⟨pz, rz, cz, ⟨dz, z1⟩, zap, _⟩ := id h3
    refine ⟨_, rfl, hq.1.1, dh, _, _, rfl, h1, lk_hol_zone, hq.1.2, dz, _, rfl, z1, no_zon_twin, hq.1.2, F, z.zone, rfl, fo, h3, fun H2 za s2 hza hz2 => ⟨_, rfl, _, rfl, _, rfl, ?_⟩⟩
    intro ha dh3 hha hdh neh
    refine ⟨ha, dh3, [.ref za, nv f', nv gd, nv (sinceOf z h.now)], rfl, rfl, upd_same, rfl, ?_⟩
    have s3 := made_same (C := c.chol) (fs := holF (.ref za) (nv f') (nv gd) (nv (sinceOf z h.now))) hha hdh neh
    have hh : upd (upd (upd H2 dh3 (.own ha)) ha (.ins c.chol dh3 [])) ha (.ins c.chol dh3 (holF (.ref za) (nv f') (nv gd) (nv (sinceOf z h.now)))) ha = some (.ins c.chol dh3 (holF (.ref za) (nv f') (nv gd) (nv (sinceOf z h.now)))) := upd_same
    obtain ⟨H3, eH3⟩ : ∃ H3, H3 = upd (upd (upd H2 dh3 (.own ha)) ha (.ins c.chol dh3 [])) ha (.ins c.chol dh3 (holF (.ref za) (nv f') (nv gd) (nv (sinceOf z h.now)))) := ⟨_, rfl⟩
    refine abs_heap eH3 ?_
    rw [← eH3] at s3 hh
    have s13 := s2.trans s3
    have sx3 := sx.same s13
    have fa : H ha = none := same_none s2 hha
    have hol3 : HolA c F H3 (ha, za) (copied h f' gd z) := ⟨nv (sinceOf z h.now), ⟨dh3, hh⟩, fun _ => rfl, hz2.same s3⟩
    have hlk : lookH gs.hs z.zone.apex = none := by
      have := held_look sx.zones a
      rw [e5] at this
      rw [(held_mem e2).2]
      exact Option.map_eq_none_iff.mp this.symm
    have gl : gs.hs.length < 1000 := by
      rw [sx.len]
      have := hk.zn x xm
      omega
    refine ⟨gs.a, gs.d, ha, gs.hs, z.zone, rfl, sx3.r, ⟨za, _, _, _, F, ⟨dh3, hh⟩, hz2.same s3⟩, hlk, gl, ?_⟩
    have hs4 := SrvA.hold cok sx3 hol3 fun y m => ⟨fun z => sx.fresh fa (by rw [← z]; exact (foot_hs m).1), fun z => sx.fresh hza (by rw [← z]; exact (foot_hs m).2)⟩
    have kp4 : Kp [gs.d] H (upd H3 gs.d (.dT (hkv gs.hs ++ [(keyOf z.zone.apex, .ref ha)]))) := (Same.kp _ s13).trans (Kp.put (by simp))
    have hL : ∀ y ∈ [gs.d], y ∈ gs.foot := fun y m => by rw [List.mem_singleton.mp m]; simp [GS.foot]
    have fr4 := sx.frm cok kp4 hL
    have nt4 := nt.srvS cok (gs' := { gs with hs := gs.hs ++ [((ha, za), copied h f' gd z)] }) hgs ex kp4 hL rfl (fun y m => by
      simp only [GS.foot, List.mem_cons, List.flatMap_append, List.mem_append, List.flatMap_cons, List.flatMap_nil, List.not_mem_nil, or_false, List.append_nil] at m ⊢
      rcases m with m | m | m | m | m
      · exact .inl (.inl m)
      · exact .inl (.inr (.inl m))
      · exact .inl (.inr (.inr m))
      · exact .inr (by rw [m]; exact fa)
      · exact .inr (by rw [m]; exact hza)) hs4
    refine ⟨_, rfl, hq.1.1, dh, _, _, rfl, kp4 _ _ h1 (sx.notd ⟨dh, h1⟩), lk_hol_zone, hq.1.2, dz, _, _, rfl, kp4 _ _ z1 (sx.notd ⟨dz, z1⟩), lk_zon_serial, (by show 1 ≤ sizeLine; decide), q.put (g1 := { g with srv := g.srv.set s' { gs with hs := gs.hs ++ [((ha, za), copied h f' gd z)] } }) fo fr4 rfl nt4 rfl⟩
end
end Nn


namespace Nn
open PySem PySem.Spec PyProof.Rows L2
theorem map_id_if {l : List Dn01.Held} {a : List Nat} {f : Dn01.Held → Dn01.Held} (h : ∀ z ∈ l, z.zone.apex ≠ a) : (l.map fun z => if z.zone.apex = a then f z else z) = l := by
  refine (List.map_congr_left fun z m => ?_).trans (List.map_id l)
  rw [if_neg (h z m)]
  rfl
theorem map_if_set {a : List Nat} {f : Dn01.Held → Dn01.Held} : ∀ {l : List Dn01.Held} {j : Nat} {y : Dn01.Held}, (l.map fun x => x.zone.apex).Nodup → l[j]? = some y → y.zone.apex = a → (l.map fun z => if z.zone.apex = a then f z else z) = l.set j (f y)
  | x :: l, 0, y, u, e, ha => by
    cases e
    rw [List.map_cons, List.nodup_cons] at u
    rw [List.map_cons, if_pos ha, List.set_cons_zero, map_id_if fun z m z2 => u.1 (List.mem_map.mpr ⟨z, m, by rw [z2, ha]⟩)]
  | x :: l, j + 1, y, u, e, ha => by
    rw [List.map_cons, List.nodup_cons] at u
    have e' : l[j]? = some y := by simpa using e
    have nx : x.zone.apex ≠ a := fun z => u.1 (List.mem_map.mpr ⟨y, List.mem_of_getElem? e', by rw [z, ha]⟩)
    rw [List.map_cons, if_neg nx, List.set_cons_succ, map_if_set u.2 e' ha]
  | [], j, y, u, e, ha => by cases e
theorem find_at {α : Type} {p : α → Bool} : ∀ {l : List α} {y : α}, l.find? p = some y → ∃ j : Nat, l[j]? = some y
  | l, y, e => by
    obtain ⟨j, hj, e⟩ := List.getElem_of_mem (List.mem_of_find?_eq_some e)
    exact ⟨j, by rw [← e]; exact List.getElem?_eq_getElem hj⟩
section
variable {P : Program} {w : World} {K : PySem.W.Frag} {mg : Str → Option Value} {base : Heap} {c : Cs}
theorem HolA.ne (ok : COk c) {F : List Addr} {H : Hp} {q r : Addr × Addr} {x y : Dn01.Held} (hx : HolA c F H q x) (hy : HolA c F H r y) : q.1 ≠ r.2 := fun z => by
  obtain ⟨_, ⟨dx, e1⟩, _⟩ := hx
  obtain ⟨_, _, _, pa, ra, ca, ⟨dz, e2⟩, _⟩ := hy
  rw [z, e2] at e1
  exact ok.all.hz.1 (HO.ins.inj (Option.some.inj e1)).1.symm
theorem SrvA.setZ (ok : COk c) {F L : List Addr} {H H' : Hp} {gs : GS} {s : Dn01.Server} (x : SrvA c F H gs s) {j : Nat} {ha za za' : Addr} {y y' : Dn01.Held} (e : gs.hs[j]? = some ((ha, za), y)) (kp : Kp L H H') (hL : ∀ b ∈ L, b = ha ∨ b = za)
    (new : HolA c F H' (ha, za') y') (hap : y'.zone.apex = y.zone.apex) (hz : za' = za ∨ H za' = none) : SrvA c F H' { gs with hs := gs.hs.set j ((ha, za'), y') } { s with zones := s.zones.set j y' } ∧ (∀ b ∈ L, b ∈ gs.foot) ∧
      ∀ b ∈ ({ gs with hs := gs.hs.set j ((ha, za'), y') } : GS).foot, b ∈ gs.foot ∨ H b = none := by
  have m := List.mem_of_getElem? e
  have hq := x.held _ m
  obtain ⟨sv, ⟨dh, h1⟩, _, pa, ra, ca, ⟨dz, z1⟩, _⟩ := id hq
  have fL : ∀ b ∈ L, b ∈ gs.foot := fun b hb => by
    rcases hL b hb with rfl | rfl
    · exact (foot_hs m).1
    · exact (foot_hs m).2
  have im : Imm c F H H' := (x.frm ok kp fL).imm ok
  have nL : ∀ {b : Addr} {o : HO}, H b = some o → (∀ C d fs, o ≠ .ins C d fs) → b ∉ L := fun eb n hb => by
    rcases hL _ hb with rfl | rfl
    · rw [h1] at eb
      cases eb
      exact n _ _ _ rfl
    · rw [z1] at eb
      cases eb
      exact n _ _ _ rfl
  have hset : ∀ {k : Nat} {a}, (gs.hs.set j ((ha, za'), y'))[k]? = some a → (j = k ∧ a = ((ha, za'), y')) ∨ (j ≠ k ∧ gs.hs[k]? = some a) := fun e => set_cases e
  refine ⟨⟨x.at_.kp kp fun hb => ?_, ?_, fun q hm => ?_, ?_, fun k l a b e1 e2 hn => ?_⟩, fL, fun b hb => ?_⟩
  · obtain ⟨da, a1⟩ := x.at_
    rcases hL _ hb with e3 | e3
    · rw [e3, h1] at a1
      exact ok.all.hz.2.1 (HO.ins.inj (Option.some.inj a1)).1
    · rw [e3, z1] at a1
      exact ok.all.hz.2.2 (HO.ins.inj (Option.some.inj a1)).1.symm
  · rw [kp _ _ x.dict (nL x.dict fun _ _ _ z => nomatch z)]
    unfold hkv
    rw [map_set_same (f := fun h : (Addr × Addr) × Dn01.Held => (keyOf h.2.zone.apex, V.ref h.1.1)) e (by rw [hap])]
  · obtain ⟨k, hk, e3⟩ := List.getElem_of_mem hm
    have e4 : (gs.hs.set j ((ha, za'), y'))[k]? = some q := by rw [← e3]; exact List.getElem?_eq_getElem hk
    rcases hset e4 with ⟨rfl, rfl⟩ | ⟨hjk, e5⟩
    · exact new
    · have hm5 := List.mem_of_getElem? e5
      have h5 := x.held q hm5
      obtain ⟨n1, n2⟩ := x.apart k j q ((ha, za), y) e5 e (Ne.symm hjk)
      refine h5.kp im kp (fun hb => ?_) fun hb => ?_
      · rcases hL _ hb with e6 | e6
        · exact n1 e6
        · exact HolA.ne ok h5 hq e6
      · rcases hL _ hb with e6 | e6
        · exact HolA.ne ok hq h5 e6.symm
        · exact n2 e6
  · show (gs.hs.set j ((ha, za'), y')).map (·.2) = _
    rw [← x.zones, List.map_set]
  · have key : ∀ {k : Nat} {a}, j ≠ k → gs.hs[k]? = some a → a.1.1 ≠ ha ∧ a.1.2 ≠ za' := fun {k a} hjk e5 => by
      obtain ⟨n1, n2⟩ := x.apart k j a ((ha, za), y) e5 e (Ne.symm hjk)
      refine ⟨n1, fun z => ?_⟩
      rcases hz with rfl | hz
      · exact n2 z
      · obtain ⟨_, _, _, pa, ra, ca, ⟨d5, z5⟩, _⟩ := x.held a (List.mem_of_getElem? e5)
        rw [z, hz] at z5
        cases z5
    rcases hset e1 with ⟨rfl, rfl⟩ | ⟨h1', e1'⟩
    · rcases hset e2 with ⟨rfl, rfl⟩ | ⟨h2', e2'⟩
      · exact absurd rfl hn
      · have := key h2' e2'
        exact ⟨Ne.symm this.1, Ne.symm this.2⟩
    · rcases hset e2 with ⟨rfl, rfl⟩ | ⟨h2', e2'⟩
      · exact key h1' e1'
      · exact x.apart k l a b e1' e2' hn
  · simp only [GS.foot, List.mem_cons, List.mem_flatMap, List.not_mem_nil, or_false] at hb
    rcases hb with hb | hb | ⟨q, hm, hb⟩
    · exact .inl (by rw [hb]; simp [GS.foot])
    · exact .inl (by rw [hb]; simp [GS.foot])
    · obtain ⟨k, hk, e3⟩ := List.getElem_of_mem hm
      have e4 : (gs.hs.set j ((ha, za'), y'))[k]? = some q := by rw [← e3]; exact List.getElem?_eq_getElem hk
      rcases hset e4 with ⟨rfl, rfl⟩ | ⟨hjk, e5⟩
      · rcases hb with hb | hb
        · exact .inl (by rw [hb]; exact (foot_hs m).1)
        · rcases hz with hz | hz
          · exact .inl (by rw [hb, hz]; exact (foot_hs m).2)
          · exact .inr (by rw [hb]; exact hz)
      · have hm5 := List.mem_of_getElem? e5
        rcases hb with hb | hb
        · exact .inl (by rw [hb]; exact (foot_hs hm5).1)
        · exact .inl (by rw [hb]; exact (foot_hs hm5).2)
def refR (nS k : Nat) (z : Dn01.Zone) (r : Dn01.Rec) : Int := if recOk nS z.apex r = false then -1 else if (k == 0 || k == z.serial) = false then -7 else if z.mayHave r.name r.sort r.value = false then -8 else if 40 ≤ z.recs.length then -5 else 0
def sp_ref_rec (P : Program) (w : World) (c : Cs) : Sp := fun vs H Q _ => ∃ F g h k za z ra r, vs = [.ref g.n, .ref za, nv k, .ref ra] ∧ NetA P w c F H g h ∧ ZonA c F H za z ∧ RecA c H ra r ∧ ∀ H', Same H H' → Q (.int (refR h.servers.length k z r)) H'
theorem ok_refusal_of_record {f : Addr} {fd : FuncData} (F : Fun K "refusal_of_record" "refusal_of_record" s_refusal_of_record f fd) (T : Txt K mg c) (cok : COk c) (d_is_right_record : GFn P w K mg base 3 "is_right_record" ["record", "apex", "server_count"] (sp_right_rec c)) (d_Zone_is_at : MFn P w K mg base 1 c.czon "is_at" ["self", "serial"] (sp_is_at c)) (d_Zone_may_stand_here : MFn P w K mg base 3 c.czon "may_stand_here" ["self", "record"] (sp_may c)) (d_Zone_is_full : MFn P w K mg base 1 c.czon "is_full" ["self"] (sp_is_full c)) : FnOk P w K mg base CX0 5 f fd ["net", "zone", "serial", "record"] (sp_ref_rec P w c) := by
  refine F.ok sc_refusal_of_record (fun vs H Q E h => ?_) (fun cdv A outer s H vs Q E hr h => ?_)
  · obtain ⟨F, g, h, k, za, z, ra, r, rfl, _⟩ := h
    rfl
  · refine ⟨_, (pss_cons (ps_if (pt_not (pt_val (kg d_is_right_record (hr.mono (by decide)) (pa_cons (pv 3) (pa_cons (kf (pv 1) T.cl_zon T.n_zon_apex) (pa_cons (pe_callB call_len_seq (by rfl) T.f_len PySem.boot_len (pa_cons (kf (pv 0) T.cl_net T.n_net_servers) pa_nil)) pa_nil)))))) (pss_one (ps_ret (pe_un un_neg pe_int))) pss_nil)
      (pss_cons (ps_if (pt_not (pt_val (km (pv 1) d_Zone_is_at (hr.mono (by decide)) (pa_cons (pv 2) pa_nil)))) (pss_one (ps_ret (pe_un un_neg pe_int))) pss_nil)
      (pss_cons (ps_if (pt_not (pt_val (km (pv 1) d_Zone_may_stand_here (hr.mono (by decide)) (pa_cons (pv 3) pa_nil)))) (pss_one (ps_ret (pe_un un_neg pe_int))) pss_nil)
      (pss_cons (ps_if (pt_val (km0 (pv 1) d_Zone_is_full (hr.mono (by decide)))) (pss_one (ps_ret (pe_un un_neg pe_int))) pss_nil)
      (pss_one (ps_ret pe_int)))))), ?_⟩
    obtain ⟨F, g, h, k, za, z, ra, r, rfl, nt, hz, hr, q⟩ := h
    obtain ⟨dn, n1⟩ := nt.at_
    obtain ⟨pa, rr, ca, ⟨dz, z1⟩, hap, _⟩ := id hz
    unfold refR at q
    refine ⟨_, rfl, _, rfl, za, dz, _, _, rfl, z1, lk_zon_apex, _, rfl, g.n, dn, _, _, rfl, n1, lk_net_servers, _, _, rfl, .inl (SqL.of nt.sl), ra, pa, r, z.apex, h.servers.length, by rw [List.length_map, nt.slen]; rfl, hr, hap, fun H1 s1 => ⟨_, rfl, ite_b (fun e1 => ?_) fun e1 => ?_⟩⟩
    · rw [Bool.not_eq_true'] at e1
      rw [if_pos e1] at q
      exact ⟨_, rfl, q H1 s1⟩
    rw [Bool.not_eq_false'] at e1
    rw [if_neg (by rw [e1]; exact fun z => nomatch z)] at q
    refine ⟨_, rfl, za, dz, _, rfl, s1 _ _ z1, no_zon_is_at, _, rfl, za, F, z, k, rfl, hz.same s1, _, rfl, ite_b (fun e2 => ?_) fun e2 => ?_⟩
    · rw [Bool.not_eq_true'] at e2
      rw [if_pos e2] at q
      exact ⟨_, rfl, q H1 s1⟩
    rw [Bool.not_eq_false'] at e2
    rw [if_neg (by rw [e2]; exact fun z => nomatch z)] at q
    refine ⟨_, rfl, za, dz, _, rfl, s1 _ _ z1, no_zon_may_stand_here, _, rfl, za, ra, F, z, r, rfl, hz.same s1, hr.same s1, _, rfl, ite_b (fun e3 => ?_) fun e3 => ?_⟩
    · rw [Bool.not_eq_true'] at e3
      rw [if_pos e3] at q
      exact ⟨_, rfl, q H1 s1⟩
    rw [Bool.not_eq_false'] at e3
    rw [if_neg (by rw [e3]; exact fun z => nomatch z)] at q
    refine ⟨_, rfl, za, dz, _, rfl, s1 _ _ z1, no_zon_is_full, za, F, z, rfl, hz.same s1, _, rfl, ite_b (fun e4 => ?_) fun e4 => ?_⟩
    · rw [if_pos (of_decide_eq_true e4)] at q
      exact ⟨_, rfl, q H1 s1⟩
    · rw [if_neg (of_decide_eq_false e4)] at q
      exact q H1 s1
end
end Nn


namespace Nn
open PySem PySem.Spec PyProof.Rows L2
theorem any_find {α : Type} {p : α → Bool} : ∀ l : List α, l.any p = (l.find? p).isSome
  | [] => rfl
  | a :: l => by
    rw [List.any_cons, List.find?_cons, any_find l]
    cases p a <;> rfl
theorem recOk_iff {h : Dn01.House} {a n v : List Nat} {sort life : Nat} : (Dn01.isOwner n = false ∨ a.isPrefixOf n = false ∨ h.isValue sort v = false ∨ Dn01.LIFE < life) ↔ recOk h.servers.length a ⟨n, sort, v, life⟩ = false := by
  unfold recOk Dn01.LIFE
  rw [isValue_eq]
  cases Dn01.isOwner n <;> cases a.isPrefixOf n <;> cases valOk h.servers.length sort v <;> simp
theorem at_iff {k s : Nat} : (k ≠ 0 ∧ k ≠ s) ↔ (k == 0 || k == s) = false := by
  simp
theorem step_add {h : Dn01.House} {s k sort life : Nat} {a n v : List Nat} {x : Dn01.Server} {z : Dn01.Held} (ex : h.servers[s]? = some x) (ez : x.held a = some z) (ef : z.from_ = none) :
    (∀ r : Int, refR h.servers.length k z.zone ⟨n, sort, v, life⟩ = r → r < 0 → h.step (.add s k sort life a n v) = (h, Dn01.says r)) ∧
    (refR h.servers.length k z.zone ⟨n, sort, v, life⟩ = 0 → h.step (.add s k sort life a n v) = (h.onZone s a fun z => { z with zone := z.zone.change ⟨true, ⟨n, sort, v, life⟩⟩ }, Dn01.says (z.zone.serial + 1 : Nat)) ∧ recOk h.servers.length z.zone.apex ⟨n, sort, v, life⟩ = true) := by
  have ha := (held_mem ez).2
  unfold refR
  have e0 : h.step (.add s k sort life a n v) = if recOk h.servers.length z.zone.apex ⟨n, sort, v, life⟩ = false then (h, Dn01.says (-1)) else if (k == 0 || k == z.zone.serial) = false then (h, Dn01.says (-7)) else if z.zone.mayHave n sort v = false then (h, Dn01.says (-8)) else if 40 ≤ z.zone.recs.length then (h, Dn01.says (-5)) else
      (h.onZone s a fun z => { z with zone := z.zone.change ⟨true, ⟨n, sort, v, life⟩⟩ }, Dn01.says (z.zone.serial + 1 : Nat)) := by
    rw [ha]
    simp only [Dn01.House.step, Dn01.House.ofZone, ex, ez, ef, Option.isSome_none, Bool.false_eq_true, if_false, recOk_iff, at_iff, Dn01.RECS]
    first | rfl | congr
  rw [e0]
  by_cases h1 : recOk h.servers.length z.zone.apex ⟨n, sort, v, life⟩ = false
  · simp only [if_pos h1]
    exact ⟨fun r e _ => by rw [← e], fun e => absurd e (by decide)⟩
  by_cases h2 : (k == 0 || k == z.zone.serial) = false
  · simp only [if_neg h1, if_pos h2]
    exact ⟨fun r e _ => by rw [← e], fun e => absurd e (by decide)⟩
  by_cases h3 : z.zone.mayHave n sort v = false
  · simp only [if_neg h1, if_neg h2, if_pos h3]
    exact ⟨fun r e _ => by rw [← e], fun e => absurd e (by decide)⟩
  by_cases h4 : 40 ≤ z.zone.recs.length
  · simp only [if_neg h1, if_neg h2, if_neg h3, if_pos h4]
    exact ⟨fun r e _ => by rw [← e], fun e => absurd e (by decide)⟩
  · simp only [if_neg h1, if_neg h2, if_neg h3, if_neg h4]
    refine ⟨fun r e hr => ?_, fun _ => ⟨trivial, ?_⟩⟩
    · rw [← e] at hr
      exact absurd hr (by decide)
    · rw [Bool.not_eq_false] at h1
      exact h1
theorem onZone_set {h : Dn01.House} {s j : Nat} {a : List Nat} {f : Dn01.Held → Dn01.Held} {x : Dn01.Server} {z : Dn01.Held} (ex : h.servers[s]? = some x) (u : (x.zones.map fun z => z.zone.apex).Nodup) (ej : x.zones[j]? = some z) (ha : z.zone.apex = a) :
    h.onZone s a f = { h with servers := h.servers.set s { x with zones := x.zones.set j (f z) } } := by
  unfold Dn01.House.onZone Dn01.House.onServer
  rw [modify_set ex, map_if_set u ej ha]
section
variable {P : Program} {w : World} {K : PySem.W.Frag} {mg : Str → Option Value} {base : Heap} {c : Cs}
def sp_answer_add (P : Program) (w : World) (c : Cs) : Sp := fun vs H Q _ => ∃ F g h s k sort life b a bn n bv v, vs = [.ref g.n, nv s, nv k, nv sort, nv life, .ref b, .ref bn, .ref bv] ∧ NetA P w c F H g h ∧ FOk F H ∧ HOk h ∧ TN H b a ∧ TN H bn n ∧ TN H bv v ∧ AnsQ P w c F H g (h.step (.add s k sort life a n v)) Q
/-- one zone of a server has undergone a change -/
theorem NetA.chg (ok : COk c) {F : List Addr} {H H' : Hp} {g : GN} {h : Dn01.House} {s j : Nat} {gs : GS} {x : Dn01.Server} {ha za : Addr} {z : Dn01.Held} {y : Dn01.Zone} (nt : NetA P w c F H g h) (hgs : g.srv[s]? = some gs) (ex : h.servers[s]? = some x) (ej : gs.hs[j]? = some ((ha, za), z))
    (kp : Kp [za] H H') (hz : ZonA c F H' za y) (hap : y.apex = z.zone.apex) : Frm c H H' ∧ ∃ g', g'.n = g.n ∧ NetA P w c F H' g' { h with servers := h.servers.set s { x with zones := x.zones.set j { z with zone := y } } } := by
  have sx := nt.srv s gs x hgs ex
  have hq := sx.held _ (List.mem_of_getElem? ej)
  obtain ⟨sv, h1, h2, h3⟩ := id hq
  have n1 : ha ∉ [za] := fun m => HolA.ne ok hq hq (List.mem_singleton.mp m)
  have new : HolA c F H' (ha, za) { z with zone := y } := ⟨sv, h1.kp kp n1, h2, hz⟩
  obtain ⟨s1, s2, s3⟩ := sx.setZ ok (za' := za) ej kp (fun b hb => .inr (List.mem_singleton.mp hb)) new hap (.inl rfl)
  exact ⟨sx.frm ok kp s2, { g with srv := g.srv.set s { gs with hs := gs.hs.set j ((ha, za), { z with zone := y }) } }, rfl, nt.srvS ok (gs' := { gs with hs := gs.hs.set j ((ha, za), { z with zone := y }) }) hgs ex kp s2 rfl s3 s1⟩
theorem ok_answer_add {f : Addr} {fd : FuncData} (F : Fun K "answer_add" "answer_add" s_answer_add f fd) (T : Txt K mg c) (cok : COk c) (d_refusal_of_own_zone : GFn P w K mg base 3 "refusal_of_own_zone" ["net", "server", "apex"] (sp_ref_own P w c)) (d_Server_holding_of : MFn P w K mg base 1 c.csrv "holding_of" ["self", "apex"] (sp_holding_of c)) (d_Record_init : CFn P w K mg base 1 c.crec "Record" ["self", "name", "kind", "value", "life"] (spIni c.crec 4 recI)) (d_refusal_of_record : GFn P w K mg base 5 "refusal_of_record" ["net", "zone", "serial", "record"] (sp_ref_rec P w c)) (d_Zone_undergo : MFn P w K mg base 2 c.czon "undergo" ["self", "change"] (sp_undergo c)) (d_Change_init : CFn P w K mg base 1 c.cchg "Change" ["self", "puts_in", "record"] (spIni c.cchg 2 chgI)) : FnOk P w K mg base CX0 6 f fd ["net", "server", "serial", "kind", "life", "apex", "name", "value"] (sp_answer_add P w c) := by
  refine F.ok sc_answer_add (fun vs H Q E h => ?_) (fun cdv A outer s H vs Q E hr h => ?_)
  · obtain ⟨F, g, h, s, k, sort, life, b, a, bn, n, bv, v, rfl, _⟩ := h
    rfl
  · refine ⟨_, (pss_cons (ps_set (i := 8) sc_answer_add.nd rfl (Or.inl rfl) (kg d_refusal_of_own_zone (hr.mono (by decide)) (pa_cons (pv 0) (pa_cons (pv 1) (pa_cons (pv 5) pa_nil)))))
      (pss_cons (ps_if (pt_cmpR op_lt (pv 8) pe_int (nomark _)) (pss_one (ps_ret (pe_lst (pa_cons (pv 8) pa_nil)))) pss_nil)
      (pss_cons (ps_set (i := 9) sc_answer_add.nd rfl (Or.inl rfl) (kf (km (pe_ix ix_list (kf (pv 0) T.cl_net T.n_net_servers) (pv 1) (fun _ _ => rfl)) d_Server_holding_of (hr.mono (by decide)) (pa_cons (pv 5) pa_nil)) T.cl_hol T.n_hol_zone))
      (pss_cons (ps_set (i := 10) sc_answer_add.nd rfl (Or.inl rfl) (kc d_Record_init (hr.mono (by decide)) (pa_cons (pv 6) (pa_cons (pv 3) (pa_cons (pv 7) (pa_cons (pv 4) pa_nil))))))
      (pss_cons (ps_set (i := 8) sc_answer_add.nd rfl (Or.inl rfl) (kg d_refusal_of_record (hr.mono (by decide)) (pa_cons (pv 0) (pa_cons (pv 9) (pa_cons (pv 2) (pa_cons (pv 10) pa_nil))))))
      (pss_cons (ps_if (pt_cmpR op_lt (pv 8) pe_int (nomark _)) (pss_one (ps_ret (pe_lst (pa_cons (pv 8) pa_nil)))) pss_nil)
      (pss_cons (ps_expr (km (pv 9) d_Zone_undergo (hr.mono (by decide)) (pa_cons (kc d_Change_init (hr.mono (by decide)) (pa_cons pe_bl (pa_cons (pv 10) pa_nil))) pa_nil)))
      (pss_one (ps_ret (pe_lst (pa_cons (kf (pv 9) T.cl_zon T.n_zon_serial) pa_nil))))))))))), ?_⟩
    obtain ⟨F, g, h, s', k, sort, life, b, a, bn, n, bv, v, rfl, nt, fo, hk, hb, hbn, hbv, q⟩ := h
    obtain ⟨dn, n1⟩ := nt.at_
    refine ⟨_, rfl, _, rfl, _, rfl, F, g, h, s', b, a, rfl, nt, hb, fun e => ?_, fun y e1 e2 => ?_, fun y z e1 e2 => ?_⟩
    · have es : h.step (.add s' k sort life a n v) = (h, Dn01.says (-2)) := by simp only [Dn01.House.step, Dn01.House.ofZone, e]
      rw [es] at q
      exact ⟨_, rfl, _, _, rfl, rfl, _, rfl, iteT ⟨_, rfl, (by show 1 ≤ sizeLine; decide), q.put fo FrmX.refl rfl nt rfl⟩⟩
    · have es : h.step (.add s' k sort life a n v) = (h, Dn01.says (-3)) := by simp only [Dn01.House.step, Dn01.House.ofZone, e1, e2]
      rw [es] at q
      exact ⟨_, rfl, _, _, rfl, rfl, _, rfl, iteT ⟨_, rfl, (by show 1 ≤ sizeLine; decide), q.put fo FrmX.refl rfl nt rfl⟩⟩
    intro r0 er0
    cases ef : z.from_ with
    | some f0 =>
      have er : r0 = -6 := by rw [er0, ef]; rfl
      subst er
      have es : h.step (.add s' k sort life a n v) = (h, Dn01.says (-6)) := by simp only [Dn01.House.step, Dn01.House.ofZone, e1, e2, ef, Option.isSome_some, if_true]
      rw [es] at q
      exact ⟨_, rfl, _, _, rfl, rfl, _, rfl, iteT ⟨_, rfl, (by show 1 ≤ sizeLine; decide), q.put fo FrmX.refl rfl nt rfl⟩⟩
    | none =>
      have er : r0 = 0 := by rw [er0, ef]; rfl
      subst er
      have ym := List.mem_of_getElem? e1
      obtain ⟨zm, zap⟩ := held_mem e2
      obtain ⟨gs, hgs, sy⟩ := nt.srvAt e1
      obtain ⟨dv, v1⟩ := id sy.at_
      obtain ⟨a1, a2⟩ := nt.atS (K := K) hgs
      have hh := held_look sy.zones a
      rw [e2] at hh
      obtain ⟨⟨⟨ha, za⟩, z'⟩, ehq, ez⟩ := Option.map_eq_some_iff.mp hh.symm
      dsimp only at ez
      subst ez
      obtain ⟨j, ej⟩ := find_at ehq
      have ej2 : y.zones[j]? = some z' := by rw [← sy.zones, List.getElem?_map, ej]; rfl
      have hol := sy.held _ (List.mem_of_getElem? ej)
      obtain ⟨sv, ⟨dh, h1⟩, h2, h3⟩ := id hol
      obtain ⟨t1, t2⟩ := step_add (k := k) (sort := sort) (life := life) (n := n) (v := v) e1 e2 ef
      refine ⟨_, rfl, _, _, rfl, rfl, _, rfl, iteF ⟨_, rfl, g.n, dn, _, _, rfl, n1, lk_net_servers, _, rfl, g.sl, _, s', .ref gs.a, rfl, rfl, a1, a2, gs.a, dv, _, rfl, v1, no_srv_holding_of, _, rfl, gs.a, gs.d, b, gs.hs, a, rfl, sy.r, hb, ?_⟩⟩
      rw [ehq]
      refine ⟨ha, dh, _, _, rfl, h1, lk_hol_zone, _, rfl, _, rfl, _, rfl, _, rfl, ?_⟩
      intro ra dr hra hdr ner
      refine ⟨ra, dr, [.ref bn, nv sort, .ref bv, nv life], rfl, rfl, upd_same, rfl, ?_⟩
      have s1 := made_same (C := c.crec) (fs := recF (.ref bn) (nv sort) (.ref bv) (nv life)) hra hdr ner
      have hr : upd (upd (upd H dr (.own ra)) ra (.ins c.crec dr [])) ra (.ins c.crec dr (recF (.ref bn) (nv sort) (.ref bv) (nv life))) ra = some (.ins c.crec dr (recF (.ref bn) (nv sort) (.ref bv) (nv life))) := upd_same
      obtain ⟨H1, eH1⟩ : ∃ H1, H1 = upd (upd (upd H dr (.own ra)) ra (.ins c.crec dr [])) ra (.ins c.crec dr (recF (.ref bn) (nv sort) (.ref bv) (nv life))) := ⟨_, rfl⟩
      refine abs_heap eH1 ?_
      rw [← eH1] at s1 hr
      have rec1 : RecA c H1 ra ⟨n, sort, v, life⟩ := ⟨bn, bv, ⟨dr, hr⟩, hbn.same s1, hbv.same s1⟩
      refine ⟨_, rfl, _, rfl, _, rfl, _, rfl, F, g, h, k, za, z'.zone, ra, ⟨n, sort, v, life⟩, rfl, nt.same s1, h3.same s1, rec1, fun H2 s2 => ?_⟩
      have s12 := s1.trans s2
      by_cases hr0 : refR h.servers.length k z'.zone ⟨n, sort, v, life⟩ < 0
      · rw [t1 _ rfl hr0] at q
        exact ⟨_, rfl, _, _, rfl, rfl, _, rfl, if_t (decide_eq_true hr0) ⟨_, rfl, (by show 1 ≤ sizeLine; decide), q.put fo (FrmX.same s12) rfl (nt.same s12) rfl⟩⟩
      have hr1 : refR h.servers.length k z'.zone ⟨n, sort, v, life⟩ = 0 := by
        revert hr0
        unfold refR
        split
        · exact fun hn => absurd (by decide) hn
        · split
          · exact fun hn => absurd (by decide) hn
          · split
            · exact fun hn => absurd (by decide) hn
            · split
              · exact fun hn => absurd (by decide) hn
              · exact fun _ => rfl
      obtain ⟨es, _⟩ := t2 hr1
      rw [onZone_set e1 (hk.fit.aps y ym) ej2 zap] at es
      rw [es] at q
      have fitz := hk.fit.fit y ym z' zm
      obtain ⟨pz, rz, cz, ⟨dz, z1⟩, _⟩ := id h3
      refine ⟨_, rfl, _, _, rfl, rfl, _, rfl, if_f (decide_eq_false hr0) ⟨_, rfl, za, dz, _, rfl, s12 _ _ z1, no_zon_undergo, _, rfl, ?_⟩⟩
      intro xa dx hxa hdx nex
      refine ⟨xa, dx, [.bl true, .ref ra], rfl, rfl, upd_same, rfl, ?_⟩
      have s3 := made_same (C := c.cchg) (fs := chgF (.bl true) (.ref ra)) hxa hdx nex
      have hx : upd (upd (upd H2 dx (.own xa)) xa (.ins c.cchg dx [])) xa (.ins c.cchg dx (chgF (.bl true) (.ref ra))) xa = some (.ins c.cchg dx (chgF (.bl true) (.ref ra))) := upd_same
      obtain ⟨H3, eH3⟩ : ∃ H3, H3 = upd (upd (upd H2 dx (.own xa)) xa (.ins c.cchg dx [])) xa (.ins c.cchg dx (chgF (.bl true) (.ref ra))) := ⟨_, rfl⟩
      refine abs_heap eH3 ?_
      rw [← eH3] at s3 hx
      have s13 := s12.trans s3
      refine ⟨za, xa, F, z'.zone, ⟨true, ⟨n, sort, v, life⟩⟩, rfl, fo.same s13, h3.same s13, ⟨ra, ⟨n, sort, v, life⟩, ⟨dx, hx⟩, rec1.same (s2.trans s3), rfl, rfl, rfl, fun _ => rfl⟩, fitz.1.recs, by have := hk.lg y ym z' zm; omega, fun H4 kp4 hz4 => ?_⟩
      obtain ⟨fr4, g4, gn4, nt4⟩ := nt.chg cok hgs e1 ej ((Same.kp _ s13).trans kp4) hz4 rfl
      obtain ⟨p4, r4, c4, ⟨d4, z4⟩, _⟩ := id hz4
      exact ⟨_, rfl, za, d4, _, _, rfl, z4, lk_zon_serial, (by show 1 ≤ sizeLine; decide), q.put fo fr4 gn4 nt4 rfl⟩
def sp_answer_remove (P : Program) (w : World) (c : Cs) : Sp := fun vs H Q _ => ∃ F g h s k sort b a bn n bv v, vs = [.ref g.n, nv s, nv k, nv sort, .ref b, .ref bn, .ref bv] ∧ NetA P w c F H g h ∧ FOk F H ∧ HOk h ∧ TN H b a ∧ TN H bn n ∧ TN H bv v ∧ AnsQ P w c F H g (h.step (.remove s k sort a n v)) Q
theorem ok_answer_remove {f : Addr} {fd : FuncData} (F : Fun K "answer_remove" "answer_remove" s_answer_remove f fd) (T : Txt K mg c) (cok : COk c) (d_refusal_of_own_zone : GFn P w K mg base 3 "refusal_of_own_zone" ["net", "server", "apex"] (sp_ref_own P w c)) (d_Server_holding_of : MFn P w K mg base 1 c.csrv "holding_of" ["self", "apex"] (sp_holding_of c)) (d_Record_init : CFn P w K mg base 1 c.crec "Record" ["self", "name", "kind", "value", "life"] (spIni c.crec 4 recI)) (d_Zone_is_at : MFn P w K mg base 1 c.czon "is_at" ["self", "serial"] (sp_is_at c)) (d_Zone_has : MFn P w K mg base 2 c.czon "has" ["self", "wanted"] (sp_has c)) (d_Zone_undergo : MFn P w K mg base 2 c.czon "undergo" ["self", "change"] (sp_undergo c)) (d_Change_init : CFn P w K mg base 1 c.cchg "Change" ["self", "puts_in", "record"] (spIni c.cchg 2 chgI)) : FnOk P w K mg base CX0 4 f fd ["net", "server", "serial", "kind", "apex", "name", "value"] (sp_answer_remove P w c) := by
  refine F.ok sc_answer_remove (fun vs H Q E h => ?_) (fun cdv A outer s H vs Q E hr h => ?_)
  · obtain ⟨F, g, h, s, k, sort, b, a, bn, n, bv, v, rfl, _⟩ := h
    rfl
  · refine ⟨_, (pss_cons (ps_set (i := 7) sc_answer_remove.nd rfl (Or.inl rfl) (kg d_refusal_of_own_zone (hr.mono (by decide)) (pa_cons (pv 0) (pa_cons (pv 1) (pa_cons (pv 4) pa_nil)))))
      (pss_cons (ps_if (pt_cmpR op_lt (pv 7) pe_int (nomark _)) (pss_one (ps_ret (pe_lst (pa_cons (pv 7) pa_nil)))) pss_nil)
      (pss_cons (ps_set (i := 8) sc_answer_remove.nd rfl (Or.inl rfl) (kf (km (pe_ix ix_list (kf (pv 0) T.cl_net T.n_net_servers) (pv 1) (fun _ _ => rfl)) d_Server_holding_of (hr.mono (by decide)) (pa_cons (pv 4) pa_nil)) T.cl_hol T.n_hol_zone))
      (pss_cons (ps_set (i := 9) sc_answer_remove.nd rfl (Or.inl rfl) (kc d_Record_init (hr.mono (by decide)) (pa_cons (pv 5) (pa_cons (pv 3) (pa_cons (pv 6) (pa_cons pe_int pa_nil))))))
      (pss_cons (ps_if (pt_not (pt_val (km (pv 8) d_Zone_is_at (hr.mono (by decide)) (pa_cons (pv 2) pa_nil)))) (pss_one (ps_ret (pe_lst (pa_cons (pe_un un_neg pe_int) pa_nil)))) pss_nil)
      (pss_cons (ps_if (pt_not (pt_val (km (pv 8) d_Zone_has (hr.mono (by decide)) (pa_cons (pv 9) pa_nil)))) (pss_one (ps_ret (pe_lst (pa_cons (pe_un un_neg pe_int) pa_nil)))) pss_nil)
      (pss_cons (ps_expr (km (pv 8) d_Zone_undergo (hr.mono (by decide)) (pa_cons (kc d_Change_init (hr.mono (by decide)) (pa_cons pe_bl (pa_cons (pv 9) pa_nil))) pa_nil)))
      (pss_one (ps_ret (pe_lst (pa_cons (kf (pv 8) T.cl_zon T.n_zon_serial) pa_nil))))))))))), ?_⟩
    obtain ⟨F, g, h, s', k, sort, b, a, bn, n, bv, v, rfl, nt, fo, hk, hb, hbn, hbv, q⟩ := h
    obtain ⟨dn, n1⟩ := nt.at_
    refine ⟨_, rfl, _, rfl, _, rfl, F, g, h, s', b, a, rfl, nt, hb, fun e => ?_, fun y e1 e2 => ?_, fun y z e1 e2 => ?_⟩
    · have es : h.step (.remove s' k sort a n v) = (h, Dn01.says (-2)) := by simp only [Dn01.House.step, Dn01.House.ofZone, e]
      rw [es] at q
      exact ⟨_, rfl, _, _, rfl, rfl, _, rfl, iteT ⟨_, rfl, (by show 1 ≤ sizeLine; decide), q.put fo FrmX.refl rfl nt rfl⟩⟩
    · have es : h.step (.remove s' k sort a n v) = (h, Dn01.says (-3)) := by simp only [Dn01.House.step, Dn01.House.ofZone, e1, e2]
      rw [es] at q
      exact ⟨_, rfl, _, _, rfl, rfl, _, rfl, iteT ⟨_, rfl, (by show 1 ≤ sizeLine; decide), q.put fo FrmX.refl rfl nt rfl⟩⟩
    intro r0 er0
    cases ef : z.from_ with
    | some f0 =>
      have er : r0 = -6 := by rw [er0, ef]; rfl
      subst er
      have es : h.step (.remove s' k sort a n v) = (h, Dn01.says (-6)) := by simp only [Dn01.House.step, Dn01.House.ofZone, e1, e2, ef, Option.isSome_some, if_true]
      rw [es] at q
      exact ⟨_, rfl, _, _, rfl, rfl, _, rfl, iteT ⟨_, rfl, (by show 1 ≤ sizeLine; decide), q.put fo FrmX.refl rfl nt rfl⟩⟩
    | none =>
      have er : r0 = 0 := by rw [er0, ef]; rfl
      subst er
      have ym := List.mem_of_getElem? e1
      obtain ⟨zm, zap⟩ := held_mem e2
      obtain ⟨gs, hgs, sy⟩ := nt.srvAt e1
      obtain ⟨dv, v1⟩ := id sy.at_
      obtain ⟨a1, a2⟩ := nt.atS (K := K) hgs
      have hh := held_look sy.zones a
      rw [e2] at hh
      obtain ⟨⟨⟨ha, za⟩, z'⟩, ehq, ez⟩ := Option.map_eq_some_iff.mp hh.symm
      dsimp only at ez
      subst ez
      obtain ⟨j, ej⟩ := find_at ehq
      have ej2 : y.zones[j]? = some z' := by rw [← sy.zones, List.getElem?_map, ej]; rfl
      have hol := sy.held _ (List.mem_of_getElem? ej)
      obtain ⟨sv, ⟨dh, h1⟩, h2, h3⟩ := id hol
      have fitz := hk.fit.fit y ym z' zm
      obtain ⟨pz, rz, cz, ⟨dz, z1⟩, _⟩ := id h3
      have e0 : h.step (.remove s' k sort a n v) = if (k == 0 || k == z'.zone.serial) = false then (h, Dn01.says (-7)) else match z'.zone.recs.find? fun r => r.name == n && (r.sort == sort && r.value == v) with
          | none => (h, Dn01.says (-4))
          | some r => (h.onZone s' a fun z => { z with zone := z.zone.change ⟨false, r⟩ }, Dn01.says (z'.zone.serial + 1 : Nat)) := by
        simp only [Dn01.House.step, Dn01.House.ofZone, e1, e2, ef, Option.isSome_none, Bool.false_eq_true, if_false, at_iff]
        rfl
      rw [e0] at q
      refine ⟨_, rfl, _, _, rfl, rfl, _, rfl, iteF ⟨_, rfl, g.n, dn, _, _, rfl, n1, lk_net_servers, _, rfl, g.sl, _, s', .ref gs.a, rfl, rfl, a1, a2, gs.a, dv, _, rfl, v1, no_srv_holding_of, _, rfl, gs.a, gs.d, b, gs.hs, a, rfl, sy.r, hb, ?_⟩⟩
      rw [ehq]
      refine ⟨ha, dh, _, _, rfl, h1, lk_hol_zone, _, rfl, _, rfl, _, rfl, ?_⟩
      intro ra dr hra hdr ner
      refine ⟨ra, dr, [.ref bn, nv sort, .ref bv, nv 0], rfl, rfl, upd_same, rfl, ?_⟩
      have s1 := made_same (C := c.crec) (fs := recF (.ref bn) (nv sort) (.ref bv) (nv 0)) hra hdr ner
      have hr : upd (upd (upd H dr (.own ra)) ra (.ins c.crec dr [])) ra (.ins c.crec dr (recF (.ref bn) (nv sort) (.ref bv) (nv 0))) ra = some (.ins c.crec dr (recF (.ref bn) (nv sort) (.ref bv) (nv 0))) := upd_same
      obtain ⟨H1, eH1⟩ : ∃ H1, H1 = upd (upd (upd H dr (.own ra)) ra (.ins c.crec dr [])) ra (.ins c.crec dr (recF (.ref bn) (nv sort) (.ref bv) (nv 0))) := ⟨_, rfl⟩
      refine abs_heap eH1 ?_
      rw [← eH1] at s1 hr
      have rec1 : RecA c H1 ra ⟨n, sort, v, 0⟩ := ⟨bn, bv, ⟨dr, hr⟩, hbn.same s1, hbv.same s1⟩
      refine ⟨_, rfl, za, dz, _, rfl, s1 _ _ z1, no_zon_is_at, _, rfl, za, F, z'.zone, k, rfl, h3.same s1, _, rfl, ite_b (fun e3 => ?_) fun e3 => ?_⟩
      · rw [Bool.not_eq_true'] at e3
        rw [if_pos e3] at q
        exact ⟨_, rfl, (by show 1 ≤ sizeLine; decide), q.put fo (FrmX.same s1) rfl (nt.same s1) rfl⟩
      rw [Bool.not_eq_false'] at e3
      rw [if_neg (by rw [e3]; exact fun z => nomatch z)] at q
      refine ⟨_, rfl, za, dz, _, rfl, s1 _ _ z1, no_zon_has, _, rfl, za, ra, F, z'.zone, ⟨n, sort, v, 0⟩, rfl, h3.same s1, rec1, fitz.1.recs, fun H2 s2 => ⟨_, rfl, ?_⟩⟩
      have s12 := s1.trans s2
      have eany : (z'.zone.recs.any fun r => sameR r ⟨n, sort, v, 0⟩) = (z'.zone.recs.find? fun r => r.name == n && (r.sort == sort && r.value == v)).isSome := any_find z'.zone.recs
      rw [eany]
      cases ef2 : z'.zone.recs.find? fun r => r.name == n && (r.sort == sort && r.value == v) with
      | none =>
        rw [ef2] at q
        exact iteT ⟨_, rfl, (by show 1 ≤ sizeLine; decide), q.put fo (FrmX.same s12) rfl (nt.same s12) rfl⟩
      | some r =>
        rw [ef2] at q
        have hr2 := List.find?_some ef2
        simp only [Bool.and_eq_true, beq_iff_eq] at hr2
        dsimp only at q
        rw [onZone_set e1 (hk.fit.aps y ym) ej2 zap] at q
        refine iteF ⟨_, rfl, za, dz, _, rfl, s12 _ _ z1, no_zon_undergo, _, rfl, ?_⟩
        intro xa dx hxa hdx nex
        refine ⟨xa, dx, [.bl false, .ref ra], rfl, rfl, upd_same, rfl, ?_⟩
        have s3 := made_same (C := c.cchg) (fs := chgF (.bl false) (.ref ra)) hxa hdx nex
        have hx : upd (upd (upd H2 dx (.own xa)) xa (.ins c.cchg dx [])) xa (.ins c.cchg dx (chgF (.bl false) (.ref ra))) xa = some (.ins c.cchg dx (chgF (.bl false) (.ref ra))) := upd_same
        obtain ⟨H3, eH3⟩ : ∃ H3, H3 = upd (upd (upd H2 dx (.own xa)) xa (.ins c.cchg dx [])) xa (.ins c.cchg dx (chgF (.bl false) (.ref ra))) := ⟨_, rfl⟩
        refine abs_heap eH3 ?_
        rw [← eH3] at s3 hx
        have s13 := s12.trans s3
        refine ⟨za, xa, F, z'.zone, ⟨false, r⟩, rfl, fo.same s13, h3.same s13, ⟨ra, ⟨n, sort, v, 0⟩, ⟨dx, hx⟩, rec1.same (s2.trans s3), hr2.1.symm, hr2.2.1.symm, hr2.2.2.symm, fun e => nomatch e⟩, fitz.1.recs, by have := hk.lg y ym z' zm; omega, fun H4 kp4 hz4 => ?_⟩
        obtain ⟨fr4, g4, gn4, nt4⟩ := nt.chg cok hgs e1 ej ((Same.kp _ s13).trans kp4) hz4 rfl
        obtain ⟨p4, r4, c4, ⟨d4, z4⟩, _⟩ := id hz4
        exact ⟨_, rfl, za, d4, _, _, rfl, z4, lk_zon_serial, (by show 1 ≤ sizeLine; decide), q.put fo fr4 gn4 nt4 rfl⟩
end
end Nn


namespace Nn
open PySem PySem.Spec PyProof.Rows L2
def bringM (x y : Dn01.Held) (t : Nat) : Dn01.Held × List Int :=
  if x.zone.born = y.zone.born ∧ y.zone.serial < x.zone.serial then (x, [3])
  else if x.zone.born = y.zone.born ∧ y.zone.serial = x.zone.serial then ({ x with since := sinceOf y t }, [0, (x.zone.serial : Int), 0])
  else if x.zone.born = y.zone.born ∧ y.zone.serial - x.zone.serial ≤ y.zone.log.length then
    ({ x with since := sinceOf y t, zone := (((y.zone.log.map (·.2)).drop (y.zone.log.length - (y.zone.serial - x.zone.serial))).foldl Dn01.Zone.change x.zone) }, [1, (y.zone.serial : Int), ((y.zone.serial - x.zone.serial : Nat) : Int)])
  else ({ x with since := sinceOf y t, zone := y.zone }, [2, (y.zone.serial : Int), (y.zone.recs.length : Int)])
theorem cutNeg (xs : List V) {i : Int} {m : Nat} (e : i = -(m : Int)) (hm : 1 ≤ m) : cutV xs (some i) none = xs.drop (xs.length - m) := by
  unfold cutV
  have z : HT.sIx xs.length 0 (some i) = (i + (xs.length : Int)).toNat := by
    show (if i < 0 then (i + (xs.length : Int)).toNat else min i.toNat xs.length) = _
    rw [if_pos (by omega)]
  rw [HT.sIx_none, z, show (i + (xs.length : Int)).toNat = xs.length - m by omega, List.take_of_length_le (by rw [List.length_drop]; exact Nat.le_refl _)]
theorem fold_serial : ∀ (l : List Dn01.Change) (z : Dn01.Zone), (l.foldl Dn01.Zone.change z).serial = z.serial + l.length
  | [], z => rfl
  | c :: l, z => by
    rw [List.foldl_cons, fold_serial l]
    show z.serial + 1 + l.length = z.serial + (l.length + 1)
    omega
theorem chg_sizes (z : Dn01.Zone) (x : Dn01.Change) : (z.change x).recs.length ≤ z.recs.length + 1 ∧ (z.change x).log.length ≤ z.log.length + 1 := by
  constructor
  · show (Dn01.changed z.recs x).length ≤ _
    unfold Dn01.changed
    split
    · rw [List.length_append, List.length_singleton]
      exact Nat.succ_le_succ (List.length_filter_le _ _)
    · exact Nat.le_succ_of_le (List.length_filter_le _ _)
  · show ((z.log ++ [(z.serial + 1, x)]).drop _).length ≤ _
    rw [List.length_drop, List.length_append, List.length_singleton]
    omega
theorem fold_sizes : ∀ (l : List Dn01.Change) (z : Dn01.Zone), (l.foldl Dn01.Zone.change z).recs.length ≤ z.recs.length + l.length ∧ (l.foldl Dn01.Zone.change z).log.length ≤ z.log.length + l.length
  | [], z => ⟨Nat.le_refl _, Nat.le_refl _⟩
  | c :: l, z => by
    rw [List.foldl_cons]
    obtain ⟨h1, h2⟩ := fold_sizes l (z.change c)
    obtain ⟨h3, h4⟩ := chg_sizes z c
    simp only [List.length_cons]
    omega
section
variable {P : Program} {w : World} {K : PySem.W.Frag} {mg : Str → Option Value} {base : Heap} {c : Cs}
def sp_bring (c : Cs) : Sp := fun vs H Q _ => ∃ F ha za hb zb x y t, vs = [.ref ha, .ref hb, nv t] ∧ FOk F H ∧ HolA c F H (ha, za) x ∧ HolA c F H (hb, zb) y ∧ ha ≠ hb ∧ za ≠ zb ∧ x.zone.recs.length < 900 ∧ x.zone.log.length < 900 ∧ y.zone.log.length < 50 ∧
  ∀ H' za' p, Kp [ha, za] H H' → (za' = za ∨ H za' = none) → HolA c F H' (ha, za') (bringM x y t).1 → p ∉ F → H' p = some (.lst ((bringM x y t).2.map V.int)) → Q (.ref p) H'
theorem ok_bring_up {f : Addr} {fd : FuncData} (F : Fun K "bring_up" "bring_up" s_bring_up f fd) (T : Txt K mg c) (cok : COk c) (d_Holding_since_for_copies : MFn P w K mg base 2 c.chol "since_for_copies" ["self", "now"] (sp_since c)) (d_Zone_undergo : MFn P w K mg base 2 c.czon "undergo" ["self", "change"] (sp_undergo c)) (d_Zone_twin : MFn P w K mg base 3 c.czon "twin" ["self"] (sp_twin c)) : FnOk P w K mg base CX0 4 f fd ["held", "other", "now"] (sp_bring c) := by
  refine F.ok sc_bring_up (fun vs H Q E h => ?_) (fun cdv A outer s H vs Q E hr h => ?_)
  · obtain ⟨F, ha, za, hb, zb, x, y, t, rfl, _⟩ := h
    rfl
  · refine ⟨_, (pss_cons (ps_set (i := 3) sc_bring_up.nd rfl (Or.inl rfl) (kf (pv 0) T.cl_hol T.n_hol_zone))
      (pss_cons (ps_set (i := 4) sc_bring_up.nd rfl (Or.inl rfl) (kf (pv 1) T.cl_hol T.n_hol_zone))
      (pss_cons (ps_set (i := 5) sc_bring_up.nd rfl (Or.inl rfl) (pe_cmpR op_eq (kf (pv 3) T.cl_zon T.n_zon_identity) (kf (pv 4) T.cl_zon T.n_zon_identity) (nomark _)))
      (pss_cons (ps_set (i := 6) sc_bring_up.nd rfl (Or.inl rfl) (pe_op op_sub (kf (pv 4) T.cl_zon T.n_zon_serial) (kf (pv 3) T.cl_zon T.n_zon_serial)))
      (pss_cons (ps_if (PW.pt (pw_and (pt_val (pv 5)) (pw_and1 (pt_cmpR op_lt (pv 6) pe_int (nomark _))))) (pss_one (ps_ret (pe_lst (pa_cons pe_int pa_nil)))) pss_nil)
      (pss_cons (kfs (pv 0) (km (pv 1) d_Holding_since_for_copies (hr.mono (by decide)) (pa_cons (pv 2) pa_nil)) T.cl_hol T.n_hol_since)
      (pss_cons (ps_if (PW.pt (pw_and (pt_val (pv 5)) (pw_and1 (pt_cmpR op_eq (pv 6) pe_int (nomark _))))) (pss_one (ps_ret (pe_lst (pa_cons pe_int (pa_cons (kf (pv 3) T.cl_zon T.n_zon_serial) (pa_cons pe_int pa_nil)))))) pss_nil)
      (pss_cons (ps_if (PW.pt (pw_and (pt_val (pv 5)) (pw_and1 (pt_cmpR op_le (pv 6) (pe_callB call_len_seq (by rfl) T.f_len PySem.boot_len (pa_cons (kf (pv 4) T.cl_zon T.n_zon_changes) pa_nil)) (nomark _))))) (pss_cons (ps_for PassesOwn.never rfl (pi_list (pe_slice sl_list (kf (pv 4) T.cl_zon T.n_zon_changes) (po_some (pe_un un_neg (pv 6))) po_none)) (pg_name (i := 7) sc_bring_up.nd rfl (Or.inl rfl)) (pss_one (ps_expr (km (pv 3) d_Zone_undergo (hr.mono (by decide)) (pa_cons (pv 7) pa_nil)))))
      (pss_one (ps_ret (pe_lst (pa_cons pe_int (pa_cons (kf (pv 3) T.cl_zon T.n_zon_serial) (pa_cons (pv 6) pa_nil))))))) pss_nil)
      (pss_cons (kfs (pv 0) (km0 (pv 4) d_Zone_twin (hr.mono (by decide))) T.cl_hol T.n_hol_zone)
      (pss_one (ps_ret (pe_lst (pa_cons pe_int (pa_cons (kf (pv 4) T.cl_zon T.n_zon_serial) (pa_cons (pe_callB call_len_seq (by rfl) T.f_len PySem.boot_len (pa_cons (kf (pv 4) T.cl_zon T.n_zon_records) pa_nil)) pa_nil))))))))))))))), ?_⟩
    obtain ⟨F, ha, za, hb, zb, x, y, t, rfl, fo, hx, hy, nab, nz, xr, xl, yl, q⟩ := h
    have line : 1000 < sizeLine := by decide
    obtain ⟨sv, ⟨dh, h1⟩, h2, h3⟩ := id hx
    obtain ⟨sw, ⟨db, b1⟩, b2, b3⟩ := id hy
    obtain ⟨pa, ra, ca, ⟨dz, z1⟩, zap, zrec, zchg⟩ := id h3
    obtain ⟨pb, rb, cb, ⟨dw, w1⟩, wap, wrec, wchg⟩ := id b3
    have nha : ha ≠ za := HolA.ne cok hx hx
    have nhb : ha ≠ zb := HolA.ne cok hx hy
    have nbz : hb ≠ za := HolA.ne cok hy hx
    refine ⟨_, rfl, ha, dh, _, _, rfl, h1, lk_hol_zone, _, rfl, hb, db, _, _, rfl, b1, lk_hol_zone, _, rfl, za, dz, _, _, rfl, z1, lk_zon_identity, _, rfl, zb, dw, _, _, rfl, w1, lk_zon_identity, rfl, _, rfl, zb, dw, _, _, rfl, w1, lk_zon_serial, _, rfl, za, dz, _, _, rfl, z1, lk_zon_serial, _, _, rfl, rfl, ?_⟩
    have eid : decide (nv (x.zone.born + 1) = nv (y.zone.born + 1)) = decide (x.zone.born = y.zone.born) := by
      rw [nv_eq]
      by_cases e : x.zone.born = y.zone.born
      · simp [e]
      · simp [e]
    rw [eid]
    have kp1 : Kp [ha] H (upd H ha (.ins c.chol dh (holF (.ref za) (ov x.from_) (nv x.good) (nv (sinceOf y t))))) := Kp.put (by simp)
    have fr1 : Frm c H (upd H ha (.ins c.chol dh (holF (.ref za) (ov x.from_) (nv x.good) (nv (sinceOf y t))))) := FrmX.kp kp1 fun b m o e _ f => by
      rw [List.mem_singleton.mp m, h1] at e
      cases e
      exact f.elim (fun z => z cok.all.hol.2.2.2.2) cok.all.hol.2.2.1
    have im1 := fr1.imm (F := F) cok
    have fo1 := fr1.fok fo
    have z31 : ZonA c F _ za x.zone := h3.kp im1 kp1 (by simpa using Ne.symm nha)
    have b31 : ZonA c F _ zb y.zone := b3.kp im1 kp1 (by simpa using Ne.symm nhb)
    have w11 : (upd H ha (.ins c.chol dh (holF (.ref za) (ov x.from_) (nv x.good) (nv (sinceOf y t))))) zb = _ := (upd_ne (Ne.symm nhb)).trans w1
    have z11 : (upd H ha (.ins c.chol dh (holF (.ref za) (ov x.from_) (nv x.good) (nv (sinceOf y t))))) za = _ := (upd_ne (Ne.symm nha)).trans z1
    have put1 : ∀ H2, Same (upd H ha (.ins c.chol dh (holF (.ref za) (ov x.from_) (nv x.good) (nv (sinceOf y t))))) H2 → Kp [ha, za] H H2 := fun H2 s b o e n => s _ _ (kp1 b o e fun m => n (by simp at m; simp [m]))
    dsimp only [gName]
    by_cases hborn : x.zone.born = y.zone.born
    · have eb : decide (x.zone.born = y.zone.born) = true := decide_eq_true hborn
      rw [eb]
      refine ⟨_, rfl, _, rfl, iteT ⟨_, rfl, _, _, rfl, rfl, _, rfl, ite_b (fun e1 => ?_) fun e1 => ?_⟩⟩
      · have hlt : y.zone.serial < x.zone.serial := by
          have := of_decide_eq_true e1
          omega
        unfold bringM at q
        rw [if_pos ⟨hborn, hlt⟩] at q
        exact ⟨(by show 1 ≤ sizeLine; decide), fun p hp => q _ za p (Same.kp _ (Same.laid hp)) (.inl rfl) (hx.same (Same.laid hp)) (fo.new hp) upd_same⟩
      have hge : x.zone.serial ≤ y.zone.serial := by
        have := of_decide_eq_false e1
        omega
      refine ⟨_, rfl, hb, db, _, rfl, b1, no_hol_since_for_copies, _, rfl, hb, zb, F, y, t, rfl, hy, _, rfl, ha, dh, _, rfl, h1, (by show 4 < 1000; decide), ?_⟩
      rw [put_hol_since]
      refine ⟨_, rfl, _, rfl, iteT ⟨_, rfl, rfl, _, rfl, ite_b (fun e2 => ?_) fun e2 => ?_⟩⟩
      · have heq : y.zone.serial = x.zone.serial := by
          have := V.int.inj (of_decide_eq_true e2)
          omega
        unfold bringM at q
        rw [if_neg (fun z => absurd z.2 (by omega)), if_pos ⟨hborn, heq⟩] at q
        refine ⟨_, rfl, za, dz, _, _, rfl, z11, lk_zon_serial, (by show 3 ≤ sizeLine; decide), fun p hp => ?_⟩
        have s2 : Same _ _ := Same.laid (o := .lst [V.int 0, nv x.zone.serial, V.int 0]) hp
        exact q _ za p (put1 _ s2) (.inl rfl) ⟨_, ⟨dh, s2 _ _ upd_same⟩, fun _ => rfl, z31.same s2⟩ (fo1.new hp) upd_same
      have hne : y.zone.serial ≠ x.zone.serial := fun z => by
        have := of_decide_eq_false e2
        exact this (congrArg V.int (by omega))
      have hmis : 1 ≤ y.zone.serial - x.zone.serial := by omega
      obtain ⟨ncb, lc, hlc, hcb, hcc⟩ := id wchg
      have ncl : lc.length = y.zone.log.length := by rw [← List.length_map (f := fun p : Addr × Dn01.Change => p.2), hlc, List.length_map]
      refine ⟨_, rfl, _, rfl, iteT ⟨_, rfl, _, rfl, zb, dw, _, _, rfl, w11, lk_zon_changes, _, _, rfl, .inl (SqL.of (fr1.lst hcb)), _, _, rfl, rfl, _, rfl, ite_b (fun e3 => ?_) fun e3 => ?_⟩⟩
      · have hle : y.zone.serial - x.zone.serial ≤ y.zone.log.length := by
          have := of_decide_eq_true e3
          rw [List.length_map] at this
          omega
        unfold bringM at q
        rw [if_neg (fun z => absurd z.2 (by omega)), if_neg (fun z => hne z.2), if_pos ⟨hborn, hle⟩] at q
        obtain ⟨mm, em⟩ : ∃ mm, mm = y.zone.serial - x.zone.serial := ⟨_, rfl⟩
        rw [← em] at q hmis hle
        refine ⟨_, rfl, zb, dw, _, _, rfl, w11, lk_zon_changes, _, rfl, _, rfl, _, rfl, cb, _, rfl, SqL.of (fr1.lst hcb), fun p hp => ?_⟩
        rw [cutNeg _ (m := mm) (by omega) hmis, List.length_map, ← List.map_drop]
        obtain ⟨lx, elx⟩ : ∃ lx, lx = lc.drop (lc.length - mm) := ⟨_, rfl⟩
        rw [← elx]
        have lxl : lx.length = mm := by
          rw [elx, List.length_drop]
          omega
        have lxm : lx.map (·.2) = (y.zone.log.map (·.2)).drop (y.zone.log.length - mm) := by
          rw [elx, List.map_drop, hlc, ncl]
        rw [← lxm] at q
        have s2 : Same _ (upd _ p (.lst (lx.map fun p => V.ref p.1))) := Same.laid hp
        have npz : p ≠ za := fun z => by rw [z, z11] at hp; cases hp
        refine ⟨p, rfl, ⟨_, SqL.of upd_same⟩, for_list (xs := lx.map fun p => V.ref p.1) (fun i σ H' => (∃ v, σ = [some (.ref ha), some (.ref hb), some (nv t), some (.ref za), some (.ref zb), some (.bl true), some (.int ((y.zone.serial : Int) - (x.zone.serial : Int))), v]) ∧ Kp [za] (upd (upd H ha (.ins c.chol dh (holF (.ref za) (ov x.from_) (nv x.good) (nv (sinceOf y t))))) p (.lst (lx.map fun p => V.ref p.1))) H' ∧ ZonA c F H' za (((lx.take i).map (·.2)).foldl Dn01.Zone.change x.zone)) ⟨⟨none, rfl⟩, Kp.refl, z31.same s2⟩ (fun i σ H' _ ⟨_, k, _⟩ => SqL.of (k _ _ upd_same (by simpa using npz))) ?_ ?_⟩
        · rintro i v σ H' hi ⟨⟨u, rfl⟩, kp, hz⟩
          obtain ⟨r, hr, rfl⟩ : ∃ r, lx[i]? = some r ∧ v = V.ref r.1 := by
            rw [List.getElem?_map] at hi
            cases e : lx[i]? with
            | none => rw [e] at hi; cases hi
            | some r => rw [e] at hi; exact ⟨r, rfl, (Option.some.inj hi).symm⟩
          have frk : Frm c (upd (upd H ha (.ins c.chol dh (holF (.ref za) (ov x.from_) (nv x.good) (nv (sinceOf y t))))) p (.lst (lx.map fun p => V.ref p.1))) H' := FrmX.kp kp fun b m o e _ f => by
            rw [List.mem_singleton.mp m, s2 _ _ z11] at e
            cases e
            exact f.elim (fun z => z cok.all.zon.2.2.2.2) cok.all.zon.2.2.1
          have fr : Frm c H H' := (fr1.trans (FrmX.same s2)).trans frk
          obtain ⟨p5, r5, c5, ⟨d5, z5⟩, _⟩ := id hz
          have hrm : r ∈ lc := by
            have := List.mem_of_getElem? hr
            rw [elx] at this
            exact List.mem_of_mem_drop this
          obtain ⟨sz1, sz2⟩ := fold_sizes ((lx.take i).map (·.2)) x.zone
          rw [List.length_map, List.length_take] at sz1 sz2
          refine ⟨_, rfl, za, d5, _, rfl, z5, no_zon_undergo, _, rfl, za, r.1, F, _, r.2, rfl, fr.fok fo, hz, (hcc r hrm).imm (F := []) (fr.imm cok), by omega, by omega, fun H6 kp6 z6 => ⟨⟨_, rfl⟩, kp.trans kp6, ?_⟩⟩
          have tk : lx.take (i + 1) = lx.take i ++ [r] := by rw [List.take_succ, hr]; rfl
          rw [tk, List.map_append, List.foldl_append]
          exact z6
        · rintro σ H' ⟨⟨u, rfl⟩, kp, hz⟩
          rw [List.length_map, List.take_length] at hz
          obtain ⟨p5, r5, c5, ⟨d5, z5⟩, _⟩ := id hz
          have frk : Frm c (upd (upd H ha (.ins c.chol dh (holF (.ref za) (ov x.from_) (nv x.good) (nv (sinceOf y t))))) p (.lst (lx.map fun p => V.ref p.1))) H' := FrmX.kp kp fun b m o e _ f => by
            rw [List.mem_singleton.mp m, s2 _ _ z11] at e
            cases e
            exact f.elim (fun z => z cok.all.zon.2.2.2.2) cok.all.zon.2.2.1
          have fr : Frm c H H' := (fr1.trans (FrmX.same s2)).trans frk
          refine ⟨_, rfl, za, d5, _, _, rfl, z5, lk_zon_serial, _, rfl, (by show 3 ≤ sizeLine; decide), fun p9 hp9 => ?_⟩
          have s9 : Same H' (upd H' p9 (.lst [V.int 1, nv ((lx.map (·.2)).foldl Dn01.Zone.change x.zone).serial, V.int ((y.zone.serial : Int) - (x.zone.serial : Int))])) := Same.laid hp9
          refine q _ za p9 (((put1 _ s2).trans (kp.mono fun b m => by simp at m; simp [m])).trans (Same.kp _ s9)) (.inl rfl) ⟨_, ⟨dh, s9 _ _ (kp _ _ (s2 _ _ upd_same) (by simpa using nha))⟩, fun _ => rfl, hz.same s9⟩ ((fr.fok fo).new hp9) ?_
          rw [upd_same, fold_serial, List.length_map, lxl]
          show some (HO.lst [V.int 1, V.int ((x.zone.serial + mm : Nat) : Int), V.int ((y.zone.serial : Int) - (x.zone.serial : Int))]) = some (HO.lst [V.int 1, V.int (y.zone.serial : Int), V.int ((mm : Nat) : Int)])
          rw [show x.zone.serial + mm = y.zone.serial by omega, show ((y.zone.serial : Int) - (x.zone.serial : Int)) = ((mm : Nat) : Int) by omega]
      have hle : ¬ y.zone.serial - x.zone.serial ≤ y.zone.log.length := fun z => by
        have := of_decide_eq_false e3
        rw [List.length_map] at this
        omega
      unfold bringM at q
      rw [if_neg (fun z => absurd z.2 (by omega)), if_neg (fun z => hne z.2), if_neg (fun z => hle z.2)] at q
      refine ⟨_, rfl, zb, dw, _, rfl, w11, no_zon_twin, zb, F, y.zone, rfl, fo1, b31, fun H2 zt s2 hzt hz2 => ?_⟩
      refine ⟨_, rfl, ha, dh, _, rfl, s2 _ _ upd_same, (by show 4 < 1000; decide), ?_⟩
      rw [put_hol_zone]
      have kp3 : Kp [ha] H2 (upd H2 ha (.ins c.chol dh (holF (.ref zt) (ov x.from_) (nv x.good) (nv (sinceOf y t))))) := Kp.put (by simp)
      have w12 := kp3 _ _ (s2 _ _ w11) (by simpa using Ne.symm nhb)
      obtain ⟨nrb, lr, hlr, hrb, hrr⟩ := id wrec
      have nrh : ∀ {b : Addr} {xs : List V}, H b = some (.lst xs) → b ≠ ha := fun e z => by rw [z, h1] at e; cases e
      have hrb3 := kp3 _ _ (s2 _ _ (fr1.lst hrb)) (by simpa using nrh hrb)
      have nzt : zt ≠ ha := fun z => by rw [z, upd_same] at hzt; cases hzt
      have nzt0 : H zt = none := by rw [upd_ne nzt] at hzt; exact hzt
      have z3 : ZonA c F _ zt y.zone := hz2.kp (L := [ha]) (Imm.mk cok fun b o e st => kp3 b o e fun m => by
        rw [List.mem_singleton.mp m, s2 _ _ upd_same] at e
        cases e
        exact st cok.all.hol.2.2.2.2) kp3 (by simpa using nzt)
      refine ⟨_, rfl, zb, dw, _, _, rfl, w12, lk_zon_serial, _, rfl, zb, dw, _, _, rfl, w12, lk_zon_records, _, _, rfl, .inl (SqL.of hrb3), (by show 3 ≤ sizeLine; decide), fun p hp => ?_⟩
      have s4 : Same (upd H2 ha (.ins c.chol dh (holF (.ref zt) (ov x.from_) (nv x.good) (nv (sinceOf y t))))) _ := Same.laid (o := .lst [V.int 2, nv y.zone.serial, V.int ((lr.map fun p => V.ref p.1).length : Nat)]) hp
      have kpf : Kp [ha, za] H _ := ((put1 _ s2).trans (kp3.mono fun b m => by simp at m; simp [m])).trans (Same.kp _ s4)
      have fop : p ∉ F := fun m => by
        obtain ⟨xs, e⟩ := fo p m
        have := kp3 _ _ (s2 _ _ (fr1.lst e)) (by simpa using nrh e)
        rw [hp] at this
        cases this
      refine q _ zt p kpf (.inr nzt0) ⟨_, ⟨dh, s4 _ _ upd_same⟩, fun _ => rfl, z3.same s4⟩ fop ?_
      rw [upd_same, List.length_map, show lr.length = y.zone.recs.length from by rw [← hlr, List.length_map]]
      rfl
    · have eb : decide (x.zone.born = y.zone.born) = false := decide_eq_false hborn
      rw [eb]
      unfold bringM at q
      rw [if_neg (fun z => hborn z.1), if_neg (fun z => hborn z.1), if_neg (fun z => hborn z.1)] at q
      refine ⟨_, rfl, _, rfl, iteF (iteF ⟨_, rfl, hb, db, _, rfl, b1, no_hol_since_for_copies, _, rfl, hb, zb, F, y, t, rfl, hy, _, rfl, ha, dh, _, rfl, h1, (by show 4 < 1000; decide), ?_⟩)⟩
      rw [put_hol_since]
      refine ⟨_, rfl, _, rfl, iteF (iteF ⟨_, rfl, _, rfl, iteF (iteF ⟨_, rfl, zb, dw, _, rfl, w11, no_zon_twin, zb, F, y.zone, rfl, fo1, b31, fun H2 zt s2 hzt hz2 => ?_⟩)⟩)⟩
      refine ⟨_, rfl, ha, dh, _, rfl, s2 _ _ upd_same, (by show 4 < 1000; decide), ?_⟩
      rw [put_hol_zone]
      have kp3 : Kp [ha] H2 (upd H2 ha (.ins c.chol dh (holF (.ref zt) (ov x.from_) (nv x.good) (nv (sinceOf y t))))) := Kp.put (by simp)
      have w12 := kp3 _ _ (s2 _ _ w11) (by simpa using Ne.symm nhb)
      obtain ⟨nrb, lr, hlr, hrb, hrr⟩ := id wrec
      have nrh : ∀ {b : Addr} {xs : List V}, H b = some (.lst xs) → b ≠ ha := fun e z => by rw [z, h1] at e; cases e
      have hrb3 := kp3 _ _ (s2 _ _ (fr1.lst hrb)) (by simpa using nrh hrb)
      have nzt : zt ≠ ha := fun z => by rw [z, upd_same] at hzt; cases hzt
      have nzt0 : H zt = none := by rw [upd_ne nzt] at hzt; exact hzt
      have z3 : ZonA c F _ zt y.zone := hz2.kp (L := [ha]) (Imm.mk cok fun b o e st => kp3 b o e fun m => by
        rw [List.mem_singleton.mp m, s2 _ _ upd_same] at e
        cases e
        exact st cok.all.hol.2.2.2.2) kp3 (by simpa using nzt)
      refine ⟨_, rfl, zb, dw, _, _, rfl, w12, lk_zon_serial, _, rfl, zb, dw, _, _, rfl, w12, lk_zon_records, _, _, rfl, .inl (SqL.of hrb3), (by show 3 ≤ sizeLine; decide), fun p hp => ?_⟩
      have s4 : Same (upd H2 ha (.ins c.chol dh (holF (.ref zt) (ov x.from_) (nv x.good) (nv (sinceOf y t))))) _ := Same.laid (o := .lst [V.int 2, nv y.zone.serial, V.int ((lr.map fun p => V.ref p.1).length : Nat)]) hp
      have kpf : Kp [ha, za] H _ := ((put1 _ s2).trans (kp3.mono fun b m => by simp at m; simp [m])).trans (Same.kp _ s4)
      have fop : p ∉ F := fun m => by
        obtain ⟨xs, e⟩ := fo p m
        have := kp3 _ _ (s2 _ _ (fr1.lst e)) (by simpa using nrh e)
        rw [hp] at this
        cases this
      refine q _ zt p kpf (.inr nzt0) ⟨_, ⟨dh, s4 _ _ upd_same⟩, fun _ => rfl, z3.same s4⟩ fop ?_
      rw [upd_same, List.length_map, show lr.length = y.zone.recs.length from by rw [← hlr, List.length_map]]
      rfl
end
end Nn


namespace Nn
open PySem PySem.Spec PyProof.Rows L2
/-! ### a copy brought up, in plain words -/
structure Win (z : Dn01.Zone) : Prop where
  num : ∀ (i : Nat) p, z.log[i]? = some p → p.1 = z.serial - z.log.length + 1 + i
  len : z.log.length = min 8 (z.serial - 1)
  pos : 1 ≤ z.serial
def Agree (x y : Dn01.Zone) : Prop := x.born = y.born → x.neg = y.neg ∧ ∀ k c d, (k, c) ∈ x.log → (k, d) ∈ y.log → c = d
theorem filt_num : ∀ (l : List (Nat × Dn01.Change)) (a k : Nat), (∀ (i : Nat) p, l[i]? = some p → p.1 = a + i) → l.filter (fun x => decide (k < x.1)) = l.drop (k + 1 - a)
  | [], a, k, h => by rw [List.drop_nil]; rfl
  | p :: l, a, k, h => by
    have h0 : p.1 = a := h 0 p rfl
    have ih := filt_num l (a + 1) k fun i q e => by
      have := h (i + 1) q (by simpa using e)
      omega
    by_cases hk : k < a
    · rw [List.filter_cons_of_pos (by simp [h0, hk]), ih, show k + 1 - (a + 1) = 0 by omega, show k + 1 - a = 0 by omega]
      rfl
    · rw [List.filter_cons_of_neg (by simp [h0, hk]), ih, show k + 1 - a = (k + 1 - (a + 1)) + 1 by omega]
      rfl
theorem since_eq {y : Dn01.Zone} (wy : Win y) {k : Nat} (hk : k ≤ y.serial) : y.since k = if y.serial - k ≤ y.log.length then some ((y.log.map (·.2)).drop (y.log.length - (y.serial - k))) else none := by
  have hl := wy.len
  have hp := wy.pos
  unfold Dn01.Zone.since
  dsimp only
  rw [filt_num y.log (y.serial - y.log.length + 1) k wy.num, List.length_drop]
  by_cases h : y.serial - k ≤ y.log.length
  · rw [if_pos h, if_pos (by omega), List.map_drop, show k + 1 - (y.serial - y.log.length + 1) = y.log.length - (y.serial - k) by omega]
  · rw [if_neg h, if_neg (by omega)]
theorem logs_eq {x y : Dn01.Zone} (wx : Win x) (wy : Win y) (ag : Agree x y) (hb : x.born = y.born) (hs : x.serial ≤ y.serial) (hm : y.serial - x.serial ≤ y.log.length) :
    (x.log ++ y.log.drop (y.log.length - (y.serial - x.serial))).drop (x.log.length + (y.serial - x.serial) - 8) = y.log := by
  have l1 := wx.len
  have l2 := wy.len
  have p1 := wx.pos
  have p2 := wy.pos
  apply List.ext_getElem?
  intro i
  rw [List.getElem?_drop, List.getElem?_append]
  by_cases hi : i < y.log.length
  · by_cases h1 : x.log.length + (y.serial - x.serial) - 8 + i < x.log.length
    · rw [if_pos h1]
      obtain ⟨p, hp⟩ : ∃ p, x.log[x.log.length + (y.serial - x.serial) - 8 + i]? = some p := ⟨_, List.getElem?_eq_getElem h1⟩
      obtain ⟨q, hq⟩ : ∃ q, y.log[i]? = some q := ⟨_, List.getElem?_eq_getElem hi⟩
      have e1 := wx.num _ _ hp
      have e2 := wy.num _ _ hq
      have e3 : p.1 = q.1 := by omega
      rw [hp, hq]
      have := (ag hb).2 p.1 p.2 q.2 (List.mem_of_getElem? hp) (by rw [e3]; exact List.mem_of_getElem? hq)
      exact congrArg some (Prod.ext e3 this)
    · rw [if_neg h1, List.getElem?_drop]
      congr 1
      omega
  · rw [if_neg (by omega), List.getElem?_drop, List.getElem?_eq_none (by omega), List.getElem?_eq_none (by omega)]
theorem fold_chg : ∀ (l : List (Nat × Dn01.Change)) (z : Dn01.Zone), z.log.length ≤ 8 → (∀ (i : Nat) p, l[i]? = some p → p.1 = z.serial + 1 + i) →
    ((l.map (·.2)).foldl Dn01.Zone.change z).log = (z.log ++ l).drop (z.log.length + l.length - 8) ∧ ((l.map (·.2)).foldl Dn01.Zone.change z).recs = (l.map (·.2)).foldl Dn01.changed z.recs ∧
    ((l.map (·.2)).foldl Dn01.Zone.change z).born = z.born ∧ ((l.map (·.2)).foldl Dn01.Zone.change z).apex = z.apex ∧ ((l.map (·.2)).foldl Dn01.Zone.change z).neg = z.neg
  | [], z, hz, _ => ⟨by rw [List.append_nil]; show z.log = _; rw [show z.log.length + ([] : List (Nat × Dn01.Change)).length - 8 = 0 by simp only [List.length_nil]; omega]; rfl, rfl, rfl, rfl, rfl⟩
  | p :: l, z, hz, hn => by
    have h0 : p.1 = z.serial + 1 := hn 0 p rfl
    have hl : (z.change p.2).log.length = min 8 (z.log.length + 1) := by
      show ((z.log ++ [(z.serial + 1, p.2)]).drop (z.log.length + 1 - 8)).length = _
      rw [List.length_drop, List.length_append, List.length_singleton]
      omega
    obtain ⟨i1, i2, i3, i4, i5⟩ := fold_chg l (z.change p.2) (by omega) fun i q e => by
      have := hn (i + 1) q (by simpa using e)
      show q.1 = z.serial + 1 + 1 + i
      omega
    rw [List.map_cons, List.foldl_cons]
    refine ⟨?_, i2, i3, i4, i5⟩
    rw [i1, hl]
    show ((z.log ++ [(z.serial + 1, p.2)]).drop (z.log.length + 1 - 8) ++ l).drop _ = _
    rw [show (z.serial + 1, p.2) = p from Prod.ext h0.symm rfl, ← List.drop_append_of_le_length (by rw [List.length_append, List.length_singleton]; omega), List.drop_drop, List.append_assoc]
    rw [List.length_cons]
    congr 1
    omega
structure EqZ (a b : Dn01.Zone) : Prop where
  born : a.born = b.born
  apex : a.apex = b.apex
  neg : a.neg = b.neg
  serial : a.serial = b.serial
  recs : a.recs = b.recs
  log : a.log.map (·.2) = b.log.map (·.2)
theorem EqZ.refl (a : Dn01.Zone) : EqZ a a := ⟨rfl, rfl, rfl, rfl, rfl, rfl⟩
def bringO (x y : Dn01.Zone) : List Int := if x.born ≠ y.born then [2, (y.serial : Int), (y.recs.length : Int)] else match y.since x.serial with
  | some l => [if l = [] then 0 else 1, (y.serial : Int), (l.length : Int)]
  | none => [2, (y.serial : Int), (y.recs.length : Int)]
theorem bring_spec {x y : Dn01.Held} {t : Nat} (wx : Win x.zone) (wy : Win y.zone) (ag : Agree x.zone y.zone) (ap : x.zone.apex = y.zone.apex) :
    (Dn01.older y.zone x.zone = true → bringM x y t = (x, [3])) ∧
    (Dn01.older y.zone x.zone = false → (bringM x y t).1.from_ = x.from_ ∧ (bringM x y t).1.good = x.good ∧ (bringM x y t).1.since = sinceOf y t ∧ EqZ (bringM x y t).1.zone (Dn01.broughtUp x.zone y.zone) ∧ (bringM x y t).2 = bringO x.zone y.zone) := by
  unfold Dn01.older bringM bringO Dn01.broughtUp
  by_cases hb : x.zone.born = y.zone.born
  · have hb' : (y.zone.born == x.zone.born) = true := by rw [beq_iff_eq, hb]
    by_cases hs : y.zone.serial < x.zone.serial
    · rw [if_pos ⟨hb, hs⟩, hb', decide_eq_true hs]
      exact ⟨fun _ => rfl, fun z => nomatch z⟩
    · rw [hb', decide_eq_false hs]
      simp only [if_neg (show ¬ (x.zone.born = y.zone.born ∧ y.zone.serial < x.zone.serial) from fun z => hs z.2)]
      refine ⟨fun z => (nomatch z), fun _ => ?_⟩
      have hle : x.zone.serial ≤ y.zone.serial := by omega
      simp only [if_neg (show ¬ (x.zone.born ≠ y.zone.born) from fun z => z hb)]
      rw [since_eq wy hle]
      have l1 := wx.len
      by_cases h0 : y.zone.serial = x.zone.serial
      · rw [if_pos (show x.zone.born = y.zone.born ∧ y.zone.serial = x.zone.serial from ⟨hb, h0⟩), if_pos (show y.zone.serial - x.zone.serial ≤ y.zone.log.length by omega), h0, Nat.sub_self, Nat.sub_zero, List.drop_of_length_le (by rw [List.length_map]; exact Nat.le_refl _)]
        have le := logs_eq wx wy ag hb hle (by omega)
        rw [h0, Nat.sub_self, Nat.sub_zero, List.drop_length, List.append_nil, show x.zone.log.length + 0 - 8 = 0 by omega, List.drop_zero] at le
        exact ⟨rfl, rfl, rfl, ⟨hb, ap, (ag hb).1, rfl, rfl, by rw [le]⟩, rfl⟩
      · rw [if_neg (show ¬ (x.zone.born = y.zone.born ∧ y.zone.serial = x.zone.serial) from fun z => h0 z.2)]
        by_cases hm : y.zone.serial - x.zone.serial ≤ y.zone.log.length
        · rw [if_pos (show x.zone.born = y.zone.born ∧ y.zone.serial - x.zone.serial ≤ y.zone.log.length from ⟨hb, hm⟩), if_pos hm]
          have le := logs_eq wx wy ag hb hle hm
          have ln : (y.zone.log.drop (y.zone.log.length - (y.zone.serial - x.zone.serial))).length = y.zone.serial - x.zone.serial := by rw [List.length_drop]; omega
          obtain ⟨f1, f2, f3, f4, f5⟩ := fold_chg (y.zone.log.drop (y.zone.log.length - (y.zone.serial - x.zone.serial))) x.zone (by omega) fun i p e => by
            rw [List.getElem?_drop] at e
            have := wy.num _ _ e
            have := at_lt e
            have := wy.len
            have := wy.pos
            omega
          have f6 := fold_serial ((y.zone.log.drop (y.zone.log.length - (y.zone.serial - x.zone.serial))).map (·.2)) x.zone
          rw [ln, le] at f1
          rw [List.length_map, ln] at f6
          rw [List.map_drop] at f1 f2 f3 f4 f5 f6
          refine ⟨rfl, rfl, rfl, ⟨f3.trans hb, f4.trans ap, f5.trans (ag hb).1, by rw [f6]; show _ = y.zone.serial; omega, f2, by rw [f1]⟩, ?_⟩
          have ne : ¬ (y.zone.log.map (·.2)).drop (y.zone.log.length - (y.zone.serial - x.zone.serial)) = [] := fun z => by
            have := congrArg List.length z
            rw [List.length_drop, List.length_map] at this
            simp only [List.length_nil] at this
            omega
          dsimp only
          rw [if_neg ne, List.length_drop, List.length_map, show y.zone.log.length - (y.zone.log.length - (y.zone.serial - x.zone.serial)) = y.zone.serial - x.zone.serial by omega]
        · rw [if_neg (show ¬ (x.zone.born = y.zone.born ∧ y.zone.serial - x.zone.serial ≤ y.zone.log.length) from fun z => hm z.2), if_neg hm]
          exact ⟨rfl, rfl, rfl, EqZ.refl _, rfl⟩
  · have hb' : (y.zone.born == x.zone.born) = false := beq_eq_false_iff_ne.mpr fun z => hb z.symm
    rw [hb']
    simp only [if_neg (show ¬ (x.zone.born = y.zone.born ∧ y.zone.serial < x.zone.serial) from fun z => hb z.1), if_neg (show ¬ (x.zone.born = y.zone.born ∧ y.zone.serial = x.zone.serial) from fun z => hb z.1), if_neg (show ¬ (x.zone.born = y.zone.born ∧ y.zone.serial - x.zone.serial ≤ y.zone.log.length) from fun z => hb z.1), if_pos (show x.zone.born ≠ y.zone.born from hb)]
    exact ⟨fun z => (nomatch z), fun _ => ⟨trivial, trivial, trivial, EqZ.refl _, trivial⟩⟩
section
variable {P : Program} {w : World} {K : PySem.W.Frag} {mg : Str → Option Value} {base : Heap} {c : Cs}
theorem HolA.congr {F : List Addr} {H : Hp} {q : Addr × Addr} {a b : Dn01.Held} (h : HolA c F H q a) (e1 : a.from_ = b.from_) (e2 : a.good = b.good) (e3 : a.since = b.since) (e : EqZ a.zone b.zone) : HolA c F H q b := by
  obtain ⟨sv, h1, h2, pa, ra, ca, z1, z2, z3, z4⟩ := h
  rw [e1, e2] at h1
  rw [e1, e3] at h2
  rw [e.born, e.neg, e.serial] at z1
  rw [e.apex] at z2
  rw [e.recs] at z3
  rw [e.log] at z4
  exact ⟨sv, h1, h2, pa, ra, ca, z1, z2, z3, z4⟩
/-- what bringing up asks of the net -/
structure TOk (h : Dn01.House) : Prop where
  rl : ∀ s ∈ h.servers, ∀ z ∈ s.zones, z.zone.recs.length ≤ 40
  apart : ∀ (i : Nat) s, h.servers[i]? = some s → ∀ z ∈ s.zones, ∀ f, z.from_ = some f → f ≠ i ∧ f < h.servers.length
  win : ∀ s ∈ h.servers, ∀ z ∈ s.zones, Win z.zone
  agree : ∀ s ∈ h.servers, ∀ t ∈ h.servers, ∀ x ∈ s.zones, ∀ y ∈ t.zones, Agree x.zone y.zone
def sp_answer_transfer (P : Program) (w : World) (c : Cs) : Sp := fun vs H Q _ => ∃ F g h s b a, vs = [.ref g.n, nv s, .ref b] ∧ NetA P w c F H g h ∧ FOk F H ∧ HOk h ∧ TOk h ∧ TN H b a ∧ AnsQ P w c F H g (h.step (.transfer s a)) Q
theorem step_transfer {h : Dn01.House} {s f : Nat} {a : List Nat} {x : Dn01.Server} {z y : Dn01.Held} (ex : h.servers[s]? = some x) (ez : x.held a = some z) (ef : z.from_ = some f) (ey : (h.server f).held a = some y) (up : x.up = true) (uf : (h.server f).up = true) (gd : y.isGood h.now = true) :
    (Dn01.older y.zone z.zone = true → h.step (.transfer s a) = (h, ⟨3, []⟩)) ∧
    (Dn01.older y.zone z.zone = false → ∃ o, h.step (.transfer s a) = (h.onZone s a fun z => { z with zone := Dn01.broughtUp z.zone y.zone, since := sinceOf y h.now }, o) ∧ outV o = (bringO z.zone y.zone).map V.int) := by
  have e0 : h.step (.transfer s a) = if Dn01.older y.zone z.zone = true then (h, ⟨3, []⟩) else
      if z.zone.born ≠ y.zone.born then (h.onZone s a fun z => { z with zone := Dn01.broughtUp z.zone y.zone, since := sinceOf y h.now }, ⟨2, Dn01.ints [y.zone.serial, y.zone.recs.length]⟩) else match y.zone.since z.zone.serial with
        | some l => (h.onZone s a fun z => { z with zone := Dn01.broughtUp z.zone y.zone, since := sinceOf y h.now }, ⟨if l = [] then 0 else 1, Dn01.ints [y.zone.serial, l.length]⟩)
        | none => (h.onZone s a fun z => { z with zone := Dn01.broughtUp z.zone y.zone, since := sinceOf y h.now }, ⟨2, Dn01.ints [y.zone.serial, y.zone.recs.length]⟩) := by
    simp only [Dn01.House.step, Dn01.House.ofZone, ex, ez, ef, ey, server_at ex, up, uf, gd, Bool.true_eq_false, or_self, if_false]
    rfl
  rw [e0]
  refine ⟨fun e => by rw [if_pos e], fun e => ?_⟩
  rw [if_neg (by rw [e]; exact Bool.false_ne_true)]
  unfold bringO
  by_cases hb : z.zone.born ≠ y.zone.born
  · rw [if_pos hb, if_pos hb]
    exact ⟨_, rfl, rfl⟩
  · rw [if_neg hb, if_neg hb]
    cases y.zone.since z.zone.serial with
    | none => exact ⟨_, rfl, rfl⟩
    | some l =>
      dsimp only
      refine ⟨_, rfl, ?_⟩
      by_cases hl : l = []
      · simp only [if_pos hl]
        rfl
      · simp only [if_neg hl]
        rfl
theorem ok_answer_transfer {f : Addr} {fd : FuncData} (F : Fun K "answer_transfer" "answer_transfer" s_answer_transfer f fd) (T : Txt K mg c) (cok : COk c) (d_refusal_of_zone : GFn P w K mg base 2 "refusal_of_zone" ["net", "server", "apex"] (sp_ref_zone P w c)) (d_Server_holding_of : MFn P w K mg base 1 c.csrv "holding_of" ["self", "apex"] (sp_holding_of c)) (d_Holding_is_copy : MFn P w K mg base 1 c.chol "is_copy" ["self"] (sp_is_copy c)) (d_Server_can_hand_out : MFn P w K mg base 3 c.csrv "can_hand_out" ["self", "apex", "now"] (sp_can c)) (d_bring_up : GFn P w K mg base 4 "bring_up" ["held", "other", "now"] (sp_bring c)) : FnOk P w K mg base CX0 5 f fd ["net", "server", "apex"] (sp_answer_transfer P w c) := by
  refine F.ok sc_answer_transfer (fun vs H Q E h => ?_) (fun cdv A outer s H vs Q E hr h => ?_)
  · obtain ⟨F, g, h, s, b, a, rfl, _⟩ := h
    rfl
  · refine ⟨_, (pss_cons (ps_set (i := 3) sc_answer_transfer.nd rfl (Or.inl rfl) (kg d_refusal_of_zone (hr.mono (by decide)) (pa_cons (pv 0) (pa_cons (pv 1) (pa_cons (pv 2) pa_nil)))))
      (pss_cons (ps_if (pt_cmpR op_lt (pv 3) pe_int (nomark _)) (pss_one (ps_ret (pe_lst (pa_cons (pv 3) pa_nil)))) pss_nil)
      (pss_cons (ps_set (i := 4) sc_answer_transfer.nd rfl (Or.inl rfl) (km (pe_ix ix_list (kf (pv 0) T.cl_net T.n_net_servers) (pv 1) (fun _ _ => rfl)) d_Server_holding_of (hr.mono (by decide)) (pa_cons (pv 2) pa_nil)))
      (pss_cons (ps_if (pt_not (pt_val (km0 (pv 4) d_Holding_is_copy (hr.mono (by decide))))) (pss_one (ps_ret (pe_lst (pa_cons (pe_un un_neg pe_int) pa_nil)))) pss_nil)
      (pss_cons (ps_set (i := 5) sc_answer_transfer.nd rfl (Or.inl rfl) (pe_ix ix_list (kf (pv 0) T.cl_net T.n_net_servers) (kf (pv 4) T.cl_hol T.n_hol_origin) (fun _ _ => rfl)))
      (pss_cons (ps_if (PW.pt (pw_or (pt_not (pt_val (kf (pe_ix ix_list (kf (pv 0) T.cl_net T.n_net_servers) (pv 1) (fun _ _ => rfl)) T.cl_srv T.n_srv_up))) (pw_or1 (pt_not (pt_val (km (pv 5) d_Server_can_hand_out (hr.mono (by decide)) (pa_cons (pv 2) (pa_cons (kf (pv 0) T.cl_net T.n_net_now) pa_nil)))))))) (pss_one (ps_ret (pe_lst (pa_cons (pe_un un_neg pe_int) pa_nil)))) pss_nil)
      (pss_one (ps_ret (kg d_bring_up (hr.mono (by decide)) (pa_cons (pv 4) (pa_cons (km (pv 5) d_Server_holding_of (hr.mono (by decide)) (pa_cons (pv 2) pa_nil)) (pa_cons (kf (pv 0) T.cl_net T.n_net_now) pa_nil)))))))))))), ?_⟩
    obtain ⟨F, g, h, s', b, a, rfl, nt, fo, hk, tk, hb, q⟩ := h
    obtain ⟨dn, n1⟩ := nt.at_
    refine ⟨_, rfl, _, rfl, _, rfl, F, g, h, s', b, a, rfl, nt, hb, fun e => ?_, fun y e1 e2 => ?_, fun x z e1 e2 => ?_⟩
    · have es : h.step (.transfer s' a) = (h, Dn01.says (-2)) := by simp only [Dn01.House.step, Dn01.House.ofZone, e]
      rw [es] at q
      exact ⟨_, rfl, _, _, rfl, rfl, _, rfl, iteT ⟨_, rfl, (by show 1 ≤ sizeLine; decide), q.put fo FrmX.refl rfl nt rfl⟩⟩
    · have es : h.step (.transfer s' a) = (h, Dn01.says (-3)) := by simp only [Dn01.House.step, Dn01.House.ofZone, e1, e2]
      rw [es] at q
      exact ⟨_, rfl, _, _, rfl, rfl, _, rfl, iteT ⟨_, rfl, (by show 1 ≤ sizeLine; decide), q.put fo FrmX.refl rfl nt rfl⟩⟩
    have xm := List.mem_of_getElem? e1
    obtain ⟨zm, zap⟩ := held_mem e2
    obtain ⟨gs, hgs, sx⟩ := nt.srvAt e1
    obtain ⟨dv, v1⟩ := id sx.at_
    obtain ⟨a1, a2⟩ := nt.atS (K := K) hgs
    have hh := held_look sx.zones a
    rw [e2] at hh
    obtain ⟨⟨⟨ha, za⟩, z'⟩, ehq, ez⟩ := Option.map_eq_some_iff.mp hh.symm
    dsimp only at ez
    subst ez
    obtain ⟨j, ej⟩ := find_at ehq
    have ej2 : x.zones[j]? = some z' := by rw [← sx.zones, List.getElem?_map, ej]; rfl
    have hol := sx.held _ (List.mem_of_getElem? ej)
    obtain ⟨sv, ⟨dh, h1⟩, h2, h3⟩ := id hol
    refine ⟨_, rfl, _, _, rfl, rfl, _, rfl, iteF ⟨_, rfl, g.n, dn, _, _, rfl, n1, lk_net_servers, _, rfl, g.sl, _, s', .ref gs.a, rfl, rfl, a1, a2, gs.a, dv, _, rfl, v1, no_srv_holding_of, _, rfl, gs.a, gs.d, b, gs.hs, a, rfl, sx.r, hb, ?_⟩⟩
    rw [ehq]
    refine ⟨_, rfl, ha, dh, _, rfl, h1, no_hol_is_copy, ha, za, F, z', rfl, hol, _, rfl, ?_⟩
    cases ef : z'.from_ with
    | none =>
      have es : h.step (.transfer s' a) = (h, Dn01.says (-6)) := by simp only [Dn01.House.step, Dn01.House.ofZone, e1, e2, ef]
      rw [es] at q
      exact iteT ⟨_, rfl, (by show 1 ≤ sizeLine; decide), q.put fo FrmX.refl rfl nt rfl⟩
    | some f0 =>
      obtain ⟨nfs, fl⟩ := tk.apart s' x e1 z' zm f0 ef
      obtain ⟨y, ey⟩ := lt_at fl
      have ym := List.mem_of_getElem? ey
      obtain ⟨gf, hgf, sf⟩ := nt.srvAt ey
      obtain ⟨df, f1⟩ := id sf.at_
      obtain ⟨a3, a4⟩ := nt.atS (K := K) hgf
      have hf := held_look sf.zones a
      rw [ef] at h1
      refine iteF ⟨_, rfl, g.n, dn, _, _, rfl, n1, lk_net_servers, _, rfl, ha, dh, _, _, rfl, h1, lk_hol_origin, g.sl, _, f0, .ref gf.a, rfl, rfl, a3, a4, ?_⟩
      refine ⟨_, rfl, g.n, dn, _, _, rfl, n1, lk_net_servers, _, rfl, g.sl, _, s', .ref gs.a, rfl, rfl, a1, a2, gs.a, dv, _, _, rfl, v1, lk_srv_up, _, rfl, ?_⟩
      have es5 : (x.up && (y.up && match lookH gf.hs a with
          | none => false
          | some q => q.2.isGood h.now)) = false → h.step (.transfer s' a) = (h, Dn01.says (-5)) := fun e => by
        cases e5 : lookH gf.hs a with
        | none =>
          rw [e5] at hf
          have hf : y.held a = none := hf
          simp only [Dn01.House.step, Dn01.House.ofZone, e1, e2, ef, server_at ey, hf]
        | some q5 =>
          rw [e5] at hf e
          have hf : y.held a = some q5.2 := hf
          have e6 : x.up = false ∨ y.up = false ∨ q5.2.isGood h.now = false := by
            cases h1 : x.up with
            | false => exact .inl rfl
            | true =>
              cases h2 : y.up with
              | false => exact .inr (.inl rfl)
              | true =>
                rw [h1, h2] at e
                exact .inr (.inr e)
          simp only [Dn01.House.step, Dn01.House.ofZone, e1, e2, ef, server_at ey, server_at e1, hf, e6, if_true]
      cases eu : x.up with
      | false =>
        rw [es5 (by rw [eu]; rfl)] at q
        exact iteT (iteT ⟨_, rfl, (by show 1 ≤ sizeLine; decide), q.put fo FrmX.refl rfl nt rfl⟩)
      | true =>
        refine iteF ⟨_, rfl, gf.a, df, _, rfl, f1, no_srv_can_hand_out, _, rfl, _, rfl, g.n, dn, _, _, rfl, n1, lk_net_now, b, F, gf, y, a, h.now, rfl, sf, hb, _, rfl, ite_b (fun e7 => ?_) fun e7 => ?_⟩
        · rw [Bool.not_eq_true'] at e7
          rw [es5 (by rw [eu, Bool.true_and]; exact e7)] at q
          exact ⟨_, rfl, (by show 1 ≤ sizeLine; decide), q.put fo FrmX.refl rfl nt rfl⟩
        rw [Bool.not_eq_false', Bool.and_eq_true] at e7
        obtain ⟨yu, e8⟩ := e7
        cases e5 : lookH gf.hs a with
        | none =>
          rw [e5] at e8
          cases e8
        | some q5 =>
          rw [e5] at e8 hf
          have hf : y.held a = some q5.2 := hf
          have e8 : q5.2.isGood h.now = true := e8
          obtain ⟨⟨hb5, zb5⟩, y5⟩ := q5
          have m5 := (lookH_some e5).1
          have holy := sf.held _ m5
          have xf := nt.aps s' f0 gs gf hgs hgf (Ne.symm nfs)
          have mj := List.mem_of_getElem? ej
          obtain ⟨ym5, yap⟩ := held_mem hf
          obtain ⟨t1, t2⟩ := step_transfer e1 e2 ef (y := y5) (by rw [server_at ey]; exact hf) eu (by rw [server_at ey]; exact yu) e8
          obtain ⟨b1, b2⟩ := bring_spec (x := z') (y := y5) (t := h.now) (tk.win x xm z' zm) (tk.win y ym y5 ym5) (tk.agree x xm y ym z' zm y5 ym5) (zap.trans yap.symm)
          have wy := (tk.win y ym y5 ym5).len
          have wx := (tk.win x xm z' zm).len
          have rx := tk.rl x xm z' zm
          refine ⟨_, rfl, _, rfl, gf.a, df, _, rfl, f1, no_srv_holding_of, _, rfl, gf.a, gf.d, b, gf.hs, a, rfl, sf.r, hb, ?_⟩
          rw [e5]
          refine ⟨_, rfl, g.n, dn, _, _, rfl, n1, lk_net_now, F, ha, za, hb5, zb5, z', y5, h.now, rfl, fo, hol, holy, fun z => xf ha (foot_hs mj).1 (by rw [z]; exact (foot_hs m5).1), fun z => xf za (foot_hs mj).2 (by rw [z]; exact (foot_hs m5).2), by omega, by omega, by omega, fun H' za' p kp hz hnew hpF hp => ?_⟩
          cases eo : Dn01.older y5.zone z'.zone with
          | true =>
            rw [t1 eo] at q
            rw [b1 eo] at hnew hp
            obtain ⟨s1, s2, s3⟩ := sx.setZ cok ej kp (fun b hb => by simpa using hb) hnew rfl hz
            have nt2 := nt.srvS cok (gs' := { gs with hs := gs.hs.set j ((ha, za'), z') }) hgs e1 kp s2 rfl s3 s1
            rw [set_id ej2, show ({ x with zones := x.zones } : Dn01.Server) = x from rfl, set_id e1] at nt2
            exact q H' { g with srv := g.srv.set s' { gs with hs := gs.hs.set j ((ha, za'), z') } } p (sx.frm cok kp s2) hpF rfl nt2 hp
          | false =>
            obtain ⟨o, so, eo2⟩ := t2 eo
            obtain ⟨c1, c2, c3, c4, c5⟩ := b2 eo
            rw [onZone_set e1 (hk.fit.aps x xm) ej2 zap] at so
            rw [so] at q
            rw [c5, ← eo2] at hp
            have hnew2 : HolA c F H' (ha, za') { z' with zone := Dn01.broughtUp z'.zone y5.zone, since := sinceOf y5 h.now } := hnew.congr c1 c2 c3 c4
            have hap : (Dn01.broughtUp z'.zone y5.zone).apex = z'.zone.apex := by
              have e := yap.trans zap.symm
              unfold Dn01.broughtUp
              split
              · exact e
              · split <;> exact e
            obtain ⟨s1, s2, s3⟩ := sx.setZ cok ej kp (fun b hb => by simpa using hb) hnew2 hap hz
            exact q H' { g with srv := g.srv.set s' { gs with hs := gs.hs.set j ((ha, za'), { z' with zone := Dn01.broughtUp z'.zone y5.zone, since := sinceOf y5 h.now }) } } p (sx.frm cok kp s2) hpF rfl (nt.srvS cok (gs' := { gs with hs := gs.hs.set j ((ha, za'), { z' with zone := Dn01.broughtUp z'.zone y5.zone, since := sinceOf y5 h.now }) }) hgs e1 kp s2 rfl s3 s1) hp
end
end Nn


namespace Nn
open PySem PySem.Spec PyProof.Rows L2
def flatC (ls : List (List Nat)) : List Nat := ls.flatMap fun v => v.length :: v
theorem flatC_app (a b : List (List Nat)) : flatC (a ++ b) = flatC a ++ flatC b := List.flatMap_append ..
theorem flatC_take (ls : List (List Nat)) (i : Nat) : (flatC (ls.take i)).length ≤ (flatC ls).length := by
  have : flatC ls = flatC (ls.take i) ++ flatC (ls.drop i) := by rw [← flatC_app, List.take_append_drop]
  rw [this, List.length_append]
  omega
section
variable {P : Program} {w : World} {K : PySem.W.Frag} {mg : Str → Option Value} {base : Heap} {c : Cs}
def LN (H : Hp) (p : Addr) (l : List Nat) : Prop := H p = some (.lst (l.map nv))
theorem LN.same {H H' : Hp} {p : Addr} {l : List Nat} (h : LN H p l) (s : Same H H') : LN H' p l := s _ _ h
/-- rows: a tuple or a list of tuples -/
def RowsAt (H : Hp) (a : Addr) (ls : List (List Nat)) : Prop := ∃ l : List (Addr × List Nat), l.map (·.2) = ls ∧ (H a = some (.lst (l.map fun p => V.ref p.1)) ∨ H a = some (.tup (l.map fun p => V.ref p.1))) ∧ ∀ p ∈ l, TN H p.1 p.2
theorem TR.rows {H : Hp} {a : Addr} {ls : List (List Nat)} (h : TR H a ls) : RowsAt H a ls := let ⟨l, e1, e2, e3⟩ := h; ⟨l, e1, .inr e2, e3⟩
def sp_counted : Sp := fun vs H Q _ => ∃ b n, vs = [.ref b] ∧ TN H b n ∧ n.length < 2000000 ∧ ∀ H' p, Same H H' → LN H' p (n.length :: n) → Q (.ref p) H'
theorem ok_counted {f : Addr} {fd : FuncData} (F : Fun K "counted" "counted" s_counted f fd) (T : Txt K mg c) (cok : COk c)  : FnOk P w K mg base CX0 1 f fd ["row"] sp_counted := by
  refine F.ok sc_counted (fun vs H Q E h => ?_) (fun cdv A outer s H vs Q E hr h => ?_)
  · obtain ⟨b, n, rfl, _⟩ := h
    rfl
  · refine ⟨_, (pss_one (ps_ret (pe_op op_cat (pe_lst (pa_cons (pe_callB call_len_seq (by rfl) T.f_len PySem.boot_len (pa_cons (pv 0) pa_nil)) pa_nil)) (pe_callTy call_list_of (by rfl) T.f_list (by decide +kernel) (pa_cons (pv 0) pa_nil))))), ?_⟩
    obtain ⟨b, n, rfl, hb, hl, q⟩ := h
    have line : 5000000 < sizeLine := by decide
    refine ⟨_, rfl, _, _, rfl, .inr (SqT.of hb), (by show 1 ≤ sizeLine; decide), fun p1 hp1 => ?_⟩
    have s1 : Same H (upd H p1 (.lst [V.int ((n.map nv).length : Nat)])) := Same.laid hp1
    refine ⟨_, rfl, b, _, rfl, .inr (SqT.of (hb.same s1)), fun p2 hp2 => ?_⟩
    have s2 : Same (upd H p1 (.lst [V.int ((n.map nv).length : Nat)])) (upd (upd H p1 (.lst [V.int ((n.map nv).length : Nat)])) p2 (.lst (n.map nv))) := Same.laid hp2
    refine ⟨p1, p2, _, _, rfl, rfl, s2 _ _ upd_same, upd_same, by rw [List.length_map, List.length_singleton]; omega, fun p3 hp3 => q _ p3 ((s1.trans s2).trans (Same.laid hp3)) ?_⟩
    show upd _ p3 _ p3 = _
    rw [upd_same, List.length_map]
    rfl
def sp_each : Sp := fun vs H Q _ => ∃ a ls, vs = [.ref a] ∧ RowsAt H a ls ∧ (flatC ls).length < 2000000 ∧ ∀ H' p, Same H H' → H p = none → LN H' p (flatC ls) → Q (.ref p) H'
theorem ok_each_counted {f : Addr} {fd : FuncData} (F : Fun K "each_counted" "each_counted" s_each_counted f fd) (T : Txt K mg c) (cok : COk c) (d_counted : GFn P w K mg base 1 "counted" ["row"] sp_counted) : FnOk P w K mg base CX0 2 f fd ["rows"] sp_each := by
  refine F.ok sc_each_counted (fun vs H Q E h => ?_) (fun cdv A outer s H vs Q E hr h => ?_)
  · obtain ⟨a, ls, rfl, _⟩ := h
    rfl
  · refine ⟨_, (pss_cons (ps_set (i := 1) sc_each_counted.nd rfl (Or.inl rfl) (pe_lst pa_nil))
      (pss_cons (ps_for PassesOwn.never rfl (kseq (pv 0)) (pg_name (i := 2) sc_each_counted.nd rfl (Or.inl rfl)) (pss_one (ps_expr (pe_bm PySem.F.plainAttrs_list PySem.F.slot_list_extend PySem.F.type_list_extend mt_extend (pv 1) (pa_cons (kg d_counted (hr.mono (by decide)) (pa_cons (pv 2) pa_nil)) pa_nil)))))
      (pss_one (ps_ret (pv 1))))), ?_⟩
    obtain ⟨a, ls, rfl, ⟨l, e1, e2, e3⟩, hl, q⟩ := h
    have line : 5000000 < sizeLine := by decide
    refine ⟨Nat.zero_le _, fun p hp => ⟨_, rfl, a, rfl, ?_⟩⟩
    have s0 : Same H (upd H p (.lst [])) := Same.laid hp
    rcases e2 with e2 | e2
    · refine .inl ⟨_, SqL.of (s0 _ _ e2), for_list (xs := l.map fun p => V.ref p.1) (fun i σ H' => (∃ v, σ = [some (.ref a), some (.ref p), v]) ∧ Same H H' ∧ LN H' p (flatC (ls.take i))) ⟨⟨none, rfl⟩, s0, upd_same⟩ (fun i σ H' _ ⟨_, s, _⟩ => SqL.of (s _ _ e2)) ?_ ?_⟩
      · rintro i x σ H' hi ⟨⟨v, rfl⟩, s1, hn⟩
        obtain ⟨r, hr, rfl⟩ : ∃ r, l[i]? = some r ∧ x = V.ref r.1 := by
          rw [List.getElem?_map] at hi
          cases e : l[i]? with
          | none => rw [e] at hi; cases hi
          | some r => rw [e] at hi; exact ⟨r, rfl, (Option.some.inj hi).symm⟩
        have tk : ls.take (i + 1) = ls.take i ++ [r.2] := by rw [List.take_succ, ← e1, List.getElem?_map, hr]; rfl
        have ft := flatC_take ls (i + 1)
        rw [tk, flatC_app, List.length_append] at ft
        have fr : flatC [r.2] = r.2.length :: r.2 := by unfold flatC; simp
        rw [fr, List.length_cons] at ft
        refine ⟨_, rfl, .inl ⟨rfl, _, SqL.of hn⟩, _, rfl, r.1, r.2, rfl, (e3 r (List.mem_of_getElem? hr)).same s1, by omega, fun H2 q2 s2 hq2 => ⟨p, q2, _, _, rfl, rfl, s2 _ _ hn, hq2, by rw [List.length_map, List.length_map, List.length_cons]; omega, ⟨_, rfl⟩, fun b o e => ?_, ?_⟩⟩
        · rw [upd_ne (ne_of_none e hp)]
          exact s2 _ _ (s1 _ _ e)
        · show upd _ p _ p = _
          rw [upd_same, ← List.map_append, tk, flatC_app, fr]
      · rintro σ H' ⟨⟨v, rfl⟩, s1, hn⟩
        have ll : l.length = ls.length := by rw [← e1, List.length_map]
        rw [List.length_map, ll, List.take_length] at hn
        exact ⟨_, rfl, q H' p s1 hp hn⟩
    · refine .inr ⟨_, SqT.of (s0 _ _ e2), for_tup (xs := l.map fun p => V.ref p.1) (fun i σ H' => (∃ v, σ = [some (.ref a), some (.ref p), v]) ∧ Same H H' ∧ LN H' p (flatC (ls.take i))) ⟨⟨none, rfl⟩, s0, upd_same⟩ (fun i σ H' _ ⟨_, s, _⟩ => SqT.of (s _ _ e2)) ?_ ?_⟩
      · rintro i x σ H' hi ⟨⟨v, rfl⟩, s1, hn⟩
        obtain ⟨r, hr, rfl⟩ : ∃ r, l[i]? = some r ∧ x = V.ref r.1 := by
          rw [List.getElem?_map] at hi
          cases e : l[i]? with
          | none => rw [e] at hi; cases hi
          | some r => rw [e] at hi; exact ⟨r, rfl, (Option.some.inj hi).symm⟩
        have tk : ls.take (i + 1) = ls.take i ++ [r.2] := by rw [List.take_succ, ← e1, List.getElem?_map, hr]; rfl
        have ft := flatC_take ls (i + 1)
        rw [tk, flatC_app, List.length_append] at ft
        have fr : flatC [r.2] = r.2.length :: r.2 := by unfold flatC; simp
        rw [fr, List.length_cons] at ft
        refine ⟨_, rfl, .inl ⟨rfl, _, SqL.of hn⟩, _, rfl, r.1, r.2, rfl, (e3 r (List.mem_of_getElem? hr)).same s1, by omega, fun H2 q2 s2 hq2 => ⟨p, q2, _, _, rfl, rfl, s2 _ _ hn, hq2, by rw [List.length_map, List.length_map, List.length_cons]; omega, ⟨_, rfl⟩, fun b o e => ?_, ?_⟩⟩
        · rw [upd_ne (ne_of_none e hp)]
          exact s2 _ _ (s1 _ _ e)
        · show upd _ p _ p = _
          rw [upd_same, ← List.map_append, tk, flatC_app, fr]
      · rintro σ H' ⟨⟨v, rfl⟩, s1, hn⟩
        have ll : l.length = ls.length := by rw [← e1, List.length_map]
        rw [List.length_map, ll, List.take_length] at hn
        exact ⟨_, rfl, q H' p s1 hp hn⟩
end
end Nn


namespace Nn
open PySem PySem.Spec PyProof.Rows L2
def rowsNum (t : Tl) : List Nat := if t.oc = 1 then t.rows.length :: flatC t.rows else flatC t.rows
def recNum (r : Dn01.Rec) : List Nat := (r.name.length :: r.name) ++ [r.sort, r.life] ++ (r.value.length :: r.value)
theorem fact_num (now : Nat) (f : Dn01.Fact) (nm : List Nat) (lf : Nat) : Dn01.factNumbers now f = ([f.until_ - now] ++ (f.name.length :: f.name) ++ [f.sort]) ++ [ocOf f.what] ++ rowsNum ⟨ocOf f.what, nm, lf, rowsOf f.what⟩ := by
  unfold Dn01.factNumbers rowsNum flatC
  cases f.what <;> simp [ocOf, rowsOf]
section
variable {P : Program} {w : World} {K : PySem.W.Frag} {mg : Str → Option Value} {base : Heap} {c : Cs}
theorem LN.cat {H : Hp} {a b : Addr} {l m : List Nat} {Q : VK} (h1 : LN H a l) (h2 : LN H b m) (hz : l.length + m.length < 4000000) (q : ∀ p, H p = none → LN (upd H p (.lst ((l ++ m).map nv))) p (l ++ m) → Q (.ref p) (upd H p (.lst ((l ++ m).map nv)))) :
    rCat (.ref a) (.ref b) H Q := by
  have line : 5000000 < sizeLine := by decide
  refine ⟨a, b, _, _, rfl, rfl, h1, h2, by rw [List.length_map, List.length_map]; omega, fun p hp => ?_⟩
  rw [← List.map_append]
  exact q p hp upd_same
def sp_rows_told (c : Cs) : Sp := fun vs H Q _ => ∃ a t, vs = [.ref a] ∧ TelA c H a t ∧ (flatC t.rows).length < 1500000 ∧ t.rows.length < 1500000 ∧ ∀ H' p, Same H H' → H p = none → LN H' p (rowsNum t) → Q (.ref p) H'
theorem ok_rows_told {f : Addr} {fd : FuncData} (F : Fun K "rows_told" "rows_told" s_rows_told f fd) (T : Txt K mg c) (cok : COk c) (d_each_counted : GFn P w K mg base 2 "each_counted" ["rows"] sp_each) : FnOk P w K mg base CX0 3 f fd ["telling"] (sp_rows_told c) := by
  refine F.ok sc_rows_told (fun vs H Q E h => ?_) (fun cdv A outer s H vs Q E hr h => ?_)
  · obtain ⟨a, t, rfl, _⟩ := h
    rfl
  · refine ⟨_, (pss_cons (ps_if (pt_cmpR op_eq (kf (pv 0) T.cl_tel T.n_tel_outcome) (kn T.k_TELLS) (nomark _)) (pss_one (ps_ret (pe_op op_cat (pe_lst (pa_cons (pe_callB call_len_seq (by rfl) T.f_len PySem.boot_len (pa_cons (kf (pv 0) T.cl_tel T.n_tel_rows) pa_nil)) pa_nil)) (kg d_each_counted (hr.mono (by decide)) (pa_cons (kf (pv 0) T.cl_tel T.n_tel_rows) pa_nil))))) pss_nil)
      (pss_one (ps_ret (kg d_each_counted (hr.mono (by decide)) (pa_cons (kf (pv 0) T.cl_tel T.n_tel_rows) pa_nil))))), ?_⟩
    obtain ⟨a, t, rfl, ⟨na, ra, ⟨dx, h1⟩, h2, h3⟩, hl, hl2, q⟩ := h
    have line : 5000000 < sizeLine := by decide
    unfold rowsNum at q
    refine ⟨_, rfl, a, dx, _, _, rfl, h1, lk_tel_outcome, rfl, _, rfl, ite_b (fun e => ?_) fun e => ?_⟩
    · rw [show decide (nv t.oc = V.int 1) = (t.oc == 1) from nv_eq _ 1, beq_iff_eq] at e
      rw [if_pos e] at q
      obtain ⟨l, l1, l2, l3⟩ := id h3
      refine ⟨_, rfl, a, dx, _, _, rfl, h1, lk_tel_rows, _, _, rfl, .inr (SqT.of l2), (by show 1 ≤ sizeLine; decide), fun p1 hp1 => ?_⟩
      have e2 : [V.int ((l.map fun p => V.ref p.1).length : Nat)] = [t.rows.length].map nv := by rw [← l1, List.length_map, List.length_map]; rfl
      rw [e2]
      have s1 : Same H (upd H p1 (.lst ([t.rows.length].map nv))) := Same.laid hp1
      refine ⟨_, rfl, a, dx, _, _, rfl, s1 _ _ h1, lk_tel_rows, ra, t.rows, rfl, (h3.same s1).rows, by omega, fun H2 p2 s2 hp2 ln2 => ?_⟩
      exact LN.cat (s2 _ _ upd_same) ln2 (by simp only [List.length_singleton]; omega) fun p3 hp3 ln3 => q _ p3 ((s1.trans s2).trans (Same.laid hp3)) (same_none (s1.trans s2) hp3) ln3
    · rw [show decide (nv t.oc = V.int 1) = (t.oc == 1) from nv_eq _ 1, beq_eq_false_iff_ne] at e
      rw [if_neg e] at q
      exact ⟨_, rfl, a, dx, _, _, rfl, h1, lk_tel_rows, ra, t.rows, rfl, h3.rows, by omega, fun H2 p2 s2 hp2 ln2 => q H2 p2 s2 hp2 ln2⟩
def sp_rec_num (c : Cs) : Sp := fun vs H Q _ => ∃ a r, vs = [.ref a] ∧ RecA c H a r ∧ r.name.length < 1000000 ∧ r.value.length < 1000000 ∧ ∀ H' p, Same H H' → LN H' p (recNum r) → Q (.ref p) H'
theorem ok_numbers_of_record {f : Addr} {fd : FuncData} (F : Fun K "numbers_of_record" "numbers_of_record" s_numbers_of_record f fd) (T : Txt K mg c) (cok : COk c) (d_counted : GFn P w K mg base 1 "counted" ["row"] sp_counted) : FnOk P w K mg base CX0 2 f fd ["record"] (sp_rec_num c) := by
  refine F.ok sc_numbers_of_record (fun vs H Q E h => ?_) (fun cdv A outer s H vs Q E hr h => ?_)
  · obtain ⟨a, r, rfl, _⟩ := h
    rfl
  · refine ⟨_, (pss_one (ps_ret (pe_op op_cat (pe_op op_cat (kg d_counted (hr.mono (by decide)) (pa_cons (kf (pv 0) T.cl_rec T.n_rec_name) pa_nil)) (pe_lst (pa_cons (kf (pv 0) T.cl_rec T.n_rec_kind) (pa_cons (kf (pv 0) T.cl_rec T.n_rec_life) pa_nil)))) (kg d_counted (hr.mono (by decide)) (pa_cons (kf (pv 0) T.cl_rec T.n_rec_value) pa_nil))))), ?_⟩
    obtain ⟨a, r, rfl, ⟨na, va, ⟨dx, h1⟩, h2, h3⟩, l1, l2, q⟩ := h
    refine ⟨_, rfl, a, dx, _, _, rfl, h1, lk_rec_name, na, r.name, rfl, h2, by omega, fun H1 p1 s1 ln1 => ?_⟩
    refine ⟨_, rfl, a, dx, _, _, rfl, s1 _ _ h1, lk_rec_kind, _, rfl, a, dx, _, _, rfl, s1 _ _ h1, lk_rec_life, (by show 2 ≤ sizeLine; decide), fun p2 hp2 => ?_⟩
    have s2 : Same H1 (upd H1 p2 (.lst [nv r.sort, nv r.life])) := Same.laid hp2
    refine LN.cat (m := [r.sort, r.life]) (ln1.same s2) upd_same (by simp only [List.length_cons, List.length_nil]; omega) fun p3 hp3 ln3 => ?_
    have s3 := Same.laid (o := .lst (((r.name.length :: r.name) ++ [r.sort, r.life]).map nv)) hp3
    have s13 := (s1.trans s2).trans s3
    refine ⟨_, rfl, a, dx, _, _, rfl, s13 _ _ h1, lk_rec_value, va, r.value, rfl, h3.same s13, by omega, fun H4 p4 s4 ln4 => ?_⟩
    exact LN.cat (ln3.same s4) ln4 (by simp only [List.length_cons, List.length_nil, List.length_append]; omega) fun p5 hp5 ln5 => q _ p5 ((s13.trans s4).trans (Same.laid hp5)) ln5
def sp_fact_num (c : Cs) : Sp := fun vs H Q _ => ∃ a f t, vs = [.ref a, nv t] ∧ FacA c H a f ∧ t ≤ f.until_ ∧ f.name.length < 1000000 ∧ (flatC (rowsOf f.what)).length < 1000000 ∧ (rowsOf f.what).length < 1000000 ∧ ∀ H' p, Same H H' → LN H' p (Dn01.factNumbers t f) → Q (.ref p) H'
theorem ok_numbers_of_fact {f : Addr} {fd : FuncData} (F : Fun K "numbers_of_fact" "numbers_of_fact" s_numbers_of_fact f fd) (T : Txt K mg c) (cok : COk c) (d_Fact_left : MFn P w K mg base 1 c.cfac "left" ["self", "now"] (sp_left c)) (d_counted : GFn P w K mg base 1 "counted" ["row"] sp_counted) (d_rows_told : GFn P w K mg base 3 "rows_told" ["telling"] (sp_rows_told c)) : FnOk P w K mg base CX0 4 f fd ["fact", "now"] (sp_fact_num c) := by
  refine F.ok sc_numbers_of_fact (fun vs H Q E h => ?_) (fun cdv A outer s H vs Q E hr h => ?_)
  · obtain ⟨a, f, t, rfl, _⟩ := h
    rfl
  · refine ⟨_, (pss_cons (ps_set (i := 2) sc_numbers_of_fact.nd rfl (Or.inl rfl) (kf (pv 0) T.cl_fac T.n_fac_telling))
      (pss_cons (ps_set (i := 3) sc_numbers_of_fact.nd rfl (Or.inl rfl) (pe_op op_cat (pe_op op_cat (pe_lst (pa_cons (km (pv 0) d_Fact_left (hr.mono (by decide)) (pa_cons (pv 1) pa_nil)) pa_nil)) (kg d_counted (hr.mono (by decide)) (pa_cons (kf (pv 2) T.cl_tel T.n_tel_name) pa_nil))) (pe_lst (pa_cons (kf (pv 0) T.cl_fac T.n_fac_kind) pa_nil))))
      (pss_one (ps_ret (pe_op op_cat (pe_op op_cat (pv 3) (pe_lst (pa_cons (kf (pv 2) T.cl_tel T.n_tel_outcome) pa_nil))) (kg d_rows_told (hr.mono (by decide)) (pa_cons (pv 2) pa_nil))))))), ?_⟩
    obtain ⟨a, f', t, rfl, hf, tl, l1, l2, l3, q⟩ := h
    obtain ⟨ta, life, ⟨dx, h1⟩, ht⟩ := id hf
    obtain ⟨na, ra, ⟨dy, t1⟩, t2, t3⟩ := id ht
    rw [fact_num t f' f'.name life] at q
    refine ⟨_, rfl, a, dx, _, _, rfl, h1, lk_fac_telling, _, rfl, a, dx, _, rfl, h1, no_fac_left, _, rfl, a, f', t, rfl, hf, tl, (by show 1 ≤ sizeLine; decide), fun p1 hp1 => ?_⟩
    have s1 : Same H (upd H p1 (.lst [nv (f'.until_ - t)])) := Same.laid hp1
    have ln1 : LN (upd H p1 (.lst [nv (f'.until_ - t)])) p1 [f'.until_ - t] := upd_same
    refine ⟨_, rfl, ta, dy, _, _, rfl, s1 _ _ t1, lk_tel_name, na, f'.name, rfl, t2.same s1, by omega, fun H2 p2 s2 ln2 => ?_⟩
    refine LN.cat (ln1.same s2) ln2 (by simp only [List.length_cons, List.length_nil]; omega) fun p3 hp3 ln3 => ?_
    have s13 := (s1.trans s2).trans (Same.laid (o := .lst (([f'.until_ - t] ++ f'.name.length :: f'.name).map nv)) hp3)
    refine ⟨_, rfl, a, dx, _, _, rfl, s13 _ _ h1, lk_fac_kind, (by show 1 ≤ sizeLine; decide), fun p4 hp4 => ?_⟩
    have s4 := Same.laid (o := .lst [nv f'.sort]) hp4
    refine LN.cat (m := [f'.sort]) (ln3.same s4) upd_same (by simp only [List.length_cons, List.length_nil, List.length_append]; omega) fun p5 hp5 ln5 => ?_
    have s15 := (s13.trans s4).trans (Same.laid (o := .lst (([f'.until_ - t] ++ f'.name.length :: f'.name ++ [f'.sort]).map nv)) hp5)
    refine ⟨_, rfl, _, rfl, ta, dy, _, _, rfl, s15 _ _ t1, lk_tel_outcome, (by show 1 ≤ sizeLine; decide), fun p6 hp6 => ?_⟩
    have s6 := Same.laid (o := .lst [nv (ocOf f'.what)]) hp6
    refine LN.cat (m := [ocOf f'.what]) (ln5.same s6) upd_same (by simp only [List.length_cons, List.length_nil, List.length_append]; omega) fun p7 hp7 ln7 => ?_
    have s17 := (s15.trans s6).trans (Same.laid (o := .lst (([f'.until_ - t] ++ f'.name.length :: f'.name ++ [f'.sort] ++ [ocOf f'.what]).map nv)) hp7)
    refine ⟨_, rfl, ta, _, rfl, ht.same s17, by show (flatC (rowsOf f'.what)).length < 1500000; omega, by show (rowsOf f'.what).length < 1500000; omega, fun H8 p8 s8 hp8 ln8 => ?_⟩
    have lr : (rowsNum ⟨ocOf f'.what, f'.name, life, rowsOf f'.what⟩).length ≤ (flatC (rowsOf f'.what)).length + 1 := by
      unfold rowsNum
      dsimp only
      split <;> simp
    exact LN.cat (ln7.same s8) ln8 (by simp only [List.length_cons, List.length_nil, List.length_append]; omega) fun p9 hp9 ln9 => q _ p9 ((s17.trans s8).trans (Same.laid hp9)) ln9
def sp_answer_set (P : Program) (w : World) (c : Cs) : Sp := fun vs H Q _ => ∃ F g h s u, vs = [.ref g.n, nv s, nv u] ∧ NetA P w c F H g h ∧ FOk F H ∧ AnsQ P w c F H g (h.step (.set_ s u)) Q
theorem SrvA.setUp (ok : COk c) {F : List Addr} {H : Hp} {gs : GS} {s : Dn01.Server} {dv : Addr} (x : SrvA c F H gs s) (e : H gs.a = some (.ins c.csrv dv (srvF (.bl s.up) (.ref gs.d)))) (u : Bool) : SrvA c F (upd H gs.a (.ins c.csrv dv (srvF (.bl u) (.ref gs.d)))) gs { s with up := u } := by
  have kp : Kp [gs.a] H (upd H gs.a (.ins c.csrv dv (srvF (.bl u) (.ref gs.d)))) := Kp.put (by simp)
  have im : Imm c F H _ := (x.frm ok kp fun z m => by rw [List.mem_singleton.mp m]; simp [GS.foot]).imm ok
  have nda : gs.d ≠ gs.a := fun z => by
    have := x.dict
    rw [z, e] at this
    cases this
  refine ⟨⟨dv, upd_same⟩, (upd_ne nda).trans x.dict, fun q m => ?_, x.zones, x.apart⟩
  have hq := x.held q m
  obtain ⟨sv, ⟨dh, h1⟩, h2, pa, ra, ca, ⟨dz, z1⟩, _⟩ := id hq
  refine hq.kp im kp (fun m => ?_) fun m => ?_
  · rw [List.mem_singleton.mp m, e] at h1
    exact ok.all.hz.2.1 (HO.ins.inj (Option.some.inj h1)).1.symm
  · rw [List.mem_singleton.mp m, e] at z1
    exact ok.all.hz.2.2 (HO.ins.inj (Option.some.inj z1)).1
theorem ok_answer_set {f : Addr} {fd : FuncData} (F : Fun K "answer_set" "answer_set" s_answer_set f fd) (T : Txt K mg c) (cok : COk c) (d_Net_has_server : MFn P w K mg base 1 c.cnet "has_server" ["self", "server"] (sp_has_server P w c)) : FnOk P w K mg base CX0 2 f fd ["net", "server", "up"] (sp_answer_set P w c) := by
  refine F.ok sc_answer_set (fun vs H Q E h => ?_) (fun cdv A outer s H vs Q E hr h => ?_)
  · obtain ⟨F, g, h, s, u, rfl, _⟩ := h
    rfl
  · refine ⟨_, (pss_cons (ps_if (pt_not (pt_val (km (pv 0) d_Net_has_server (hr.mono (by decide)) (pa_cons (pv 1) pa_nil)))) (pss_one (ps_ret (pe_lst (pa_cons (pe_un un_neg pe_int) pa_nil)))) pss_nil)
      (pss_cons (ps_if (pt_cmpR op_gt (pv 2) pe_int (nomark _)) (pss_one (ps_ret (pe_lst (pa_cons (pe_un un_neg pe_int) pa_nil)))) pss_nil)
      (pss_cons (ps_set (i := 3) sc_answer_set.nd rfl (Or.inl rfl) (pe_ix ix_list (kf (pv 0) T.cl_net T.n_net_servers) (pv 1) (fun _ _ => rfl)))
      (pss_cons (ps_set (i := 4) sc_answer_set.nd rfl (Or.inl rfl) (pe_cmpR op_eq (pv 2) pe_int (nomark _)))
      (pss_cons (ps_if (pt_cmpR op_eq (kf (pv 3) T.cl_srv T.n_srv_up) (pv 4) (nomark _)) (pss_one (ps_ret (pe_lst (pa_cons (pe_un un_neg pe_int) pa_nil)))) pss_nil)
      (pss_cons (kfs (pv 3) (pv 4) T.cl_srv T.n_srv_up)
      (pss_one (ps_ret (pe_lst (pa_cons pe_int pa_nil)))))))))), ?_⟩
    obtain ⟨F, g, h, s', u, rfl, nt, fo, q⟩ := h
    obtain ⟨dn, n1⟩ := nt.at_
    refine ⟨_, rfl, g.n, dn, _, rfl, n1, no_net_has_server, _, rfl, F, g, h, s', rfl, nt, _, rfl, ite_b (fun e => ?_) fun e => ?_⟩
    · rw [Bool.not_eq_true', decide_eq_false_iff_not] at e
      have es : h.step (.set_ s' u) = (h, Dn01.says (-2)) := by simp only [Dn01.House.step, none_ge e]
      rw [es] at q
      exact ⟨_, rfl, (by show 1 ≤ sizeLine; decide), q.put fo FrmX.refl rfl nt rfl⟩
    rw [Bool.not_eq_false', decide_eq_true_eq] at e
    obtain ⟨x, ex⟩ := lt_at e
    refine ⟨_, rfl, _, _, rfl, rfl, _, rfl, ite_b (fun e2 => ?_) fun e2 => ?_⟩
    · have e2 : 1 < u := by
        have := of_decide_eq_true e2
        omega
      have es : h.step (.set_ s' u) = (h, Dn01.says (-1)) := by simp only [Dn01.House.step, ex, e2, if_true]
      rw [es] at q
      exact ⟨_, rfl, (by show 1 ≤ sizeLine; decide), q.put fo FrmX.refl rfl nt rfl⟩
    have e2 : ¬ 1 < u := by
      have := of_decide_eq_false e2
      omega
    obtain ⟨gs, hgs, sy⟩ := nt.srvAt ex
    obtain ⟨dv, v1⟩ := id sy.at_
    obtain ⟨a1, a2⟩ := nt.atS (K := K) hgs
    refine ⟨_, rfl, g.n, dn, _, _, rfl, n1, lk_net_servers, _, rfl, g.sl, _, s', .ref gs.a, rfl, rfl, a1, a2, _, rfl, rfl, ?_⟩
    rw [show decide (nv u = V.int 1) = (u == 1) from nv_eq u 1]
    refine ⟨_, rfl, gs.a, dv, _, _, rfl, v1, lk_srv_up, _, rfl, rfl, _, rfl, ite_b (fun e3 => ?_) fun e3 => ?_⟩
    · have e3 : x.up = (u == 1) := V.bl.inj (of_decide_eq_true e3)
      have es : h.step (.set_ s' u) = (h, Dn01.says (-4)) := by simp only [Dn01.House.step, ex, e2, e3, if_true, if_false]
      rw [es] at q
      exact ⟨_, rfl, (by show 1 ≤ sizeLine; decide), q.put fo FrmX.refl rfl nt rfl⟩
    have e3 : ¬ x.up = (u == 1) := fun z => of_decide_eq_false e3 (congrArg V.bl z)
    have es : h.step (.set_ s' u) = ({ h with servers := h.servers.set s' { x with up := u == 1 } }, Dn01.says 0) := by simp only [Dn01.House.step, ex, e2, e3, if_false, Dn01.House.onServer, modify_set ex]
    rw [es] at q
    refine ⟨_, rfl, _, rfl, gs.a, dv, _, rfl, v1, (by show 2 < 1000; decide), ?_⟩
    rw [put_srv_up]
    have kp : Kp [gs.a] H (upd H gs.a (.ins c.csrv dv (srvF (.bl (u == 1)) (.ref gs.d)))) := Kp.put (by simp)
    have hL : ∀ y ∈ [gs.a], y ∈ gs.foot := fun y m => by rw [List.mem_singleton.mp m]; simp [GS.foot]
    exact ⟨(by show 1 ≤ sizeLine; decide), q.put (g1 := { g with srv := g.srv.set s' gs }) fo (sy.frm cok kp hL) rfl (nt.srvS cok (gs' := gs) hgs ex kp hL rfl (fun y m => .inl m) (sy.setUp cok v1 (u == 1))) rfl⟩
def sp_answer_pass (P : Program) (w : World) (c : Cs) : Sp := fun vs H Q _ => ∃ F g h n, vs = [.ref g.n, nv n] ∧ NetA P w c F H g h ∧ FOk F H ∧ AnsQ P w c F H g (h.step (.pass n)) Q
theorem ok_answer_pass {f : Addr} {fd : FuncData} (F : Fun K "answer_pass" "answer_pass" s_answer_pass f fd) (T : Txt K mg c) (cok : COk c)  : FnOk P w K mg base CX0 1 f fd ["net", "length"] (sp_answer_pass P w c) := by
  refine F.ok sc_answer_pass (fun vs H Q E h => ?_) (fun cdv A outer s H vs Q E hr h => ?_)
  · obtain ⟨F, g, h, n, rfl, _⟩ := h
    rfl
  · refine ⟨_, (pss_cons (ps_if (pt_not (pt_chain op_le op_le pe_int (pv 1) (kn T.k_LONGEST_PASS))) (pss_one (ps_ret (pe_lst (pa_cons (pe_un un_neg pe_int) pa_nil)))) pss_nil)
      (pss_cons (kfa (pv 0) (pv 1) in_add T.cl_net T.n_net_now)
      (pss_one (ps_ret (pe_lst (pa_cons (kf (pv 0) T.cl_net T.n_net_now) pa_nil)))))), ?_⟩
    obtain ⟨F, g, h, n, rfl, nt, fo, q⟩ := h
    obtain ⟨dn, n1⟩ := nt.at_
    have bad : n = 0 ∨ 100000 < n → h.step (.pass n) = (h, Dn01.says (-1)) := fun e => by
      simp only [Dn01.House.step, Dn01.LIFE, e, if_true]
    refine ⟨_, rfl, _, _, rfl, rfl, _, rfl, ite_b (fun e1 => ?_) fun e1 => ?_⟩
    · refine ⟨_, _, rfl, rfl, _, rfl, ite_b (fun e2 => ?_) fun e2 => ?_⟩
      · rw [Bool.not_eq_true'] at e2
        have e2 := of_decide_eq_false e2
        rw [bad (.inr (by omega))] at q
        exact ⟨_, rfl, (by show 1 ≤ sizeLine; decide), q.put fo FrmX.refl rfl nt rfl⟩
      rw [Bool.not_eq_false'] at e2
      have e2 := of_decide_eq_true e2
      have e1 := of_decide_eq_true e1
      have es : h.step (.pass n) = ({ h with now := h.now + n }, Dn01.says (h.now + n : Nat)) := by
        have : ¬ (n = 0 ∨ 100000 < n) := by omega
        simp only [Dn01.House.step, Dn01.LIFE, this, if_false]
      rw [es] at q
      refine ⟨_, rfl, g.n, dn, _, _, rfl, n1, lk_net_now, _, rfl, _, _, rfl, rfl, dn, _, n1, (by show 5 < 1000; decide), ?_⟩
      rw [put_net_now]
      obtain ⟨nt1, fr1⟩ := nt.num cok n1 (h.now + n) h.made
      exact ⟨_, rfl, g.n, dn, _, _, rfl, upd_same, lk_net_now, (by show 1 ≤ sizeLine; decide), q.put fo fr1 rfl nt1 rfl⟩
    · have e1 := of_decide_eq_false e1
      rw [bad (.inl (by omega))] at q
      exact ⟨_, rfl, iteT ⟨_, rfl, (by show 1 ≤ sizeLine; decide), q.put fo FrmX.refl rfl nt rfl⟩⟩
def sp_answer_flush (P : Program) (w : World) (c : Cs) : Sp := fun vs H Q _ => ∃ F g h s, vs = [.ref g.n, nv s] ∧ NetA P w c F H g h ∧ FOk F H ∧ HOk h ∧ AnsQ P w c F H g (h.step (.flush s)) Q
theorem CacA.len {H : Hp} {g : GC} {fs : List Dn01.Fact} (x : CacA P w c H g fs) : g.fs.length = fs.length := by
  rw [← x.2.2, List.length_map]
theorem known_len {l : FL} {fs : List Dn01.Fact} (e : l.map (·.2) = fs) (t : Nat) : (l.filter fun x => decide (t < x.2.until_)).map (·.2) = fs.filter fun f => decide (t < f.until_) := by
  rw [← e, List.filter_map]
  rfl
theorem NetA.atC {F : List Addr} {H : Hp} {g : GN} {h : Dn01.House} (x : NetA P w c F H g h) {i : Nat} {gs : GC} (e : g.cas[i]? = some gs) : SqL K H g.cl (g.cas.map fun s => V.ref s.a) ∧ atI (g.cas.map fun s => V.ref s.a) (i : Int) = some (.ref gs.a) :=
  ⟨SqL.of x.cl, atI_nat (by rw [List.getElem?_map, e]; rfl)⟩
theorem ok_answer_flush {f : Addr} {fd : FuncData} (F : Fun K "answer_flush" "answer_flush" s_answer_flush f fd) (T : Txt K mg c) (cok : COk c) (d_Net_has_cache : MFn P w K mg base 1 c.cnet "has_cache" ["self", "cache"] (sp_has_cache P w c)) (d_Cache_known_facts : MFn P w K mg base 2 c.ccac "known_facts" ["self", "now"] (sp_known_facts P w c)) (d_Cache_forget_all : MFn P w K mg base 1 c.ccac "forget_all" ["self"] (sp_forget P w c)) : FnOk P w K mg base CX0 3 f fd ["net", "cache"] (sp_answer_flush P w c) := by
  refine F.ok sc_answer_flush (fun vs H Q E h => ?_) (fun cdv A outer s H vs Q E hr h => ?_)
  · obtain ⟨F, g, h, s, rfl, _⟩ := h
    rfl
  · refine ⟨_, (pss_cons (ps_if (pt_not (pt_val (km (pv 0) d_Net_has_cache (hr.mono (by decide)) (pa_cons (pv 1) pa_nil)))) (pss_one (ps_ret (pe_lst (pa_cons (pe_un un_neg pe_int) pa_nil)))) pss_nil)
      (pss_cons (ps_set (i := 2) sc_answer_flush.nd rfl (Or.inl rfl) (pe_callB call_len_seq (by rfl) T.f_len PySem.boot_len (pa_cons (km (pe_ix ix_list (kf (pv 0) T.cl_net T.n_net_caches) (pv 1) (fun _ _ => rfl)) d_Cache_known_facts (hr.mono (by decide)) (pa_cons (kf (pv 0) T.cl_net T.n_net_now) pa_nil)) pa_nil)))
      (pss_cons (ps_expr (km0 (pe_ix ix_list (kf (pv 0) T.cl_net T.n_net_caches) (pv 1) (fun _ _ => rfl)) d_Cache_forget_all (hr.mono (by decide))))
      (pss_one (ps_ret (pe_lst (pa_cons (pv 2) pa_nil))))))), ?_⟩
    obtain ⟨F, g, h, s', rfl, nt, fo, hk, q⟩ := h
    obtain ⟨dn, n1⟩ := nt.at_
    refine ⟨_, rfl, g.n, dn, _, rfl, n1, no_net_has_cache, _, rfl, F, g, h, s', rfl, nt, _, rfl, ite_b (fun e => ?_) fun e => ?_⟩
    · rw [Bool.not_eq_true', decide_eq_false_iff_not] at e
      have es : h.step (.flush s') = (h, Dn01.says (-2)) := by simp only [Dn01.House.step, none_ge e]
      rw [es] at q
      exact ⟨_, rfl, (by show 1 ≤ sizeLine; decide), q.put fo FrmX.refl rfl nt rfl⟩
    rw [Bool.not_eq_false', decide_eq_true_eq] at e
    obtain ⟨x, ex⟩ := lt_at e
    have es : h.step (.flush s') = ({ h with caches := h.caches.set s' [] }, Dn01.says ((x.filter fun f => decide (h.now < f.until_)).length : Nat)) := by simp only [Dn01.House.step, ex]
    rw [es] at q
    obtain ⟨gc, hgc, cx⟩ := nt.cacAt ex
    obtain ⟨⟨da, a1⟩, c2, c3⟩ := id cx
    obtain ⟨b1, b2⟩ := nt.atC (K := K) hgc
    have fl := (hk.fg x (List.mem_of_getElem? ex)).2
    refine ⟨_, rfl, g.n, dn, _, _, rfl, n1, lk_net_caches, _, rfl, g.cl, _, s', .ref gc.a, rfl, rfl, b1, b2, gc.a, da, _, rfl, a1, no_cac_known_facts, _, rfl, g.n, dn, _, _, rfl, n1, lk_net_now, gc, x, h.now, rfl, cx, by rw [cx.len]; omega, fun H1 p1 s1 hp1 hl1 => ?_⟩
    have nt1 := nt.same s1
    refine ⟨_, _, rfl, .inl (SqL.of hl1), _, rfl, g.n, dn, _, _, rfl, s1 _ _ n1, lk_net_caches, _, rfl, g.cl, _, s', .ref gc.a, rfl, rfl, (nt1.atC (K := K) hgc).1, b2, gc.a, da, _, rfl, s1 _ _ a1, no_cac_forget_all, gc.a, _, rfl, ⟨da, s1 _ _ a1⟩, fun H2 d kp hd low hat hdd => ?_⟩
    have kp2 : Kp [gc.a] H H2 := (Same.kp _ s1).trans kp
    have hL : ∀ y ∈ [gc.a], y ∈ gc.foot ∨ SeaL c F H y := fun y m => .inl (by rw [List.mem_singleton.mp m]; simp [GC.foot])
    have hd0 : H d = none := same_none s1 hd
    have fr : Frm c H H2 := FrmX.kp kp2 fun y m o e _ f => by
      rw [List.mem_singleton.mp m, a1] at e
      cases e
      exact f.elim (fun z => z cok.all.cac.2.2.2) cok.all.cac.2.1
    have new : CacA P w c H2 { gc with d := d, fs := [] } [] := ⟨hat, ⟨⟨hdd, fun x hx => (nomatch hx), .nil, low, Nat.zero_le _⟩, fun x hx => nomatch hx⟩, rfl⟩
    have nt2 := nt.cacS cok (gs' := { gc with d := d, fs := [] }) hgc kp2 hL rfl (fun y m => by
      simp only [GC.foot, List.mem_cons, List.not_mem_nil, or_false] at m ⊢
      rcases m with m | m
      · exact .inl (.inl m)
      · exact .inr (by rw [m]; exact hd0)) new
    refine ⟨_, rfl, (by show 1 ≤ sizeLine; decide), q.put (g1 := { g with cas := g.cas.set s' { gc with d := d, fs := [] } }) fo fr rfl nt2 ?_⟩
    rw [List.length_map]
    have := congrArg List.length (known_len c3 h.now)
    rw [List.length_map] at this
    rw [this]
    rfl
end
end Nn


namespace Nn
open PySem PySem.Spec PyProof.Rows L2
theorem flat_rows : ∀ ls : List (List Nat), ls.length ≤ (flatC ls).length
  | [] => Nat.le_refl _
  | v :: ls => by
    have := flat_rows ls
    unfold flatC at this ⊢
    rw [List.flatMap_cons, List.length_append, List.length_cons, List.length_cons]
    omega
theorem rows_le (oc : Nat) (nm : List Nat) (lf : Nat) (rows : List (List Nat)) : (flatC rows).length ≤ (rowsNum ⟨oc, nm, lf, rows⟩).length := by
  unfold rowsNum
  dsimp only
  split
  · rw [List.length_cons]
    omega
  · exact Nat.le_refl _
theorem ints_nv (l : List Nat) : (Dn01.ints l).map V.int = l.map nv := by
  unfold Dn01.ints
  rw [List.map_map]
  rfl
section
variable {P : Program} {w : World} {K : PySem.W.Frag} {mg : Str → Option Value} {base : Heap} {c : Cs}
/-- a loop that extends a list by what each of some refs comes to -/
theorem ext_take {α : Type} (f : α → List Nat) (l : List α) (i : Nat) {r : α} (hr : l[i]? = some r) : (l.take (i + 1)).flatMap f = (l.take i).flatMap f ++ f r ∧ ((l.take i).flatMap f).length + (f r).length ≤ (l.flatMap f).length := by
  have tk : l.take (i + 1) = l.take i ++ [r] := by rw [List.take_succ, hr]; rfl
  have e : (l.take (i + 1)).flatMap f = (l.take i).flatMap f ++ f r := by rw [tk, List.flatMap_append]; simp
  refine ⟨e, ?_⟩
  have e2 : l.flatMap f = (l.take (i + 1)).flatMap f ++ (l.drop (i + 1)).flatMap f := by rw [← List.flatMap_append, List.take_append_drop]
  rw [e2, List.length_append, e, List.length_append]
  omega
def sp_answer_facts (P : Program) (w : World) (c : Cs) : Sp := fun vs H Q _ => ∃ F g h s, vs = [.ref g.n, nv s] ∧ NetA P w c F H g h ∧ FOk F H ∧ HOk h ∧ (h.step (.facts s)).2.out.length < 1000000 ∧ AnsQ P w c F H g (h.step (.facts s)) Q
theorem ok_answer_facts {f : Addr} {fd : FuncData} (F : Fun K "answer_facts" "answer_facts" s_answer_facts f fd) (T : Txt K mg c) (cok : COk c) (d_Net_has_cache : MFn P w K mg base 1 c.cnet "has_cache" ["self", "cache"] (sp_has_cache P w c)) (d_Cache_known_facts : MFn P w K mg base 2 c.ccac "known_facts" ["self", "now"] (sp_known_facts P w c)) (d_numbers_of_fact : GFn P w K mg base 4 "numbers_of_fact" ["fact", "now"] (sp_fact_num c)) : FnOk P w K mg base CX0 5 f fd ["net", "cache"] (sp_answer_facts P w c) := by
  refine F.ok sc_answer_facts (fun vs H Q E h => ?_) (fun cdv A outer s H vs Q E hr h => ?_)
  · obtain ⟨F, g, h, s, rfl, _⟩ := h
    rfl
  · refine ⟨_, (pss_cons (ps_if (pt_not (pt_val (km (pv 0) d_Net_has_cache (hr.mono (by decide)) (pa_cons (pv 1) pa_nil)))) (pss_one (ps_ret (pe_lst (pa_cons (pe_un un_neg pe_int) pa_nil)))) pss_nil)
      (pss_cons (ps_set (i := 2) sc_answer_facts.nd rfl (Or.inl rfl) (km (pe_ix ix_list (kf (pv 0) T.cl_net T.n_net_caches) (pv 1) (fun _ _ => rfl)) d_Cache_known_facts (hr.mono (by decide)) (pa_cons (kf (pv 0) T.cl_net T.n_net_now) pa_nil)))
      (pss_cons (ps_set (i := 3) sc_answer_facts.nd rfl (Or.inl rfl) (pe_lst (pa_cons (pe_callB call_len_seq (by rfl) T.f_len PySem.boot_len (pa_cons (pv 2) pa_nil)) pa_nil)))
      (pss_cons (ps_for PassesOwn.never rfl (pi_list (pv 2)) (pg_name (i := 4) sc_answer_facts.nd rfl (Or.inl rfl)) (pss_one (ps_expr (pe_bm PySem.F.plainAttrs_list PySem.F.slot_list_extend PySem.F.type_list_extend mt_extend (pv 3) (pa_cons (kg d_numbers_of_fact (hr.mono (by decide)) (pa_cons (pv 4) (pa_cons (kf (pv 0) T.cl_net T.n_net_now) pa_nil))) pa_nil)))))
      (pss_one (ps_ret (pv 3))))))), ?_⟩
    obtain ⟨F, g, h, s', rfl, nt, fo, hk, ol, q⟩ := h
    obtain ⟨dn, n1⟩ := nt.at_
    have line : 5000000 < sizeLine := by decide
    refine ⟨_, rfl, g.n, dn, _, rfl, n1, no_net_has_cache, _, rfl, F, g, h, s', rfl, nt, _, rfl, ite_b (fun e => ?_) fun e => ?_⟩
    · rw [Bool.not_eq_true', decide_eq_false_iff_not] at e
      have es : h.step (.facts s') = (h, Dn01.says (-2)) := by simp only [Dn01.House.step, none_ge e]
      rw [es] at q
      exact ⟨_, rfl, (by show 1 ≤ sizeLine; decide), q.put fo FrmX.refl rfl nt rfl⟩
    rw [Bool.not_eq_false', decide_eq_true_eq] at e
    obtain ⟨x, ex⟩ := lt_at e
    have es : h.step (.facts s') = (h, ⟨(x.filter fun f => decide (h.now < f.until_)).length, Dn01.ints ((x.filter fun f => decide (h.now < f.until_)).flatMap (Dn01.factNumbers h.now))⟩) := by simp only [Dn01.House.step, ex]
    rw [es] at q ol
    obtain ⟨gc, hgc, cx⟩ := nt.cacAt ex
    obtain ⟨⟨da, a1⟩, c2, c3⟩ := id cx
    obtain ⟨b1, b2⟩ := nt.atC (K := K) hgc
    have fl := (hk.fg x (List.mem_of_getElem? ex)).2
    refine ⟨_, rfl, g.n, dn, _, _, rfl, n1, lk_net_caches, _, rfl, g.cl, _, s', .ref gc.a, rfl, rfl, b1, b2, gc.a, da, _, rfl, a1, no_cac_known_facts, _, rfl, g.n, dn, _, _, rfl, n1, lk_net_now, gc, x, h.now, rfl, cx, by rw [cx.len]; omega, fun H1 p1 s1 hp1 hl1 => ?_⟩
    obtain ⟨lf, elf⟩ : ∃ lf, lf = gc.fs.filter fun x => decide (h.now < x.2.until_) := ⟨_, rfl⟩
    rw [← elf] at hl1
    have e2 := known_len c3 h.now
    rw [← elf] at e2
    rw [← e2] at q ol
    have lm : ∀ r ∈ lf, r ∈ gc.fs ∧ h.now ≤ r.2.until_ := fun r m => by
      rw [elf] at m
      obtain ⟨m1, m2⟩ := List.mem_filter.mp m
      exact ⟨m1, Nat.le_of_lt (of_decide_eq_true m2)⟩
    have ol2 : ((lf.map (·.2)).flatMap (Dn01.factNumbers h.now)).length < 1000000 := by
      have : (Dn01.ints ((lf.map (·.2)).flatMap (Dn01.factNumbers h.now))).length < 1000000 := ol
      rwa [Dn01.ints, List.length_map] at this
    have ll : lf.length < 200000 := by
      rw [elf]
      have := List.length_filter_le (fun x : En × Dn01.Fact => decide (h.now < x.2.until_)) gc.fs
      rw [cx.len] at this
      omega
    refine ⟨_, rfl, _, _, rfl, .inl (SqL.of hl1), (by show 1 ≤ sizeLine; decide), fun p2 hp2 => ?_⟩
    have s0 : Same H1 (upd H1 p2 (.lst [V.int ((lf.map fun x => V.ref x.1.2.2).length : Nat)])) := Same.laid hp2
    have h20 : LN (upd H1 p2 (.lst [V.int ((lf.map fun x => V.ref x.1.2.2).length : Nat)])) p2 (lf.length :: (lf.take 0).flatMap fun r => Dn01.factNumbers h.now r.2) := by
      show upd H1 p2 _ p2 = _
      rw [upd_same, List.length_map]
      rfl
    refine ⟨_, rfl, p1, rfl, ⟨_, SqL.of (s0 _ _ hl1)⟩, for_list (xs := lf.map fun x => V.ref x.1.2.2) (fun i σ H' => (∃ v, σ = [some (.ref g.n), some (nv s'), some (.ref p1), some (.ref p2), v]) ∧ Same H1 H' ∧ LN H' p2 (lf.length :: (lf.take i).flatMap fun r => Dn01.factNumbers h.now r.2)) ⟨⟨none, rfl⟩, s0, h20⟩ (fun i σ H' _ ⟨_, s, _⟩ => SqL.of (s _ _ hl1)) ?_ ?_⟩
    · rintro i y σ H' hi ⟨⟨v, rfl⟩, s2, hn⟩
      obtain ⟨r, hr, rfl⟩ : ∃ r, lf[i]? = some r ∧ y = V.ref r.1.2.2 := by
        rw [List.getElem?_map] at hi
        cases e : lf[i]? with
        | none => rw [e] at hi; cases hi
        | some r => rw [e] at hi; exact ⟨r, rfl, (Option.some.inj hi).symm⟩
      obtain ⟨mr, le⟩ := lm r (List.mem_of_getElem? hr)
      obtain ⟨t1, t2⟩ := ext_take (fun r : En × Dn01.Fact => Dn01.factNumbers h.now r.2) lf i hr
      have t3 : (lf.flatMap fun r : En × Dn01.Fact => Dn01.factNumbers h.now r.2).length < 1000000 := by
        rw [List.flatMap_map] at ol2
        exact ol2
      have fnl := congrArg List.length (fact_num h.now r.2 r.2.name 0)
      have rl := rows_le (ocOf r.2.what) r.2.name 0 (rowsOf r.2.what)
      have fr := flat_rows (rowsOf r.2.what)
      simp only [List.length_append, List.length_cons, List.length_nil] at fnl
      have s12 := s1.trans s2
      refine ⟨_, rfl, .inl ⟨rfl, _, SqL.of hn⟩, _, rfl, _, rfl, g.n, dn, _, _, rfl, s12 _ _ n1, lk_net_now, r.1.2.2, r.2, h.now, rfl, (c2.2 r mr).2.same s12, le, by omega, by omega, by omega, fun H2 q2 s3 hq2 => ⟨p2, q2, _, _, rfl, rfl, s3 _ _ hn, hq2, by rw [List.length_map, List.length_map, List.length_cons]; omega, ⟨_, rfl⟩, fun b o e => ?_, ?_⟩⟩
      · rw [upd_ne (ne_of_none e hp2)]
        exact s3 _ _ (s2 _ _ e)
      · show upd _ p2 _ p2 = _
        rw [upd_same, ← List.map_append, t1]
        rfl
    · rintro σ H' ⟨⟨v, rfl⟩, s2, hn⟩
      rw [List.length_map, List.take_length] at hn
      have s12 := s1.trans s2
      refine ⟨_, rfl, q H' g p2 (FrmX.same s12) (fo.new (same_none s1 hp2)) rfl (nt.same s12) ?_⟩
      rw [hn]
      unfold outV
      rw [ints_nv, List.length_map, List.flatMap_map]
      rfl
def sp_answer_records (P : Program) (w : World) (c : Cs) : Sp := fun vs H Q _ => ∃ F g h s b a, vs = [.ref g.n, nv s, .ref b] ∧ NetA P w c F H g h ∧ FOk F H ∧ HOk h ∧ TN H b a ∧ (h.step (.records s a)).2.out.length < 1000000 ∧ AnsQ P w c F H g (h.step (.records s a)) Q
theorem ok_answer_records {f : Addr} {fd : FuncData} (F : Fun K "answer_records" "answer_records" s_answer_records f fd) (T : Txt K mg c) (cok : COk c) (d_refusal_of_zone : GFn P w K mg base 2 "refusal_of_zone" ["net", "server", "apex"] (sp_ref_zone P w c)) (d_Server_holding_of : MFn P w K mg base 1 c.csrv "holding_of" ["self", "apex"] (sp_holding_of c)) (d_Holding_is_good : MFn P w K mg base 2 c.chol "is_good" ["self", "now"] (sp_is_good c)) (d_numbers_of_record : GFn P w K mg base 2 "numbers_of_record" ["record"] (sp_rec_num c)) : FnOk P w K mg base CX0 3 f fd ["net", "server", "apex"] (sp_answer_records P w c) := by
  refine F.ok sc_answer_records (fun vs H Q E h => ?_) (fun cdv A outer s H vs Q E hr h => ?_)
  · obtain ⟨F, g, h, s, b, a, rfl, _⟩ := h
    rfl
  · refine ⟨_, (pss_cons (ps_set (i := 3) sc_answer_records.nd rfl (Or.inl rfl) (kg d_refusal_of_zone (hr.mono (by decide)) (pa_cons (pv 0) (pa_cons (pv 1) (pa_cons (pv 2) pa_nil)))))
      (pss_cons (ps_if (pt_cmpR op_lt (pv 3) pe_int (nomark _)) (pss_one (ps_ret (pe_lst (pa_cons (pv 3) pa_nil)))) pss_nil)
      (pss_cons (ps_set (i := 4) sc_answer_records.nd rfl (Or.inl rfl) (km (pe_ix ix_list (kf (pv 0) T.cl_net T.n_net_servers) (pv 1) (fun _ _ => rfl)) d_Server_holding_of (hr.mono (by decide)) (pa_cons (pv 2) pa_nil)))
      (pss_cons (ps_set (i := 5) sc_answer_records.nd rfl (Or.inl rfl) (pe_ifExp (pt_val (km (pv 4) d_Holding_is_good (hr.mono (by decide)) (pa_cons (kf (pv 0) T.cl_net T.n_net_now) pa_nil))) pe_int pe_int))
      (pss_cons (ps_set (i := 6) sc_answer_records.nd rfl (Or.inl rfl) (pe_lst (pa_cons (kf (kf (pv 4) T.cl_hol T.n_hol_zone) T.cl_zon T.n_zon_serial) (pa_cons (pv 5) (pa_cons (pe_callB call_len_seq (by rfl) T.f_len PySem.boot_len (pa_cons (kf (kf (pv 4) T.cl_hol T.n_hol_zone) T.cl_zon T.n_zon_records) pa_nil)) pa_nil)))))
      (pss_cons (ps_for PassesOwn.never rfl (pi_list (kf (kf (pv 4) T.cl_hol T.n_hol_zone) T.cl_zon T.n_zon_records)) (pg_name (i := 7) sc_answer_records.nd rfl (Or.inl rfl)) (pss_one (ps_expr (pe_bm PySem.F.plainAttrs_list PySem.F.slot_list_extend PySem.F.type_list_extend mt_extend (pv 6) (pa_cons (kg d_numbers_of_record (hr.mono (by decide)) (pa_cons (pv 7) pa_nil)) pa_nil)))))
      (pss_one (ps_ret (pv 6))))))))), ?_⟩
    obtain ⟨F, g, h, s', b, a, rfl, nt, fo, hk, hb, ol, q⟩ := h
    obtain ⟨dn, n1⟩ := nt.at_
    have line : 5000000 < sizeLine := by decide
    refine ⟨_, rfl, _, rfl, _, rfl, F, g, h, s', b, a, rfl, nt, hb, fun e => ?_, fun y e1 e2 => ?_, fun y z e1 e2 => ?_⟩
    · have es : h.step (.records s' a) = (h, Dn01.says (-2)) := by simp only [Dn01.House.step, Dn01.House.ofZone, e]
      rw [es] at q
      exact ⟨_, rfl, _, _, rfl, rfl, _, rfl, iteT ⟨_, rfl, (by show 1 ≤ sizeLine; decide), q.put fo FrmX.refl rfl nt rfl⟩⟩
    · have es : h.step (.records s' a) = (h, Dn01.says (-3)) := by simp only [Dn01.House.step, Dn01.House.ofZone, e1, e2]
      rw [es] at q
      exact ⟨_, rfl, _, _, rfl, rfl, _, rfl, iteT ⟨_, rfl, (by show 1 ≤ sizeLine; decide), q.put fo FrmX.refl rfl nt rfl⟩⟩
    have ym := List.mem_of_getElem? e1
    obtain ⟨zm, zap⟩ := held_mem e2
    obtain ⟨gs, hgs, sy⟩ := nt.srvAt e1
    obtain ⟨dv, v1⟩ := id sy.at_
    obtain ⟨a1, a2⟩ := nt.atS (K := K) hgs
    have hh := held_look sy.zones a
    rw [e2] at hh
    obtain ⟨⟨⟨ha, za⟩, z'⟩, ehq, ez⟩ := Option.map_eq_some_iff.mp hh.symm
    dsimp only at ez
    subst ez
    have hol := sy.held _ (lookH_some ehq).1
    obtain ⟨sv, ⟨dh, h1⟩, h2, h3⟩ := id hol
    obtain ⟨pz, rz, cz, ⟨dz, z1⟩, zp, ⟨nrz, l, hl, hrz, hrr⟩, _⟩ := id h3
    have es : h.step (.records s' a) = (h, ⟨z'.zone.serial, Dn01.ints ([if z'.isGood h.now = true then 1 else 0, z'.zone.recs.length] ++ z'.zone.recs.flatMap recNum)⟩) := by
      have : (fun r : Dn01.Rec => [r.name.length] ++ r.name ++ [r.sort, r.life, r.value.length] ++ r.value) = recNum := by
        funext r
        simp [recNum]
      simp only [Dn01.House.step, Dn01.House.ofZone, e1, e2, this]
    rw [es] at q ol
    have ol2 : (z'.zone.recs.flatMap recNum).length < 1000000 := by
      have : (Dn01.ints ([if z'.isGood h.now = true then 1 else 0, z'.zone.recs.length] ++ z'.zone.recs.flatMap recNum)).length < 1000000 := ol
      rw [Dn01.ints, List.length_map, List.length_append] at this
      omega
    rw [← hl, List.flatMap_map] at ol2
    have fitz := (hk.fit.fit y ym z' zm).1.recs
    have ll : l.length < 1000 := by rw [← hl, List.length_map] at fitz; exact fitz
    refine ⟨_, rfl, _, _, rfl, rfl, _, rfl, iteF ⟨_, rfl, g.n, dn, _, _, rfl, n1, lk_net_servers, _, rfl, g.sl, _, s', .ref gs.a, rfl, rfl, a1, a2, gs.a, dv, _, rfl, v1, no_srv_holding_of, _, rfl, gs.a, gs.d, b, gs.hs, a, rfl, sy.r, hb, ?_⟩⟩
    rw [ehq]
    refine ⟨_, rfl, ha, dh, _, rfl, h1, no_hol_is_good, _, rfl, g.n, dn, _, _, rfl, n1, lk_net_now, ha, za, F, z', h.now, rfl, hol, _, rfl, ?_⟩
    cases eg : z'.isGood h.now with
    | true =>
      refine iteT ⟨_, rfl, ha, dh, _, _, rfl, h1, lk_hol_zone, za, dz, _, _, rfl, z1, lk_zon_serial, _, rfl, _, rfl, ha, dh, _, _, rfl, h1, lk_hol_zone, za, dz, _, _, rfl, z1, lk_zon_records, _, _, rfl, .inl (SqL.of hrz), (by show 3 ≤ sizeLine; decide), fun p2 hp2 => ?_⟩
      have s0 : Same H (upd H p2 (.lst [nv z'.zone.serial, V.int 1, V.int ((l.map fun p => V.ref p.1).length : Nat)])) := Same.laid hp2
      have h20 : LN (upd H p2 (.lst [nv z'.zone.serial, V.int 1, V.int ((l.map fun p => V.ref p.1).length : Nat)])) p2 ([z'.zone.serial, 1, l.length] ++ (l.take 0).flatMap fun r => recNum r.2) := by
        show upd H p2 _ p2 = _
        rw [upd_same, List.length_map]
        rfl
      refine ⟨_, rfl, ha, dh, _, _, rfl, s0 _ _ h1, lk_hol_zone, za, dz, _, _, rfl, s0 _ _ z1, lk_zon_records, rz, rfl, ⟨_, SqL.of (s0 _ _ hrz)⟩, for_list (xs := l.map fun p => V.ref p.1) (fun i σ H' => (∃ v, σ = [some (.ref g.n), some (nv s'), some (.ref b), some (.int 0), some (.ref ha), some (.int 1), some (.ref p2), v]) ∧ Same H H' ∧ LN H' p2 ([z'.zone.serial, 1, l.length] ++ (l.take i).flatMap fun r => recNum r.2)) ⟨⟨none, rfl⟩, s0, h20⟩ (fun i σ H' _ ⟨_, s, _⟩ => SqL.of (s _ _ hrz)) ?_ ?_⟩
      · rintro i y σ H' hi ⟨⟨v, rfl⟩, s2, hn⟩
        obtain ⟨r, hr, rfl⟩ : ∃ r, l[i]? = some r ∧ y = V.ref r.1 := by
          rw [List.getElem?_map] at hi
          cases e : l[i]? with
          | none => rw [e] at hi; cases hi
          | some r => rw [e] at hi; exact ⟨r, rfl, (Option.some.inj hi).symm⟩
        obtain ⟨t1, t2⟩ := ext_take (fun r : Addr × Dn01.Rec => recNum r.2) l i hr
        have rn : (recNum r.2).length = r.2.name.length + 1 + 2 + (r.2.value.length + 1) := by simp only [recNum, List.length_append, List.length_cons, List.length_nil] <;> omega
        refine ⟨_, rfl, .inl ⟨rfl, _, SqL.of hn⟩, _, rfl, r.1, r.2, rfl, (hrr r (List.mem_of_getElem? hr)).same s2, by omega, by omega, fun H2 q2 s3 hq2 => ⟨p2, q2, _, _, rfl, rfl, s3 _ _ hn, hq2, by rw [List.length_map, List.length_map, List.length_append]; simp only [List.length_cons, List.length_nil]; omega, ⟨_, rfl⟩, fun b o e => ?_, ?_⟩⟩
        · rw [upd_ne (ne_of_none e hp2)]
          exact s3 _ _ (s2 _ _ e)
        · show upd _ p2 _ p2 = _
          rw [upd_same, ← List.map_append, t1, List.append_assoc]
      · rintro σ H' ⟨⟨v, rfl⟩, s2, hn⟩
        rw [List.length_map, List.take_length] at hn
        refine ⟨_, rfl, q H' g p2 (FrmX.same s2) (fo.new hp2) rfl (nt.same s2) ?_⟩
        rw [hn]
        unfold outV
        rw [ints_nv, eg, ← hl, List.length_map, List.flatMap_map]
        rfl
    | false =>
      refine iteF ⟨_, rfl, ha, dh, _, _, rfl, h1, lk_hol_zone, za, dz, _, _, rfl, z1, lk_zon_serial, _, rfl, _, rfl, ha, dh, _, _, rfl, h1, lk_hol_zone, za, dz, _, _, rfl, z1, lk_zon_records, _, _, rfl, .inl (SqL.of hrz), (by show 3 ≤ sizeLine; decide), fun p2 hp2 => ?_⟩
      have s0 : Same H (upd H p2 (.lst [nv z'.zone.serial, V.int 0, V.int ((l.map fun p => V.ref p.1).length : Nat)])) := Same.laid hp2
      have h20 : LN (upd H p2 (.lst [nv z'.zone.serial, V.int 0, V.int ((l.map fun p => V.ref p.1).length : Nat)])) p2 ([z'.zone.serial, 0, l.length] ++ (l.take 0).flatMap fun r => recNum r.2) := by
        show upd H p2 _ p2 = _
        rw [upd_same, List.length_map]
        rfl
      refine ⟨_, rfl, ha, dh, _, _, rfl, s0 _ _ h1, lk_hol_zone, za, dz, _, _, rfl, s0 _ _ z1, lk_zon_records, rz, rfl, ⟨_, SqL.of (s0 _ _ hrz)⟩, for_list (xs := l.map fun p => V.ref p.1) (fun i σ H' => (∃ v, σ = [some (.ref g.n), some (nv s'), some (.ref b), some (.int 0), some (.ref ha), some (.int 0), some (.ref p2), v]) ∧ Same H H' ∧ LN H' p2 ([z'.zone.serial, 0, l.length] ++ (l.take i).flatMap fun r => recNum r.2)) ⟨⟨none, rfl⟩, s0, h20⟩ (fun i σ H' _ ⟨_, s, _⟩ => SqL.of (s _ _ hrz)) ?_ ?_⟩
      · rintro i y σ H' hi ⟨⟨v, rfl⟩, s2, hn⟩
        obtain ⟨r, hr, rfl⟩ : ∃ r, l[i]? = some r ∧ y = V.ref r.1 := by
          rw [List.getElem?_map] at hi
          cases e : l[i]? with
          | none => rw [e] at hi; cases hi
          | some r => rw [e] at hi; exact ⟨r, rfl, (Option.some.inj hi).symm⟩
        obtain ⟨t1, t2⟩ := ext_take (fun r : Addr × Dn01.Rec => recNum r.2) l i hr
        have rn : (recNum r.2).length = r.2.name.length + 1 + 2 + (r.2.value.length + 1) := by simp only [recNum, List.length_append, List.length_cons, List.length_nil] <;> omega
        refine ⟨_, rfl, .inl ⟨rfl, _, SqL.of hn⟩, _, rfl, r.1, r.2, rfl, (hrr r (List.mem_of_getElem? hr)).same s2, by omega, by omega, fun H2 q2 s3 hq2 => ⟨p2, q2, _, _, rfl, rfl, s3 _ _ hn, hq2, by rw [List.length_map, List.length_map, List.length_append]; simp only [List.length_cons, List.length_nil]; omega, ⟨_, rfl⟩, fun b o e => ?_, ?_⟩⟩
        · rw [upd_ne (ne_of_none e hp2)]
          exact s3 _ _ (s2 _ _ e)
        · show upd _ p2 _ p2 = _
          rw [upd_same, ← List.map_append, t1, List.append_assoc]
      · rintro σ H' ⟨⟨v, rfl⟩, s2, hn⟩
        rw [List.length_map, List.take_length] at hn
        refine ⟨_, rfl, q H' g p2 (FrmX.same s2) (fo.new hp2) rfl (nt.same s2) ?_⟩
        rw [hn]
        unfold outV
        rw [ints_nv, eg, ← hl, List.length_map, List.flatMap_map]
        rfl
end
end Nn


namespace Nn
open PySem PySem.Spec PyProof.Rows L2
section
variable {P : Program} {w : World} {K : PySem.W.Frag} {mg : Str → Option Value} {base : Heap} {c : Cs}
/-! ### the reader of the calls -/
theorem sqRd {H H' : Hp} {a : Addr} {xs : List V} (h : SqL K H a xs) (t : ∀ o, H a = some o → (o = .lst xs ∨ ∃ ob, o = .frz ob (.lst xs)) → H' a = some o) : SqL K H' a xs :=
  h.elim (fun h => .inl (h.elim (fun h => .inl (t _ h (.inl rfl))) fun ⟨o, h⟩ => .inr ⟨o, t _ h (.inr ⟨o, rfl⟩)⟩)) .inr
theorem sqKp {H H' : Hp} {a ra C dx : Addr} {fs : List (Str × V)} {xs : List V} (h : SqL K H a xs) (k : Kp [ra] H H') (e : H ra = some (.ins C dx fs)) : SqL K H' a xs := sqRd h fun o e1 ho => k _ _ e1 fun m => by
  rw [List.mem_singleton.mp m, e] at e1
  cases e1
  rcases ho with ho | ⟨ob, ho⟩ <;> cases ho
theorem sqFrm {H H' : Hp} {a : Addr} {xs : List V} (h : SqL K H a xs) (k : Frm c H H') : SqL K H' a xs := sqRd h fun o e1 ho => k _ _ e1 (by rcases ho with rfl | ⟨ob, rfl⟩ <;> exact True.intro) (by simp)
def rowI (s : List Nat) : List Int := (s.length : Int) :: s.map fun (n : Nat) => (n : Int)
/-- a reader of the list l at ca, who has still rest to read -/
def RdA (K : PySem.W.Frag) (c : Cs) (H : Hp) (ra ca : Addr) (l rest : List Int) : Prop := ∃ i, At c.crdr H ra (rdrF (.ref ca) (nv i)) ∧ SqL K H ca (l.map V.int) ∧ l.drop i = rest ∧ i ≤ l.length ∧ l.length ≤ 16000
theorem RdA.frm {H H' : Hp} {ra ca : Addr} {l rest : List Int} (h : RdA K c H ra ca l rest) (f : Frm c H H') : RdA K c H' ra ca l rest := let ⟨i, h1, h2, h3⟩ := h; ⟨i, f.rdr h1, sqFrm h2 f, h3⟩
theorem RdA.same {H H' : Hp} {ra ca : Addr} {l rest : List Int} (h : RdA K c H ra ca l rest) (f : Same H H') : RdA K c H' ra ca l rest := h.frm (FrmX.same f)
/-- where only a reader has changed -/
theorem NetA.rdr (ok : COk c) {F : List Addr} {H H' : Hp} {g : GN} {h : Dn01.House} {ra dx0 : Addr} {fs0 : List (Str × V)} (x : NetA P w c F H g h) (k : Kp [ra] H H') (hr : H ra = some (.ins c.crdr dx0 fs0)) : NetA P w c F H' g h := by
  have n := ok.all
  have im : Imm c F H H' := Kp.imm ok k fun y m o e st => by
    rw [List.mem_singleton.mp m, hr] at e
    cases e
    exact st n.rdr
  refine ⟨x.at_.kp k fun m => ?_, x.slF, x.clF, im.st _ _ x.sl x.slF, im.st _ _ x.cl x.clF, x.roots.imm im, x.slen, fun j a b e1 e2 => ?_, x.clen, fun j a b e1 e2 => ?_, x.aps, x.apc⟩
  · obtain ⟨dx, e2⟩ := x.at_
    rw [List.mem_singleton.mp m, hr] at e2
    exact n.net.1 (HO.ins.inj (Option.some.inj e2)).1.symm
  · exact (x.srv j a b e1 e2).kp im k fun y m1 m2 => by
      obtain ⟨o', e', k2⟩ := (x.srv j a b e1 e2).kind y m1
      rw [List.mem_singleton.mp m2, hr] at e'
      cases e'
      rcases k2 with z | z | z
      · exact n.srv.2.2.1 z.symm
      · exact n.hol.2.2.1 z.symm
      · exact n.zon.2.2.1 z.symm
  · exact (x.cas j a b e1 e2).kp im k fun y m1 m2 => by
      obtain ⟨o', e', k2⟩ := (x.cas j a b e1 e2).kind y m1
      rw [List.mem_singleton.mp m2, hr] at e'
      cases e'
      exact n.cac.2.1 (show c.crdr = c.ccac from k2).symm
def rdrI : List V → List (Str × V)
  | [a0] => rdrF a0 (nv 0)
  | _ => []
theorem ok_Reader_init {f : Addr} {fd : FuncData} (F : Fun K "__init__" "Reader.__init__" s_Reader_init f fd) (T : Txt K mg c) (cok : COk c)  : FnOk P w K mg base CX0 1 f fd ["self", "calls"] (spIni c.crdr 1 rdrI) := by
  refine F.ok sc_Reader_init (fun vs H Q E h => ?_) (fun cdv A outer s H vs Q E hr h => ?_)
  · obtain ⟨p, dx, us, rfl, hl, _⟩ := h
    exact congrArg (· + 1) hl
  · refine ⟨_, (pss_cons (kfs (pv 0) (pv 1) T.cl_rdr T.n_rdr_calls)
      (pss_one (kfs (pv 0) pe_int T.cl_rdr T.n_rdr_place))), ?_⟩
    obtain ⟨p, dx, us, rfl, hl, hp, k⟩ := h
    match us, hl, k with
    | [a0], _, k =>
      refine ⟨_, rfl, _, rfl, p, dx, _, rfl, hp, (by show 0 < 1000; decide), _, rfl, p, dx, _, rfl, upd_same, (by show 1 < 1000; decide), ?_⟩
      simp only [upd_upd, new_rdr]
      exact k
def sp_rdr_done (K : PySem.W.Frag) (c : Cs) : Sp := fun vs H Q _ => ∃ ra ca l rest, vs = [.ref ra] ∧ RdA K c H ra ca l rest ∧ Q (.bl rest.isEmpty) H
theorem ok_Reader_is_done {f : Addr} {fd : FuncData} (F : Fun K "is_done" "Reader.is_done" s_Reader_is_done f fd) (T : Txt K mg c) (cok : COk c)  : FnOk P w K mg base CX0 1 f fd ["self"] (sp_rdr_done K c) := by
  refine F.ok sc_Reader_is_done (fun vs H Q E h => ?_) (fun cdv A outer s H vs Q E hr h => ?_)
  · obtain ⟨ra, ca, l, rest, rfl, _⟩ := h
    rfl
  · refine ⟨_, (pss_one (ps_ret (pe_cmpR op_ge (kf (pv 0) T.cl_rdr T.n_rdr_place) (pe_callB call_len_seq (by rfl) T.f_len PySem.boot_len (pa_cons (kf (pv 0) T.cl_rdr T.n_rdr_calls) pa_nil)) (nomark _)))), ?_⟩
    obtain ⟨ra, ca, l, rest, rfl, ⟨i, ⟨dx, h1⟩, h2, h3, h4, h5⟩, q⟩ := h
    refine ⟨_, rfl, ra, dx, _, _, rfl, h1, lk_rdr_place, _, rfl, ra, dx, _, _, rfl, h1, lk_rdr_calls, _, _, rfl, .inl h2, _, _, rfl, rfl, ?_⟩
    have e : decide (((l.map V.int).length : Int) ≤ (i : Int)) = rest.isEmpty := by
      rw [← h3, List.length_map]
      by_cases hi : l.length ≤ i
      · rw [decide_eq_true (by omega), List.drop_of_length_le hi]
        rfl
      · rw [decide_eq_false (by omega)]
        cases e : l.drop i with
        | nil => exact absurd (List.drop_eq_nil_iff.mp e) hi
        | cons _ _ => rfl
    show Q (.bl (decide (((l.map V.int).length : Int) ≤ (i : Int)))) H
    rw [e]
    exact q
def sp_rdr_num (K : PySem.W.Frag) (c : Cs) : Sp := fun vs H Q _ => ∃ ra ca l x rest, vs = [.ref ra] ∧ RdA K c H ra ca l (x :: rest) ∧ ∀ H', Kp [ra] H H' → RdA K c H' ra ca l rest → Q (.int x) H'
theorem ok_Reader_number {f : Addr} {fd : FuncData} (F : Fun K "number" "Reader.number" s_Reader_number f fd) (T : Txt K mg c) (cok : COk c)  : FnOk P w K mg base CX0 1 f fd ["self"] (sp_rdr_num K c) := by
  refine F.ok sc_Reader_number (fun vs H Q E h => ?_) (fun cdv A outer s H vs Q E hr h => ?_)
  · obtain ⟨ra, ca, l, x, rest, rfl, _⟩ := h
    rfl
  · refine ⟨_, (pss_cons (kfa (pv 0) pe_int in_add T.cl_rdr T.n_rdr_place)
      (pss_one (ps_ret (pe_ix ix_list (kf (pv 0) T.cl_rdr T.n_rdr_calls) (pe_op op_sub (kf (pv 0) T.cl_rdr T.n_rdr_place) pe_int) (fun _ _ => rfl))))), ?_⟩
    obtain ⟨ra, ca, l, x, rest, rfl, ⟨i, ⟨dx, h1⟩, h2, h3, h4, h5⟩, q⟩ := h
    have hlt : i < l.length := by
      have := congrArg List.length h3
      rw [List.length_drop, List.length_cons] at this
      omega
    have hx : l[i]? = some x := by
      have := congrArg (·[0]?) h3
      simpa using this
    have hd : l.drop (i + 1) = rest := by
      have := congrArg (List.drop 1) h3
      rw [List.drop_drop] at this
      simpa using this
    refine ⟨_, rfl, ra, dx, _, _, rfl, h1, lk_rdr_place, _, _, rfl, rfl, dx, _, h1, (by show 2 < 1000; decide), ?_⟩
    rw [put_rdr_place]
    have kp : Kp [ra] H (upd H ra (.ins c.crdr dx (rdrF (.ref ca) (.int ((i : Int) + 1))))) := Kp.put (by simp)
    have h2' := sqKp h2 kp h1
    refine ⟨_, rfl, ra, dx, _, _, rfl, upd_same, lk_rdr_calls, _, rfl, ra, dx, _, _, rfl, upd_same, lk_rdr_place, _, _, rfl, rfl, ca, _, (i : Int) + 1 - 1, .int x, rfl, rfl, h2', ?_, q _ kp ⟨i + 1, ⟨dx, upd_same⟩, h2', hd, hlt, h5⟩⟩
    rw [show (i : Int) + 1 - 1 = (i : Int) by omega]
    exact atI_nat (by rw [List.getElem?_map, hx]; rfl)
def sp_rdr_row (K : PySem.W.Frag) (c : Cs) : Sp := fun vs H Q _ => ∃ ra ca l s rest, vs = [.ref ra] ∧ RdA K c H ra ca l (rowI s ++ rest) ∧ ∀ H' p, Kp [ra] H H' → RdA K c H' ra ca l rest → TN H' p s → Q (.ref p) H'
theorem ok_Reader_row {f : Addr} {fd : FuncData} (F : Fun K "row" "Reader.row" s_Reader_row f fd) (T : Txt K mg c) (cok : COk c) (d_Reader_number : MFn P w K mg base 1 c.crdr "number" ["self"] (sp_rdr_num K c)) : FnOk P w K mg base CX0 2 f fd ["self"] (sp_rdr_row K c) := by
  refine F.ok sc_Reader_row (fun vs H Q E h => ?_) (fun cdv A outer s H vs Q E hr h => ?_)
  · obtain ⟨ra, ca, l, s, rest, rfl, _⟩ := h
    rfl
  · refine ⟨_, (pss_cons (ps_set (i := 1) sc_Reader_row.nd rfl (Or.inl rfl) (km0 (pv 0) d_Reader_number (hr.mono (by decide))))
      (pss_cons (kfa (pv 0) (pv 1) in_add T.cl_rdr T.n_rdr_place)
      (pss_one (ps_ret (pe_callTy call_tuple_of (by rfl) T.f_tuple (by decide +kernel) (pa_cons (pe_slice sl_list (kf (pv 0) T.cl_rdr T.n_rdr_calls) (po_some (pe_op op_sub (kf (pv 0) T.cl_rdr T.n_rdr_place) (pv 1))) (po_some (kf (pv 0) T.cl_rdr T.n_rdr_place))) pa_nil)))))), ?_⟩
    obtain ⟨ra, ca, l, s', rest, rfl, hr0, q⟩ := h
    obtain ⟨i0, ⟨dx0, g1⟩, g2⟩ := id hr0
    refine ⟨_, rfl, ra, dx0, _, rfl, g1, no_rdr_number, ra, ca, l, (s'.length : Int), (s'.map fun (n : Nat) => (n : Int)) ++ rest, rfl, hr0, fun H1 k1 ⟨i, ⟨dx, h1⟩, h2, h3, h4, h5⟩ => ?_⟩
    have hle : i + s'.length ≤ l.length := by
      have := congrArg List.length h3
      rw [List.length_drop, List.length_append, List.length_map] at this
      omega
    refine ⟨_, rfl, ra, dx, _, _, rfl, h1, lk_rdr_place, _, rfl, _, _, rfl, rfl, dx, _, h1, (by show 2 < 1000; decide), ?_⟩
    rw [put_rdr_place]
    have kp : Kp [ra] H1 (upd H1 ra (.ins c.crdr dx (rdrF (.ref ca) (.int ((i : Int) + (s'.length : Int)))))) := Kp.put (by simp)
    have h2' := sqKp h2 kp h1
    refine ⟨_, rfl, ra, dx, _, _, rfl, upd_same, lk_rdr_calls, _, rfl, ra, dx, _, _, rfl, upd_same, lk_rdr_place, _, rfl, _, _, rfl, rfl, _, rfl, _, rfl, ra, dx, _, _, rfl, upd_same, lk_rdr_place, _, rfl, ca, _, rfl, h2', fun p hp => ?_⟩
    refine ⟨p, _, rfl, .inl ⟨SqL.of upd_same, fun p2 hp2 => ?_⟩⟩
    have ec : cutV (l.map V.int) (some ((i : Int) + (s'.length : Int) - (s'.length : Int))) (some ((i : Int) + (s'.length : Int))) = s'.map nv := by
      rw [show (i : Int) + (s'.length : Int) - (s'.length : Int) = ((i : Nat) : Int) by omega, show (i : Int) + (s'.length : Int) = ((i + s'.length : Nat) : Int) by omega]
      unfold cutV
      rw [HT.sIx_nat, HT.sIx_nat, List.length_map, Nat.min_eq_left h4, Nat.min_eq_left hle, show i + s'.length - i = s'.length by omega, ← List.map_drop, h3, ← List.map_take, List.take_append_of_le_length (by rw [List.length_map]; exact Nat.le_refl _), List.take_of_length_le (by rw [List.length_map]; exact Nat.le_refl _), List.map_map]
      rfl
    have s2 : Same (upd H1 ra (.ins c.crdr dx (rdrF (.ref ca) (.int ((i : Int) + (s'.length : Int)))))) (upd (upd H1 ra (.ins c.crdr dx (rdrF (.ref ca) (.int ((i : Int) + (s'.length : Int)))))) p (.lst (cutV (l.map V.int) (some ((i : Int) + (s'.length : Int) - (s'.length : Int))) (some ((i : Int) + (s'.length : Int)))))) := Same.laid hp
    have s3 := s2.trans (Same.laid (o := .tup (cutV (l.map V.int) (some ((i : Int) + (s'.length : Int) - (s'.length : Int))) (some ((i : Int) + (s'.length : Int))))) hp2)
    refine q _ p2 (k1.trans (kp.trans (Same.kp _ s3))) (RdA.same ⟨i + s'.length, ⟨dx, upd_same⟩, h2', ?_, hle, h5⟩ s3) ?_
    · rw [← List.drop_drop, h3, List.drop_append_of_le_length (by rw [List.length_map]; exact Nat.le_refl _), List.drop_of_length_le (by rw [List.length_map]; exact Nat.le_refl _), List.nil_append]
    · show upd _ p2 _ p2 = _
      rw [upd_same, ec]
end
end Nn


/-! What a cache finds, by the specification's own steps: the same as the program's plain words (contM, toldM, askM). -/
namespace Nn
open Dn01 (Fact Tells House Way Got What)
theorem FGood.cut3 {nS : Nat} {f : Fact} (g : FGood nS f) : Dn01.isCut f.what = (f.sort == 3) := by
  cases e : f.what with
  | cut ss => rw [(g.cut ss e).1]; rfl
  | _ =>
    have : f.sort ≠ 3 := fun z => by
      obtain ⟨ss, e2⟩ := g.three z
      rw [e] at e2
      cases e2
    rw [beq_eq_false_iff_ne.mpr this]
    rfl
theorem learn_eq {nS : Nat} {c : List Fact} {f : Fact} (g : ∀ x ∈ c, FGood nS x) (gf : FGood nS f) : Dn01.learn c f = learnF c f := by
  unfold Dn01.learn learnF
  congr 1
  refine List.filter_congr fun x hx => ?_
  rw [(g x hx).cut3, gf.cut3]
  by_cases e : x.sort = f.sort
  · rw [e]
    simp
  · rw [beq_eq_false_iff_ne.mpr e]
    simp
theorem find_congr {α : Type} {p q : α → Bool} : ∀ {l : List α}, (∀ x ∈ l, p x = q x) → l.find? p = l.find? q
  | [], _ => rfl
  | a :: l, h => by
    rw [List.find?_cons, List.find?_cons, h a (List.mem_cons_self ..), find_congr fun x m => h x (List.mem_cons_of_mem _ m)]
theorem known_eq {nS : Nat} {c : List Fact} (g : ∀ x ∈ c, FGood nS x) {now s : Nat} {n : List Nat} (hs : s ≠ 3) : Dn01.known c now n s = atF c n s now := by
  unfold Dn01.known atF
  refine find_congr fun x hx => ?_
  rw [(g x hx).cut3]
  by_cases e : x.sort = s
  · rw [e, beq_self_eq_true, beq_eq_false_iff_ne.mpr hs]
    simp
  · rw [beq_eq_false_iff_ne.mpr e]
    simp
theorem nearF_succ {fs : List Fact} {n : List Nat} {t k : Nat} : nearF fs n t (k + 1) = match atF fs (n.take (k + 1)) 3 t with
  | some p => some p
  | none => nearF fs n t k := rfl
theorem near_eq {nS : Nat} {c : List Fact} (g : ∀ x ∈ c, FGood nS x) {now : Nat} {n : List Nat} : ∀ k, (((List.range k).map fun j => n.take (0 + 1 + j)).reverse.findSome? fun b => (c.find? fun x => x.name == b && (Dn01.isCut x.what && decide (now < x.until_))).map fun x => (b, match x.what with
    | .cut ss => ss
    | _ => [])) = (nearF c n now k).map fun f => (f.name, cutOf f.what)
  | 0 => rfl
  | k + 1 => by
    rw [List.range_succ, List.map_append, List.reverse_append, List.map_singleton, List.reverse_singleton, List.singleton_append, List.findSome?_cons, near_eq g k, nearF_succ]
    have e : (c.find? fun x => x.name == n.take (0 + 1 + k) && (Dn01.isCut x.what && decide (now < x.until_))) = atF c (n.take (k + 1)) 3 now := by
      unfold atF
      refine find_congr fun x hx => ?_
      rw [(g x hx).cut3, Bool.and_assoc, show 0 + 1 + k = k + 1 by omega]
    rw [e]
    cases e2 : atF c (n.take (k + 1)) 3 now with
    | none => rfl
    | some f =>
      have := (atF_mem e2).2.1
      rw [Option.map_some, Option.map_some, this, show 0 + 1 + k = k + 1 by omega]
      cases f.what <;> rfl
theorem cut_eq {nS : Nat} {c : List Fact} (g : ∀ x ∈ c, FGood nS x) {now : Nat} {n : List Nat} : Dn01.knownCut c now n = (nearF c n now n.length).map fun f => (f.name, cutOf f.what) := by
  unfold Dn01.knownCut
  rw [beginnings_eq, Nat.sub_zero]
  exact near_eq g n.length
theorem cut_prefix {z : Dn01.Zone} {n b : List Nat} (e : z.cut n = some b) : b.isPrefixOf n = true := by
  unfold Dn01.Zone.cut at e
  have := List.mem_of_find?_eq_some e
  rw [beginnings_eq] at this
  obtain ⟨j, _, rfl⟩ := List.mem_map.mp this
  rw [List.isPrefixOf_iff_prefix]
  exact List.take_prefix _ _
theorem refers_prefix {h : House} {x k l : Nat} {n b ss : List Nat} (e : askT (h.server x) h.now n k = .refers b ss l) : b.isPrefixOf n = true := by
  obtain ⟨z, hz, ez⟩ := askT_zone e (fun z => nomatch z)
  exact cut_prefix (answers_refers ez).1
/-- how an asking ends -/
def endM (h : House) (k f : Nat) (c : List Fact) (w : Way) (a : Nat) : Option Tells → List Fact × Got
  | none => (c, ⟨0, [], 0, w.chain, a⟩)
  | some (.data vs l) => (c, ⟨1, vs, min w.life l, w.chain, a⟩)
  | some (.nothing l) => (c, ⟨2, [], min w.life l, w.chain, a⟩)
  | some (.never l) => (c, ⟨3, [], min w.life l, w.chain, a⟩)
  | some (.alias m l) => if 6 ≤ w.chain.length then (c, ⟨0, [], 0, w.chain, a⟩) else h.finds k f c ⟨m, none, w.chain ++ [m], min w.life l, a⟩
  | some _ => (c, ⟨0, [], 0, w.chain, a⟩)
theorem asks_eq {h : House} (fit : HFit h) {k : Nat} (hk : k = 1 ∨ k = 2) (n : List Nat) : ∀ (m : Nat) (l : List Nat) (pl : List Nat) (c : List Fact) (a f : Nat) (w : Way), (∀ x ∈ c, FGood h.servers.length x) → w.at_ = some (pl, l) → w.asks = a → m = 40 - a → w.name = n → m + 1 ≤ f →
    h.finds k f c w = endM h k (f - ((askM h k n m l pl.length c a).2.1 - a)) (askM h k n m l pl.length c a).1 w (askM h k n m l pl.length c a).2.1 (askM h k n m l pl.length c a).2.2
  | 0, l, pl, c, a, f + 1, w, g, h1, h2, h3, h4, h5 => by
    obtain ⟨wn, wa, wc, wl, wk⟩ := w
    dsimp only at h1 h2 h4
    subst h1 h2
    have e : askM h k n 0 l pl.length c wk = (c, wk, none) := by unfold askM; rfl
    rw [e]
    cases l with
    | nil => rfl
    | cons x l =>
      conv => lhs; unfold Dn01.House.finds
      dsimp only
      rw [if_pos (show Dn01.ASKS ≤ wk by unfold Dn01.ASKS; omega)]
      rfl
  | m + 1, [], pl, c, a, f + 1, w, g, h1, h2, h3, h4, h5 => by
    obtain ⟨wn, wa, wc, wl, wk⟩ := w
    dsimp only at h1 h2 h4
    subst h1 h2
    rfl
  | m + 1, x :: l, pl, c, a, f + 1, w, g, h1, h2, h3, h4, h5 => by
    obtain ⟨wn, wa, wc, wl, wk⟩ := w
    dsimp only at h1 h2 h4
    subst h1 h2 h4
    have na : ¬ Dn01.ASKS ≤ wk := by unfold Dn01.ASKS; omega
    have eF : h.finds k (f + 1) c ⟨wn, some (pl, x :: l), wc, wl, wk⟩ = match askT (h.server x) h.now wn k with
      | .refuses => h.finds k f c ⟨wn, some (pl, l), wc, wl, wk + 1⟩
      | .refers b ss life => if pl.length < b.length ∧ b.isPrefixOf wn = true then h.finds k f (Dn01.learn c ⟨b, 3, .cut ss, h.now + life⟩) ⟨wn, some (b, ss), wc, wl, wk + 1⟩ else h.finds k f c ⟨wn, some (pl, l), wc, wl, wk + 1⟩
      | .data vs life => (Dn01.learn c ⟨wn, k, .data vs, h.now + life⟩, ⟨1, vs, min wl life, wc, wk + 1⟩)
      | .nothing life => (Dn01.learn c ⟨wn, k, .nothing, h.now + life⟩, ⟨2, [], min wl life, wc, wk + 1⟩)
      | .never life => (Dn01.learn c ⟨wn, 0, .never, h.now + life⟩, ⟨3, [], min wl life, wc, wk + 1⟩)
      | .alias n life => match Dn01.follows ⟨wn, some (pl, l), wc, wl, wk + 1⟩ n life with
        | none => (Dn01.learn c ⟨wn, 2, .alias n, h.now + life⟩, Dn01.failed ⟨wn, some (pl, l), wc, wl, wk + 1⟩)
        | some v => h.finds k f (Dn01.learn c ⟨wn, 2, .alias n, h.now + life⟩) v := by
      conv => lhs; unfold Dn01.House.finds
      dsimp only
      rw [if_neg na]
      unfold askT
      cases eu : (h.server x).up with
      | false => rfl
      | true => rfl
    rw [eF]
    rcases et : askT (h.server x) h.now wn k with _ | ⟨b, ss, life⟩ | ⟨vs, life⟩ | ⟨mm, life⟩ | life | life
    case refuses =>
      have e : askM h k wn (m + 1) (x :: l) pl.length c wk = askM h k wn m l pl.length c (wk + 1) := by
        conv => lhs; unfold askM
        rw [et]
      dsimp only
      have ih := asks_eq fit hk wn m l pl c (wk + 1) f ⟨wn, some (pl, l), wc, wl, wk + 1⟩ g rfl rfl (by omega) rfl (by omega)
      obtain ⟨_, a1, a2, _, _⟩ := askM_ok fit hk wn m l pl.length c (wk + 1) g
      rw [ih, e, show f + 1 - ((askM h k wn m l pl.length c (wk + 1)).2.1 - wk) = f - ((askM h k wn m l pl.length c (wk + 1)).2.1 - (wk + 1)) by omega]
      rfl
    case refers =>
      dsimp only
      have pf := refers_prefix et
      by_cases hp : pl.length < b.length
      · have gf : FGood h.servers.length (⟨b, 3, .cut ss, h.now + life⟩ : Fact) := factOf_good fit hk _ et
        have e : askM h k wn (m + 1) (x :: l) pl.length c wk = askM h k wn m ss b.length (learnF c ⟨b, 3, .cut ss, h.now + life⟩) (wk + 1) := by
          conv => lhs; unfold askM
          rw [et]
          dsimp only
          rw [if_pos hp]
        have gl := learnF_good g gf
        have ih := asks_eq fit hk wn m ss b (learnF c ⟨b, 3, .cut ss, h.now + life⟩) (wk + 1) f ⟨wn, some (b, ss), wc, wl, wk + 1⟩ gl rfl rfl (by omega) rfl (by omega)
        obtain ⟨_, a1, a2, _, _⟩ := askM_ok fit hk wn m ss b.length (learnF c ⟨b, 3, .cut ss, h.now + life⟩) (wk + 1) gl
        rw [if_pos ⟨hp, pf⟩, learn_eq g gf, ih, e, show f + 1 - ((askM h k wn m ss b.length (learnF c ⟨b, 3, .cut ss, h.now + life⟩) (wk + 1)).2.1 - wk) = f - ((askM h k wn m ss b.length (learnF c ⟨b, 3, .cut ss, h.now + life⟩) (wk + 1)).2.1 - (wk + 1)) by omega]
        rfl
      · have e : askM h k wn (m + 1) (x :: l) pl.length c wk = askM h k wn m l pl.length c (wk + 1) := by
          conv => lhs; unfold askM
          rw [et]
          dsimp only
          rw [if_neg hp]
        have ih := asks_eq fit hk wn m l pl c (wk + 1) f ⟨wn, some (pl, l), wc, wl, wk + 1⟩ g rfl rfl (by omega) rfl (by omega)
        obtain ⟨_, a1, a2, _, _⟩ := askM_ok fit hk wn m l pl.length c (wk + 1) g
        rw [if_neg (fun z => hp z.1), ih, e, show f + 1 - ((askM h k wn m l pl.length c (wk + 1)).2.1 - wk) = f - ((askM h k wn m l pl.length c (wk + 1)).2.1 - (wk + 1)) by omega]
        rfl
    rotate_left
    · have gf : FGood h.servers.length (⟨wn, 2, .alias mm, h.now + life⟩ : Fact) := factOf_good fit hk _ et
      rw [loop_go h k wn m x l pl.length c wk _ et (fun z => nomatch z) (fun _ _ _ z => nomatch z)]
      dsimp only
      rw [learn_eq g gf]
      show _ = endM h k (f + 1 - (wk + 1 - wk)) _ _ (wk + 1) (some (.alias mm life))
      rw [show f + 1 - (wk + 1 - wk) = f by omega]
      unfold Dn01.follows endM Dn01.CHAIN
      dsimp only
      by_cases hc : 6 ≤ wc.length
      · rw [if_pos hc, if_pos hc]
        rfl
      · rw [if_neg hc, if_neg hc]
        rfl
    all_goals
      have gf := factOf_good fit hk _ et
      rw [loop_go h k wn m x l pl.length c wk _ et (fun z => nomatch z) (fun _ _ _ z => nomatch z)]
      have le := learn_eq g gf
      dsimp only [factOf] at le ⊢
      rw [le]
      rfl
def gotOf (o : Option What) (ns : List (List Nat)) (g a : Nat) : Got := match o with
  | none => ⟨0, [], 0, ns, a⟩
  | some (.data vs) => ⟨1, vs, g, ns, a⟩
  | some .nothing => ⟨2, [], g, ns, a⟩
  | some .never => ⟨3, [], g, ns, a⟩
  | some (.alias m) => ⟨1, [m], g, ns, a⟩
  | some (.cut _) => ⟨0, [], 0, ns, a⟩
def resM (R : List Fact × Nat × Nat × List (List Nat) × Option What) : List Fact × Got := (R.1, gotOf R.2.2.2.2 R.2.2.2.1 R.2.2.1 R.2.1)
def contT (h : House) (k j : Nat) (ns : List (List Nat)) (T : List Fact × Nat × Nat × Option What) := contM h k j T.1 T.2.1 T.2.2.1 ns T.2.2.2
theorem contT_alias {h : House} {k j : Nat} {ns : List (List Nat)} {fs : List Fact} {a g : Nat} {m : List Nat} : contT h k (j + 1) ns (fs, a, g, some (.alias m)) = if k = 2 then (fs, a, g, ns, some (.alias m)) else if ns.length = 6 then (fs, a, g, ns, none) else contT h k j (ns ++ [m]) (toldM h k m fs a g) := rfl
theorem finds_eq {h : House} (fit : HFit h) {k : Nat} (hk : k = 1 ∨ k = 2) : ∀ (j : Nat) (n : List Nat) (ns : List (List Nat)) (c : List Fact) (gd a f : Nat), (∀ x ∈ c, FGood h.servers.length x) → j + ns.length = 7 → 1 ≤ j → a ≤ 40 → (40 - a) + 3 * j ≤ f →
    h.finds k f c ⟨n, none, ns, gd, a⟩ = resM (contT h k j ns (toldM h k n c a gd))
  | 0, n, ns, c, gd, a, f, g, hj, h1, ha, hf => absurd h1 (by omega)
  | j + 1, n, ns, c, gd, a, 0, g, hj, h1, ha, hf => absurd hf (by omega)
  | j + 1, n, ns, c, gd, a, f + 1, g, hj, h1, ha, hf => by
    have nsl : ns.length ≤ 6 := by omega
    have ask : recF_ c n k h.now = none → h.finds k f c ⟨n, some ((Dn01.knownCut c h.now n).getD ([], h.roots)), ns, gd, a⟩ = resM (contT h k (j + 1) ns (toldM h k n c a gd)) := fun er => by
      have ep : (Dn01.knownCut c h.now n).getD ([], h.roots) = (((Dn01.knownCut c h.now n).getD ([], h.roots)).1, (startAt h c n).1) ∧ (((Dn01.knownCut c h.now n).getD ([], h.roots)).1).length = (startAt h c n).2 := by
        rw [cut_eq g]
        unfold startAt
        cases nearF c n h.now n.length with
        | none => exact ⟨rfl, rfl⟩
        | some x => exact ⟨rfl, rfl⟩
      obtain ⟨e1, e2⟩ := ep
      generalize ((Dn01.knownCut c h.now n).getD ([], h.roots)).1 = pl at e1 e2
      rw [e1]
      have ea := asks_eq fit hk n (40 - a) (startAt h c n).1 pl c a f ⟨n, some (pl, (startAt h c n).1), ns, gd, a⟩ g rfl rfl rfl rfl (by omega)
      rw [e2] at ea
      rw [ea]
      obtain ⟨b1, b2, b3, b4, b5⟩ := askM_ok fit hk n (40 - a) (startAt h c n).1 (startAt h c n).2 c a g
      unfold toldM
      rw [er]
      dsimp only
      unfold srvM
      rcases eR : askM h k n (40 - a) (startAt h c n).1 (startAt h c n).2 c a with ⟨c', a', r⟩
      rw [eR] at b1 b2 b3 b4 b5
      dsimp only at b1 b2 b3 b4 b5 ⊢
      cases r with
      | none => rfl
      | some t =>
        obtain ⟨d1, d2⟩ := askM_def (t := t) (by rw [eR])
        rcases t with _ | ⟨b, ss, l⟩ | ⟨vs, l⟩ | ⟨m, l⟩ | l | l
        · exact absurd rfl d1
        · exact absurd rfl (d2 b ss l)
        · rfl
        · obtain ⟨_, k2⟩ := b5 m l rfl
          dsimp only [factOf, lifeOf]
          rw [contT_alias, if_neg k2]
          unfold endM
          dsimp only
          by_cases h6 : ns.length = 6
          · rw [if_pos (by omega), if_pos h6]
            rfl
          · rw [if_neg (by omega), if_neg h6]
            exact finds_eq fit hk j m (ns ++ [m]) c' (min gd l) a' (f - (a' - a)) b1 (by rw [List.length_append, List.length_singleton]; omega) (by omega) (by omega) (by omega)
        · rfl
        · rfl
    have fol : ∀ (m : List Nat) (x : Fact), ¬ k = 2 → toldM h k n c a gd = (c, a, min gd (x.until_ - h.now), some (.alias m)) → (match Dn01.follows ⟨n, none, ns, gd, a⟩ m (x.until_ - h.now) with
        | none => (c, Dn01.failed ⟨n, none, ns, gd, a⟩)
        | some v => h.finds k f c v) = resM (contT h k (j + 1) ns (toldM h k n c a gd)) := fun m x k2 eT => by
      rw [eT, contT_alias, if_neg k2]
      unfold Dn01.follows Dn01.CHAIN
      dsimp only
      by_cases h6 : ns.length = 6
      · rw [if_pos (by omega), if_pos h6]
        rfl
      · rw [if_neg (by omega), if_neg h6]
        exact finds_eq fit hk j m (ns ++ [m]) c _ a f g (by rw [List.length_append, List.length_singleton]; omega) (by omega) ha (by omega)
    conv => lhs; unfold Dn01.House.finds
    dsimp only
    rw [known_eq g (by decide), known_eq g (show k ≠ 3 by omega), known_eq g (by decide)]
    cases e0 : atF c n 0 h.now with
    | some x =>
      obtain ⟨xm, _, xs, _⟩ := atF_mem e0
      have er : recF_ c n k h.now = some x := by unfold recF_; rw [e0]
      have ew := (g x xm).zero xs
      unfold toldM
      rw [er]
      dsimp only
      rw [ew]
      rfl
    | none =>
      cases e1 : atF c n k h.now with
      | some x =>
        obtain ⟨xm, _, xs, _⟩ := atF_mem e1
        have er : recF_ c n k h.now = some x := by unfold recF_; rw [e0, e1]
        have eT : toldM h k n c a gd = (c, a, min gd (x.until_ - h.now), some x.what) := by unfold toldM; rw [er]
        dsimp only
        rcases ew : x.what with vs | m | _ | _ | ss
        · rw [eT, ew]; rfl
        · have k2 : k = 2 := xs.symm.trans ((g x xm).ali m ew).1
          rw [eT, ew, contT_alias, if_pos k2]
          dsimp only
          rw [if_pos k2]
          rfl
        · rw [eT, ew]; rfl
        · have := (g x xm).nev ew
          omega
        · have := ((g x xm).cut ss ew).1
          omega
      | none =>
        cases e2 : atF c n 2 h.now with
        | none =>
          refine ask ?_
          unfold recF_
          rw [e0, e1, e2]
          rfl
        | some x =>
          dsimp only
          have er : recF_ c n k h.now = (some x).filter fun f => ocOf f.what == 4 := by unfold recF_; rw [e0, e1, e2]
          have k2 : ¬ k = 2 := fun z => by rw [z, e2] at e1; cases e1
          rcases ew : x.what with vs | m | _ | _ | ss
          rotate_left
          · refine fol m x k2 ?_
            have er : recF_ c n k h.now = some x := by
              rw [er, Option.filter_some, ew]
              rfl
            unfold toldM
            rw [er]
            dsimp only
            rw [ew]
          all_goals
            refine ask ?_
            rw [er, Option.filter_some, ew]
            rfl
theorem query_eq {h : House} (fit : HFit h) {k : Nat} (hk : k = 1 ∨ k = 2) (n : List Nat) {c : List Fact} (g : ∀ x ∈ c, FGood h.servers.length x) : h.query c n k = resM (contM h k 7 (toldM h k n c 0 1000000000).1 (toldM h k n c 0 1000000000).2.1 (toldM h k n c 0 1000000000).2.2.1 [] (toldM h k n c 0 1000000000).2.2.2) :=
  finds_eq fit hk 7 n [] c 1000000000 0 400 g rfl (by omega) (by omega) (by omega)
end Nn

namespace Nn
open PySem PySem.Spec PyProof.Rows L2
theorem walk_zipT {K : PySem.W.Frag} {a b : Addr} {xs ys : List V} {n : Nat} (hn : n = min xs.length ys.length) : Walk (RZ.ItzT K a b) n (fun H => SqT K H a xs ∧ SqT K H b ys) (YPair (fun i => xs[i]?) (fun i => ys[i]?)) :=
  ⟨fun i H hi ⟨qx, qy⟩ => ⟨xs, ys, xs[i], ys[i], qx, qy, by simp, by simp⟩, fun H ⟨qx, qy⟩ => ⟨xs, ys, qx, qy, by omega⟩, fun i H v H' hi ⟨qx, qy⟩ ⟨T, x, y, e, hT, eH, f1, f2⟩ => ⟨T, x, y, e, hT, eH, f1 xs qx, f2 ys qy⟩⟩
def ups : List Nat → List Bool
  | a :: b :: l => decide (a < b) :: ups (b :: l)
  | _ => []
theorem ups_all : ∀ r : List Nat, (ups r).all id = Dn01.rising r
  | [] => rfl
  | [_] => rfl
  | a :: b :: l => by
    unfold ups Dn01.rising
    rw [List.all_cons, ups_all (b :: l)]
    rfl
theorem ups_len : ∀ r : List Nat, (ups r).length = r.length - 1
  | [] => rfl
  | [_] => rfl
  | a :: b :: l => by
    unfold ups
    rw [List.length_cons, ups_len (b :: l)]
    simp
theorem ups_at : ∀ (r : List Nat) (i : Nat) (x y : Nat), r[i]? = some x → r[i + 1]? = some y → (ups r)[i]? = some (decide (x < y))
  | [], i, x, y, h, _ => by cases h
  | [a], i, x, y, _, h => by simp at h
  | a :: b :: l, 0, x, y, h1, h2 => by
    cases h1
    cases h2
    rfl
  | a :: b :: l, i + 1, x, y, h1, h2 => by
    unfold ups
    exact ups_at (b :: l) i x y (by simpa using h1) (by simpa using h2)
theorem rising_lt : ∀ (r : List Nat) (z : Nat), Dn01.rising (r ++ [z]) = true → ∀ x ∈ r, x < z
  | [], z, _, x, h => nomatch h
  | [a], z, h, x, m => by
    have h : (decide (a < z) && true) = true := h
    rw [Bool.and_true] at h
    rw [List.mem_singleton.mp m]
    exact of_decide_eq_true h
  | a :: b :: l, z, h, x, m => by
    have h : (decide (a < b) && Dn01.rising (b :: l ++ [z])) = true := h
    rw [Bool.and_eq_true] at h
    have ih := rising_lt (b :: l) z h.2
    rcases List.mem_cons.mp m with rfl | m
    · exact Nat.lt_trans (of_decide_eq_true h.1) (ih b (List.mem_cons_self ..))
    · exact ih x m
def rootsB (r : List Nat) (n : Nat) : Bool := !r.isEmpty && (Dn01.rising r && !(r.any fun x => decide (n ≤ x)))
theorem rootsB_last {r : List Nat} {z n : Nat} : (n ≤ z → rootsB (r ++ [z]) n = false) ∧ (¬ n ≤ z → rootsB (r ++ [z]) n = Dn01.rising (r ++ [z])) := by
  unfold rootsB
  have e : (r ++ [z]).isEmpty = false := by cases r <;> rfl
  rw [e]
  refine ⟨fun h => ?_, fun h => ?_⟩
  · have : ((r ++ [z]).any fun x => decide (n ≤ x)) = true := List.any_eq_true.mpr ⟨z, by simp, decide_eq_true h⟩
    rw [this]
    simp
  · cases er : Dn01.rising (r ++ [z]) with
    | false => rfl
    | true =>
      have hl := rising_lt r z er
      have : ((r ++ [z]).any fun x => decide (n ≤ x)) = false := by
        rw [List.any_eq_false]
        intro x m
        rcases List.mem_append.mp m with m | m
        · have := hl x m
          simp
          omega
        · rw [List.mem_singleton.mp m]
          simpa using h
      rw [this]
      rfl
section
variable {P : Program} {w : World} {K : PySem.W.Frag} {mg : Str → Option Value} {base : Heap} {c : Cs}
theorem pg_tupK {X : Cx} {K : PySem.W.Frag} (hK : X.K = K) {es : List Expr} {k : Nat} {pos : Pos} {t : TGs} {n : Nat} (hc : X.calm = true) (h : PGs X es t)
    (hn : (assignEach es X.env).length = n := by rfl) (hst : (assignEach es X.env).findIdx? (·.1) = none := by rfl) : PG X (.Tuple es k pos) (gTup K n t) := by
  subst hK
  exact pg_tup hc h hn hst
theorem sl_fromI {H : Hp} {Q : VK} {a : Addr} {l : List Nat} {i : Int} {k : Nat} (e : i = (k : Int)) (h : TN H a l) (q : ∀ p H', Same H H' → TN H' p (l.drop k) → Q (.ref p) H') : rSlA K (.ref a) (some i) none H Q := by
  subst e
  exact sl_from h q
def sp_are_roots : Sp := fun vs H Q _ => ∃ b r n, vs = [.ref b, nv n] ∧ TN H b r ∧ r.length < 100000 ∧ ∀ H', Same H H' → Q (.bl (rootsB r n)) H'
theorem ok_are_roots {f : Addr} {fd : FuncData} (F : Fun K "are_roots" "are_roots" s_are_roots f fd) (T : Txt K mg c) (cok : COk c)  : FnOk P w K mg base CX0 1 f fd ["roots", "server_count"] sp_are_roots := by
  refine F.ok sc_are_roots (fun vs H Q E h => ?_) (fun cdv A outer s H vs Q E hr h => ?_)
  · obtain ⟨b, r, n, rfl, _⟩ := h
    rfl
  · refine ⟨_, (pss_cons (ps_if (PW.pt (pw_or (pt_cmpR op_eq (pe_callB call_len_seq (by rfl) T.f_len PySem.boot_len (pa_cons (pv 0) pa_nil)) pe_int (nomark _)) (pw_or1 (pt_cmpR op_ge (pe_ix (ix_tupK (K := K) rfl) (pv 0) (pe_un un_neg pe_int) (fun _ _ => rfl)) (pv 1) (nomark _))))) (pss_one (ps_ret pe_bl)) pss_nil)
      (pss_one (ps_ret (pe_callB (cr_all rfl) (by rfl) T.f_all (by decide +kernel) (pa_cons (pe_lc (own := [("lower", 2), ("higher", 3)]) (by rfl) sc_are_roots.nd (RZ.pi_zipA (by rfl) T.f_zip (pa_cons (pv 0) (pa_cons (pe_slice sl_tupA (pv 0) (po_some pe_int) po_none) pa_nil))) (blkOk_by (own := [("lower", 2), ("higher", 3)]) (N := ["roots", "server_count", "lower", "higher"]) (sc := defScope s_are_roots) (by decide +kernel)) (fun _ _ _ _ _ => pg_tupK (K := K) (n := 2) rfl rfl (pgs_cons (pg_name (i := 2) sc_are_roots.nd rfl (Or.inl rfl)) (pgs_cons (pg_name (i := 3) sc_are_roots.nd rfl (Or.inl rfl)) pgs_nil))) (fun _ _ _ _ _ => pts_nil) (fun _ _ _ _ _ => (pe_cmpR op_lt (pv 2) (pv 3) (nomark _)))) pa_nil))))), ?_⟩
    obtain ⟨b, r, n, rfl, hb, rl, q⟩ := h
    have line : 100000 < sizeLine := by decide
    refine ⟨_, rfl, _, _, rfl, .inr (SqT.of hb), rfl, _, rfl, ?_⟩
    rcases List.eq_nil_or_concat r with rfl | ⟨r', z, rfl⟩
    · exact iteT (q H (Same.refl H))
    rw [List.concat_eq_append] at hb rl q ⊢
    refine if_f (decide_eq_false ?_) ?_
    · intro e
      have := V.int.inj e
      rw [List.length_map, List.length_append, List.length_singleton] at this
      omega
    refine ⟨_, rfl, _, rfl, ix_end hb ⟨_, rfl, _, _, rfl, rfl, _, rfl, ite_b (fun e => ?_) fun e => ?_⟩⟩
    · have e := of_decide_eq_true e
      rw [rootsB_last.1 (by omega)] at q
      exact q H (Same.refl H)
    have e := of_decide_eq_false e
    rw [rootsB_last.2 (by omega)] at q
    generalize er : r' ++ [z] = r at hb rl q
    refine ⟨_, rfl, _, rfl, _, rfl, ?_⟩
    dsimp only [tNoPart]
    refine sl_fromI (i := 1) (k := 1) rfl hb fun p H1 s1 tp => ?_
    refine ⟨b, p, _, _, rfl, .inr ⟨SqT.of (hb.same s1), SqT.of tp, fun D hD => ?_⟩⟩
    refine lc_it (walk_zipT rfl) (fun i H' => Same H1 H' ∧ H' D = some (.lst (((ups r).take i).map V.bl))) ⟨Same.laid hD, by rw [upd_same]; rfl⟩ (fun i H' _ p => ⟨SqT.of (hb.same (s1.trans p.1)), SqT.of (tp.same p.1)⟩) ?_ ?_
    · rintro i v H' H2 hi ⟨s2, hDl⟩ ⟨T, x, y, rfl, hT, rfl, hx, hy⟩
      rw [List.length_map, List.length_map, List.length_drop] at hi
      have gx : (r.map nv)[i]? = some x := hx
      have gy : ((r.drop 1).map nv)[i]? = some y := hy
      rw [List.getElem?_map, Option.map_eq_some_iff] at gx gy
      obtain ⟨x', jx, rfl⟩ := gx
      obtain ⟨y', jy, rfl⟩ := gy
      rw [List.getElem?_drop, Nat.add_comm] at jy
      have hu := ups_at r i x' y' jx jy
      have ul := ups_len r
      have nTD : D ≠ T := fun z => by rw [← z, hDl] at hT; cases hT
      refine ⟨T, _, rfl, SqT.of upd_same, rfl, _, _, rfl, _, _, rfl, rfl, rfl, ?_⟩
      dsimp only [tYes]
      rw [if_pos rfl]
      refine ⟨_, rfl, _, rfl, _, _, rfl, rfl, _, (upd_ne nTD).trans hDl, ?_, fun b o e => ?_, ?_⟩
      · rw [List.length_map, List.length_take]
        omega
      · rw [upd_ne (ne_of_none e hD)]
        exact (s2.trans (Same.laid hT)) _ _ e
      · rw [upd_same, List.take_succ, hu, List.map_append]
        show some (HO.lst (_ ++ [V.bl (decide ((x' : Int) < (y' : Int)))])) = _
        rw [nat_lt_dec]
        rfl
    · rintro H' ⟨s2, hDl⟩
      refine ⟨_, ups r, rfl, SqL.of ?_, ?_⟩
      · rw [hDl, List.length_map, List.length_map, List.length_drop, List.take_of_length_le (by rw [ups_len]; omega)]
      · rw [ups_all]
        exact q H' (s1.trans s2)
end
end Nn


namespace Nn
open PySem PySem.Spec PyProof.Rows L2
theorem putF_len {f : Str} {v : V} : ∀ fs : List (Str × V), (putF f v fs).length ≤ fs.length + 1
  | [] => Nat.le_refl _
  | (g, x) :: r => by
    have ih := putF_len (f := f) (v := v) r
    unfold putF
    split
    · simp
    · simp only [List.length_cons]
      omega
section
variable {P : Program} {w : World} {K : PySem.W.Frag} {mg : Str → Option Value} {base : Heap} {c : Cs}
/-- new servers, new caches -/
def SrvsN (c : Cs) (H : Hp) (l : List (Addr × Addr)) : Prop := (∀ p ∈ l, At c.csrv H p.1 (srvF (.bl true) (.ref p.2)) ∧ H p.2 = some (.dT [])) ∧ l.Pairwise fun a b => a.1 ≠ b.1 ∧ a.2 ≠ b.2
def CacsN (P : Program) (w : World) (c : Cs) (H : Hp) (l : List (Addr × Addr)) : Prop := (∀ p ∈ l, At c.ccac H p.1 (cacF (.ref p.2)) ∧ H p.2 = some (factsO P w p.2 []) ∧ (p.2 == sysModules) = false) ∧ l.Pairwise fun a b => a.1 ≠ b.1 ∧ a.2 ≠ b.2
theorem SrvsN.kp {H H' : Hp} {a : Addr} {o : HO} {l : List (Addr × Addr)} (s : SrvsN c H l) (k : Kp [a] H H') (e : H a = some o) (n1 : ∀ dx fs, o ≠ .ins c.csrv dx fs) (n2 : ∀ x, o ≠ .dT x) : SrvsN c H' l := by
  refine ⟨fun p m => ?_, s.2⟩
  obtain ⟨⟨dx, h1⟩, h2⟩ := s.1 p m
  refine ⟨⟨dx, k _ _ h1 fun m => ?_⟩, k _ _ h2 fun m => ?_⟩
  · rw [List.mem_singleton.mp m, e] at h1
    exact n1 _ _ (Option.some.inj h1)
  · rw [List.mem_singleton.mp m, e] at h2
    exact n2 _ (Option.some.inj h2)
theorem CacsN.kp {H H' : Hp} {a : Addr} {o : HO} {l : List (Addr × Addr)} (s : CacsN P w c H l) (k : Kp [a] H H') (e : H a = some o) (n1 : ∀ dx fs, o ≠ .ins c.ccac dx fs) (n2 : ∀ x, o ≠ .ext x) : CacsN P w c H' l := by
  refine ⟨fun p m => ?_, s.2⟩
  obtain ⟨⟨dx, h1⟩, h2, h3⟩ := s.1 p m
  refine ⟨⟨dx, k _ _ h1 fun m => ?_⟩, k _ _ h2 (fun m => ?_), h3⟩
  · rw [List.mem_singleton.mp m, e] at h1
    exact n1 _ _ (Option.some.inj h1)
  · rw [List.mem_singleton.mp m, e] at h2
    exact n2 _ (Option.some.inj h2)
theorem SrvsN.same {H H' : Hp} {l : List (Addr × Addr)} (s : SrvsN c H l) (k : Same H H') : SrvsN c H' l := ⟨fun p m => ⟨(s.1 p m).1.same k, k _ _ (s.1 p m).2⟩, s.2⟩
theorem CacsN.same {H H' : Hp} {l : List (Addr × Addr)} (s : CacsN P w c H l) (k : Same H H') : CacsN P w c H' l := ⟨fun p m => ⟨(s.1 p m).1.same k, k _ _ (s.1 p m).2.1, (s.1 p m).2.2⟩, s.2⟩
theorem SrvsN.snoc {H : Hp} {l : List (Addr × Addr)} {x d : Addr} (s : SrvsN c H l) (h1 : At c.csrv H x (srvF (.bl true) (.ref d))) (h2 : H d = some (.dT [])) (n : ∀ p ∈ l, p.1 ≠ x ∧ p.2 ≠ d) : SrvsN c H (l ++ [(x, d)]) := by
  refine ⟨fun p m => ?_, ?_⟩
  · rcases List.mem_append.mp m with m | m
    · exact s.1 p m
    · rw [List.mem_singleton.mp m]
      exact ⟨h1, h2⟩
  · rw [List.pairwise_append]
    exact ⟨s.2, List.pairwise_singleton _ _, fun a m b m2 => by rw [List.mem_singleton.mp m2]; exact n a m⟩
theorem CacsN.snoc {H : Hp} {l : List (Addr × Addr)} {x d : Addr} (s : CacsN P w c H l) (h1 : At c.ccac H x (cacF (.ref d))) (h2 : H d = some (factsO P w d [])) (h3 : (d == sysModules) = false) (n : ∀ p ∈ l, p.1 ≠ x ∧ p.2 ≠ d) : CacsN P w c H (l ++ [(x, d)]) := by
  refine ⟨fun p m => ?_, ?_⟩
  · rcases List.mem_append.mp m with m | m
    · exact s.1 p m
    · rw [List.mem_singleton.mp m]
      exact ⟨h1, h2, h3⟩
  · rw [List.pairwise_append]
    exact ⟨s.2, List.pairwise_singleton _ _, fun a m b m2 => by rw [List.mem_singleton.mp m2]; exact n a m⟩
def houseNew (s k : Nat) (r : List Nat) : Dn01.House := ⟨List.replicate s ⟨true, []⟩, List.replicate k [], r, 0, 0⟩
theorem pw_at {l : List (Addr × Addr)} (h : l.Pairwise fun a b => a.1 ≠ b.1 ∧ a.2 ≠ b.2) {i j : Nat} {a b : Addr × Addr} (e1 : l[i]? = some a) (e2 : l[j]? = some b) (hn : i ≠ j) : a.1 ≠ b.1 ∧ a.2 ≠ b.2 := by
  rw [List.pairwise_iff_getElem] at h
  obtain ⟨hi, rfl⟩ := List.getElem?_eq_some_iff.mp e1
  obtain ⟨hj, rfl⟩ := List.getElem?_eq_some_iff.mp e2
  rcases Nat.lt_or_gt_of_ne hn with hl | hl
  · exact h i j hi hj hl
  · have := h j i hj hi hl
    exact ⟨Ne.symm this.1, Ne.symm this.2⟩
theorem NetA.made {F : List Addr} {H : Hp} {na sl cl ra : Addr} {ls lc : List (Addr × Addr)} {r : List Nat} (h0 : At c.cnet H na (netF (nv 0) (.ref sl) (.ref cl) (.ref ra) (nv 0))) (n1 : sl ∉ F) (n2 : cl ∉ F) (h1 : H sl = some (.lst (ls.map fun p => V.ref p.1))) (h2 : H cl = some (.lst (lc.map fun p => V.ref p.1)))
    (h3 : TN H ra r) (h4 : SrvsN c H ls) (h5 : CacsN P w c H lc) : NetA P w c F H ⟨na, sl, cl, ra, ls.map fun p => ⟨p.1, p.2, []⟩, lc.map fun p => ⟨p.1, p.2, []⟩⟩ (houseNew ls.length lc.length r) := by
  refine ⟨h0, n1, n2, by rw [h1, List.map_map]; rfl, by rw [h2, List.map_map]; rfl, h3, by simp [houseNew], fun i gs s e1 e2 => ?_, by simp [houseNew], fun i gs s e1 e2 => ?_, fun i j a b e1 e2 hn x m1 m2 => ?_, fun i j a b e1 e2 hn x m1 m2 => ?_⟩
  · have e2 : (List.replicate ls.length (⟨true, []⟩ : Dn01.Server))[i]? = some s := e2
    have e3 := List.eq_of_mem_replicate (List.mem_of_getElem? e2)
    subst e3
    rw [List.getElem?_map, Option.map_eq_some_iff] at e1
    obtain ⟨p, e1, rfl⟩ := e1
    obtain ⟨g1, g2⟩ := h4.1 p (List.mem_of_getElem? e1)
    exact ⟨g1, g2, fun h m => (nomatch m), rfl, fun i j a b e => by cases e⟩
  · have e2 : (List.replicate lc.length ([] : List Dn01.Fact))[i]? = some s := e2
    have e3 := List.eq_of_mem_replicate (List.mem_of_getElem? e2)
    subst e3
    rw [List.getElem?_map, Option.map_eq_some_iff] at e1
    obtain ⟨p, e1, rfl⟩ := e1
    obtain ⟨g1, g2, g3⟩ := h5.1 p (List.mem_of_getElem? e1)
    exact ⟨g1, ⟨⟨g2, fun x m => (nomatch m), List.nodup_nil, g3, Nat.zero_le _⟩, fun p m => (nomatch m)⟩, rfl⟩
  · rw [List.getElem?_map, Option.map_eq_some_iff] at e1 e2
    obtain ⟨p, e1, rfl⟩ := e1
    obtain ⟨q, e2, rfl⟩ := e2
    obtain ⟨k1, k2⟩ := pw_at h4.2 e1 e2 hn
    obtain ⟨⟨d1, g1⟩, g2⟩ := h4.1 p (List.mem_of_getElem? e1)
    obtain ⟨⟨d2, g3⟩, g4⟩ := h4.1 q (List.mem_of_getElem? e2)
    simp only [GS.foot, List.flatMap_nil, List.mem_cons, List.not_mem_nil, or_false] at m1 m2
    rcases m1 with rfl | rfl <;> rcases m2 with m2 | m2
    · exact k1 m2
    · rw [m2, g4] at g1; cases g1
    · rw [m2, g3] at g2; cases g2
    · exact k2 m2
  · rw [List.getElem?_map, Option.map_eq_some_iff] at e1 e2
    obtain ⟨p, e1, rfl⟩ := e1
    obtain ⟨q, e2, rfl⟩ := e2
    obtain ⟨k1, k2⟩ := pw_at h5.2 e1 e2 hn
    obtain ⟨⟨d1, g1⟩, g2, _⟩ := h5.1 p (List.mem_of_getElem? e1)
    obtain ⟨⟨d2, g3⟩, g4, _⟩ := h5.1 q (List.mem_of_getElem? e2)
    simp only [GC.foot, List.mem_cons, List.not_mem_nil, or_false] at m1 m2
    rcases m1 with rfl | rfl <;> rcases m2 with m2 | m2
    · exact k1 m2
    · rw [m2, g4] at g1; cases g1
    · rw [m2, g3] at g2; cases g2
    · exact k2 m2
def sp_begin_anew (P : Program) (w : World) (c : Cs) : Sp := fun vs H Q _ => ∃ F na dx fs0 s k b r, vs = [.ref na, nv s, nv k, .ref b] ∧ H na = some (.ins c.cnet dx fs0) ∧ fs0.length < 900 ∧ (∀ a b d e f, putF "zones_made" f (putF "roots" e (putF "caches" d (putF "servers" b (putF "now" a fs0)))) = netF a b d e f) ∧ FOk F H ∧ TN H b r ∧ s < 100 ∧ k < 100 ∧
  ∀ H' g', Kp [na] H H' → g'.n = na → NetA P w c F H' g' (houseNew s k r) → Q .non H'
theorem ok_Net_begin_anew {f : Addr} {fd : FuncData} (F : Fun K "begin_anew" "Net.begin_anew" s_Net_begin_anew f fd) (T : Txt K mg c) (cok : COk c) (d_Server_init : CFn P w K mg base 1 c.csrv "Server" ["self"] (sp_srv_init c)) (d_Cache_init : CFn P w K mg base 1 c.ccac "Cache" ["self"] (sp_cac_init P w c)) : FnOk P w K mg base CX0 3 f fd ["self", "server_count", "cache_count", "roots"] (sp_begin_anew P w c) := by
  refine F.ok sc_Net_begin_anew (fun vs H Q E h => ?_) (fun cdv A outer s H vs Q E hr h => ?_)
  · obtain ⟨F, na, dx, fs0, s, k, b, r, rfl, _⟩ := h
    rfl
  · refine ⟨_, (pss_cons (kfs (pv 0) pe_int T.cl_net T.n_net_now)
      (pss_cons (kfs (pv 0) (pe_lc (own := [("number", 4)]) (by rfl) sc_Net_begin_anew.nd (pi_range1 (by rfl) T.f_range (pa_cons (pv 1) pa_nil)) (blkOk_by (own := [("number", 4)]) (N := ["self", "server_count", "cache_count", "roots", "number"]) (sc := defScope s_Net_begin_anew) (by decide +kernel)) (fun _ _ _ _ _ => pg_name (i := 4) sc_Net_begin_anew.nd rfl (Or.inl rfl)) (fun _ _ _ _ _ => pts_nil) (fun _ _ _ _ _ => (kc0 d_Server_init (hr.mono (by decide))))) T.cl_net T.n_net_servers)
      (pss_cons (kfs (pv 0) (pe_lc (own := [("number", 4)]) (by rfl) sc_Net_begin_anew.nd (pi_range1 (by rfl) T.f_range (pa_cons (pv 2) pa_nil)) (blkOk_by (own := [("number", 4)]) (N := ["self", "server_count", "cache_count", "roots", "number"]) (sc := defScope s_Net_begin_anew) (by decide +kernel)) (fun _ _ _ _ _ => pg_name (i := 4) sc_Net_begin_anew.nd rfl (Or.inl rfl)) (fun _ _ _ _ _ => pts_nil) (fun _ _ _ _ _ => (kc0 d_Cache_init (hr.mono (by decide))))) T.cl_net T.n_net_caches)
      (pss_cons (kfs (pv 0) (pv 3) T.cl_net T.n_net_roots)
      (pss_one (kfs (pv 0) pe_int T.cl_net T.n_net_zones_made)))))), ?_⟩
    obtain ⟨F, na, dx, fs0, s', k, b, r, rfl, n0, fl, hf, fo, hb, hs, hk, q⟩ := h
    have line : 100000 < sizeLine := by decide
    refine ⟨_, rfl, na, dx, _, rfl, n0, by omega, ?_⟩
    obtain ⟨fs1, ef1⟩ : ∃ fs1, fs1 = putF "now" (.int 0) fs0 := ⟨_, rfl⟩
    obtain ⟨H1, eH1⟩ : ∃ H1, H1 = upd H na (.ins c.cnet dx (putF "now" (.int 0) fs0)) := ⟨_, rfl⟩
    refine abs_heap eH1 ?_
    have k1 : Kp [na] H H1 := by rw [eH1]; exact Kp.put (by simp)
    have n1 : H1 na = some (.ins c.cnet dx fs1) := by rw [eH1, upd_same, ef1]
    have fl1 : fs1.length < 901 := by
      have := putF_len (f := "now") (v := .int 0) fs0
      rw [ef1]
      omega
    refine ⟨_, rfl, _, rfl, by omega, by omega, fun D hD => lc_range (fun i H' => ∃ l : List (Addr × Addr), l.length = i ∧ Same H1 H' ∧ H' D = some (.lst (l.map fun p => V.ref p.1)) ∧ SrvsN c H' l) ⟨[], rfl, Same.laid hD, upd_same, fun p m => (nomatch m), List.Pairwise.nil⟩ ?_ ?_⟩
    · rintro i H2 hi ⟨l, ll, s2, hDl, hn⟩
      refine ⟨rfl, ?_⟩
      dsimp only [tYes]
      rw [if_pos rfl]
      refine fun x dx2 hx hdx ne => ⟨x, dx2, rfl, upd_same, fun H5 d kp hd hat hd5 => ⟨rfl, ?_⟩⟩
      have s5 : Same H2 H5 := kp_new2 hx hdx kp
      have hd2 := new_none ne hd
      refine ⟨_, s5 _ _ hDl, by rw [List.length_map]; omega, l ++ [(x, d)], by rw [List.length_append, ll]; rfl, fun y o e => ?_, by rw [upd_same, List.map_append]; rfl, ?_⟩
      · rw [upd_ne (ne_of_none e hD)]
        exact s5 _ _ (s2 _ _ e)
      · refine SrvsN.kp (SrvsN.snoc (hn.same s5) hat hd5 fun p m => ?_) (Kp.put (by simp)) (s5 _ _ hDl) (fun _ _ z => by cases z) (fun _ z => by cases z)
        obtain ⟨⟨dy, g1⟩, g2⟩ := hn.1 p m
        exact ⟨ne_of_none g1 hx, ne_of_none g2 hd2⟩
    rintro H2 ⟨ls, lsl, s2, hDl, hsn⟩
    refine ⟨_, rfl, na, dx, _, rfl, s2 _ _ n1, by omega, ?_⟩
    obtain ⟨fs3, ef3⟩ : ∃ fs3, fs3 = putF "servers" (.ref D) fs1 := ⟨_, rfl⟩
    obtain ⟨H3, eH3⟩ : ∃ H3, H3 = upd H2 na (.ins c.cnet dx (putF "servers" (.ref D) fs1)) := ⟨_, rfl⟩
    refine abs_heap eH3 ?_
    have k3 : Kp [na] H2 H3 := by rw [eH3]; exact Kp.put (by simp)
    have n3 : H3 na = some (.ins c.cnet dx fs3) := by rw [eH3, upd_same, ef3]
    have fl3 : fs3.length < 902 := by
      have := putF_len (f := "servers") (v := .ref D) fs1
      rw [ef3]
      omega
    have hsn3 : SrvsN c H3 ls := hsn.kp k3 (s2 _ _ n1) (fun _ _ z => cok.all.srv.2.1 (HO.ins.inj z).1.symm) (fun _ z => by cases z)
    have nDn : D ≠ na := fun z => by rw [z, n1] at hD; cases hD
    have hDl3 := k3 _ _ hDl (by simpa using nDn)
    refine ⟨_, rfl, _, rfl, by omega, by omega, fun D2 hD2 => lc_range (fun i H' => ∃ l : List (Addr × Addr), l.length = i ∧ Same H3 H' ∧ H' D2 = some (.lst (l.map fun p => V.ref p.1)) ∧ CacsN P w c H' l) ⟨[], rfl, Same.laid hD2, upd_same, fun p m => (nomatch m), List.Pairwise.nil⟩ ?_ ?_⟩
    · rintro i H4 hi ⟨l, ll, s4, hDl4, hn⟩
      refine ⟨rfl, ?_⟩
      dsimp only [tYes]
      rw [if_pos rfl]
      refine fun x dx2 hx hdx ne => ⟨x, dx2, rfl, upd_same, fun H5 d kp hd low hat hd5 => ⟨rfl, ?_⟩⟩
      have s5 : Same H4 H5 := kp_new2 hx hdx kp
      have hd2 := new_none ne hd
      refine ⟨_, s5 _ _ hDl4, by rw [List.length_map]; omega, l ++ [(x, d)], by rw [List.length_append, ll]; rfl, fun y o e => ?_, by rw [upd_same, List.map_append]; rfl, ?_⟩
      · rw [upd_ne (ne_of_none e hD2)]
        exact s5 _ _ (s4 _ _ e)
      · refine CacsN.kp (CacsN.snoc (hn.same s5) hat hd5 low fun p m => ?_) (Kp.put (by simp)) (s5 _ _ hDl4) (fun _ _ z => by cases z) (fun _ z => by cases z)
        obtain ⟨⟨dy, g1⟩, g2, _⟩ := hn.1 p m
        exact ⟨ne_of_none g1 hx, ne_of_none g2 hd2⟩
    rintro H4 ⟨lc, lcl, s4, hDl4, hcn⟩
    have nDn2 : D2 ≠ na := fun z => by rw [z, n3] at hD2; cases hD2
    refine ⟨_, rfl, na, dx, _, rfl, s4 _ _ n3, by omega, ?_⟩
    refine ⟨_, rfl, _, rfl, na, dx, _, rfl, upd_same, ?_, ?_⟩
    · have := putF_len (f := "caches") (v := .ref D2) fs3
      omega
    refine ⟨_, rfl, na, dx, _, rfl, upd_same, ?_, ?_⟩
    · have := putF_len (f := "caches") (v := .ref D2) fs3
      have := putF_len (f := "roots") (v := .ref b) (putF "caches" (.ref D2) fs3)
      omega
    rw [ef3, ef1, hf]
    simp only [upd_upd]
    have k5 : Kp [na] H4 (upd H4 na (.ins c.cnet dx (netF (.int 0) (.ref D) (.ref D2) (.ref b) (.int 0)))) := Kp.put (by simp)
    have k14 : Kp [na] H1 H4 := (((Same.kp _ s2).trans k3).trans (Same.kp _ s4))
    have nb : b ∉ [na] := fun m => by
      have h : H b = some (.tup (r.map nv)) := hb
      rw [List.mem_singleton.mp m, n0] at h
      cases h
    have nF : ∀ {y : Addr}, H y = none → y ∉ F := fun e => fo.new e
    have hDH : H D = none := by
      cases e : H D with
      | none => rfl
      | some o =>
        have := k1 _ _ e (by simpa using nDn)
        rw [hD] at this
        cases this
    have hD2H : H D2 = none := by
      cases e : H D2 with
      | none => rfl
      | some o =>
        have := (k1.trans ((Same.kp _ s2).trans k3)) _ _ e (by simpa using nDn2)
        rw [hD2] at this
        cases this
    have lsl' : ls.length = s' := lsl
    have lcl' : lc.length = k := lcl
    rw [← lsl', ← lcl'] at q
    refine q _ _ ((k1.trans k14).trans k5) rfl (NetA.made (ls := ls) (lc := lc) ⟨dx, upd_same⟩ (nF hDH) (nF hD2H) ?_ ?_ ?_ ?_ ?_)
    · exact k5 _ _ (s4 _ _ hDl3) (by simpa using nDn)
    · exact k5 _ _ hDl4 (by simpa using nDn2)
    · exact ((k1.trans k14).trans k5) _ _ hb nb
    · exact (hsn3.same s4).kp k5 (s4 _ _ n3) (fun _ _ z => cok.all.srv.2.1 (HO.ins.inj z).1.symm) (fun _ z => by cases z)
    · exact hcn.kp k5 (s4 _ _ n3) (fun _ _ z => cok.all.cac.1 (HO.ins.inj z).1.symm) (fun _ z => by cases z)
end
end Nn


namespace Nn
open PySem PySem.Spec PyProof.Rows L2
section
variable {P : Program} {w : World} {K : PySem.W.Frag} {mg : Str → Option Value} {base : Heap} {c : Cs}
theorem frm_net (ok : COk c) {H H' : Hp} {na dx : Addr} {fs : List (Str × V)} (k : Kp [na] H H') (e : H na = some (.ins c.cnet dx fs)) : Frm c H H' := FrmX.kp k fun y m o e' _ f => by
  rw [List.mem_singleton.mp m, e] at e'
  cases e'
  exact f.elim (fun z => z ok.all.net.2.2) ok.all.net.1
def sp_net_init (P : Program) (w : World) (c : Cs) : Sp := fun vs H Q _ => ∃ F p dx, vs = [.ref p] ∧ H p = some (.ins c.cnet dx []) ∧ FOk F H ∧ ∀ H' g', Frm c H H' → g'.n = p → NetA P w c F H' g' Dn01.fresh → Q .non H'
theorem ok_Net_init {f : Addr} {fd : FuncData} (F : Fun K "__init__" "Net.__init__" s_Net_init f fd) (T : Txt K mg c) (cok : COk c) (d_Net_begin_anew : MFn P w K mg base 3 c.cnet "begin_anew" ["self", "server_count", "cache_count", "roots"] (sp_begin_anew P w c)) (d_Net_make_zone : MFn P w K mg base 3 c.cnet "make_zone" ["self", "server", "life", "apex"] (sp_make_zone P w c)) : FnOk P w K mg base CX0 4 f fd ["self"] (sp_net_init P w c) := by
  refine F.ok sc_Net_init (fun vs H Q E h => ?_) (fun cdv A outer s H vs Q E hr h => ?_)
  · obtain ⟨F, p, dx, rfl, _⟩ := h
    rfl
  · refine ⟨_, (pss_cons (ps_expr (km (pv 0) d_Net_begin_anew (hr.mono (by decide)) (pa_cons (kn T.k_FIRST_SERVERS) (pa_cons (kn T.k_FIRST_CACHES) (pa_cons (pe_tup (pa_cons pe_int pa_nil)) pa_nil)))))
      (pss_one (ps_expr (km (pv 0) d_Net_make_zone (hr.mono (by decide)) (pa_cons pe_int (pa_cons (kn T.k_FIRST_LIFE) (pa_cons (pe_tup pa_nil) pa_nil))))))), ?_⟩
    obtain ⟨F, p, dx, rfl, h0, fo, q⟩ := h
    refine ⟨_, rfl, p, dx, _, rfl, h0, rfl, (by show 1 ≤ sizeLine; decide), fun b hb => ?_⟩
    have s1 : Same H (upd H b (.tup [.int 0])) := Same.laid hb
    refine ⟨F, p, dx, [], 2, 1, b, [0], rfl, s1 _ _ h0, by decide, fun _ _ _ _ _ => new_net, fo.same s1, upd_same, by omega, by omega, fun H2 g2 k2 gn nt => ?_⟩
    have fr2 := frm_net cok k2 (s1 _ _ h0)
    obtain ⟨dn, n2⟩ := nt.at_
    have fo2 := fr2.fok (fo.same s1)
    refine ⟨_, rfl, g2.n, dn, _, by rw [gn], n2, no_net_make_zone, (by show 0 ≤ sizeLine; exact Nat.zero_le _), fun b2 hb2 => ?_⟩
    have s3 : Same H2 (upd H2 b2 (.tup [])) := Same.laid hb2
    refine ⟨F, g2, houseNew 2 1 [0], 0, 60, b2, [], ⟨true, []⟩, by rw [gn]; rfl, nt.same s3, fo2.same s3, upd_same, rfl, rfl, by decide, fun H4 g4 fr4 gn4 nt4 => ?_⟩
    exact q H4 g4 (((FrmX.same s1).trans fr2).trans ((FrmX.same s3).trans fr4)) (gn4.trans gn) nt4
def sp_answer_begin (P : Program) (w : World) (c : Cs) : Sp := fun vs H Q _ => ∃ F g h s k b r, vs = [.ref g.n, nv s, nv k, .ref b] ∧ NetA P w c F H g h ∧ FOk F H ∧ TN H b r ∧ r.length < 100000 ∧ AnsQ P w c F H g (h.step (.begin_ s k r)) Q
theorem step_begin (h : Dn01.House) (s k : Nat) (r : List Nat) : h.step (.begin_ s k r) = if (1 ≤ s ∧ s ≤ 8) ∧ (1 ≤ k ∧ k ≤ 4) ∧ rootsB r s = true then (houseNew s k r, Dn01.says s) else (h, Dn01.says (-1)) := by
  have e : (s = 0 ∨ Dn01.SERVERS < s ∨ k = 0 ∨ Dn01.CACHES < k ∨ r = [] ∨ Dn01.rising r = false ∨ (r.any fun x => decide (s ≤ x)) = true) ↔ ¬ ((1 ≤ s ∧ s ≤ 8) ∧ (1 ≤ k ∧ k ≤ 4) ∧ rootsB r s = true) := by
    have e1 : rootsB r s = true ↔ ¬ (r = [] ∨ Dn01.rising r = false ∨ (r.any fun x => decide (s ≤ x)) = true) := by
      unfold rootsB
      rw [Bool.and_eq_true, Bool.and_eq_true, Bool.not_eq_true', Bool.not_eq_true', List.isEmpty_eq_false_iff, not_or, not_or, Bool.not_eq_false, Bool.not_eq_true]
    unfold Dn01.SERVERS Dn01.CACHES
    by_cases h1 : r = [] ∨ Dn01.rising r = false ∨ (r.any fun x => decide (s ≤ x)) = true
    · have : ¬ (rootsB r s = true) := fun z => (e1.mp z) h1
      exact ⟨fun _ z => this z.2.2, fun _ => .inr (.inr (.inr (.inr h1)))⟩
    · have : rootsB r s = true := e1.mpr h1
      refine ⟨fun z1 z2 => ?_, fun z => ?_⟩
      · rcases z1 with z1 | z1 | z1 | z1 | z1
        · omega
        · omega
        · omega
        · omega
        · exact h1 z1
      · by_cases a1 : s = 0
        · exact .inl a1
        · by_cases a2 : 8 < s
          · exact .inr (.inl a2)
          · by_cases a3 : k = 0
            · exact .inr (.inr (.inl a3))
            · by_cases a4 : 4 < k
              · exact .inr (.inr (.inr (.inl a4)))
              · exact absurd ⟨⟨by omega, by omega⟩, ⟨by omega, by omega⟩, this⟩ z
  unfold Dn01.House.step
  dsimp only
  by_cases hc : (1 ≤ s ∧ s ≤ 8) ∧ (1 ≤ k ∧ k ≤ 4) ∧ rootsB r s = true
  · rw [if_pos hc, if_neg (fun z => e.mp z hc)]
    rfl
  · rw [if_neg hc, if_pos (e.mpr hc)]
theorem ok_answer_begin {f : Addr} {fd : FuncData} (F : Fun K "answer_begin" "answer_begin" s_answer_begin f fd) (T : Txt K mg c) (cok : COk c) (d_are_roots : GFn P w K mg base 1 "are_roots" ["roots", "server_count"] sp_are_roots) (d_Net_begin_anew : MFn P w K mg base 3 c.cnet "begin_anew" ["self", "server_count", "cache_count", "roots"] (sp_begin_anew P w c)) : FnOk P w K mg base CX0 4 f fd ["net", "server_count", "cache_count", "roots"] (sp_answer_begin P w c) := by
  refine F.ok sc_answer_begin (fun vs H Q E h => ?_) (fun cdv A outer s H vs Q E hr h => ?_)
  · obtain ⟨F, g, h, s, k, b, r, rfl, _⟩ := h
    rfl
  · refine ⟨_, (pss_cons (ps_if (PW.pt (pw_or (pt_not (pt_chain op_le op_le pe_int (pv 1) (kn T.k_MOST_SERVERS))) (pw_or1 (pt_not (pt_chain op_le op_le pe_int (pv 2) (kn T.k_MOST_CACHES)))))) (pss_one (ps_ret (pe_lst (pa_cons (pe_un un_neg pe_int) pa_nil)))) pss_nil)
      (pss_cons (ps_if (pt_not (pt_val (kg d_are_roots (hr.mono (by decide)) (pa_cons (pv 3) (pa_cons (pv 1) pa_nil))))) (pss_one (ps_ret (pe_lst (pa_cons (pe_un un_neg pe_int) pa_nil)))) pss_nil)
      (pss_cons (ps_expr (km (pv 0) d_Net_begin_anew (hr.mono (by decide)) (pa_cons (pv 1) (pa_cons (pv 2) (pa_cons (pv 3) pa_nil)))))
      (pss_one (ps_ret (pe_lst (pa_cons (pv 1) pa_nil))))))), ?_⟩
    obtain ⟨F, g, h, s', k, b, r, rfl, nt, fo, hb, rl, q⟩ := h
    obtain ⟨dn, n1⟩ := nt.at_
    rw [step_begin] at q
    have bad : ∀ H1, Same H H1 → ¬ ((1 ≤ s' ∧ s' ≤ 8) ∧ (1 ≤ k ∧ k ≤ 4) ∧ rootsB r s' = true) → ∀ p, H1 p = none → Q (.ref p) (upd H1 p (.lst [V.int (-1)])) := fun H1 s1 hc => by
      rw [if_neg hc] at q
      exact q.put fo (FrmX.same s1) rfl (nt.same s1) rfl
    refine ⟨_, rfl, _, _, rfl, rfl, _, rfl, ite_b (fun e1 => ?_) fun e1 => ?_⟩
    rotate_left
    · have e1 := of_decide_eq_false e1
      exact ⟨_, rfl, iteT ⟨_, rfl, (by show 1 ≤ sizeLine; decide), bad H (Same.refl H) (by omega)⟩⟩
    have e1 := of_decide_eq_true e1
    refine ⟨_, _, rfl, rfl, _, rfl, ite_b (fun e2 => ?_) fun e2 => ?_⟩
    · rw [Bool.not_eq_true'] at e2
      have e2 := of_decide_eq_false e2
      exact ⟨_, rfl, (by show 1 ≤ sizeLine; decide), bad H (Same.refl H) (by omega)⟩
    rw [Bool.not_eq_false'] at e2
    have e2 := of_decide_eq_true e2
    refine ⟨_, rfl, _, _, rfl, rfl, _, rfl, ite_b (fun e3 => ?_) fun e3 => ?_⟩
    rotate_left
    · have e3 := of_decide_eq_false e3
      exact ⟨_, rfl, iteT ⟨_, rfl, (by show 1 ≤ sizeLine; decide), bad H (Same.refl H) (by omega)⟩⟩
    have e3 := of_decide_eq_true e3
    refine ⟨_, _, rfl, rfl, _, rfl, ite_b (fun e4 => ?_) fun e4 => ?_⟩
    · rw [Bool.not_eq_true'] at e4
      have e4 := of_decide_eq_false e4
      exact ⟨_, rfl, (by show 1 ≤ sizeLine; decide), bad H (Same.refl H) (by omega)⟩
    rw [Bool.not_eq_false'] at e4
    have e4 := of_decide_eq_true e4
    refine ⟨_, rfl, _, rfl, b, r, s', rfl, hb, rl, fun H1 s1 => ⟨_, rfl, ite_b (fun e5 => ?_) fun e5 => ?_⟩⟩
    · rw [Bool.not_eq_true'] at e5
      exact ⟨_, rfl, (by show 1 ≤ sizeLine; decide), bad H1 s1 (fun z => by rw [e5] at z; exact Bool.noConfusion z.2.2)⟩
    rw [Bool.not_eq_false'] at e5
    rw [if_pos ⟨⟨by omega, by omega⟩, ⟨by omega, by omega⟩, e5⟩] at q
    refine ⟨_, rfl, g.n, dn, _, rfl, s1 _ _ n1, no_net_begin_anew, _, rfl, _, rfl, _, rfl, F, g.n, dn, _, s', k, b, r, rfl, s1 _ _ n1, (by show 5 < 900; decide), fun a0 a1 a2 a3 a4 => ?_, fo.same s1, hb.same s1, by omega, by omega, fun H2 g2 k2 gn nt2 => ?_⟩
    · rw [put_net_now, put_net_servers, put_net_caches, put_net_roots, put_net_zones_made]
    exact ⟨_, rfl, (by show 1 ≤ sizeLine; decide), q.put fo ((FrmX.same s1).trans (frm_net cok k2 (s1 _ _ n1))) gn nt2 rfl⟩
end
end Nn


namespace Nn
open PySem PySem.Spec PyProof.Rows L2
section
variable {P : Program} {w : World} {K : PySem.W.Frag} {mg : Str → Option Value} {base : Heap} {c : Cs}
theorem LN.catS {H : Hp} {a b : Addr} {l m : List Nat} {Q : VK} (h1 : LN H a l) (h2 : LN H b m) (hz : l.length + m.length < 4000000) (q : ∀ H' p, Same H H' → H p = none → LN H' p (l ++ m) → Q (.ref p) H') : rCat (.ref a) (.ref b) H Q :=
  LN.cat h1 h2 hz fun p hp ln => q _ p (Same.laid hp) hp ln
def askNum (t : Tl) : List Nat := ([t.oc, t.life] ++ (if t.oc = 5 then t.name.length :: t.name else [])) ++ rowsNum t
theorem ask_num (n : List Nat) : ∀ t : Dn01.Tells, t ≠ .refuses → outV (Dn01.tellsNumbers t) = (askNum (tlOf n t)).map nv
  | .refuses, h => absurd rfl h
  | .data vs l, _ => by
    unfold Dn01.tellsNumbers outV askNum rowsNum flatC Dn01.ints tlOf
    simp [nv]
  | .nothing l, _ => by
    unfold Dn01.tellsNumbers outV askNum rowsNum flatC Dn01.ints tlOf
    simp [nv]
  | .never l, _ => by
    unfold Dn01.tellsNumbers outV askNum rowsNum flatC Dn01.ints tlOf
    simp [nv]
  | .alias m l, _ => by
    unfold Dn01.tellsNumbers outV askNum rowsNum flatC Dn01.ints tlOf
    simp [nv]
  | .refers b ss l, _ => by
    unfold Dn01.tellsNumbers outV askNum rowsNum flatC Dn01.ints tlOf
    simp [nv]
    rfl
theorem inV3 (k : Nat) : inV (nv k) [V.int 1, V.int 2, V.int 3] = ((k == 1) || ((k == 2) || (k == 3))) := by
  have e : ∀ j : Nat, eqV (V.int (j : Int)) (nv k) = (k == j) := fun j => by
    show decide ((j : Int) = (k : Int)) = (k == j)
    by_cases h : k = j
    · subst h
      simp
    · rw [decide_eq_false (by omega), beq_eq_false_iff_ne.mpr h]
  show (eqV (V.int ((1 : Nat) : Int)) (nv k) || (eqV (V.int ((2 : Nat) : Int)) (nv k) || (eqV (V.int ((3 : Nat) : Int)) (nv k) || false))) = _
  rw [e, e, e, Bool.or_false]
def sp_answer_ask (P : Program) (w : World) (c : Cs) : Sp := fun vs H Q _ => ∃ F g h x k b n, vs = [.ref g.n, nv x, nv k, .ref b] ∧ NetA P w c F H g h ∧ FOk F H ∧ HOk h ∧ TN H b n ∧ (h.step (.ask x k n)).2.out.length < 1000000 ∧ AnsQ P w c F H g (h.step (.ask x k n)) Q
theorem ok_answer_ask {f : Addr} {fd : FuncData} (F : Fun K "answer_ask" "answer_ask" s_answer_ask f fd) (T : Txt K mg c) (cok : COk c) (d_Net_has_server : MFn P w K mg base 1 c.cnet "has_server" ["self", "server"] (sp_has_server P w c)) (d_is_name : GFn P w K mg base 1 "is_name" ["row"] sp_is_name) (d_Server_told_of : MFn P w K mg base 6 c.csrv "told_of" ["self", "name", "kind", "now"] (sp_srv_told c)) (d_counted : GFn P w K mg base 1 "counted" ["row"] sp_counted) (d_rows_told : GFn P w K mg base 3 "rows_told" ["telling"] (sp_rows_told c)) : FnOk P w K mg base CX0 8 f fd ["net", "server", "kind", "name"] (sp_answer_ask P w c) := by
  refine F.ok sc_answer_ask (fun vs H Q E h => ?_) (fun cdv A outer s H vs Q E hr h => ?_)
  · obtain ⟨F, g, h, x, k, b, n, rfl, _⟩ := h
    rfl
  · refine ⟨_, (pss_cons (ps_if (pt_not (pt_val (km (pv 0) d_Net_has_server (hr.mono (by decide)) (pa_cons (pv 1) pa_nil)))) (pss_one (ps_ret (pe_lst (pa_cons (pe_un un_neg pe_int) pa_nil)))) pss_nil)
      (pss_cons (ps_if (PW.pt (pw_or (pt_cmpR op_notIn_seq (pv 2) (pe_tup (pa_cons (kn T.k_NUMBER) (pa_cons (kn T.k_ALIAS) (pa_cons (kn T.k_HANDED_ON) pa_nil)))) (by rfl)) (pw_or1 (pt_not (pt_val (kg d_is_name (hr.mono (by decide)) (pa_cons (pv 3) pa_nil))))))) (pss_one (ps_ret (pe_lst (pa_cons (pe_un un_neg pe_int) pa_nil)))) pss_nil)
      (pss_cons (ps_if (pt_not (pt_val (kf (pe_ix ix_list (kf (pv 0) T.cl_net T.n_net_servers) (pv 1) (fun _ _ => rfl)) T.cl_srv T.n_srv_up))) (pss_one (ps_ret (pe_lst (pa_cons (pe_un un_neg pe_int) pa_nil)))) pss_nil)
      (pss_cons (ps_set (i := 4) sc_answer_ask.nd rfl (Or.inl rfl) (km (pe_ix ix_list (kf (pv 0) T.cl_net T.n_net_servers) (pv 1) (fun _ _ => rfl)) d_Server_told_of (hr.mono (by decide)) (pa_cons (pv 3) (pa_cons (pv 2) (pa_cons (kf (pv 0) T.cl_net T.n_net_now) pa_nil)))))
      (pss_cons (ps_if (pt_cmpR op_eq (kf (pv 4) T.cl_tel T.n_tel_outcome) (kn T.k_REFUSES) (nomark _)) (pss_one (ps_ret (pe_lst (pa_cons (kn T.k_REFUSES) pa_nil)))) pss_nil)
      (pss_cons (ps_set (i := 5) sc_answer_ask.nd rfl (Or.inl rfl) (pe_ifExp (pt_cmpR op_eq (kf (pv 4) T.cl_tel T.n_tel_outcome) (kn T.k_HANDS_ON) (nomark _)) (kg d_counted (hr.mono (by decide)) (pa_cons (kf (pv 4) T.cl_tel T.n_tel_name) pa_nil)) (pe_lst pa_nil)))
      (pss_one (ps_ret (pe_op op_cat (pe_op op_cat (pe_lst (pa_cons (kf (pv 4) T.cl_tel T.n_tel_outcome) (pa_cons (kf (pv 4) T.cl_tel T.n_tel_life) pa_nil))) (pv 5)) (kg d_rows_told (hr.mono (by decide)) (pa_cons (pv 4) pa_nil))))))))))), ?_⟩
    obtain ⟨F, g, h, s', k, b, n, rfl, nt, fo, hk, hb, ol, q⟩ := h
    obtain ⟨dn, n1⟩ := nt.at_
    refine ⟨_, rfl, g.n, dn, _, rfl, n1, no_net_has_server, _, rfl, F, g, h, s', rfl, nt, _, rfl, ite_b (fun e => ?_) fun e => ?_⟩
    · rw [Bool.not_eq_true', decide_eq_false_iff_not] at e
      have es : h.step (.ask s' k n) = (h, Dn01.says (-2)) := by simp only [Dn01.House.step, none_ge e]
      rw [es] at q
      exact ⟨_, rfl, (by show 1 ≤ sizeLine; decide), q.put fo FrmX.refl rfl nt rfl⟩
    rw [Bool.not_eq_false', decide_eq_true_eq] at e
    obtain ⟨x, ex⟩ := lt_at e
    have xm := List.mem_of_getElem? ex
    refine ⟨_, rfl, (by show 3 ≤ sizeLine; decide), fun p hp => ⟨p, _, rfl, .inr (SqT.of upd_same), rfl, rfl, _, rfl, ?_⟩⟩
    have s1 : Same H (upd H p (.tup [V.int 1, V.int 2, V.int 3])) := Same.laid hp
    rw [inV3, if_pos rfl]
    refine ite_b (fun e1 => ?_) fun e1 => ?_
    · have es : h.step (.ask s' k n) = (h, Dn01.says (-1)) := by
        have : k = 0 ∨ 3 < k ∨ Dn01.isName n = false := by
          simp only [Bool.not_eq_true', Bool.or_eq_false_iff, beq_eq_false_iff_ne] at e1
          omega
        simp only [Dn01.House.step, ex, this, if_true]
      rw [es] at q
      exact ⟨_, rfl, (by show 1 ≤ sizeLine; decide), q.put fo (FrmX.same s1) rfl (nt.same s1) rfl⟩
    refine ⟨_, rfl, b, n, rfl, hb.same s1, fun H2 s2 => ⟨_, rfl, ite_b (fun e2 => ?_) fun e2 => ?_⟩⟩
    · rw [Bool.not_eq_true'] at e2
      have es : h.step (.ask s' k n) = (h, Dn01.says (-1)) := by simp only [Dn01.House.step, ex, e2, or_true, if_true]
      rw [es] at q
      exact ⟨_, rfl, (by show 1 ≤ sizeLine; decide), q.put fo (FrmX.same (s1.trans s2)) rfl (nt.same (s1.trans s2)) rfl⟩
    rw [Bool.not_eq_false'] at e2
    have s12 := s1.trans s2
    have nt2 := nt.same s12
    have nok : ¬ (k = 0 ∨ 3 < k ∨ Dn01.isName n = false) := by
      rw [e2]
      rw [Bool.not_eq_false', Bool.or_eq_true, Bool.or_eq_true, beq_iff_eq, beq_iff_eq, beq_iff_eq] at e1
      rintro (z | z | z)
      · omega
      · omega
      · cases z
    have nl : n.length < 1000 := by
      unfold Dn01.isName Dn01.DEEP at e2
      rw [Bool.and_eq_true] at e2
      have := of_decide_eq_true e2.1
      omega
    obtain ⟨gs, hgs, sy⟩ := nt2.srvAt ex
    obtain ⟨dv, v1⟩ := id sy.at_
    obtain ⟨a1, a2⟩ := nt2.atS (K := K) hgs
    refine ⟨_, rfl, g.n, dn, _, _, rfl, s12 _ _ n1, lk_net_servers, _, rfl, g.sl, _, s', .ref gs.a, rfl, rfl, a1, a2, gs.a, dv, _, _, rfl, v1, lk_srv_up, _, rfl, ite_b (fun e3 => ?_) fun e3 => ?_⟩
    · rw [Bool.not_eq_true'] at e3
      have es : h.step (.ask s' k n) = (h, Dn01.says (-6)) := by simp only [Dn01.House.step, ex, nok, if_false, e3, if_true]
      rw [es] at q
      exact ⟨_, rfl, (by show 1 ≤ sizeLine; decide), q.put fo (FrmX.same s12) rfl nt2 rfl⟩
    rw [Bool.not_eq_false'] at e3
    have es : h.step (.ask s' k n) = (h, Dn01.tellsNumbers (x.tells h.now n k)) := by simp only [Dn01.House.step, ex, nok, if_false, e3, Bool.true_eq_false]
    rw [es] at q ol
    refine ⟨_, rfl, g.n, dn, _, _, rfl, s12 _ _ n1, lk_net_servers, _, rfl, g.sl, _, s', .ref gs.a, rfl, rfl, a1, a2, gs.a, dv, _, rfl, v1, no_srv_told_of, _, rfl, _, rfl, _, rfl, g.n, dn, _, _, rfl, s12 _ _ n1, lk_net_now, b, F, gs, x, n, k, h.now, rfl, sy, hb.same s12, nl, srv_maps sy.zones (hk.fit.aps x xm), fun y m => (hk.fit.fit x xm y.2 (by rw [← sy.zones]; exact List.mem_map_of_mem m)).1, fun H3 p3 s3 hp3 ht => ?_⟩
    obtain ⟨na, ra, ⟨dt, t1⟩, t2, t3⟩ := id ht
    have s13 := s12.trans s3
    refine ⟨_, rfl, p3, dt, _, _, rfl, t1, lk_tel_outcome, rfl, _, rfl, ?_⟩
    rw [show decide (nv (tlOf n (x.tells h.now n k)).oc = V.int 0) = ((tlOf n (x.tells h.now n k)).oc == 0) from nv_eq _ 0]
    generalize et : x.tells h.now n k = t at ht t1 t2 t3 q ol ⊢
    by_cases hr0 : t = .refuses
    · subst hr0
      exact iteT ⟨(by show 1 ≤ sizeLine; decide), q.put fo (FrmX.same s13) rfl (nt.same s13) rfl⟩
    have hoc : ((tlOf n t).oc == 0) = false := by cases t <;> first | rfl | exact absurd rfl hr0
    rw [hoc]
    have en := ask_num n t hr0
    have ol : (Dn01.tellsNumbers t).out.length < 1000000 := ol
    have el : (askNum (tlOf n t)).length < 1000001 := by
      have := congrArg List.length en
      rw [List.length_map] at this
      rw [← this]
      unfold outV
      rw [List.length_cons, List.length_map]
      omega
    have rl : (flatC (tlOf n t).rows).length ≤ (rowsNum (tlOf n t)).length := rows_le _ _ _ _
    have fr := flat_rows (tlOf n t).rows
    have al : (askNum (tlOf n t)).length = 2 + (if (tlOf n t).oc = 5 then (tlOf n t).name.length :: (tlOf n t).name else []).length + (rowsNum (tlOf n t)).length := by
      unfold askNum
      rw [List.length_append, List.length_append]
      rfl
    unfold AnsQ at q
    rw [en] at q
    refine iteF ⟨_, rfl, p3, dt, _, _, rfl, t1, lk_tel_outcome, rfl, _, rfl, ?_⟩
    rw [show decide (nv (tlOf n t).oc = V.int 5) = ((tlOf n t).oc == 5) from nv_eq _ 5]
    by_cases h5 : (tlOf n t).oc = 5
    · rw [beq_iff_eq.mpr h5]
      rw [if_pos h5] at al
      refine iteT ⟨_, rfl, p3, dt, _, _, rfl, t1, lk_tel_name, na, (tlOf n t).name, rfl, t2, by simp only [List.length_cons] at al; omega, fun H4 p4 s34 ln4 => ?_⟩
      refine ⟨_, rfl, p3, dt, _, _, rfl, s34 _ _ t1, lk_tel_outcome, _, rfl, p3, dt, _, _, rfl, s34 _ _ t1, lk_tel_life, (by show 2 ≤ sizeLine; decide), fun p5 hp5 => ?_⟩
      have s35 := s34.trans (Same.laid (o := .lst [nv (tlOf n t).oc, nv (tlOf n t).life]) hp5)
      have s45 := Same.laid (o := .lst [nv (tlOf n t).oc, nv (tlOf n t).life]) hp5
      refine ⟨_, rfl, ?_⟩
      refine LN.catS (l := [(tlOf n t).oc, (tlOf n t).life]) upd_same (ln4.same s45) (by simp only [List.length_cons, List.length_nil] at al ⊢; omega) fun H6 p6 s56 hp6 ln6 => ?_
      have s36 := s35.trans s56
      refine ⟨_, rfl, p3, _, rfl, ht.same s36, by omega, by omega, fun H7 p7 s7 hp7 ln7 => ?_⟩
      refine LN.catS (ln6.same s7) ln7 (by simp only [List.length_append, List.length_cons, List.length_nil] at al ⊢; omega) fun H8 p8 s78 hp8 ln8 => ?_
      have s38 := (s36.trans s7).trans s78
      refine q _ g p8 (FrmX.same (s13.trans s38)) (fo.new (same_none ((s13.trans s36).trans s7) hp8)) rfl (nt.same (s13.trans s38)) ?_
      have ln8 : H8 p8 = some (.lst _) := ln8
      rw [ln8]
      unfold askNum
      rw [if_pos h5]
    · rw [beq_eq_false_iff_ne.mpr h5]
      rw [if_neg h5] at al
      refine iteF ⟨(by show 0 ≤ sizeLine; exact Nat.zero_le _), fun p4 hp4 => ?_⟩
      have s34 : Same H3 (upd H3 p4 (.lst [])) := Same.laid hp4
      have ln4 : LN (upd H3 p4 (.lst [])) p4 [] := upd_same
      refine ⟨_, rfl, p3, dt, _, _, rfl, s34 _ _ t1, lk_tel_outcome, _, rfl, p3, dt, _, _, rfl, s34 _ _ t1, lk_tel_life, (by show 2 ≤ sizeLine; decide), fun p5 hp5 => ?_⟩
      have s35 := s34.trans (Same.laid (o := .lst [nv (tlOf n t).oc, nv (tlOf n t).life]) hp5)
      have s45 := Same.laid (o := .lst [nv (tlOf n t).oc, nv (tlOf n t).life]) hp5
      refine ⟨_, rfl, ?_⟩
      refine LN.catS (l := [(tlOf n t).oc, (tlOf n t).life]) upd_same (ln4.same s45) (by simp only [List.length_cons, List.length_nil] at al ⊢; omega) fun H6 p6 s56 hp6 ln6 => ?_
      have s36 := s35.trans s56
      refine ⟨_, rfl, p3, _, rfl, ht.same s36, by omega, by omega, fun H7 p7 s7 hp7 ln7 => ?_⟩
      refine LN.catS (ln6.same s7) ln7 (by simp only [List.length_append, List.length_cons, List.length_nil] at al ⊢; omega) fun H8 p8 s78 hp8 ln8 => ?_
      have s38 := (s36.trans s7).trans s78
      refine q _ g p8 (FrmX.same (s13.trans s38)) (fo.new (same_none ((s13.trans s36).trans s7) hp8)) rfl (nt.same (s13.trans s38)) ?_
      have ln8 : H8 p8 = some (.lst _) := ln8
      rw [ln8]
      unfold askNum
      rw [if_neg h5]
end
end Nn


namespace Nn
open PySem PySem.Spec PyProof.Rows L2
theorem toldM_nocut {h : Dn01.House} (fit : HFit h) {k : Nat} (hk : k = 1 ∨ k = 2) (n : List Nat) (fs : List Dn01.Fact) (a good : Nat) (g : ∀ x ∈ fs, FGood h.servers.length x) (ss : List Nat) : (toldM h k n fs a good).2.2.2 ≠ some (.cut ss) := by
  unfold toldM
  cases e : recF_ fs n k h.now with
  | some f =>
    intro z
    have ew : f.what = .cut ss := Option.some.inj z
    have s3 := ((g f (recF_mem e).1).cut ss ew).1
    unfold recF_ at e
    cases e0 : atF fs n 0 h.now with
    | some p =>
      rw [e0] at e
      cases e
      have := (atF_mem e0).2.2.1
      omega
    | none =>
      rw [e0] at e
      cases e1 : atF fs n k h.now with
      | some p =>
        rw [e1] at e
        cases e
        have := (atF_mem e1).2.2.1
        omega
      | none =>
        rw [e1] at e
        cases e2 : atF fs n 2 h.now with
        | none => rw [e2] at e; cases e
        | some p =>
          rw [e2] at e
          dsimp only at e
          rw [Option.filter_some] at e
          split at e
          · cases e
            have := (atF_mem e2).2.2.1
            omega
          · cases e
  | none =>
    cases e2 : (srvM h k n fs a).2.2 with
    | none => exact fun z => nomatch z
    | some t =>
      intro z
      have z : (factOf h.now n k t).what = .cut ss := Option.some.inj z
      obtain ⟨d1, d2⟩ := askM_def e2
      cases t with
      | refers b ss l => exact d2 b ss l rfl
      | _ => cases z
theorem contM_nocut {h : Dn01.House} (fit : HFit h) {k : Nat} (hk : k = 1 ∨ k = 2) (ss : List Nat) : ∀ (j : Nat) (fs : List Dn01.Fact) (a g : Nat) (ns : List (List Nat)) (o : Option Dn01.What), (∀ x ∈ fs, FGood h.servers.length x) → o ≠ some (.cut ss) → (contM h k j fs a g ns o).2.2.2.2 ≠ some (.cut ss)
  | 0, fs, a, g, ns, o, _, _ => fun z => nomatch z
  | j + 1, fs, a, g, ns, o, gd, ho => by
    match o, ho with
    | none, ho => exact ho
    | some (.data vs), ho => exact ho
    | some .nothing, ho => exact ho
    | some .never, ho => exact ho
    | some (.cut s), ho => exact ho
    | some (.alias m), ho =>
      unfold contM
      dsimp only
      split
      · exact ho
      · split
        · exact fun z => nomatch z
        · exact contM_nocut fit hk ss j _ _ _ _ _ (toldM_ok fit hk m fs a g gd).1 (toldM_nocut fit hk m fs a g gd ss)
def qNum (g : Dn01.Got) : List Nat := ([g.kind, g.asks, g.life] ++ (g.chain.length :: flatC g.chain)) ++ (g.values.length :: flatC g.values)
def qOut (g : Dn01.Got) : Dn01.Out := ⟨g.kind, Dn01.ints ([g.asks, g.life, g.chain.length] ++ (g.chain.flatMap fun m => m.length :: m) ++ (g.values.length :: g.values.flatMap fun v => v.length :: v))⟩
theorem qOut_num (g : Dn01.Got) : outV (qOut g) = (qNum g).map nv := by
  unfold outV qOut qNum flatC Dn01.ints
  simp [nv]
  rfl
theorem inV2 (k : Nat) : inV (nv k) [V.int 1, V.int 2] = ((k == 1) || (k == 2)) := by
  have e : ∀ j : Nat, eqV (V.int (j : Int)) (nv k) = (k == j) := fun j => by
    show decide ((j : Int) = (k : Int)) = (k == j)
    by_cases h : k = j
    · subst h
      simp
    · rw [decide_eq_false (by omega), beq_eq_false_iff_ne.mpr h]
  show (eqV (V.int ((1 : Nat) : Int)) (nv k) || (eqV (V.int ((2 : Nat) : Int)) (nv k) || false)) = _
  rw [e, e, Bool.or_false]
section
variable {P : Program} {w : World} {K : PySem.W.Frag} {mg : Str → Option Value} {base : Heap} {c : Cs}
def sp_answer_query (P : Program) (w : World) (c : Cs) : Sp := fun vs H Q _ => ∃ F g h s k b n, vs = [.ref g.n, nv s, nv k, .ref b] ∧ NetA P w c F H g h ∧ FOk F H ∧ HOk h ∧ TN H b n ∧ (h.step (.query s k n)).2.out.length < 1000000 ∧ AnsQ P w c F H g (h.step (.query s k n)) Q
theorem ok_answer_query {f : Addr} {fd : FuncData} (F : Fun K "answer_query" "answer_query" s_answer_query f fd) (T : Txt K mg c) (cok : COk c) (d_Net_has_cache : MFn P w K mg base 1 c.cnet "has_cache" ["self", "cache"] (sp_has_cache P w c)) (d_is_name : GFn P w K mg base 1 "is_name" ["row"] sp_is_name) (d_Search_init : CFn P w K mg base 1 c.csea "Search" ["self", "net", "cache", "kind"] (sp_sea_init c)) (d_Search_found : MFn P w K mg base 11 c.csea "found" ["self", "name"] (sp_found P w c)) (d_each_counted : GFn P w K mg base 2 "each_counted" ["rows"] sp_each) : FnOk P w K mg base CX0 13 f fd ["net", "cache", "kind", "name"] (sp_answer_query P w c) := by
  refine F.ok sc_answer_query (fun vs H Q E h => ?_) (fun cdv A outer s H vs Q E hr h => ?_)
  · obtain ⟨F, g, h, s, k, b, n, rfl, _⟩ := h
    rfl
  · refine ⟨_, (pss_cons (ps_if (pt_not (pt_val (km (pv 0) d_Net_has_cache (hr.mono (by decide)) (pa_cons (pv 1) pa_nil)))) (pss_one (ps_ret (pe_lst (pa_cons (pe_un un_neg pe_int) pa_nil)))) pss_nil)
      (pss_cons (ps_if (PW.pt (pw_or (pt_cmpR op_notIn_seq (pv 2) (pe_tup (pa_cons (kn T.k_NUMBER) (pa_cons (kn T.k_ALIAS) pa_nil))) (by rfl)) (pw_or1 (pt_not (pt_val (kg d_is_name (hr.mono (by decide)) (pa_cons (pv 3) pa_nil))))))) (pss_one (ps_ret (pe_lst (pa_cons (pe_un un_neg pe_int) pa_nil)))) pss_nil)
      (pss_cons (ps_set (i := 4) sc_answer_query.nd rfl (Or.inl rfl) (kc d_Search_init (hr.mono (by decide)) (pa_cons (pv 0) (pa_cons (pe_ix ix_list (kf (pv 0) T.cl_net T.n_net_caches) (pv 1) (fun _ _ => rfl)) (pa_cons (pv 2) pa_nil)))))
      (pss_cons (ps_set (i := 5) sc_answer_query.nd rfl (Or.inl rfl) (km (pv 4) d_Search_found (hr.mono (by decide)) (pa_cons (pv 3) pa_nil)))
      (pss_cons (ps_set (i := 6) sc_answer_query.nd rfl (Or.inl rfl) (pe_op op_cat (pe_lst (pa_cons (pe_callB call_len_seq (by rfl) T.f_len PySem.boot_len (pa_cons (kf (pv 4) T.cl_sea T.n_sea_names) pa_nil)) pa_nil)) (kg d_each_counted (hr.mono (by decide)) (pa_cons (kf (pv 4) T.cl_sea T.n_sea_names) pa_nil))))
      (pss_cons (ps_if (pt_cmpR op_isN (pv 5) pe_non (nomark _)) (pss_one (ps_ret (pe_op op_cat (pe_op op_cat (pe_lst (pa_cons pe_int (pa_cons (kf (pv 4) T.cl_sea T.n_sea_asked) (pa_cons pe_int pa_nil)))) (pv 6)) (pe_lst (pa_cons pe_int pa_nil))))) pss_nil)
      (pss_cons (ps_set (i := 7) sc_answer_query.nd rfl (Or.inl rfl) (pe_ifExp (pt_cmpR op_eq (kf (pv 5) T.cl_tel T.n_tel_outcome) (kn T.k_LEADS_ON) (nomark _)) (kn T.k_TELLS) (kf (pv 5) T.cl_tel T.n_tel_outcome)))
      (pss_cons (ps_set (i := 8) sc_answer_query.nd rfl (Or.inl rfl) (pe_op op_cat (pe_lst (pa_cons (pe_callB call_len_seq (by rfl) T.f_len PySem.boot_len (pa_cons (kf (pv 5) T.cl_tel T.n_tel_rows) pa_nil)) pa_nil)) (kg d_each_counted (hr.mono (by decide)) (pa_cons (kf (pv 5) T.cl_tel T.n_tel_rows) pa_nil))))
      (pss_one (ps_ret (pe_op op_cat (pe_op op_cat (pe_lst (pa_cons (pv 7) (pa_cons (kf (pv 4) T.cl_sea T.n_sea_asked) (pa_cons (kf (pv 4) T.cl_sea T.n_sea_good) pa_nil)))) (pv 6)) (pv 8)))))))))))), ?_⟩
    obtain ⟨F, g, h, s', k, b, n, rfl, nt, fo, hk, hb, ol, q⟩ := h
    obtain ⟨dn, n1⟩ := nt.at_
    refine ⟨_, rfl, g.n, dn, _, rfl, n1, no_net_has_cache, _, rfl, F, g, h, s', rfl, nt, _, rfl, ite_b (fun e => ?_) fun e => ?_⟩
    · rw [Bool.not_eq_true', decide_eq_false_iff_not] at e
      have es : h.step (.query s' k n) = (h, Dn01.says (-2)) := by simp only [Dn01.House.step, none_ge e]
      rw [es] at q
      exact ⟨_, rfl, (by show 1 ≤ sizeLine; decide), q.put fo FrmX.refl rfl nt rfl⟩
    rw [Bool.not_eq_false', decide_eq_true_eq] at e
    obtain ⟨x, ex⟩ := lt_at e
    have xm := List.mem_of_getElem? ex
    refine ⟨_, rfl, (by show 2 ≤ sizeLine; decide), fun p hp => ⟨p, _, rfl, .inr (SqT.of upd_same), rfl, rfl, _, rfl, ?_⟩⟩
    have s1 : Same H (upd H p (.tup [V.int 1, V.int 2])) := Same.laid hp
    rw [inV2, if_pos rfl]
    refine ite_b (fun e1 => ?_) fun e1 => ?_
    · have es : h.step (.query s' k n) = (h, Dn01.says (-1)) := by
        have : k = 0 ∨ 2 < k ∨ Dn01.isName n = false := by
          simp only [Bool.not_eq_true', Bool.or_eq_false_iff, beq_eq_false_iff_ne] at e1
          omega
        simp only [Dn01.House.step, ex, this, if_true]
      rw [es] at q
      exact ⟨_, rfl, (by show 1 ≤ sizeLine; decide), q.put fo (FrmX.same s1) rfl (nt.same s1) rfl⟩
    refine ⟨_, rfl, b, n, rfl, hb.same s1, fun H2 s2 => ⟨_, rfl, ite_b (fun e2 => ?_) fun e2 => ?_⟩⟩
    · rw [Bool.not_eq_true'] at e2
      have es : h.step (.query s' k n) = (h, Dn01.says (-1)) := by simp only [Dn01.House.step, ex, e2, or_true, if_true]
      rw [es] at q
      exact ⟨_, rfl, (by show 1 ≤ sizeLine; decide), q.put fo (FrmX.same (s1.trans s2)) rfl (nt.same (s1.trans s2)) rfl⟩
    rw [Bool.not_eq_false'] at e2
    have s12 := s1.trans s2
    have nt2 := nt.same s12
    rw [Bool.not_eq_false', Bool.or_eq_true, beq_iff_eq, beq_iff_eq] at e1
    have nok : ¬ (k = 0 ∨ 2 < k ∨ Dn01.isName n = false) := by
      rw [e2]
      rintro (z | z | z)
      · omega
      · omega
      · cases z
    have nl : n.length < 1000 := by
      unfold Dn01.isName Dn01.DEEP at e2
      rw [Bool.and_eq_true] at e2
      have := of_decide_eq_true e2.1
      omega
    obtain ⟨fg, fl⟩ := hk.fg x xm
    have es : h.step (.query s' k n) = (hc h s' (h.query x n k).1, qOut (h.query x n k).2) := by
      simp only [Dn01.House.step, ex, nok, if_false]
      rfl
    rw [query_eq hk.fit e1 n fg] at es
    rw [es] at q ol
    obtain ⟨gc, hgc, cx⟩ := nt2.cacAt ex
    obtain ⟨b1, b2⟩ := nt2.atC (K := K) hgc
    refine ⟨_, rfl, _, rfl, g.n, dn, _, _, rfl, s12 _ _ n1, lk_net_caches, _, rfl, g.cl, _, s', .ref gc.a, rfl, rfl, b1, b2, _, rfl, fun sa dxs hsa hdxs nes => ⟨sa, dxs, _, _, _, rfl, upd_same, fun H3 r kp3 hr hat hrl => ⟨rfl, ?_⟩⟩⟩
    have s23 : Same H2 H3 := kp_new2 hsa hdxs kp3
    have hr2 : H2 r = none := new_none nes hr
    have hrH : H r = none := same_none s12 hr2
    have nt3 : NetA P w c (r :: F) H3 g h := (nt2.add hr2).same s23
    have fo3 : FOk (r :: F) H3 := fun y m => by
      rcases List.mem_cons.mp m with rfl | m
      · exact ⟨_, hrl⟩
      · exact (fo.same (s12.trans s23)) y m
    obtain ⟨dxa, hat'⟩ := id hat
    have hs3 : SeaA P w c (r :: F) H3 sa r s' g h k 0 1000000000 [] := ⟨nt3, ⟨gc, hgc, hat⟩, List.mem_cons_self .., [], rfl, hrl, fun p m => (nomatch m)⟩
    refine ⟨_, rfl, sa, dxa, _, rfl, hat', no_sea_found, _, rfl, sa, b, r :: F, r, s', g, h, k, x, n, rfl, hs3, fo3, hk.fit, e1, ex, fg, fl, hb.same (s12.trans s23), nl, fun H4 g4 v fs' a' good' names' o eR fr4 gn4 hs4 ht4 => ?_⟩
    rw [eR] at q ol
    have noc : ∀ ss, o ≠ some (.cut ss) := fun ss => by
      have := contM_nocut hk.fit e1 ss 7 (toldM h k n x 0 1000000000).1 (toldM h k n x 0 1000000000).2.1 (toldM h k n x 0 1000000000).2.2.1 [] (toldM h k n x 0 1000000000).2.2.2 (toldM_ok hk.fit e1 n x 0 1000000000 fg).1 (toldM_nocut hk.fit e1 n x 0 1000000000 fg ss)
      rw [eR] at this
      exact this
    have ol : (qOut (gotOf o names' good' a')).out.length < 1000000 := ol
    have q : AnsQ P w c F H g (hc h s' fs', qOut (gotOf o names' good' a')) Q := q
    have en := qOut_num (gotOf o names' good' a')
    have el : (qNum (gotOf o names' good' a')).length < 1000001 := by
      have := congrArg List.length en
      rw [List.length_map] at this
      rw [← this]
      unfold outV
      rw [List.length_cons, List.length_map]
      omega
    unfold AnsQ at q
    rw [en] at q
    have al : (qNum (gotOf o names' good' a')).length = 3 + ((gotOf o names' good' a').chain.length :: flatC (gotOf o names' good' a').chain).length + ((gotOf o names' good' a').values.length :: flatC (gotOf o names' good' a').values).length := by
      unfold qNum
      rw [List.length_append, List.length_append]
      rfl
    have ech : (gotOf o names' good' a').chain = names' := by
      unfold gotOf
      split <;> rfl
    rw [ech] at al
    obtain ⟨gc4, hgc4, ⟨dx4, h4⟩⟩ := hs4.at_
    obtain ⟨ln, ln1, ln2, ln3⟩ := hs4.nm
    have frH4 : Frm c H H4 := fun y oy ey ky _ => fr4 y oy (s23 _ _ (s12 _ _ ey)) ky (by
      intro m
      rw [List.mem_singleton.mp m, hrH] at ey
      cases ey)
    have fo4 := frH4.fok fo
    have nt4 : NetA P w c F H4 g4 (hc h s' fs') := hs4.net.sub fun y m => List.mem_cons_of_mem _ m
    have fin : ∀ H9 p9, Same H4 H9 → H9 p9 = none → ∀ H10, Same H9 H10 → LN H10 p9 (qNum (gotOf o names' good' a')) → Q (.ref p9) H10 := fun H9 p9 s49 hp9 H10 s910 l10 =>
      q H10 g4 p9 (frH4.trans (FrmX.same (s49.trans s910))) (fo4.new (same_none s49 hp9)) gn4 (nt4.same (s49.trans s910)) l10
    have lnl : ln.length = names'.length := by rw [← ln1, List.length_map]
    refine ⟨_, rfl, sa, dx4, _, _, rfl, h4, lk_sea_names, _, _, rfl, .inl (SqL.of ln2), (by show 1 ≤ sizeLine; decide), fun p5 hp5 => ?_⟩
    have s45 : Same H4 (upd H4 p5 (.lst [V.int ((ln.map fun p => V.ref p.1).length : Nat)])) := Same.laid hp5
    have l5 : LN (upd H4 p5 (.lst [V.int ((ln.map fun p => V.ref p.1).length : Nat)])) p5 [names'.length] := by
      show upd H4 p5 _ p5 = _
      rw [upd_same, List.length_map, lnl]
      rfl
    refine ⟨_, rfl, sa, dx4, _, _, rfl, s45 _ _ h4, lk_sea_names, r, names', rfl, ⟨ln, ln1, .inl (s45 _ _ ln2), fun p m => (ln3 p m).same s45⟩, by simp only [List.length_cons] at al; omega, fun H6 p6 s56 hp6 l6 => ?_⟩
    refine LN.catS (l5.same s56) l6 (by simp only [List.length_cons, List.length_nil] at al ⊢; omega) fun H7 p7 s67 hp7 l7 => ?_
    have s47 := (s45.trans s56).trans s67
    match o, ht4, noc, fin, al, el with
    | none, ht4, noc, fin, al, el =>
      cases (show v = .non from ht4)
      refine ⟨_, rfl, rfl, _, rfl, iteT ⟨_, rfl, sa, dx4, _, _, rfl, s47 _ _ h4, lk_sea_asked, (by show 3 ≤ sizeLine; decide), fun p8 hp8 => ⟨_, rfl, ?_⟩⟩⟩
      have s78 := Same.laid (H := H7) (o := .lst [V.int 0, nv a', V.int 0]) hp8
      refine LN.catS (l := [0, a', 0]) upd_same (l7.same s78) (by simp only [List.length_append, List.length_cons, List.length_nil] at al ⊢; omega) fun H9 p9 s89 hp9 l9 => ⟨(by show 1 ≤ sizeLine; decide), fun p10 hp10 => ?_⟩
      have s910 := Same.laid (H := H9) (o := .lst [V.int 0]) hp10
      refine LN.catS (m := [0]) (l9.same s910) upd_same (by simp only [List.length_append, List.length_cons, List.length_nil] at al ⊢; omega) fun H11 p11 s1011 hp11 l11 => ?_
      exact fin _ p11 (((s47.trans s78).trans s89).trans s910) hp11 H11 s1011 l11
    | some wh, ht4, noc, fin, al, el =>
      obtain ⟨p0, nm, lf, rfl, ht⟩ := ht4
      obtain ⟨na', ra', ⟨dt, t1⟩, t2, t3⟩ := id ht
      obtain ⟨tl, tl1, tl2, tl3⟩ := id t3
      have tl1 : tl.map (·.2) = rowsOf wh := tl1
      have ek : gotOf (some wh) names' good' a' = ⟨if ocOf wh = 4 then 1 else ocOf wh, rowsOf wh, good', names', a'⟩ := by
        cases wh with
        | cut ss => exact absurd rfl (noc ss)
        | _ => rfl
      rw [ek] at al el
      rw [ek] at fin
      unfold qNum at fin
      dsimp only at fin al
      refine ⟨_, rfl, rfl, _, rfl, iteF ⟨_, rfl, p0, dt, _, _, rfl, s47 _ _ t1, lk_tel_outcome, rfl, _, rfl, ?_⟩⟩
      rw [show decide (nv (ocOf wh) = V.int 4) = (ocOf wh == 4) from nv_eq _ 4]
      by_cases h4' : ocOf wh = 4
      · rw [beq_iff_eq.mpr h4']
        rw [if_pos h4'] at fin
        refine iteT ⟨_, rfl, p0, dt, _, _, rfl, s47 _ _ t1, lk_tel_rows, _, _, rfl, .inr (SqT.of (s47 _ _ tl2)), (by show 1 ≤ sizeLine; decide), fun p8 hp8 => ?_⟩
        have s78 : Same H7 (upd H7 p8 (.lst [V.int ((tl.map fun p => V.ref p.1).length : Nat)])) := Same.laid hp8
        have l8 : LN (upd H7 p8 (.lst [V.int ((tl.map fun p => V.ref p.1).length : Nat)])) p8 [(rowsOf wh).length] := by
          show upd H7 p8 _ p8 = _
          rw [upd_same, List.length_map, ← tl1, List.length_map]
          rfl
        have s48 := s47.trans s78
        refine ⟨_, rfl, p0, dt, _, _, rfl, s48 _ _ t1, lk_tel_rows, ra', rowsOf wh, rfl, (t3.same s48).rows, by simp only [List.length_cons] at al; omega, fun H9 p9 s89 hp9 l9 => ?_⟩
        refine LN.catS (l8.same s89) l9 (by simp only [List.length_cons, List.length_nil] at al ⊢; omega) fun H10 p10 s910 hp10 l10 => ?_
        have s410 := (s48.trans s89).trans s910
        have s710 := (s78.trans s89).trans s910
        refine ⟨_, rfl, _, rfl, sa, dx4, _, _, rfl, s410 _ _ h4, lk_sea_asked, _, rfl, sa, dx4, _, _, rfl, s410 _ _ h4, lk_sea_good, (by show 3 ≤ sizeLine; decide), fun p11 hp11 => ⟨_, rfl, ?_⟩⟩
        have s1011 := Same.laid (H := H10) (o := .lst [V.int 1, nv a', nv good']) hp11
        refine LN.catS (l := [1, a', good']) upd_same (l7.same (s710.trans s1011)) (by simp only [List.length_append, List.length_cons, List.length_nil] at al ⊢; omega) fun H12 p12 s1112 hp12 l12 => ⟨_, rfl, ?_⟩
        refine LN.catS l12 (l10.same (s1011.trans s1112)) (by simp only [List.length_append, List.length_cons, List.length_nil] at al ⊢; omega) fun H13 p13 s1213 hp13 l13 => ?_
        exact fin _ p13 ((s410.trans s1011).trans s1112) hp13 H13 s1213 l13
      · rw [beq_eq_false_iff_ne.mpr h4']
        rw [if_neg h4'] at fin
        refine iteF ⟨_, rfl, p0, dt, _, _, rfl, s47 _ _ t1, lk_tel_outcome, _, rfl, p0, dt, _, _, rfl, s47 _ _ t1, lk_tel_rows, _, _, rfl, .inr (SqT.of (s47 _ _ tl2)), (by show 1 ≤ sizeLine; decide), fun p8 hp8 => ?_⟩
        have s78 : Same H7 (upd H7 p8 (.lst [V.int ((tl.map fun p => V.ref p.1).length : Nat)])) := Same.laid hp8
        have l8 : LN (upd H7 p8 (.lst [V.int ((tl.map fun p => V.ref p.1).length : Nat)])) p8 [(rowsOf wh).length] := by
          show upd H7 p8 _ p8 = _
          rw [upd_same, List.length_map, ← tl1, List.length_map]
          rfl
        have s48 := s47.trans s78
        refine ⟨_, rfl, p0, dt, _, _, rfl, s48 _ _ t1, lk_tel_rows, ra', rowsOf wh, rfl, (t3.same s48).rows, by simp only [List.length_cons] at al; omega, fun H9 p9 s89 hp9 l9 => ?_⟩
        refine LN.catS (l8.same s89) l9 (by simp only [List.length_cons, List.length_nil] at al ⊢; omega) fun H10 p10 s910 hp10 l10 => ?_
        have s410 := (s48.trans s89).trans s910
        have s710 := (s78.trans s89).trans s910
        refine ⟨_, rfl, _, rfl, sa, dx4, _, _, rfl, s410 _ _ h4, lk_sea_asked, _, rfl, sa, dx4, _, _, rfl, s410 _ _ h4, lk_sea_good, (by show 3 ≤ sizeLine; decide), fun p11 hp11 => ⟨_, rfl, ?_⟩⟩
        have s1011 := Same.laid (H := H10) (o := .lst [nv (ocOf wh), nv a', nv good']) hp11
        refine LN.catS (l := [ocOf wh, a', good']) upd_same (l7.same (s710.trans s1011)) (by simp only [List.length_append, List.length_cons, List.length_nil] at al ⊢; omega) fun H12 p12 s1112 hp12 l12 => ⟨_, rfl, ?_⟩
        refine LN.catS l12 (l10.same (s1011.trans s1112)) (by simp only [List.length_append, List.length_cons, List.length_nil] at al ⊢; omega) fun H13 p13 s1213 hp13 l13 => ?_
        exact fin _ p13 ((s410.trans s1011).trans s1112) hp13 H13 s1213 l13
end
end Nn


namespace Nn
open PySem PySem.Spec PyProof.Rows L2
/-! ### the calls, as they stand in the list -/
def bodyOf : Dn01.Call → List Int
  | .begin_ s k r => (s : Int) :: (k : Int) :: rowI r
  | .zone s n a => (s : Int) :: (n : Int) :: rowI a
  | .copy s f g a => (s : Int) :: (f : Int) :: (g : Int) :: rowI a
  | .drop s a => (s : Int) :: rowI a
  | .add s k so l a n v => (s : Int) :: (k : Int) :: (so : Int) :: (l : Int) :: (rowI a ++ (rowI n ++ rowI v))
  | .remove s k so a n v => (s : Int) :: (k : Int) :: (so : Int) :: (rowI a ++ (rowI n ++ rowI v))
  | .transfer s a => (s : Int) :: rowI a
  | .set_ s u => [(s : Int), (u : Int)]
  | .pass n => [(n : Int)]
  | .query k s n => (k : Int) :: (s : Int) :: rowI n
  | .ask x s n => (x : Int) :: (s : Int) :: rowI n
  | .records s a => (s : Int) :: rowI a
  | .facts k => [(k : Int)]
  | .flush k => [(k : Int)]
def numOf : Dn01.Call → Nat
  | .begin_ .. => 1
  | .zone .. => 2
  | .copy .. => 3
  | .drop .. => 4
  | .add .. => 5
  | .remove .. => 6
  | .transfer .. => 7
  | .set_ .. => 8
  | .pass .. => 9
  | .query .. => 10
  | .ask .. => 11
  | .records .. => 12
  | .facts .. => 13
  | .flush .. => 14
section
variable {P : Program} {w : World} {K : PySem.W.Frag} {mg : Str → Option Value} {base : Heap} {c : Cs}
theorem RdA.ins {H : Hp} {ra ca : Addr} {l rest : List Int} (h : RdA K c H ra ca l rest) : ∃ dx fs, H ra = some (.ins c.crdr dx fs) := let ⟨_, ⟨dx, e⟩, _⟩ := h; ⟨dx, _, e⟩
theorem TN.kpR {H H' : Hp} {ra ca b : Addr} {l rest : List Int} {s : List Nat} (h : TN H b s) (k : Kp [ra] H H') (r : RdA K c H ra ca l rest) : TN H' b s := by
  obtain ⟨dx, fs, e⟩ := r.ins
  refine k _ _ h fun m => ?_
  have h : H b = some (.tup (s.map nv)) := h
  rw [List.mem_singleton.mp m, e] at h
  cases h
theorem NetA.kpR (ok : COk c) {F : List Addr} {H H' : Hp} {g : GN} {h : Dn01.House} {ra ca : Addr} {l rest : List Int} (x : NetA P w c F H g h) (k : Kp [ra] H H') (r : RdA K c H ra ca l rest) : NetA P w c F H' g h :=
  let ⟨_, _, e⟩ := r.ins
  x.rdr ok k e
theorem FOk.kpR {F : List Addr} {H H' : Hp} {ra ca : Addr} {l rest : List Int} (fo : FOk F H) (k : Kp [ra] H H') (r : RdA K c H ra ca l rest) : FOk F H' := fun b m => by
  obtain ⟨dx, fs, e⟩ := r.ins
  obtain ⟨xs, e2⟩ := fo b m
  refine ⟨xs, k _ _ e2 fun m => ?_⟩
  rw [List.mem_singleton.mp m, e] at e2
  cases e2
theorem kpX {H H' : Hp} {ra : Addr} (k : Kp [ra] H H') : FrmX c [ra] H H' := fun b o e _ n => k b o e n
/-- what a call's reading and answering must come to -/
def AnsX (P : Program) (w : World) (K : PySem.W.Frag) (c : Cs) (F : List Addr) (H : Hp) (g : GN) (ra ca : Addr) (l rest : List Int) (r : Dn01.House × Dn01.Out) (Q : VK) : Prop := ∀ H' g' p, FrmX c [ra] H H' → p ∉ F → g'.n = g.n → NetA P w c F H' g' r.1 → H' p = some (.lst (outV r.2)) → RdA K c H' ra ca l rest → Q (.ref p) H'
theorem ansR {F : List Addr} {H Hn : Hp} {g : GN} {ra ca : Addr} {l rest : List Int} {x : Dn01.House × Dn01.Out} {Q : VK} (q : AnsX P w K c F H g ra ca l rest x Q) (k : Kp [ra] H Hn) (r : RdA K c Hn ra ca l rest) : AnsQ P w c F Hn g x Q :=
  fun H' g' p f n e net hp => q H' g' p ((kpX k).trans f.x) n e net hp (r.frm f)
theorem rdn {σ : L2.St} {H : Hp} {D : Ends} {t2 : TS} {n : Nat} {ra ca : Addr} {l rest : List Int} {x : Int} (hs : σ[1]? = some (some (.ref ra))) (r : RdA K c H ra ca l (x :: rest)) (q : ∀ H', Kp [ra] H H' → RdA K c H' ra ca l rest → gName n (.int x) σ H' (t2 D)) :
    tSeq (tAsg (tM c.crdr "number" (sp_rdr_num K c) (tVar 1) tNil) (gName n)) t2 D σ H :=
  let ⟨_, ⟨dx, e⟩, _⟩ := id r
  ⟨_, hs, ra, dx, _, rfl, e, no_rdr_number, ra, ca, l, x, rest, rfl, r, q⟩
theorem rdr_ {σ : L2.St} {H : Hp} {D : Ends} {t2 : TS} {n : Nat} {ra ca : Addr} {l rest : List Int} {s : List Nat} (hs : σ[1]? = some (some (.ref ra))) (r : RdA K c H ra ca l (rowI s ++ rest)) (q : ∀ H' p, Kp [ra] H H' → RdA K c H' ra ca l rest → TN H' p s → gName n (.ref p) σ H' (t2 D)) :
    tSeq (tAsg (tM c.crdr "row" (sp_rdr_row K c) (tVar 1) tNil) (gName n)) t2 D σ H :=
  let ⟨_, ⟨dx, e⟩, _⟩ := id r
  ⟨_, hs, ra, dx, _, rfl, e, no_rdr_row, ra, ca, l, s, rest, rfl, r, q⟩
def spC (P : Program) (w : World) (K : PySem.W.Frag) (c : Cs) (k : Nat) : Sp := fun vs H Q _ => ∃ F g h ra ca l rest x, vs = [.ref g.n, .ref ra] ∧ numOf x = k ∧ NetA P w c F H g h ∧ FOk F H ∧ HOk h ∧ TOk h ∧ RdA K c H ra ca l (bodyOf x ++ rest) ∧ (h.step x).2.out.length < 1000000 ∧ AnsX P w K c F H g ra ca l rest (h.step x) Q
theorem ok_zone_call {f : Addr} {fd : FuncData} (F : Fun K "zone_call" "zone_call" s_zone_call f fd) (T : Txt K mg c) (cok : COk c) (d_Reader_number : MFn P w K mg base 1 c.crdr "number" ["self"] (sp_rdr_num K c)) (d_Reader_row : MFn P w K mg base 2 c.crdr "row" ["self"] (sp_rdr_row K c)) (d_answer_zone : GFn P w K mg base 4 "answer_zone" ["net", "server", "life", "apex"] (sp_answer_zone P w c)) : FnOk P w K mg base CX0 16 f fd ["net", "reader"] (spC P w K c 2) := by
  refine F.ok sc_zone_call (fun vs H Q E h => ?_) (fun cdv A outer s H vs Q E hr h => ?_)
  · obtain ⟨F, g, h, ra, ca, l, rest, x, rfl, _⟩ := h
    rfl
  · refine ⟨_, (pss_cons (ps_set (i := 2) sc_zone_call.nd rfl (Or.inl rfl) (km0 (pv 1) d_Reader_number (hr.mono (by decide))))
      (pss_cons (ps_set (i := 3) sc_zone_call.nd rfl (Or.inl rfl) (km0 (pv 1) d_Reader_number (hr.mono (by decide))))
      (pss_cons (ps_set (i := 4) sc_zone_call.nd rfl (Or.inl rfl) (km0 (pv 1) d_Reader_row (hr.mono (by decide))))
      (pss_one (ps_ret (kg d_answer_zone (hr.mono (by decide)) (pa_cons (pv 0) (pa_cons (pv 2) (pa_cons (pv 3) (pa_cons (pv 4) pa_nil)))))))))), ?_⟩
    obtain ⟨F, g, h, ra, ca, l, rest, x, rfl, hx, nt, fo, hk, tk, r0, ol, q⟩ := h
    obtain ⟨s', n, a, rfl⟩ : ∃ s n a, x = .zone s n a := by cases x <;> first | exact ⟨_, _, _, rfl⟩ | cases hx
    have r0 : RdA K c H ra ca l ((s' : Int) :: (n : Int) :: (rowI a ++ rest)) := r0
    refine rdn rfl r0 fun H1 k1 r1 => rdn rfl r1 fun H2 k2 r2 => rdr_ rfl r2 fun H3 b3 k3 r3 t3 => ?_
    have k := (k1.trans k2).trans k3
    exact ⟨_, rfl, _, rfl, _, rfl, _, rfl, F, g, h, s', n, b3, a, rfl, nt.kpR cok k r0, fo.kpR k r0, hk, t3, ansR q k r3⟩
theorem ok_copy_call {f : Addr} {fd : FuncData} (F : Fun K "copy_call" "copy_call" s_copy_call f fd) (T : Txt K mg c) (cok : COk c) (d_Reader_number : MFn P w K mg base 1 c.crdr "number" ["self"] (sp_rdr_num K c)) (d_Reader_row : MFn P w K mg base 2 c.crdr "row" ["self"] (sp_rdr_row K c)) (d_answer_copy : GFn P w K mg base 5 "answer_copy" ["net", "server", "origin", "good", "apex"] (sp_answer_copy P w c)) : FnOk P w K mg base CX0 16 f fd ["net", "reader"] (spC P w K c 3) := by
  refine F.ok sc_copy_call (fun vs H Q E h => ?_) (fun cdv A outer s H vs Q E hr h => ?_)
  · obtain ⟨F, g, h, ra, ca, l, rest, x, rfl, _⟩ := h
    rfl
  · refine ⟨_, (pss_cons (ps_set (i := 2) sc_copy_call.nd rfl (Or.inl rfl) (km0 (pv 1) d_Reader_number (hr.mono (by decide))))
      (pss_cons (ps_set (i := 3) sc_copy_call.nd rfl (Or.inl rfl) (km0 (pv 1) d_Reader_number (hr.mono (by decide))))
      (pss_cons (ps_set (i := 4) sc_copy_call.nd rfl (Or.inl rfl) (km0 (pv 1) d_Reader_number (hr.mono (by decide))))
      (pss_cons (ps_set (i := 5) sc_copy_call.nd rfl (Or.inl rfl) (km0 (pv 1) d_Reader_row (hr.mono (by decide))))
      (pss_one (ps_ret (kg d_answer_copy (hr.mono (by decide)) (pa_cons (pv 0) (pa_cons (pv 2) (pa_cons (pv 3) (pa_cons (pv 4) (pa_cons (pv 5) pa_nil)))))))))))), ?_⟩
    obtain ⟨F, g, h, ra, ca, l, rest, x, rfl, hx, nt, fo, hk, tk, r0, ol, q⟩ := h
    obtain ⟨s', f', gd, a, rfl⟩ : ∃ s f g a, x = .copy s f g a := by cases x <;> first | exact ⟨_, _, _, _, rfl⟩ | cases hx
    have r0 : RdA K c H ra ca l ((s' : Int) :: (f' : Int) :: (gd : Int) :: (rowI a ++ rest)) := r0
    refine rdn rfl r0 fun H1 k1 r1 => rdn rfl r1 fun H2 k2 r2 => rdn rfl r2 fun H3 k3 r3 => rdr_ rfl r3 fun H4 b4 k4 r4 t4 => ?_
    have k := ((k1.trans k2).trans k3).trans k4
    exact ⟨_, rfl, _, rfl, _, rfl, _, rfl, _, rfl, F, g, h, s', f', gd, b4, a, rfl, nt.kpR cok k r0, fo.kpR k r0, hk, t4, ansR q k r4⟩
theorem ok_drop_call {f : Addr} {fd : FuncData} (F : Fun K "drop_call" "drop_call" s_drop_call f fd) (T : Txt K mg c) (cok : COk c) (d_Reader_number : MFn P w K mg base 1 c.crdr "number" ["self"] (sp_rdr_num K c)) (d_Reader_row : MFn P w K mg base 2 c.crdr "row" ["self"] (sp_rdr_row K c)) (d_answer_drop : GFn P w K mg base 3 "answer_drop" ["net", "server", "apex"] (sp_answer_drop P w c)) : FnOk P w K mg base CX0 16 f fd ["net", "reader"] (spC P w K c 4) := by
  refine F.ok sc_drop_call (fun vs H Q E h => ?_) (fun cdv A outer s H vs Q E hr h => ?_)
  · obtain ⟨F, g, h, ra, ca, l, rest, x, rfl, _⟩ := h
    rfl
  · refine ⟨_, (pss_cons (ps_set (i := 2) sc_drop_call.nd rfl (Or.inl rfl) (km0 (pv 1) d_Reader_number (hr.mono (by decide))))
      (pss_cons (ps_set (i := 3) sc_drop_call.nd rfl (Or.inl rfl) (km0 (pv 1) d_Reader_row (hr.mono (by decide))))
      (pss_one (ps_ret (kg d_answer_drop (hr.mono (by decide)) (pa_cons (pv 0) (pa_cons (pv 2) (pa_cons (pv 3) pa_nil)))))))), ?_⟩
    obtain ⟨F, g, h, ra, ca, l, rest, x, rfl, hx, nt, fo, hk, tk, r0, ol, q⟩ := h
    obtain ⟨s', a, rfl⟩ : ∃ s a, x = .drop s a := by cases x <;> first | exact ⟨_, _, rfl⟩ | cases hx
    have r0 : RdA K c H ra ca l ((s' : Int) :: (rowI a ++ rest)) := r0
    refine rdn rfl r0 fun H1 k1 r1 => rdr_ rfl r1 fun H2 b2 k2 r2 t2 => ?_
    have k := k1.trans k2
    exact ⟨_, rfl, _, rfl, _, rfl, F, g, h, s', b2, a, rfl, nt.kpR cok k r0, fo.kpR k r0, hk, t2, ansR q k r2⟩
theorem ok_add_call {f : Addr} {fd : FuncData} (F : Fun K "add_call" "add_call" s_add_call f fd) (T : Txt K mg c) (cok : COk c) (d_Reader_number : MFn P w K mg base 1 c.crdr "number" ["self"] (sp_rdr_num K c)) (d_Reader_row : MFn P w K mg base 2 c.crdr "row" ["self"] (sp_rdr_row K c)) (d_answer_add : GFn P w K mg base 6 "answer_add" ["net", "server", "serial", "kind", "life", "apex", "name", "value"] (sp_answer_add P w c)) : FnOk P w K mg base CX0 16 f fd ["net", "reader"] (spC P w K c 5) := by
  refine F.ok sc_add_call (fun vs H Q E h => ?_) (fun cdv A outer s H vs Q E hr h => ?_)
  · obtain ⟨F, g, h, ra, ca, l, rest, x, rfl, _⟩ := h
    rfl
  · refine ⟨_, (pss_cons (ps_set (i := 2) sc_add_call.nd rfl (Or.inl rfl) (km0 (pv 1) d_Reader_number (hr.mono (by decide))))
      (pss_cons (ps_set (i := 3) sc_add_call.nd rfl (Or.inl rfl) (km0 (pv 1) d_Reader_number (hr.mono (by decide))))
      (pss_cons (ps_set (i := 4) sc_add_call.nd rfl (Or.inl rfl) (km0 (pv 1) d_Reader_number (hr.mono (by decide))))
      (pss_cons (ps_set (i := 5) sc_add_call.nd rfl (Or.inl rfl) (km0 (pv 1) d_Reader_number (hr.mono (by decide))))
      (pss_cons (ps_set (i := 6) sc_add_call.nd rfl (Or.inl rfl) (km0 (pv 1) d_Reader_row (hr.mono (by decide))))
      (pss_cons (ps_set (i := 7) sc_add_call.nd rfl (Or.inl rfl) (km0 (pv 1) d_Reader_row (hr.mono (by decide))))
      (pss_cons (ps_set (i := 8) sc_add_call.nd rfl (Or.inl rfl) (km0 (pv 1) d_Reader_row (hr.mono (by decide))))
      (pss_one (ps_ret (kg d_answer_add (hr.mono (by decide)) (pa_cons (pv 0) (pa_cons (pv 2) (pa_cons (pv 3) (pa_cons (pv 4) (pa_cons (pv 5) (pa_cons (pv 6) (pa_cons (pv 7) (pa_cons (pv 8) pa_nil)))))))))))))))))), ?_⟩
    obtain ⟨F, g, h, ra, ca, l, rest, x, rfl, hx, nt, fo, hk, tk, r0, ol, q⟩ := h
    obtain ⟨s', k', so, lf, a, n, v, rfl⟩ : ∃ s k so l a n v, x = .add s k so l a n v := by cases x <;> first | exact ⟨_, _, _, _, _, _, _, rfl⟩ | cases hx
    have eb : bodyOf (.add s' k' so lf a n v) ++ rest = (s' : Int) :: (k' : Int) :: (so : Int) :: (lf : Int) :: (rowI a ++ (rowI n ++ (rowI v ++ rest))) := by simp only [bodyOf, List.cons_append, List.append_assoc]
    rw [eb] at r0
    refine rdn rfl r0 fun H1 k1 r1 => rdn rfl r1 fun H2 k2 r2 => rdn rfl r2 fun H3 k3 r3 => rdn rfl r3 fun H4 k4 r4 => rdr_ rfl r4 fun H5 b5 k5 r5 t5 => rdr_ rfl r5 fun H6 b6 k6 r6 t6 => rdr_ rfl r6 fun H7 b7 k7 r7 t7 => ?_
    have k := (((((k1.trans k2).trans k3).trans k4).trans k5).trans k6).trans k7
    exact ⟨_, rfl, _, rfl, _, rfl, _, rfl, _, rfl, _, rfl, _, rfl, _, rfl, F, g, h, s', k', so, lf, b5, a, b6, n, b7, v, rfl, nt.kpR cok k r0, fo.kpR k r0, hk, (t5.kpR k6 r5).kpR k7 r6, t6.kpR k7 r6, t7, ansR q k r7⟩
theorem ok_remove_call {f : Addr} {fd : FuncData} (F : Fun K "remove_call" "remove_call" s_remove_call f fd) (T : Txt K mg c) (cok : COk c) (d_Reader_number : MFn P w K mg base 1 c.crdr "number" ["self"] (sp_rdr_num K c)) (d_Reader_row : MFn P w K mg base 2 c.crdr "row" ["self"] (sp_rdr_row K c)) (d_answer_remove : GFn P w K mg base 4 "answer_remove" ["net", "server", "serial", "kind", "apex", "name", "value"] (sp_answer_remove P w c)) : FnOk P w K mg base CX0 16 f fd ["net", "reader"] (spC P w K c 6) := by
  refine F.ok sc_remove_call (fun vs H Q E h => ?_) (fun cdv A outer s H vs Q E hr h => ?_)
  · obtain ⟨F, g, h, ra, ca, l, rest, x, rfl, _⟩ := h
    rfl
  · refine ⟨_, (pss_cons (ps_set (i := 2) sc_remove_call.nd rfl (Or.inl rfl) (km0 (pv 1) d_Reader_number (hr.mono (by decide))))
      (pss_cons (ps_set (i := 3) sc_remove_call.nd rfl (Or.inl rfl) (km0 (pv 1) d_Reader_number (hr.mono (by decide))))
      (pss_cons (ps_set (i := 4) sc_remove_call.nd rfl (Or.inl rfl) (km0 (pv 1) d_Reader_number (hr.mono (by decide))))
      (pss_cons (ps_set (i := 5) sc_remove_call.nd rfl (Or.inl rfl) (km0 (pv 1) d_Reader_row (hr.mono (by decide))))
      (pss_cons (ps_set (i := 6) sc_remove_call.nd rfl (Or.inl rfl) (km0 (pv 1) d_Reader_row (hr.mono (by decide))))
      (pss_cons (ps_set (i := 7) sc_remove_call.nd rfl (Or.inl rfl) (km0 (pv 1) d_Reader_row (hr.mono (by decide))))
      (pss_one (ps_ret (kg d_answer_remove (hr.mono (by decide)) (pa_cons (pv 0) (pa_cons (pv 2) (pa_cons (pv 3) (pa_cons (pv 4) (pa_cons (pv 5) (pa_cons (pv 6) (pa_cons (pv 7) pa_nil)))))))))))))))), ?_⟩
    obtain ⟨F, g, h, ra, ca, l, rest, x, rfl, hx, nt, fo, hk, tk, r0, ol, q⟩ := h
    obtain ⟨s', k', so, a, n, v, rfl⟩ : ∃ s k so a n v, x = .remove s k so a n v := by cases x <;> first | exact ⟨_, _, _, _, _, _, rfl⟩ | cases hx
    have eb : bodyOf (.remove s' k' so a n v) ++ rest = (s' : Int) :: (k' : Int) :: (so : Int) :: (rowI a ++ (rowI n ++ (rowI v ++ rest))) := by simp only [bodyOf, List.cons_append, List.append_assoc]
    rw [eb] at r0
    refine rdn rfl r0 fun H1 k1 r1 => rdn rfl r1 fun H2 k2 r2 => rdn rfl r2 fun H4 k4 r4 => rdr_ rfl r4 fun H5 b5 k5 r5 t5 => rdr_ rfl r5 fun H6 b6 k6 r6 t6 => rdr_ rfl r6 fun H7 b7 k7 r7 t7 => ?_
    have k := ((((k1.trans k2).trans k4).trans k5).trans k6).trans k7
    exact ⟨_, rfl, _, rfl, _, rfl, _, rfl, _, rfl, _, rfl, _, rfl, F, g, h, s', k', so, b5, a, b6, n, b7, v, rfl, nt.kpR cok k r0, fo.kpR k r0, hk, (t5.kpR k6 r5).kpR k7 r6, t6.kpR k7 r6, t7, ansR q k r7⟩
theorem ok_transfer_call {f : Addr} {fd : FuncData} (F : Fun K "transfer_call" "transfer_call" s_transfer_call f fd) (T : Txt K mg c) (cok : COk c) (d_Reader_number : MFn P w K mg base 1 c.crdr "number" ["self"] (sp_rdr_num K c)) (d_Reader_row : MFn P w K mg base 2 c.crdr "row" ["self"] (sp_rdr_row K c)) (d_answer_transfer : GFn P w K mg base 5 "answer_transfer" ["net", "server", "apex"] (sp_answer_transfer P w c)) : FnOk P w K mg base CX0 16 f fd ["net", "reader"] (spC P w K c 7) := by
  refine F.ok sc_transfer_call (fun vs H Q E h => ?_) (fun cdv A outer s H vs Q E hr h => ?_)
  · obtain ⟨F, g, h, ra, ca, l, rest, x, rfl, _⟩ := h
    rfl
  · refine ⟨_, (pss_cons (ps_set (i := 2) sc_transfer_call.nd rfl (Or.inl rfl) (km0 (pv 1) d_Reader_number (hr.mono (by decide))))
      (pss_cons (ps_set (i := 3) sc_transfer_call.nd rfl (Or.inl rfl) (km0 (pv 1) d_Reader_row (hr.mono (by decide))))
      (pss_one (ps_ret (kg d_answer_transfer (hr.mono (by decide)) (pa_cons (pv 0) (pa_cons (pv 2) (pa_cons (pv 3) pa_nil)))))))), ?_⟩
    obtain ⟨F, g, h, ra, ca, l, rest, x, rfl, hx, nt, fo, hk, tk, r0, ol, q⟩ := h
    obtain ⟨s', a, rfl⟩ : ∃ s a, x = .transfer s a := by cases x <;> first | exact ⟨_, _, rfl⟩ | cases hx
    have r0 : RdA K c H ra ca l ((s' : Int) :: (rowI a ++ rest)) := r0
    refine rdn rfl r0 fun H1 k1 r1 => rdr_ rfl r1 fun H2 b2 k2 r2 t2 => ?_
    have k := k1.trans k2
    exact ⟨_, rfl, _, rfl, _, rfl, F, g, h, s', b2, a, rfl, nt.kpR cok k r0, fo.kpR k r0, hk, tk, t2, ansR q k r2⟩
theorem ok_set_call {f : Addr} {fd : FuncData} (F : Fun K "set_call" "set_call" s_set_call f fd) (T : Txt K mg c) (cok : COk c) (d_Reader_number : MFn P w K mg base 1 c.crdr "number" ["self"] (sp_rdr_num K c)) (d_answer_set : GFn P w K mg base 2 "answer_set" ["net", "server", "up"] (sp_answer_set P w c)) : FnOk P w K mg base CX0 16 f fd ["net", "reader"] (spC P w K c 8) := by
  refine F.ok sc_set_call (fun vs H Q E h => ?_) (fun cdv A outer s H vs Q E hr h => ?_)
  · obtain ⟨F, g, h, ra, ca, l, rest, x, rfl, _⟩ := h
    rfl
  · refine ⟨_, (pss_cons (ps_set (i := 2) sc_set_call.nd rfl (Or.inl rfl) (km0 (pv 1) d_Reader_number (hr.mono (by decide))))
      (pss_cons (ps_set (i := 3) sc_set_call.nd rfl (Or.inl rfl) (km0 (pv 1) d_Reader_number (hr.mono (by decide))))
      (pss_one (ps_ret (kg d_answer_set (hr.mono (by decide)) (pa_cons (pv 0) (pa_cons (pv 2) (pa_cons (pv 3) pa_nil)))))))), ?_⟩
    obtain ⟨F, g, h, ra, ca, l, rest, x, rfl, hx, nt, fo, hk, tk, r0, ol, q⟩ := h
    obtain ⟨s', u, rfl⟩ : ∃ s a, x = .set_ s a := by cases x <;> first | exact ⟨_, _, rfl⟩ | cases hx
    have r0 : RdA K c H ra ca l ((s' : Int) :: (u : Int) :: rest) := r0
    refine rdn rfl r0 fun H1 k1 r1 => rdn rfl r1 fun H2 k2 r2 => ?_
    have k := k1.trans k2
    exact ⟨_, rfl, _, rfl, _, rfl, F, g, h, s', u, rfl, nt.kpR cok k r0, fo.kpR k r0, ansR q k r2⟩
theorem ok_pass_call {f : Addr} {fd : FuncData} (F : Fun K "pass_call" "pass_call" s_pass_call f fd) (T : Txt K mg c) (cok : COk c) (d_Reader_number : MFn P w K mg base 1 c.crdr "number" ["self"] (sp_rdr_num K c)) (d_answer_pass : GFn P w K mg base 1 "answer_pass" ["net", "length"] (sp_answer_pass P w c)) : FnOk P w K mg base CX0 16 f fd ["net", "reader"] (spC P w K c 9) := by
  refine F.ok sc_pass_call (fun vs H Q E h => ?_) (fun cdv A outer s H vs Q E hr h => ?_)
  · obtain ⟨F, g, h, ra, ca, l, rest, x, rfl, _⟩ := h
    rfl
  · refine ⟨_, (pss_cons (ps_set (i := 2) sc_pass_call.nd rfl (Or.inl rfl) (km0 (pv 1) d_Reader_number (hr.mono (by decide))))
      (pss_one (ps_ret (kg d_answer_pass (hr.mono (by decide)) (pa_cons (pv 0) (pa_cons (pv 2) pa_nil)))))), ?_⟩
    obtain ⟨F, g, h, ra, ca, l, rest, x, rfl, hx, nt, fo, hk, tk, r0, ol, q⟩ := h
    obtain ⟨u, rfl⟩ : ∃ a, x = .pass a := by cases x <;> first | exact ⟨_, rfl⟩ | cases hx
    have r0 : RdA K c H ra ca l ((u : Int) :: rest) := r0
    refine rdn rfl r0 fun H1 k1 r1 => ?_
    exact ⟨_, rfl, _, rfl, F, g, h, u, rfl, nt.kpR cok k1 r0, fo.kpR k1 r0, ansR q k1 r1⟩
theorem ok_records_call {f : Addr} {fd : FuncData} (F : Fun K "records_call" "records_call" s_records_call f fd) (T : Txt K mg c) (cok : COk c) (d_Reader_number : MFn P w K mg base 1 c.crdr "number" ["self"] (sp_rdr_num K c)) (d_Reader_row : MFn P w K mg base 2 c.crdr "row" ["self"] (sp_rdr_row K c)) (d_answer_records : GFn P w K mg base 3 "answer_records" ["net", "server", "apex"] (sp_answer_records P w c)) : FnOk P w K mg base CX0 16 f fd ["net", "reader"] (spC P w K c 12) := by
  refine F.ok sc_records_call (fun vs H Q E h => ?_) (fun cdv A outer s H vs Q E hr h => ?_)
  · obtain ⟨F, g, h, ra, ca, l, rest, x, rfl, _⟩ := h
    rfl
  · refine ⟨_, (pss_cons (ps_set (i := 2) sc_records_call.nd rfl (Or.inl rfl) (km0 (pv 1) d_Reader_number (hr.mono (by decide))))
      (pss_cons (ps_set (i := 3) sc_records_call.nd rfl (Or.inl rfl) (km0 (pv 1) d_Reader_row (hr.mono (by decide))))
      (pss_one (ps_ret (kg d_answer_records (hr.mono (by decide)) (pa_cons (pv 0) (pa_cons (pv 2) (pa_cons (pv 3) pa_nil)))))))), ?_⟩
    obtain ⟨F, g, h, ra, ca, l, rest, x, rfl, hx, nt, fo, hk, tk, r0, ol, q⟩ := h
    obtain ⟨s', a, rfl⟩ : ∃ s a, x = .records s a := by cases x <;> first | exact ⟨_, _, rfl⟩ | cases hx
    have r0 : RdA K c H ra ca l ((s' : Int) :: (rowI a ++ rest)) := r0
    refine rdn rfl r0 fun H1 k1 r1 => rdr_ rfl r1 fun H2 b2 k2 r2 t2 => ?_
    have k := k1.trans k2
    exact ⟨_, rfl, _, rfl, _, rfl, F, g, h, s', b2, a, rfl, nt.kpR cok k r0, fo.kpR k r0, hk, t2, ol, ansR q k r2⟩
theorem ok_facts_call {f : Addr} {fd : FuncData} (F : Fun K "facts_call" "facts_call" s_facts_call f fd) (T : Txt K mg c) (cok : COk c) (d_Reader_number : MFn P w K mg base 1 c.crdr "number" ["self"] (sp_rdr_num K c)) (d_answer_facts : GFn P w K mg base 5 "answer_facts" ["net", "cache"] (sp_answer_facts P w c)) : FnOk P w K mg base CX0 16 f fd ["net", "reader"] (spC P w K c 13) := by
  refine F.ok sc_facts_call (fun vs H Q E h => ?_) (fun cdv A outer s H vs Q E hr h => ?_)
  · obtain ⟨F, g, h, ra, ca, l, rest, x, rfl, _⟩ := h
    rfl
  · refine ⟨_, (pss_cons (ps_set (i := 2) sc_facts_call.nd rfl (Or.inl rfl) (km0 (pv 1) d_Reader_number (hr.mono (by decide))))
      (pss_one (ps_ret (kg d_answer_facts (hr.mono (by decide)) (pa_cons (pv 0) (pa_cons (pv 2) pa_nil)))))), ?_⟩
    obtain ⟨F, g, h, ra, ca, l, rest, x, rfl, hx, nt, fo, hk, tk, r0, ol, q⟩ := h
    obtain ⟨u, rfl⟩ : ∃ a, x = .facts a := by cases x <;> first | exact ⟨_, rfl⟩ | cases hx
    have r0 : RdA K c H ra ca l ((u : Int) :: rest) := r0
    refine rdn rfl r0 fun H1 k1 r1 => ?_
    exact ⟨_, rfl, _, rfl, F, g, h, u, rfl, nt.kpR cok k1 r0, fo.kpR k1 r0, hk, ol, ansR q k1 r1⟩
theorem ok_flush_call {f : Addr} {fd : FuncData} (F : Fun K "flush_call" "flush_call" s_flush_call f fd) (T : Txt K mg c) (cok : COk c) (d_Reader_number : MFn P w K mg base 1 c.crdr "number" ["self"] (sp_rdr_num K c)) (d_answer_flush : GFn P w K mg base 3 "answer_flush" ["net", "cache"] (sp_answer_flush P w c)) : FnOk P w K mg base CX0 16 f fd ["net", "reader"] (spC P w K c 14) := by
  refine F.ok sc_flush_call (fun vs H Q E h => ?_) (fun cdv A outer s H vs Q E hr h => ?_)
  · obtain ⟨F, g, h, ra, ca, l, rest, x, rfl, _⟩ := h
    rfl
  · refine ⟨_, (pss_cons (ps_set (i := 2) sc_flush_call.nd rfl (Or.inl rfl) (km0 (pv 1) d_Reader_number (hr.mono (by decide))))
      (pss_one (ps_ret (kg d_answer_flush (hr.mono (by decide)) (pa_cons (pv 0) (pa_cons (pv 2) pa_nil)))))), ?_⟩
    obtain ⟨F, g, h, ra, ca, l, rest, x, rfl, hx, nt, fo, hk, tk, r0, ol, q⟩ := h
    obtain ⟨u, rfl⟩ : ∃ a, x = .flush a := by cases x <;> first | exact ⟨_, rfl⟩ | cases hx
    have r0 : RdA K c H ra ca l ((u : Int) :: rest) := r0
    refine rdn rfl r0 fun H1 k1 r1 => ?_
    exact ⟨_, rfl, _, rfl, F, g, h, u, rfl, nt.kpR cok k1 r0, fo.kpR k1 r0, hk, ansR q k1 r1⟩
end
end Nn


namespace Nn
open PySem PySem.Spec PyProof.Rows L2
section
variable {P : Program} {w : World} {K : PySem.W.Frag} {mg : Str → Option Value} {base : Heap} {c : Cs}
theorem RdA.len {H : Hp} {ra ca : Addr} {l rest : List Int} (h : RdA K c H ra ca l rest) : rest.length ≤ 16000 := by
  obtain ⟨i, _, _, h3, _, h5⟩ := h
  rw [← h3, List.length_drop]
  omega
theorem ok_begin_call {f : Addr} {fd : FuncData} (F : Fun K "begin_call" "begin_call" s_begin_call f fd) (T : Txt K mg c) (cok : COk c) (d_Reader_number : MFn P w K mg base 1 c.crdr "number" ["self"] (sp_rdr_num K c)) (d_Reader_row : MFn P w K mg base 2 c.crdr "row" ["self"] (sp_rdr_row K c)) (d_answer_begin : GFn P w K mg base 4 "answer_begin" ["net", "server_count", "cache_count", "roots"] (sp_answer_begin P w c)) : FnOk P w K mg base CX0 16 f fd ["net", "reader"] (spC P w K c 1) := by
  refine F.ok sc_begin_call (fun vs H Q E h => ?_) (fun cdv A outer s H vs Q E hr h => ?_)
  · obtain ⟨F, g, h, ra, ca, l, rest, x, rfl, _⟩ := h
    rfl
  · refine ⟨_, (pss_cons (ps_set (i := 2) sc_begin_call.nd rfl (Or.inl rfl) (km0 (pv 1) d_Reader_number (hr.mono (by decide))))
      (pss_cons (ps_set (i := 3) sc_begin_call.nd rfl (Or.inl rfl) (km0 (pv 1) d_Reader_number (hr.mono (by decide))))
      (pss_cons (ps_set (i := 4) sc_begin_call.nd rfl (Or.inl rfl) (km0 (pv 1) d_Reader_row (hr.mono (by decide))))
      (pss_one (ps_ret (kg d_answer_begin (hr.mono (by decide)) (pa_cons (pv 0) (pa_cons (pv 2) (pa_cons (pv 3) (pa_cons (pv 4) pa_nil)))))))))), ?_⟩
    obtain ⟨F, g, h, ra, ca, l, rest, x, rfl, hx, nt, fo, hk, tk, r0, ol, q⟩ := h
    obtain ⟨s', n, a, rfl⟩ : ∃ s n a, x = .begin_ s n a := by cases x <;> first | exact ⟨_, _, _, rfl⟩ | cases hx
    have r0 : RdA K c H ra ca l ((s' : Int) :: (n : Int) :: (rowI a ++ rest)) := r0
    have al : a.length < 100000 := by
      have := r0.len
      unfold rowI at this
      rw [List.length_cons, List.length_cons, List.length_append, List.length_cons, List.length_map] at this
      omega
    refine rdn rfl r0 fun H1 k1 r1 => rdn rfl r1 fun H2 k2 r2 => rdr_ rfl r2 fun H3 b3 k3 r3 t3 => ?_
    have k := (k1.trans k2).trans k3
    exact ⟨_, rfl, _, rfl, _, rfl, _, rfl, F, g, h, s', n, b3, a, rfl, nt.kpR cok k r0, fo.kpR k r0, t3, al, ansR q k r3⟩
theorem ok_query_call {f : Addr} {fd : FuncData} (F : Fun K "query_call" "query_call" s_query_call f fd) (T : Txt K mg c) (cok : COk c) (d_Reader_number : MFn P w K mg base 1 c.crdr "number" ["self"] (sp_rdr_num K c)) (d_Reader_row : MFn P w K mg base 2 c.crdr "row" ["self"] (sp_rdr_row K c)) (d_answer_query : GFn P w K mg base 13 "answer_query" ["net", "cache", "kind", "name"] (sp_answer_query P w c)) : FnOk P w K mg base CX0 16 f fd ["net", "reader"] (spC P w K c 10) := by
  refine F.ok sc_query_call (fun vs H Q E h => ?_) (fun cdv A outer s H vs Q E hr h => ?_)
  · obtain ⟨F, g, h, ra, ca, l, rest, x, rfl, _⟩ := h
    rfl
  · refine ⟨_, (pss_cons (ps_set (i := 2) sc_query_call.nd rfl (Or.inl rfl) (km0 (pv 1) d_Reader_number (hr.mono (by decide))))
      (pss_cons (ps_set (i := 3) sc_query_call.nd rfl (Or.inl rfl) (km0 (pv 1) d_Reader_number (hr.mono (by decide))))
      (pss_cons (ps_set (i := 4) sc_query_call.nd rfl (Or.inl rfl) (km0 (pv 1) d_Reader_row (hr.mono (by decide))))
      (pss_one (ps_ret (kg d_answer_query (hr.mono (by decide)) (pa_cons (pv 0) (pa_cons (pv 2) (pa_cons (pv 3) (pa_cons (pv 4) pa_nil)))))))))), ?_⟩
    obtain ⟨F, g, h, ra, ca, l, rest, x, rfl, hx, nt, fo, hk, tk, r0, ol, q⟩ := h
    obtain ⟨s', n, a, rfl⟩ : ∃ s n a, x = .query s n a := by cases x <;> first | exact ⟨_, _, _, rfl⟩ | cases hx
    have r0 : RdA K c H ra ca l ((s' : Int) :: (n : Int) :: (rowI a ++ rest)) := r0
    refine rdn rfl r0 fun H1 k1 r1 => rdn rfl r1 fun H2 k2 r2 => rdr_ rfl r2 fun H3 b3 k3 r3 t3 => ?_
    have k := (k1.trans k2).trans k3
    exact ⟨_, rfl, _, rfl, _, rfl, _, rfl, F, g, h, s', n, b3, a, rfl, nt.kpR cok k r0, fo.kpR k r0, hk, t3, ol, ansR q k r3⟩
theorem ok_ask_call {f : Addr} {fd : FuncData} (F : Fun K "ask_call" "ask_call" s_ask_call f fd) (T : Txt K mg c) (cok : COk c) (d_Reader_number : MFn P w K mg base 1 c.crdr "number" ["self"] (sp_rdr_num K c)) (d_Reader_row : MFn P w K mg base 2 c.crdr "row" ["self"] (sp_rdr_row K c)) (d_answer_ask : GFn P w K mg base 8 "answer_ask" ["net", "server", "kind", "name"] (sp_answer_ask P w c)) : FnOk P w K mg base CX0 16 f fd ["net", "reader"] (spC P w K c 11) := by
  refine F.ok sc_ask_call (fun vs H Q E h => ?_) (fun cdv A outer s H vs Q E hr h => ?_)
  · obtain ⟨F, g, h, ra, ca, l, rest, x, rfl, _⟩ := h
    rfl
  · refine ⟨_, (pss_cons (ps_set (i := 2) sc_ask_call.nd rfl (Or.inl rfl) (km0 (pv 1) d_Reader_number (hr.mono (by decide))))
      (pss_cons (ps_set (i := 3) sc_ask_call.nd rfl (Or.inl rfl) (km0 (pv 1) d_Reader_number (hr.mono (by decide))))
      (pss_cons (ps_set (i := 4) sc_ask_call.nd rfl (Or.inl rfl) (km0 (pv 1) d_Reader_row (hr.mono (by decide))))
      (pss_one (ps_ret (kg d_answer_ask (hr.mono (by decide)) (pa_cons (pv 0) (pa_cons (pv 2) (pa_cons (pv 3) (pa_cons (pv 4) pa_nil)))))))))), ?_⟩
    obtain ⟨F, g, h, ra, ca, l, rest, x, rfl, hx, nt, fo, hk, tk, r0, ol, q⟩ := h
    obtain ⟨s', n, a, rfl⟩ : ∃ s n a, x = .ask s n a := by cases x <;> first | exact ⟨_, _, _, rfl⟩ | cases hx
    have r0 : RdA K c H ra ca l ((s' : Int) :: (n : Int) :: (rowI a ++ rest)) := r0
    refine rdn rfl r0 fun H1 k1 r1 => rdn rfl r1 fun H2 k2 r2 => rdr_ rfl r2 fun H3 b3 k3 r3 t3 => ?_
    have k := (k1.trans k2).trans k3
    exact ⟨_, rfl, _, rfl, _, rfl, _, rfl, F, g, h, s', n, b3, a, rfl, nt.kpR cok k r0, fo.kpR k r0, hk, t3, ol, ansR q k r3⟩
def sp_next (P : Program) (w : World) (K : PySem.W.Frag) (c : Cs) : Sp := fun vs H Q _ => ∃ F g h ra ca l rest x, vs = [.ref g.n, .ref ra] ∧ NetA P w c F H g h ∧ FOk F H ∧ HOk h ∧ TOk h ∧ RdA K c H ra ca l ((numOf x : Int) :: (bodyOf x ++ rest)) ∧ (h.step x).2.out.length < 1000000 ∧ AnsX P w K c F H g ra ca l rest (h.step x) Q
theorem num_ok (x : Dn01.Call) : 1 ≤ numOf x ∧ numOf x ≤ 14 := by
  cases x <;> (dsimp only [numOf]; omega)
theorem ok_answer_next {f : Addr} {fd : FuncData} (F : Fun K "answer_next" "answer_next" s_answer_next f fd) (T : Txt K mg c) (cok : COk c) (d_Reader_number : MFn P w K mg base 1 c.crdr "number" ["self"] (sp_rdr_num K c)) {ta : Addr} {kvs : List (Int × Addr)} (tab : CallsAt K ta kvs) (hmc : mg "CALLS" = some (.ref ta)) (held : ∀ k : Nat, 1 ≤ k → k ≤ 14 → ∃ f, (kvs.find? fun p => decide (p.1 = (k : Int))).map (·.2) = some f ∧ Held P w K mg base 16 f (spC P w K c k)) : FnOk P w K mg base CX0 17 f fd ["net", "reader"] (sp_next P w K c) := by
  refine F.ok sc_answer_next (fun vs H Q E h => ?_) (fun cdv A outer s H vs Q E hr h => ?_)
  · obtain ⟨F, g, h, ra, ca, l, rest, x, rfl, _⟩ := h
    rfl
  · refine ⟨_, (pss_cons (ps_set (i := 2) sc_answer_next.nd rfl (Or.inl rfl) (kcalls tab hmc (km0 (pv 1) d_Reader_number (hr.mono (by decide))) (fun _ _ => rfl)))
      (pss_one (ps_ret (kcl (k := 16) (n := 2) (hr.mono (by decide)) (pa_cons (pv 0) (pa_cons (pv 1) pa_nil)))))), ?_⟩
    obtain ⟨F, g, h, ra, ca, l, rest, x, rfl, nt, fo, hk, tk, r0, ol, q⟩ := h
    obtain ⟨n1, n2⟩ := num_ok x
    obtain ⟨fa, ef, hf⟩ := held (numOf x) n1 n2
    obtain ⟨i0, ⟨dx0, g1⟩, g2⟩ := id r0
    refine ⟨_, rfl, ra, dx0, _, rfl, g1, no_rdr_number, ra, ca, l, _, _, rfl, r0, fun H1 k1 r1 => ⟨_, fa, rfl, rfl, ef, ?_⟩⟩
    refine ⟨fa, spC P w K c (numOf x), rfl, hf, _, rfl, _, rfl, F, g, h, ra, ca, l, rest, x, rfl, rfl, nt.kpR cok k1 r0, fo.kpR k1 r0, hk, tk, r1, ol, fun H' g' p f hp e net hl r => q H' g' p ((kpX k1).trans f) hp e net hl r⟩
end
end Nn


namespace Nn
open PySem PySem.Spec PyProof.Rows L2
def flatX (xs : List Dn01.Call) : List Int := xs.flatMap fun x => (numOf x : Int) :: bodyOf x
theorem flatX_cons (x : Dn01.Call) (xs : List Dn01.Call) : flatX (x :: xs) = (numOf x : Int) :: (bodyOf x ++ flatX xs) := by
  unfold flatX
  rw [List.flatMap_cons, List.cons_append]
def outI (o : Dn01.Out) : List Int := o.value :: o.out
def tellX : Dn01.House → List Dn01.Call → List Int
  | _, [] => []
  | h, x :: xs => ((outI (h.step x).2).length : Int) :: (outI (h.step x).2 ++ tellX (h.step x).1 xs)
def OkRun : Dn01.House → List Dn01.Call → Prop
  | _, [] => True
  | h, x :: xs => HOk h ∧ TOk h ∧ (h.step x).2.out.length < 1000000 ∧ OkRun (h.step x).1 xs
section
variable {P : Program} {w : World} {K : PySem.W.Frag} {mg : Str → Option Value} {base : Heap} {c : Cs}
theorem FrmX.mono {X Y : List Addr} {H H' : Hp} (f : FrmX c X H H') (s : ∀ x ∈ X, x ∈ Y) : FrmX c Y H H' := fun b o e k n => f b o e k fun m => n (s b m)
def sp_answers (K : PySem.W.Frag) : Sp := fun vs H Q _ => ∃ ca l xs, vs = [.ref ca] ∧ SqL K H ca (l.map V.int) ∧ l = flatX xs ∧ l.length ≤ 16000 ∧ OkRun Dn01.fresh xs ∧ (tellX Dn01.fresh xs).length < 4000000 ∧ ∀ H' p, H' p = some (.lst ((tellX Dn01.fresh xs).map V.int)) → Q (.ref p) H'
theorem ok_answers {f : Addr} {fd : FuncData} (F : Fun K "answers" "answers" s_answers f fd) (T : Txt K mg c) (cok : COk c) (d_Net_init : CFn P w K mg base 4 c.cnet "Net" ["self"] (sp_net_init P w c)) (d_Reader_init : CFn P w K mg base 1 c.crdr "Reader" ["self", "calls"] (spIni c.crdr 1 rdrI)) (d_Reader_is_done : MFn P w K mg base 1 c.crdr "is_done" ["self"] (sp_rdr_done K c)) (d_answer_next : GFn P w K mg base 17 "answer_next" ["net", "reader"] (sp_next P w K c)) : FnOk P w K mg base CX0 18 f fd ["calls"] (sp_answers K) := by
  refine F.ok sc_answers (fun vs H Q E h => ?_) (fun cdv A outer s H vs Q E hr h => ?_)
  · obtain ⟨ca, l, xs, rfl, _⟩ := h
    rfl
  · refine ⟨_, (pss_cons (ps_set (i := 1) sc_answers.nd rfl (Or.inl rfl) (kc0 d_Net_init (hr.mono (by decide))))
      (pss_cons (ps_set (i := 2) sc_answers.nd rfl (Or.inl rfl) (kc d_Reader_init (hr.mono (by decide)) (pa_cons (pv 0) pa_nil)))
      (pss_cons (ps_set (i := 3) sc_answers.nd rfl (Or.inl rfl) (pe_lst pa_nil))
      (pss_cons (ps_while PassesOwn.never (pt_not (pt_val (km0 (pv 2) d_Reader_is_done (hr.mono (by decide))))) (pss_cons (ps_set (i := 4) sc_answers.nd rfl (Or.inl rfl) (kg d_answer_next (hr.mono (by decide)) (pa_cons (pv 1) (pa_cons (pv 2) pa_nil))))
      (pss_cons (ps_expr (pe_bm PySem.F.plainAttrs_list PySem.F.slot_list_append PySem.F.type_list_append mt_append (pv 3) (pa_cons (pe_callB call_len_seq (by rfl) T.f_len PySem.boot_len (pa_cons (pv 4) pa_nil)) pa_nil)))
      (pss_one (ps_expr (pe_bm PySem.F.plainAttrs_list PySem.F.slot_list_extend PySem.F.type_list_extend mt_extend (pv 3) (pa_cons (pv 4) pa_nil)))))))
      (pss_one (ps_ret (pv 3))))))), ?_⟩
    obtain ⟨ca, l, xs, rfl, hS, el, ll, okr, tl, q⟩ := h
    have line : 5000000 < sizeLine := by decide
    refine fun n dn hn hdn ne => ⟨[], n, dn, rfl, upd_same, fun y m => (nomatch m), fun H1 g fr gn nt => ⟨rfl, ?_⟩⟩
    have s01 : Same H (upd (upd H dn (.own n)) n (.ins c.cnet dn [])) := fun b o e => by
      rw [upd_ne (ne_of_none e hn), upd_ne (ne_of_none e hdn)]
      exact e
    have fr01 : Frm c H H1 := (FrmX.same s01).trans fr
    refine ⟨_, rfl, fun ra dr0 hra hdr ner => ⟨ra, dr0, [.ref ca], rfl, rfl, upd_same, rfl, ?_⟩⟩
    obtain ⟨H2, eH2⟩ : ∃ H2, H2 = upd (upd (upd H1 dr0 (.own ra)) ra (.ins c.crdr dr0 [])) ra (.ins c.crdr dr0 (rdrI [.ref ca])) := ⟨_, rfl⟩
    refine abs_heap eH2 ?_
    have s12 : Same H1 H2 := by rw [eH2]; exact made_same hra hdr ner
    have hat : At c.crdr H2 ra (rdrF (.ref ca) (nv 0)) := by rw [eH2]; exact ⟨dr0, upd_same⟩
    have hS2 : SqL K H2 ca (l.map V.int) := sqFrm hS (fr01.trans (FrmX.same s12))
    obtain ⟨dr, hat'⟩ := id hat
    refine ⟨(by show 0 ≤ sizeLine; exact Nat.zero_le _), fun D hD => ?_⟩
    have s23 : Same H2 (upd H2 D (.lst [])) := Same.laid hD
    have nDr : ra ≠ D := fun z => by rw [z, hD] at hat'; cases hat'
    have caS : ∀ H', FrmX c [ra, D] H2 H' → SqL K H' ca (l.map V.int) := fun H' f => sqRd hS2 fun o e ho => f _ _ e (by rcases ho with rfl | ⟨ob, rfl⟩ <;> exact True.intro) fun m => by
      rcases List.mem_cons.mp m with m | m
      · rw [m, hat'] at e
        cases e
        rcases ho with ho | ⟨ob, ho⟩ <;> cases ho
      · rw [List.mem_singleton.mp m, hD] at e
        cases e
    refine ⟨fun m σ H' => ∃ xs' h' g' acc u, m = xs'.length ∧ σ = [some (.ref ca), some (.ref n), some (.ref ra), some (.ref D), u] ∧ g'.n = n ∧ NetA P w c [D] H' g' h' ∧ H' D = some (.lst (acc.map V.int)) ∧ RdA K c H' ra ca l (flatX xs') ∧ OkRun h' xs' ∧ acc ++ tellX h' xs' = tellX Dn01.fresh xs ∧ FrmX c [ra, D] H2 H',
      ⟨xs.length, xs, Dn01.fresh, g, [], none, rfl, rfl, gn, ((nt.same s12).add hD).same s23, upd_same, ⟨0, hat.same s23, caS _ (FrmX.same s23), el, Nat.zero_le _, ll⟩, okr, rfl, FrmX.same s23⟩, ?_⟩
    rintro m σ H3 ⟨xs', h', g', acc, u, rfl, rfl, gn', nt', hD', rd, ok', ea, frm⟩
    obtain ⟨i0, ⟨dx0, r1⟩, r2⟩ := id rd
    refine ⟨_, rfl, ra, dx0, _, rfl, r1, no_rdr_is_done, ra, ca, l, flatX xs', rfl, rd, _, rfl, ite_b (fun e1 => ?_) fun e1 => ?_⟩
    · match xs', ok', ea, rd, e1 with
      | [], _, _, _, e1 => exact absurd e1 (by decide)
      | x :: xs'', ok', ea, rd, e1 =>
        obtain ⟨o1, o2, o3, o4⟩ := ok'
        rw [flatX_cons] at rd
        have ea2 : (acc ++ ((outI (h'.step x).2).length : Int) :: outI (h'.step x).2) ++ tellX (h'.step x).1 xs'' = tellX Dn01.fresh xs := by
          rw [← ea, List.append_assoc]
          rfl
        have al : acc.length + 1 + (outI (h'.step x).2).length < 4000000 := by
          rw [← ea2, List.length_append, List.length_append, List.length_cons] at tl
          omega
        refine ⟨fun σ' H' => ∃ h' g' acc u, σ' = [some (.ref ca), some (.ref n), some (.ref ra), some (.ref D), u] ∧ g'.n = n ∧ NetA P w c [D] H' g' h' ∧ H' D = some (.lst (acc.map V.int)) ∧ RdA K c H' ra ca l (flatX xs'') ∧ OkRun h' xs'' ∧ acc ++ tellX h' xs'' = tellX Dn01.fresh xs ∧ FrmX c [ra, D] H2 H', fun σ' H' ⟨h', g', acc, u, q⟩ => ⟨xs''.length, by simp, xs'', h', g', acc, u, rfl, q⟩, ?_⟩
        refine ⟨_, rfl, _, rfl, [D], g', h', ra, ca, l, flatX xs'', x, by rw [gn'], nt', fun y m => ⟨acc.map V.int, by rw [List.mem_singleton.mp m]; exact hD'⟩, o1, o2, rd, o3, fun H4 g4 p f hp gn4 nt4 hl4 r4 => ?_⟩
        have hD4 : H4 D = some (.lst (acc.map V.int)) := f _ _ hD' True.intro (by simpa using Ne.symm nDr)
        have npD : p ≠ D := by simpa using hp
        refine ⟨_, rfl, .inl ⟨rfl, _, SqL.of hD4⟩, _, rfl, p, _, rfl, .inl (SqL.of hl4), D, _, _, rfl, rfl, hD4, by rw [List.length_map]; omega, ?_⟩
        refine ⟨_, rfl, .inl ⟨rfl, _, SqL.of upd_same⟩, _, rfl, D, p, _, _, rfl, rfl, upd_same, (upd_ne npD).trans hl4, ?_, ?_⟩
        · rw [List.length_append, List.length_map, List.length_singleton]
          show _ + (outV (h'.step x).2).length ≤ _
          have : (outV (h'.step x).2).length = (outI (h'.step x).2).length := by
            unfold outV outI
            rw [List.length_cons, List.length_cons, List.length_map]
          omega
        simp only [upd_upd]
        have ev : acc.map V.int ++ [V.int ((outV (h'.step x).2).length : Nat)] ++ outV (h'.step x).2 = (acc ++ ((outI (h'.step x).2).length : Int) :: outI (h'.step x).2).map V.int := by
          unfold outV outI
          simp
        rw [ev]
        have kp : Kp [D] H4 (upd H4 D (.lst ((acc ++ ((outI (h'.step x).2).length : Int) :: outI (h'.step x).2).map V.int))) := Kp.put (by simp)
        have f2 : FrmX c [ra, D] H2 (upd H4 D (.lst ((acc ++ ((outI (h'.step x).2).length : Int) :: outI (h'.step x).2).map V.int))) := (frm.trans (f.mono fun y m => by simp [List.mem_singleton.mp m])).trans fun b o e k nm => kp b o e (by simp at nm ⊢; exact nm.2)
        obtain ⟨i4, ⟨d4, q1⟩, q2, q3⟩ := r4
        exact ⟨(h'.step x).1, g4, _, _, rfl, gn4.trans gn', nt4.sea cok kp (fun y m => .inr ⟨m, acc.map V.int, by rw [List.mem_singleton.mp m]; exact hD4⟩), upd_same, ⟨i4, ⟨d4, (upd_ne nDr).trans q1⟩, caS _ f2, q3⟩, o4, ea2, f2⟩
    · match xs', ok', ea, e1 with
      | [], _, ea, _ =>
        have ea : acc ++ [] = tellX Dn01.fresh xs := ea
        rw [List.append_nil] at ea
        rw [ea] at hD'
        exact ⟨_, rfl, q H3 D hD'⟩
      | x :: xs'', _, _, e1 =>
        rw [flatX_cons] at e1
        exact absurd e1 (by simp)
end
end Nn


/-! What holds of every house that calls lead to: the mathematics of the specification's step. -/
namespace Nn
open Dn01 (House Server Held Zone Rec Fact Change)
def RecG (n : Nat) (r : Rec) : Prop := (r.sort = 3 → (∃ v, r.value = [v]) ∧ ∀ v ∈ r.value, v < n) ∧ (r.sort = 2 → r.value.length < 1000)
structure ZL (n made : Nat) (z : Zone) : Prop where
  len : z.recs.length ≤ 40
  recs : ∀ r ∈ z.recs, RecG n r
  win : Win z
  born : z.born < made
def Coh (x y : Zone) : Prop := x.born = y.born → ∀ l, y.since x.serial = some l → l.foldl Dn01.changed x.recs = y.recs
structure PR (i j : Nat) (x y : Held) : Prop where
  ag : Agree x.zone y.zone
  coh : Coh x.zone y.zone
  own : x.from_ = none → x.zone.born = y.zone.born → y.zone.serial ≤ x.zone.serial ∧ (y.from_ = none → i = j ∧ x.zone.apex = y.zone.apex)
def InH (h : House) (i : Nat) (z : Held) : Prop := ∃ s : Server, h.servers[i]? = some s ∧ z ∈ s.zones
structure Good (k : Nat) (h : House) : Prop where
  zl : ∀ i z, InH h i z → ZL h.servers.length h.made z.zone
  fr : ∀ i z, InH h i z → ∀ f, z.from_ = some f → f ≠ i ∧ f < h.servers.length
  pr : ∀ i j x y, InH h i x → InH h j y → PR i j x y
  aps : ∀ (i : Nat) (s : Server), h.servers[i]? = some s → (s.zones.map fun z => z.zone.apex).Nodup
  zn : ∀ (i : Nat) (s : Server), h.servers[i]? = some s → s.zones.length ≤ 1 + k
  roots : ∀ r ∈ h.roots, r < h.servers.length
  fg : ∀ fs : List Fact, fs ∈ h.caches → (∀ f ∈ fs, FGood h.servers.length f) ∧ fs.length ≤ 41 * k
theorem at_of_mem {α : Type} {l : List α} {a : α} (h : a ∈ l) : ∃ i : Nat, l[i]? = some a := by
  obtain ⟨i, hi, e⟩ := List.getElem_of_mem h
  exact ⟨i, by rw [← e]; exact List.getElem?_eq_getElem hi⟩
theorem Good.ok {k : Nat} {h : House} (g : Good k h) (hk : k ≤ 60) : HOk h ∧ TOk h := by
  have inh : ∀ s ∈ h.servers, ∀ z ∈ s.zones, ∃ i, h.servers[i]? = some s ∧ InH h i z := fun s ms z mz => by
    obtain ⟨i, e⟩ := at_of_mem ms
    exact ⟨i, e, s, e, mz⟩
  refine ⟨⟨⟨fun s ms => ?_, fun s ms z mz => ?_, g.roots⟩, fun s ms z mz f ef => ?_, fun s ms => ?_, fun s ms z mz => ?_, fun fs m => ⟨(g.fg fs m).1, by have := (g.fg fs m).2; omega⟩⟩, ⟨fun s ms z mz => ?_, fun i s e z mz f ef => g.fr i z ⟨s, e, mz⟩ f ef, fun s ms z mz => ?_, fun s ms t mt x mx y my => ?_⟩⟩
  · obtain ⟨i, e⟩ := at_of_mem ms
    exact g.aps i s e
  · obtain ⟨i, e, hi⟩ := inh s ms z mz
    have zl := g.zl i z hi
    exact ⟨⟨by have := zl.len; omega, fun r mr hr => ((zl.recs r mr).1 hr).1⟩, fun r mr hr => ((zl.recs r mr).1 hr).2, fun r mr hr => (zl.recs r mr).2 hr⟩
  · obtain ⟨i, e, hi⟩ := inh s ms z mz
    exact (g.fr i z hi f ef).2
  · obtain ⟨i, e⟩ := at_of_mem ms
    have := g.zn i s e
    omega
  · obtain ⟨i, e, hi⟩ := inh s ms z mz
    have := (g.zl i z hi).win.len
    omega
  · obtain ⟨i, e, hi⟩ := inh s ms z mz
    exact (g.zl i z hi).len
  · obtain ⟨i, e, hi⟩ := inh s ms z mz
    exact (g.zl i z hi).win
  · obtain ⟨i, e, hi⟩ := inh s ms x mx
    obtain ⟨j, e2, hj⟩ := inh t mt y my
    exact (g.pr i j x y hi hj).ag
theorem Good.mono {k : Nat} {h : House} (g : Good k h) : Good (k + 1) h :=
  ⟨g.zl, g.fr, g.pr, g.aps, fun i s e => by have := g.zn i s e; omega, g.roots, fun fs m => ⟨(g.fg fs m).1, by have := (g.fg fs m).2; omega⟩⟩
theorem Good.put {k : Nat} {h h' : House} {s : Nat} {x y : Server} {P : Held → Prop} {N : List Held} (g : Good k h) (ex : h.servers[s]? = some x) (es : h'.servers = h.servers.set s y) (er : h'.roots = h.roots) (ec : h'.caches = h.caches) (em : h.made ≤ h'.made)
    (hy : ∀ z ∈ y.zones, (z ∈ x.zones ∧ P z) ∨ z ∈ N) (hap : (y.zones.map fun z => z.zone.apex).Nodup) (hl : y.zones.length ≤ 2 + k)
    (n1 : ∀ z ∈ N, ZL h.servers.length h'.made z.zone ∧ (∀ f, z.from_ = some f → f ≠ s ∧ f < h.servers.length) ∧ (∀ z' ∈ N, PR s s z z') ∧ ∀ i w, InH h i w → (i = s → P w) → PR s i z w ∧ PR i s w z) : Good (k + 1) h' := by
  have len : h'.servers.length = h.servers.length := by rw [es, List.length_set]
  have inh : ∀ i z, InH h' i z → (InH h i z ∧ (i = s → P z)) ∨ (i = s ∧ z ∈ N) := by
    rintro i z ⟨t, e, m⟩
    rw [es] at e
    rcases set_cases e with ⟨rfl, rfl⟩ | ⟨hj, e⟩
    · rcases hy z m with ⟨m1, m2⟩ | m
      · exact .inl ⟨⟨x, ex, m1⟩, fun _ => m2⟩
      · exact .inr ⟨rfl, m⟩
    · exact .inl ⟨⟨t, e, m⟩, fun z => absurd z.symm hj⟩
  refine ⟨fun i z m => ?_, fun i z m f ef => ?_, fun i j a b ma mb => ?_, fun i t e => ?_, fun i t e => ?_, fun r m => ?_, fun fs m => ?_⟩
  · rw [len]
    rcases inh i z m with ⟨m, _⟩ | ⟨_, m⟩
    · obtain ⟨a1, a2, a3, a4⟩ := g.zl i z m
      exact ⟨a1, a2, a3, by omega⟩
    · exact (n1 z m).1
  · rw [len]
    rcases inh i z m with ⟨m, _⟩ | ⟨rfl, m⟩
    · exact g.fr i z m f ef
    · exact (n1 z m).2.1 f ef
  · rcases inh i a ma with ⟨ma1, pa⟩ | ⟨ei, na⟩
    · rcases inh j b mb with ⟨mb1, pb⟩ | ⟨ej, nb⟩
      · exact g.pr i j a b ma1 mb1
      · rw [ej]
        exact ((n1 b nb).2.2.2 i a ma1 pa).2
    · rcases inh j b mb with ⟨mb1, pb⟩ | ⟨ej, nb⟩
      · rw [ei]
        exact ((n1 a na).2.2.2 j b mb1 pb).1
      · rw [ei, ej]
        exact (n1 a na).2.2.1 b nb
  · rw [es] at e
    rcases set_cases e with ⟨rfl, rfl⟩ | ⟨hj, e⟩
    · exact hap
    · exact g.aps i t e
  · rw [es] at e
    rcases set_cases e with ⟨rfl, rfl⟩ | ⟨hj, e⟩
    · omega
    · have := g.zn i t e
      omega
  · rw [er] at m
    rw [len]
    exact g.roots r m
  · rw [ec] at m
    rw [len]
    exact ⟨(g.fg fs m).1, by have := (g.fg fs m).2; omega⟩
theorem Good.cac {k : Nat} {h h' : House} {i : Nat} {fs : List Fact} (g : Good k h) (es : h'.servers = h.servers) (er : h'.roots = h.roots) (ec : h'.caches = h.caches.set i fs) (em : h'.made = h.made) (hf : ∀ f ∈ fs, FGood h.servers.length f) (hl : fs.length ≤ 41 * (k + 1)) : Good (k + 1) h' := by
  obtain ⟨a1, a2, a3, a4, a5, a6, a7⟩ := g.mono
  refine ⟨?_, ?_, ?_, ?_, ?_, ?_, fun x m => ?_⟩
  · unfold InH
    rw [es, em]
    exact a1
  · unfold InH
    rw [es]
    exact a2
  · unfold InH
    rw [es]
    exact a3
  · rw [es]
    exact a4
  · rw [es]
    exact a5
  · rw [er, es]
    exact a6
  · rw [ec] at m
    rw [es]
    rcases List.mem_or_eq_of_mem_set m with m | rfl
    · exact a7 x m
    · exact ⟨hf, hl⟩
/-! ### changes -/
theorem win_change {z : Zone} (w : Win z) (c : Change) : Win (z.change c) := by
  have l1 := w.len
  have p1 := w.pos
  have ll : (z.change c).log.length = min 8 (z.log.length + 1) := by
    show ((z.log ++ [(z.serial + 1, c)]).drop (z.log.length + 1 - 8)).length = _
    rw [List.length_drop, List.length_append, List.length_singleton]
    omega
  refine ⟨fun i p e => ?_, ?_, ?_⟩
  · rw [ll]
    show p.1 = z.serial + 1 - _ + 1 + i
    have e : ((z.log ++ [(z.serial + 1, c)]).drop (z.log.length + 1 - 8))[i]? = some p := e
    rw [List.getElem?_drop, List.getElem?_append] at e
    split at e
    · have := w.num _ _ e
      omega
    · rename_i hi
      have hb : z.log.length + 1 - 8 + i - z.log.length < 1 := by
        have := at_lt e
        simpa using this
      have h0 : z.log.length + 1 - 8 + i - z.log.length = 0 := by omega
      rw [h0] at e
      cases e
      show z.serial + 1 = _
      omega
  · rw [ll]
    show _ = min 8 (z.serial + 1 - 1)
    omega
  · show 1 ≤ z.serial + 1
    omega
theorem Win.key {z : Zone} (w : Win z) {k : Nat} {c : Change} (m : (k, c) ∈ z.log) : k ≤ z.serial := by
  obtain ⟨i, e⟩ := at_of_mem m
  have := w.num i _ e
  have := at_lt e
  have := w.len
  have := w.pos
  dsimp only at *
  omega
theorem Win.fn {z : Zone} (w : Win z) {k : Nat} {c d : Change} (m1 : (k, c) ∈ z.log) (m2 : (k, d) ∈ z.log) : c = d := by
  obtain ⟨i, e1⟩ := at_of_mem m1
  obtain ⟨j, e2⟩ := at_of_mem m2
  have h1 := w.num i _ e1
  have h2 := w.num j _ e2
  dsimp only at h1 h2
  have : i = j := by omega
  subst this
  rw [e1] at e2
  cases e2
  rfl
theorem Win.agree {z : Zone} (w : Win z) : Agree z z := fun _ => ⟨rfl, fun k c d m1 m2 => w.fn m1 m2⟩
theorem Agree.symm {x y : Zone} (a : Agree x y) : Agree y x := fun e => ⟨(a e.symm).1.symm, fun k c d m1 m2 => ((a e.symm).2 k d c m2 m1).symm⟩
theorem since_gt {y : Zone} {k : Nat} (h : y.serial < k) : y.since k = none := by
  unfold Dn01.Zone.since
  dsimp only
  rw [if_neg (by omega)]
theorem Win.coh {z : Zone} (w : Win z) : Coh z z := fun _ l e => by
  rw [since_eq w (Nat.le_refl _), if_pos (by omega), Nat.sub_self, Nat.sub_zero] at e
  rw [List.drop_of_length_le (by rw [List.length_map]; exact Nat.le_refl _)] at e
  cases e
  rfl
theorem chg_since {z : Zone} (w : Win z) {c : Change} {k : Nat} (hk : k ≤ z.serial) {l : List Change} (e : (z.change c).since k = some l) : ∃ l0, z.since k = some l0 ∧ l = l0 ++ [c] := by
  have l1 := w.len
  have p1 := w.pos
  have ll : (z.change c).log.length = min 8 (z.log.length + 1) := by
    show ((z.log ++ [(z.serial + 1, c)]).drop (z.log.length + 1 - 8)).length = _
    rw [List.length_drop, List.length_append, List.length_singleton]
    omega
  have es : (z.change c).serial = z.serial + 1 := rfl
  rw [since_eq (win_change w c) (by rw [es]; omega), es, ll] at e
  by_cases h : z.serial + 1 - k ≤ min 8 (z.log.length + 1)
  · rw [if_pos h] at e
    refine ⟨_, (since_eq w hk).trans (if_pos (by omega)), ?_⟩
    have e := Option.some.inj e
    rw [← e]
    show (((z.log ++ [(z.serial + 1, c)]).drop (z.log.length + 1 - 8)).map (·.2)).drop _ = _
    rw [List.map_drop, List.drop_drop, List.map_append, show z.log.length + 1 - 8 + (min 8 (z.log.length + 1) - (z.serial + 1 - k)) = z.log.length - (z.serial - k) by omega, List.drop_append_of_le_length (by rw [List.length_map]; omega)]
    rfl
  · rw [if_neg h] at e
    cases e
theorem brought {x y : Zone} (c : Coh x y) : Dn01.broughtUp x y = y := by
  unfold Dn01.broughtUp
  by_cases hb : x.born ≠ y.born
  · rw [if_pos hb]
  · rw [if_neg hb]
    have hb : x.born = y.born := Decidable.not_not.mp hb
    cases e : y.since x.serial with
    | none => rfl
    | some l =>
      dsimp only
      rw [c hb l e]
end Nn

namespace Nn
open Dn01 (House Server Held Zone Rec Fact Change)
theorem Win.new {b n : Nat} {a : List Nat} : Win ⟨b, a, 1, n, [], []⟩ := ⟨fun i p e => (by cases e), rfl, Nat.le_refl _⟩
theorem PR.refl {s : Nat} {z : Held} (w : Win z.zone) : PR s s z z := ⟨w.agree, w.coh, fun _ _ => ⟨Nat.le_refl _, fun _ => ⟨rfl, rfl⟩⟩⟩
theorem good_fresh : Good 0 Dn01.fresh := by
  have inh : ∀ i z, InH Dn01.fresh i z → i = 0 ∧ z = ⟨⟨0, [], 1, 60, [], []⟩, none, 0, 0⟩ := by
    rintro i z ⟨s, e, m⟩
    match i, e with
    | 0, e =>
      cases e
      exact ⟨rfl, List.mem_singleton.mp m⟩
    | 1, e =>
      cases e
      cases m
    | i + 2, e => cases e
  refine ⟨fun i z m => ?_, fun i z m f ef => ?_, fun i j x y mx my => ?_, fun i s e => ?_, fun i s e => ?_, fun r m => ?_, fun fs m => ?_⟩
  · obtain ⟨_, rfl⟩ := inh i z m
    exact ⟨Nat.zero_le _, fun r m => (nomatch m), Win.new, Nat.zero_lt_one⟩
  · obtain ⟨_, rfl⟩ := inh i z m
    cases ef
  · obtain ⟨rfl, rfl⟩ := inh i x mx
    obtain ⟨rfl, rfl⟩ := inh j y my
    exact PR.refl Win.new
  · match i, e with
    | 0, e =>
      cases e
      simp
    | 1, e =>
      cases e
      simp
    | i + 2, e => cases e
  · match i, e with
    | 0, e =>
      cases e
      simp
    | 1, e =>
      cases e
      simp
    | i + 2, e => cases e
  · rw [List.mem_singleton.mp m]
    exact Nat.zero_lt_two
  · rw [List.mem_singleton.mp m]
    exact ⟨fun f m => (nomatch m), Nat.zero_le _⟩
theorem good_new {k s c : Nat} {r : List Nat} (hr : rootsB r s = true) : Good k (houseNew s c r) := by
  have inh : ∀ i z, ¬ InH (houseNew s c r) i z := by
    rintro i z ⟨t, e, m⟩
    have e : (List.replicate s (⟨true, []⟩ : Server))[i]? = some t := e
    rw [List.eq_of_mem_replicate (List.mem_of_getElem? e)] at m
    cases m
  have hz : ∀ (i : Nat) (t : Server), (houseNew s c r).servers[i]? = some t → t = ⟨true, []⟩ := fun i t e => by
    have e : (List.replicate s (⟨true, []⟩ : Server))[i]? = some t := e
    exact List.eq_of_mem_replicate (List.mem_of_getElem? e)
  refine ⟨fun i z m => absurd m (inh i z), fun i z m => absurd m (inh i z), fun i j x y m => absurd m (inh i x), fun i t e => ?_, fun i t e => ?_, fun x m => ?_, fun fs m => ?_⟩
  · rw [hz i t e]
    simp
  · rw [hz i t e]
    simp
  · show x < (List.replicate s (⟨true, []⟩ : Server)).length
    rw [List.length_replicate]
    unfold rootsB at hr
    rw [Bool.and_eq_true, Bool.and_eq_true, Bool.not_eq_true', Bool.not_eq_true', List.any_eq_false] at hr
    have := hr.2.2 x m
    simp at this
    exact this
  · rw [List.eq_of_mem_replicate (show fs ∈ List.replicate c ([] : List Fact) from m)]
    exact ⟨fun f m => (nomatch m), Nat.zero_le _⟩
theorem Good.onZ {k : Nat} {h : House} {s : Nat} {a : List Nat} {x : Server} {z : Held} {f : Held → Held} (g : Good k h) (ex : h.servers[s]? = some x) (ez : x.held a = some z) (ap : (f z).zone.apex = a)
    (n1 : ZL h.servers.length h.made (f z).zone) (n2 : ∀ o, (f z).from_ = some o → o ≠ s ∧ o < h.servers.length) (n3 : ∀ i w, InH h i w → (i = s → w.zone.apex ≠ a) → PR s i (f z) w ∧ PR i s w (f z)) : Good (k + 1) (h.onZone s a f) := by
  have u := g.aps s x ex
  obtain ⟨zm, za⟩ := held_mem ez
  obtain ⟨j, ej⟩ := find_at (show x.zones.find? (fun z => z.zone.apex == a) = some z from ez)
  rw [onZone_set ex u ej za]
  refine g.put (P := fun w => w.zone.apex ≠ a) (N := [f z]) ex rfl rfl rfl (Nat.le_refl _) (fun w m => ?_) ?_ ?_ fun w m => ?_
  · obtain ⟨i, e⟩ := at_of_mem m
    rcases set_cases e with ⟨_, rfl⟩ | ⟨hj, e⟩
    · exact .inr (List.mem_singleton.mpr rfl)
    · refine .inl ⟨List.mem_of_getElem? e, fun z1 => hj ?_⟩
      exact L2.nd_ix u (by rw [List.getElem?_map, ej]; rfl) (by rw [List.getElem?_map, e]; show some w.zone.apex = some z.zone.apex; rw [z1, za])
  · show ((x.zones.set j (f z)).map fun z => z.zone.apex).Nodup
    rw [map_set_same (f := fun z : Held => z.zone.apex) ej (by rw [ap, za])]
    exact u
  · show (x.zones.set j (f z)).length ≤ _
    rw [List.length_set]
    have := g.zn s x ex
    omega
  · rw [List.mem_singleton.mp m]
    exact ⟨n1, n2, fun w' m' => by rw [List.mem_singleton.mp m']; exact PR.refl n1.win, n3⟩
theorem Good.chg {k : Nat} {h : House} {s : Nat} {a : List Nat} {x : Server} {z : Held} {c : Change} (g : Good k h) (ex : h.servers[s]? = some x) (ez : x.held a = some z) (ef : z.from_ = none)
    (hl : (Dn01.changed z.zone.recs c).length ≤ 40) (hr : ∀ r ∈ Dn01.changed z.zone.recs c, RecG h.servers.length r) : Good (k + 1) (h.onZone s a fun z => { z with zone := z.zone.change c }) := by
  obtain ⟨zm, za⟩ := held_mem ez
  have iz : InH h s z := ⟨x, ex, zm⟩
  have zl := g.zl s z iz
  refine g.onZ (f := fun z => { z with zone := z.zone.change c }) ex ez za ⟨hl, hr, win_change zl.win c, zl.born⟩ (fun o e => by rw [show ({ z with zone := z.zone.change c } : Held).from_ = z.from_ from rfl, ef] at e; cases e) fun i w iw hw => ?_
  have p1 := g.pr s i z w iz iw
  have p2 := g.pr i s w z iw iz
  have ww := (g.zl i w iw).win
  have ag : Agree (z.zone.change c) w.zone := fun e => by
    refine ⟨(p1.ag e).1, fun kk d1 d2 m1 m2 => ?_⟩
    have ser := (p1.own ef e).1
    have m1 : (kk, d1) ∈ (z.zone.log ++ [(z.zone.serial + 1, c)]).drop (z.zone.log.length + 1 - Dn01.LOG) := m1
    rcases List.mem_append.mp (List.mem_of_mem_drop m1) with m1 | m1
    · exact (p1.ag e).2 kk d1 d2 m1 m2
    · cases List.mem_singleton.mp m1
      have := ww.key m2
      omega
  refine ⟨⟨ag, fun e l el => ?_, fun _ e => ?_⟩, ⟨ag.symm, fun e l el => ?_, fun e1 e2 => ?_⟩⟩
  · have ser := (p1.own ef e).1
    rw [since_gt (show w.zone.serial < (z.zone.change c).serial from Nat.lt_succ_of_le ser)] at el
    cases el
  · obtain ⟨q1, q2⟩ := p1.own ef e
    exact ⟨Nat.le_succ_of_le q1, q2⟩
  · have ser := (p1.own ef e.symm).1
    obtain ⟨l0, h1, h2⟩ := chg_since zl.win ser el
    rw [h2, List.foldl_append, p2.coh e l0 h1]
    rfl
  · obtain ⟨q1, q2⟩ := p2.own e1 e2
    obtain ⟨q3, q4⟩ := q2 ef
    exact absurd (q4.trans za) (hw q3)
end Nn

namespace Nn
open Dn01 (House Server Held Zone Rec Fact Change)
theorem contM_ok {h : House} (fit : HFit h) {k : Nat} (hk : k = 1 ∨ k = 2) : ∀ (j : Nat) (fs : List Fact) (a g : Nat) (ns : List (List Nat)) (o : Option Dn01.What), (∀ x ∈ fs, FGood h.servers.length x) → a ≤ 40 →
    (∀ x ∈ (contM h k j fs a g ns o).1, FGood h.servers.length x) ∧ a ≤ (contM h k j fs a g ns o).2.1 ∧ (contM h k j fs a g ns o).2.1 ≤ 40 ∧ (contM h k j fs a g ns o).1.length + a ≤ fs.length + (contM h k j fs a g ns o).2.1
  | 0, fs, a, g, ns, o, hf, ha => ⟨hf, Nat.le_refl _, ha, Nat.le_refl _⟩
  | j + 1, fs, a, g, ns, o, hf, ha => by
    have triv : (∀ x ∈ fs, FGood h.servers.length x) ∧ a ≤ a ∧ a ≤ 40 ∧ fs.length + a ≤ fs.length + a := ⟨hf, Nat.le_refl _, ha, Nat.le_refl _⟩
    match o with
    | none => exact triv
    | some (.data vs) => exact triv
    | some .nothing => exact triv
    | some .never => exact triv
    | some (.cut s) => exact triv
    | some (.alias m) =>
      unfold contM
      dsimp only
      split
      · exact triv
      · split
        · exact triv
        · obtain ⟨b1, b2, b3, b4, _⟩ := toldM_ok fit hk m fs a g hf
          obtain ⟨c1, c2, c3, c4⟩ := contM_ok fit hk j (toldM h k m fs a g).1 (toldM h k m fs a g).2.1 (toldM h k m fs a g).2.2.1 (ns ++ [m]) (toldM h k m fs a g).2.2.2 b1 (by omega)
          exact ⟨c1, by omega, c3, by omega⟩
theorem changed_mem {l : List Rec} {c : Change} {r : Rec} (m : r ∈ Dn01.changed l c) : r ∈ l ∨ (c.put = true ∧ r = c.rec_) := by
  unfold Dn01.changed at m
  split at m
  · rename_i hp
    rcases List.mem_append.mp m with m | m
    · exact .inl (List.mem_filter.mp m).1
    · exact .inr ⟨hp, List.mem_singleton.mp m⟩
  · exact .inl (List.mem_filter.mp m).1
theorem changed_len (l : List Rec) (c : Change) : (Dn01.changed l c).length ≤ l.length + 1 ∧ (c.put = false → (Dn01.changed l c).length ≤ l.length) := by
  unfold Dn01.changed
  have := List.length_filter_le (fun r : Rec => !(r.name == c.rec_.name && (r.sort == c.rec_.sort && r.value == c.rec_.value))) l
  split
  · rename_i hp
    rw [List.length_append, List.length_singleton]
    exact ⟨by omega, fun z => by rw [hp] at z; cases z⟩
  · exact ⟨by omega, fun _ => this⟩
theorem recOk_good {n : Nat} {a : List Nat} {r : Rec} (h : recOk n a r = true) : RecG n r := by
  unfold recOk at h
  rw [Bool.and_eq_true, Bool.and_eq_true, Bool.and_eq_true] at h
  have hv := h.2.2.2
  refine ⟨fun e => ?_, fun e => ?_⟩
  · rw [e] at hv
    have hv : (decide (r.value.length = 1) && r.value.all fun x => decide (x < n)) = true := hv
    rw [Bool.and_eq_true] at hv
    obtain ⟨v, ev⟩ := List.length_eq_one_iff.mp (of_decide_eq_true hv.1)
    exact ⟨⟨v, ev⟩, fun x m => of_decide_eq_true (List.all_eq_true.mp hv.2 x m)⟩
  · rw [e] at hv
    have hv : Dn01.isName r.value = true := hv
    unfold Dn01.isName Dn01.DEEP at hv
    rw [Bool.and_eq_true] at hv
    have := of_decide_eq_true hv.1
    omega
theorem nodup_snoc {l : List Held} {z : Held} (u : (l.map fun z => z.zone.apex).Nodup) (n : ∀ w ∈ l, w.zone.apex ≠ z.zone.apex) : ((l ++ [z]).map fun z => z.zone.apex).Nodup := by
  rw [List.map_append, List.nodup_append]
  refine ⟨u, by simp, fun a ma b mb => ?_⟩
  obtain ⟨w, mw, rfl⟩ := List.mem_map.mp ma
  rw [List.mem_singleton.mp mb]
  exact n w mw
theorem held_none {x : Server} {a : List Nat} (e : x.held a = none) : ∀ w ∈ x.zones, w.zone.apex ≠ a := fun w m z => by
  have := List.find?_eq_none.mp e w m
  exact this (by simpa using z)
theorem Good.step {k : Nat} {h : House} (g : Good k h) (x : Dn01.Call) : Good (k + 1) (h.step x).1 := by
  by_cases hb : (h.step x).1 = h
  · rw [hb]
    exact g.mono
  cases x with
  | begin_ s c r =>
    rw [step_begin]
    split
    · rename_i hc
      exact good_new hc.2.2
    · exact g.mono
  | zone s neg a =>
    cases ex : h.servers[s]? with
    | none => exact absurd (by simp only [Dn01.House.step, ex]) hb
    | some x =>
      by_cases c1 : Dn01.isName a = false ∨ Dn01.LIFE < neg
      · exact absurd (by simp only [Dn01.House.step, ex, if_pos c1]) hb
      by_cases c2 : (x.held a).isSome = true
      · exact absurd (by simp only [Dn01.House.step, ex, if_neg c1, if_pos c2]) hb
      have e4 : x.held a = none := by simpa using c2
      have es : (h.step (.zone s neg a)).1 = { h with servers := h.servers.set s { x with zones := x.zones ++ [heldNew h neg a] }, made := h.made + 1 } := by
        simp only [Dn01.House.step, ex, if_neg c1, if_neg c2, Dn01.House.onServer, modify_set ex]
        rfl
      rw [es]
      have nb : ∀ i w, InH h i w → w.zone.born ≠ h.made := fun i w iw => by
        have := (g.zl i w iw).born
        omega
      refine g.put (P := fun _ => True) (N := [heldNew h neg a]) ex rfl rfl rfl (Nat.le_succ _) (fun w m => ?_) (nodup_snoc (g.aps s x ex) (held_none e4)) ?_ fun w m => ?_
      · rcases List.mem_append.mp m with m | m
        · exact .inl ⟨m, trivial⟩
        · exact .inr m
      · show (x.zones ++ [heldNew h neg a]).length ≤ _
        rw [List.length_append, List.length_singleton]
        have := g.zn s x ex
        omega
      · rw [List.mem_singleton.mp m]
        refine ⟨⟨Nat.zero_le _, fun r m => (nomatch m), Win.new, Nat.lt_succ_self _⟩, fun o e => (by cases e), fun w' m' => by rw [List.mem_singleton.mp m']; exact PR.refl Win.new, fun i w iw _ => ⟨⟨fun e => absurd e.symm (nb i w iw), fun e => absurd e.symm (nb i w iw), fun _ e => absurd e.symm (nb i w iw)⟩, ⟨fun e => absurd e (nb i w iw), fun e => absurd e (nb i w iw), fun _ e => absurd e (nb i w iw)⟩⟩⟩
  | copy s f gd a =>
    cases ex : h.servers[s]? with
    | none => exact absurd (by simp only [Dn01.House.step, ex]) hb
    | some x =>
      cases ey : h.servers[f]? with
      | none => exact absurd (by simp only [Dn01.House.step, Dn01.House.ofZone, ex, ey]) hb
      | some y =>
        cases ez : y.held a with
        | none => exact absurd (by simp only [Dn01.House.step, Dn01.House.ofZone, ex, ey, ez]) hb
        | some z =>
          by_cases c1 : Dn01.LIFE < gd
          · exact absurd (by simp only [Dn01.House.step, Dn01.House.ofZone, ex, ey, ez, if_pos c1]) hb
          by_cases c2 : (x.held a).isSome = true
          · exact absurd (by simp only [Dn01.House.step, Dn01.House.ofZone, ex, ey, ez, if_neg c1, if_pos c2]) hb
          by_cases c3 : (h.server f).up = false ∨ z.isGood h.now = false
          · exact absurd (by simp only [Dn01.House.step, Dn01.House.ofZone, ex, ey, ez, if_neg c1, if_neg c2, if_pos c3]) hb
          have e4 : x.held a = none := by simpa using c2
          obtain ⟨zm, za⟩ := held_mem ez
          have es : (h.step (.copy s f gd a)).1 = { h with servers := h.servers.set s { x with zones := x.zones ++ [copied h f gd z] } } := by
            simp only [Dn01.House.step, Dn01.House.ofZone, ex, ey, ez, if_neg c1, if_neg c2, if_neg c3, Dn01.House.onServer, modify_set ex]
            rfl
          rw [es]
          have iz : InH h f z := ⟨y, ey, zm⟩
          have hfs : f ≠ s := fun e => by
            rw [e, ex] at ey
            cases ey
            rw [e4] at ez
            cases ez
          refine g.put (P := fun _ => True) (N := [copied h f gd z]) ex rfl rfl rfl (Nat.le_refl _) (fun w m => ?_) (nodup_snoc (g.aps s x ex) (by rw [show (copied h f gd z).zone.apex = a from za]; exact held_none e4)) ?_ fun w m => ?_
          · rcases List.mem_append.mp m with m | m
            · exact .inl ⟨m, trivial⟩
            · exact .inr m
          · show (x.zones ++ [copied h f gd z]).length ≤ _
            rw [List.length_append, List.length_singleton]
            have := g.zn s x ex
            omega
          · rw [List.mem_singleton.mp m]
            refine ⟨g.zl f z iz, fun o e => by cases e; exact ⟨hfs, at_lt ey⟩, fun w' m' => by rw [List.mem_singleton.mp m']; exact PR.refl (g.zl f z iz).win, fun i w iw _ => ⟨⟨(g.pr f i z w iz iw).ag, (g.pr f i z w iz iw).coh, fun e => by cases e⟩, ⟨(g.pr i f w z iw iz).ag, (g.pr i f w z iw iz).coh, fun e1 e2 => ⟨((g.pr i f w z iw iz).own e1 e2).1, fun e => by cases e⟩⟩⟩⟩
  | drop s a =>
    cases ex : h.servers[s]? with
    | none => exact absurd (by simp only [Dn01.House.step, Dn01.House.ofZone, ex]) hb
    | some x =>
      cases ez : x.held a with
      | none => exact absurd (by simp only [Dn01.House.step, Dn01.House.ofZone, ex, ez]) hb
      | some z =>
        have es : (h.step (.drop s a)).1 = { h with servers := h.servers.set s { x with zones := x.zones.filter fun z => z.zone.apex != a } } := by
          simp only [Dn01.House.step, Dn01.House.ofZone, ex, ez, Dn01.House.onServer, modify_set ex]
        rw [es]
        refine g.put (P := fun _ => True) (N := []) ex rfl rfl rfl (Nat.le_refl _) (fun w m => .inl ⟨(List.mem_filter.mp m).1, trivial⟩) ?_ ?_ fun w m => nomatch m
        · exact (g.aps s x ex).sublist (List.filter_sublist.map _)
        · have := g.zn s x ex
          have := List.length_filter_le (fun z : Held => z.zone.apex != a) x.zones
          show (x.zones.filter fun z => z.zone.apex != a).length ≤ _
          omega
  | add s kk sort life a n v =>
    cases ex : h.servers[s]? with
    | none => exact absurd (by simp only [Dn01.House.step, Dn01.House.ofZone, ex]) hb
    | some x =>
      cases ez : x.held a with
      | none => exact absurd (by simp only [Dn01.House.step, Dn01.House.ofZone, ex, ez]) hb
      | some z =>
        cases ef : z.from_ with
        | some o => exact absurd (by simp only [Dn01.House.step, Dn01.House.ofZone, ex, ez, ef, Option.isSome_some, if_true]) hb
        | none =>
          obtain ⟨t1, t2⟩ := step_add (k := kk) (sort := sort) (life := life) (n := n) (v := v) ex ez ef
          have hr : refR h.servers.length kk z.zone ⟨n, sort, v, life⟩ = 0 ∧ z.zone.recs.length < 40 := by
            have neg : ¬ refR h.servers.length kk z.zone ⟨n, sort, v, life⟩ < 0 := fun e => hb (by rw [t1 _ rfl e])
            unfold refR at neg ⊢
            split at neg
            · exact absurd (by decide) neg
            split at neg
            · exact absurd (by decide) neg
            split at neg
            · exact absurd (by decide) neg
            split at neg
            · exact absurd (by decide) neg
            rename_i q1 q2 q3 q4
            rw [if_neg q1, if_neg q2, if_neg q3, if_neg q4]
            exact ⟨rfl, by omega⟩
          obtain ⟨es, hok⟩ := t2 hr.1
          rw [es]
          have iz : InH h s z := ⟨x, ex, (held_mem ez).1⟩
          refine g.chg ex ez ef ?_ fun r m => ?_
          · have := (changed_len z.zone.recs ⟨true, ⟨n, sort, v, life⟩⟩).1
            omega
          · rcases changed_mem m with m | ⟨_, rfl⟩
            · exact (g.zl s z iz).recs r m
            · exact recOk_good hok
  | remove s kk sort a n v =>
    cases ex : h.servers[s]? with
    | none => exact absurd (by simp only [Dn01.House.step, Dn01.House.ofZone, ex]) hb
    | some x =>
      cases ez : x.held a with
      | none => exact absurd (by simp only [Dn01.House.step, Dn01.House.ofZone, ex, ez]) hb
      | some z =>
        cases ef : z.from_ with
        | some o => exact absurd (by simp only [Dn01.House.step, Dn01.House.ofZone, ex, ez, ef, Option.isSome_some, if_true]) hb
        | none =>
          by_cases c1 : kk ≠ 0 ∧ kk ≠ z.zone.serial
          · exact absurd (by simp only [Dn01.House.step, Dn01.House.ofZone, ex, ez, ef, Option.isSome_none, Bool.false_eq_true, if_false, if_pos c1]) hb
          cases er : z.zone.recs.find? (fun r => r.name == n && (r.sort == sort && r.value == v)) with
          | none => exact absurd (by simp only [Dn01.House.step, Dn01.House.ofZone, ex, ez, ef, Option.isSome_none, Bool.false_eq_true, if_false, if_neg c1, er]) hb
          | some r =>
            have es : (h.step (.remove s kk sort a n v)).1 = h.onZone s a fun z => { z with zone := z.zone.change ⟨false, r⟩ } := by
              simp only [Dn01.House.step, Dn01.House.ofZone, ex, ez, ef, Option.isSome_none, Bool.false_eq_true, if_false, if_neg c1, er]
            rw [es]
            have iz : InH h s z := ⟨x, ex, (held_mem ez).1⟩
            refine g.chg ex ez ef ?_ fun r' m => ?_
            · have := (changed_len z.zone.recs ⟨false, r⟩).2 rfl
              have := (g.zl s z iz).len
              omega
            · rcases changed_mem m with m | ⟨e, _⟩
              · exact (g.zl s z iz).recs r' m
              · cases e
  | transfer s a =>
    cases ex : h.servers[s]? with
    | none => exact absurd (by simp only [Dn01.House.step, Dn01.House.ofZone, ex]) hb
    | some x =>
      cases ez : x.held a with
      | none => exact absurd (by simp only [Dn01.House.step, Dn01.House.ofZone, ex, ez]) hb
      | some z =>
        cases ef : z.from_ with
        | none => exact absurd (by simp only [Dn01.House.step, Dn01.House.ofZone, ex, ez, ef]) hb
        | some f =>
          cases ey : (h.server f).held a with
          | none => exact absurd (by simp only [Dn01.House.step, Dn01.House.ofZone, ex, ez, ef, ey]) hb
          | some y =>
            by_cases c1 : (h.server s).up = false ∨ (h.server f).up = false ∨ y.isGood h.now = false
            · exact absurd (by simp only [Dn01.House.step, Dn01.House.ofZone, ex, ez, ef, ey, if_pos c1]) hb
            by_cases c2 : Dn01.older y.zone z.zone = true
            · exact absurd (by simp only [Dn01.House.step, Dn01.House.ofZone, ex, ez, ef, ey, if_neg c1, if_pos c2]) hb
            have iz : InH h s z := ⟨x, ex, (held_mem ez).1⟩
            obtain ⟨ym, ya⟩ := held_mem ey
            have hf := g.fr s z iz f ef
            have iy : InH h f y := ⟨h.server f, by unfold Dn01.House.server; rw [List.getElem?_eq_getElem hf.2]; rfl, ym⟩
            have es : (h.step (.transfer s a)).1 = h.onZone s a fun z => { z with zone := Dn01.broughtUp z.zone y.zone, since := if y.from_.isNone = true then h.now else y.since } := by
              simp only [Dn01.House.step, Dn01.House.ofZone, ex, ez, ef, ey, if_neg c1, if_neg c2]
              split
              · rfl
              · cases y.zone.since z.zone.serial <;> rfl
            rw [es]
            have eb : Dn01.broughtUp z.zone y.zone = y.zone := brought (g.pr s f z y iz iy).coh
            refine g.onZ (f := fun z => { z with zone := Dn01.broughtUp z.zone y.zone, since := if y.from_.isNone = true then h.now else y.since }) ex ez ?_ ?_ (fun o e => ?_) fun i w iw _ => ?_
            · dsimp only
              rw [eb, ya]
            · dsimp only
              rw [eb]
              exact g.zl f y iy
            · exact g.fr s z iz o e
            · have p1 := g.pr f i y w iy iw
              have p2 := g.pr i f w y iw iy
              refine ⟨⟨?_, ?_, fun e => ?_⟩, ⟨?_, ?_, fun e1 e2 => ?_⟩⟩
              · dsimp only
                rw [eb]
                exact p1.ag
              · dsimp only
                rw [eb]
                exact p1.coh
              · have e : z.from_ = none := e
                rw [ef] at e
                cases e
              · dsimp only
                rw [eb]
                exact p2.ag
              · dsimp only
                rw [eb]
                exact p2.coh
              · dsimp only at e2 ⊢
                rw [eb] at e2 ⊢
                refine ⟨(p2.own e1 e2).1, fun e => ?_⟩
                rw [ef] at e
                cases e
  | set_ s u =>
    cases ex : h.servers[s]? with
    | none => exact absurd (by simp only [Dn01.House.step, ex]) hb
    | some x =>
      by_cases c1 : 1 < u
      · exact absurd (by simp only [Dn01.House.step, ex, if_pos c1]) hb
      by_cases c2 : x.up = (u == 1)
      · exact absurd (by simp only [Dn01.House.step, ex, if_neg c1, if_pos c2]) hb
      have es : (h.step (.set_ s u)).1 = { h with servers := h.servers.set s { x with up := u == 1 } } := by
        simp only [Dn01.House.step, ex, if_neg c1, if_neg c2, Dn01.House.onServer, modify_set ex]
      rw [es]
      refine g.put (P := fun _ => True) (N := []) ex rfl rfl rfl (Nat.le_refl _) (fun w m => .inl ⟨m, trivial⟩) (g.aps s x ex) ?_ fun w m => nomatch m
      have := g.zn s x ex
      show x.zones.length ≤ _
      omega
  | pass n =>
    by_cases c1 : n = 0 ∨ Dn01.LIFE < n
    · exact absurd (by simp only [Dn01.House.step, if_pos c1]) hb
    · have es : (h.step (.pass n)).1 = { h with now := h.now + n } := by simp only [Dn01.House.step, if_neg c1]
      rw [es]
      obtain ⟨a1, a2, a3, a4, a5, a6, a7⟩ := g.mono
      exact ⟨a1, a2, a3, a4, a5, a6, a7⟩
  | query c s n =>
    cases ex : h.caches[c]? with
    | none => exact absurd (by simp only [Dn01.House.step, ex]) hb
    | some fs =>
      by_cases c1 : s = 0 ∨ 2 < s ∨ Dn01.isName n = false
      · exact absurd (by simp only [Dn01.House.step, ex, if_pos c1]) hb
      have es : (h.step (.query c s n)).1 = { h with caches := h.caches.set c (h.query fs n s).1 } := by simp only [Dn01.House.step, ex, if_neg c1]
      rw [es]
      obtain ⟨f1, f2⟩ := g.fg fs (List.mem_of_getElem? ex)
      have fit : HFit h := by
        refine ⟨fun t mt => ?_, fun t mt z mz => ?_, g.roots⟩
        · obtain ⟨i, e⟩ := at_of_mem mt
          exact g.aps i t e
        · obtain ⟨i, e⟩ := at_of_mem mt
          have zl := g.zl i z ⟨t, e, mz⟩
          exact ⟨⟨by have := zl.len; omega, fun r mr hr => ((zl.recs r mr).1 hr).1⟩, fun r mr hr => ((zl.recs r mr).1 hr).2, fun r mr hr => (zl.recs r mr).2 hr⟩
      have hs : s = 1 ∨ s = 2 := by omega
      obtain ⟨b1, b2, b3, b4, _⟩ := toldM_ok fit hs n fs 0 1000000000 f1
      obtain ⟨d1, d2, d3, d4⟩ := contM_ok fit hs 7 (toldM h s n fs 0 1000000000).1 (toldM h s n fs 0 1000000000).2.1 (toldM h s n fs 0 1000000000).2.2.1 [] (toldM h s n fs 0 1000000000).2.2.2 b1 (by omega)
      rw [query_eq fit hs n f1]
      exact g.cac rfl rfl rfl rfl d1 (by show (contM h s 7 (toldM h s n fs 0 1000000000).1 (toldM h s n fs 0 1000000000).2.1 (toldM h s n fs 0 1000000000).2.2.1 [] (toldM h s n fs 0 1000000000).2.2.2).1.length ≤ _; omega)
  | ask x s n =>
    cases ex : h.servers[x]? with
    | none => exact absurd (by simp only [Dn01.House.step, ex]) hb
    | some y =>
      refine absurd ?_ hb
      simp only [Dn01.House.step, ex]
      split
      · rfl
      · split <;> rfl
  | records s a =>
    cases ex : h.servers[s]? with
    | none => exact absurd (by simp only [Dn01.House.step, Dn01.House.ofZone, ex]) hb
    | some x =>
      cases ez : x.held a with
      | none => exact absurd (by simp only [Dn01.House.step, Dn01.House.ofZone, ex, ez]) hb
      | some z => exact absurd (by simp only [Dn01.House.step, Dn01.House.ofZone, ex, ez]) hb
  | facts c =>
    cases ex : h.caches[c]? with
    | none => exact absurd (by simp only [Dn01.House.step, ex]) hb
    | some fs => exact absurd (by simp only [Dn01.House.step, ex]) hb
  | flush c =>
    cases ex : h.caches[c]? with
    | none => exact absurd (by simp only [Dn01.House.step, ex]) hb
    | some fs =>
      have es : (h.step (.flush c)).1 = { h with caches := h.caches.set c [] } := by simp only [Dn01.House.step, ex]
      rw [es]
      exact g.cac rfl rfl rfl rfl (fun f m => nomatch m) (Nat.zero_le _)
end Nn

/-! The flat list of numbers and the calls that it tells. -/
namespace Nn
open Dn01 (House)
theorem whole_id (c : List (List Int)) : PyDn01.whole c = c := by
  unfold PyDn01.whole
  split <;> rfl
theorem nat_cast {z : Int} (h : Dn01Neutral.natural z 64 = true) : ((z.toNat : Nat) : Int) = z := by
  unfold Dn01Neutral.natural at h
  rw [Bool.and_eq_true] at h
  exact Int.toNat_of_nonneg (of_decide_eq_true h.1)
theorem row_cast {r : List Int} (h : Dn01Neutral.long (fun (z : Int) => Dn01Neutral.natural z 64) r = true) : rowI (r.map fun z => z.toNat) = PyFlat.putRow r := by
  unfold Dn01Neutral.long at h
  rw [Bool.and_eq_true] at h
  have h := List.all_eq_true.mp h.2
  unfold rowI PyFlat.putRow
  rw [List.length_map, List.map_map]
  congr 1
  refine (List.map_congr_left fun z m => ?_).trans (List.map_id r)
  exact nat_cast (h z m)
theorem call_of {c : List (List Int)} (h : Dn01Neutral.asked1 c = true) : ∃ x, Dn01Neutral.callOf c = some x ∧ PyFlat.put1 c = (numOf x : Int) :: bodyOf x := by
  unfold Dn01Neutral.asked1 at h
  split at h
  case h_15 => cases h
  all_goals
    try simp only [Bool.and_eq_true] at h
    refine ⟨_, rfl, ?_⟩
    simp only [bodyOf, numOf, PyFlat.put1, PyFlat.putRows, List.append_nil]
  case h_1 => rw [nat_cast h.1, nat_cast h.2.1, row_cast h.2.2]; rfl
  case h_2 => rw [nat_cast h.1, nat_cast h.2.1, row_cast h.2.2]; rfl
  case h_3 => rw [nat_cast h.1, nat_cast h.2.1, nat_cast h.2.2.1, row_cast h.2.2.2]; rfl
  case h_4 => rw [nat_cast h.1, row_cast h.2]; rfl
  case h_5 => rw [nat_cast h.1, nat_cast h.2.1, nat_cast h.2.2.1, nat_cast h.2.2.2.1, row_cast h.2.2.2.2.1, row_cast h.2.2.2.2.2.1, row_cast h.2.2.2.2.2.2]; rfl
  case h_6 => rw [nat_cast h.1, nat_cast h.2.1, nat_cast h.2.2.1, row_cast h.2.2.2.1, row_cast h.2.2.2.2.1, row_cast h.2.2.2.2.2]; rfl
  case h_7 => rw [nat_cast h.1, row_cast h.2]; rfl
  case h_8 => rw [nat_cast h.1, nat_cast h.2]; rfl
  case h_9 => rw [nat_cast h]; rfl
  case h_10 => rw [nat_cast h.1, nat_cast h.2.1, row_cast h.2.2]; rfl
  case h_11 => rw [nat_cast h.1, nat_cast h.2.1, row_cast h.2.2]; rfl
  case h_12 => rw [nat_cast h.1, row_cast h.2]; rfl
  case h_13 => rw [nat_cast h]; rfl
  case h_14 => rw [nat_cast h]; rfl
def outsX : House → List Dn01.Call → Nat
  | _, [] => 0
  | h, x :: xs => (outI (h.step x).2).length + outsX (h.step x).1 xs
theorem conv : ∀ raw : List (List (List Int)), (∀ c ∈ raw, Dn01Neutral.asked1 c = true) → ∃ xs : List Dn01.Call, xs.length = raw.length ∧ PyFlat.put raw = flatX xs ∧ ∀ h : House, PyFlat.told (PyFlat.played Dn01Neutral.step h raw) = tellX h xs ∧ Dn01Neutral.outs h raw = outsX h xs
  | [], _ => ⟨[], rfl, rfl, fun h => ⟨rfl, rfl⟩⟩
  | c :: raw, ha => by
    obtain ⟨x, e1, e2⟩ := call_of (ha c (List.mem_cons_self ..))
    obtain ⟨xs, f1, f2, f3⟩ := conv raw fun d m => ha d (List.mem_cons_of_mem _ m)
    refine ⟨x :: xs, by rw [List.length_cons, List.length_cons, f1], ?_, fun h => ?_⟩
    · show PyFlat.put1 c ++ PyFlat.put raw = _
      rw [e2, f2, flatX_cons]
      rfl
    · have es : Dn01Neutral.step h c = ((h.step x).1, outI (h.step x).2) := by
        unfold Dn01Neutral.step
        rw [e1]
        rfl
      obtain ⟨g1, g2⟩ := f3 (h.step x).1
      refine ⟨?_, ?_⟩
      · show PyFlat.told ((Dn01Neutral.step h c).2 :: PyFlat.played Dn01Neutral.step (Dn01Neutral.step h c).1 raw) = _
        rw [es]
        show ((outI (h.step x).2).length : Int) :: (outI (h.step x).2 ++ PyFlat.told (PyFlat.played Dn01Neutral.step (h.step x).1 raw)) = _
        rw [g1]
        rfl
      · show (Dn01Neutral.step h c).2.length + Dn01Neutral.outs (Dn01Neutral.step h c).1 raw = _
        rw [es]
        dsimp only
        rw [g2]
        rfl
theorem run_ok : ∀ (xs : List Dn01.Call) (k : Nat) (h : House), Good k h → k + xs.length ≤ 60 → outsX h xs < 1000000 → OkRun h xs
  | [], _, _, _, _, _ => trivial
  | x :: xs, k, h, g, hk, ho => by
    rw [List.length_cons] at hk
    have ho : (outI (h.step x).2).length + outsX (h.step x).1 xs < 1000000 := ho
    have e : (outI (h.step x).2).length = (h.step x).2.out.length + 1 := rfl
    obtain ⟨a, b⟩ := g.ok (by omega)
    exact ⟨a, b, by omega, run_ok xs (k + 1) (h.step x).1 (g.step x) (by omega) (by omega)⟩
theorem tell_len : ∀ (xs : List Dn01.Call) (h : House), (tellX h xs).length = outsX h xs + xs.length
  | [], _ => rfl
  | x :: xs, h => by
    have ih := tell_len xs (h.step x).1
    show (((outI (h.step x).2).length : Int) :: (outI (h.step x).2 ++ tellX (h.step x).1 xs)).length = (outI (h.step x).2).length + outsX (h.step x).1 xs + (xs.length + 1)
    rw [List.length_cons, List.length_append, ih]
    omega
theorem asked_calls {l : List Int} (h : PyDn01.answers_asked l = true) : ∃ xs : List Dn01.Call, l = flatX xs ∧ OkRun Dn01.fresh xs ∧ (tellX Dn01.fresh xs).length < 4000000 ∧ PyDn01.answers l = tellX Dn01.fresh xs := by
  unfold PyDn01.answers_asked at h
  unfold PyDn01.answers PyDn01.calls
  cases e : PyFlat.calls PyDn01.shape l.length l with
  | none => rw [e] at h; cases h
  | some raw =>
    rw [e] at h
    dsimp only at h ⊢
    have ew : raw.map PyDn01.whole = raw := (List.map_congr_left fun c _ => whole_id c).trans (List.map_id raw)
    rw [ew] at h ⊢
    simp only [Bool.and_eq_true] at h
    obtain ⟨⟨⟨⟨_, h2⟩, _⟩, h4⟩, _⟩ := h
    have h2 : raw.length ≤ 60 := of_decide_eq_true h2
    unfold Dn01Neutral.asked at h4
    simp only [Bool.and_eq_true] at h4
    obtain ⟨_, _, h5, h6⟩ := h4
    obtain ⟨xs, f1, f2, f3⟩ := conv raw (List.all_eq_true.mp h5)
    obtain ⟨g1, g2⟩ := f3 Dn01.fresh
    have h6 : Dn01Neutral.outs Dn01.fresh raw < 1000000 := of_decide_eq_true h6
    rw [g2] at h6
    refine ⟨xs, ?_, run_ok xs 0 Dn01.fresh good_fresh (by omega) h6, ?_, g1⟩
    · rw [← f2]
      exact (PyFlat.put_calls _ _ _ e).1
    · rw [tell_len]
      omega
end Nn

namespace Nn
open PySem PySem.Spec PyProof.Rows L2
theorem fun_d {K : PySem.W.Frag} {m q : Str} {st : Stmt} {f : Addr} {fd : FuncData} (F : FunD K m q (defArgs st) (defBody st) (defScope st) [] [] f fd) : Fun K m q st f fd := by
  obtain ⟨oc, od, dV, kV, doc, pm, an, cdv, ct, osl, e, lk, hcd, hD, hK⟩ := F.ex
  rcases hD with ⟨_, rfl⟩ | ⟨z, _⟩
  · exact ⟨⟨oc, od, kV, doc, pm, an, cdv, ct, osl, e, lk, hcd⟩, F.kp⟩
  · exact absurd rfl z
def csOf (K : PySem.W.Frag) : Cs := ⟨He.ga K "Record", He.ga K "Change", He.ga K "Zone", He.ga K "Telling", He.ga K "Search", He.ga K "Holding", He.ga K "Server", He.ga K "Fact", He.ga K "Cache", He.ga K "Net", He.ga K "Reader"⟩
structure Ctx (K : PySem.W.Frag) (mg : Str → Option Value) (h : Heap) : Prop where
  X : K.In h
  G : h.Ns mainGlobals mg
  c : He.SaysD faL fnL K
  ap : apartB K = true
  cl : callsB K = true
section
variable {P : Program} {w : World} {K : PySem.W.Frag} {mg : Str → Option Value} {base h : Heap}
theorem Ctx.txt (x : Ctx K mg h) : Txt K mg (csOf K) where
  cl_rec := He.cls_ok (x.c.fact 0)
  n_rec_name := He.noat_ok (x.c.fact 1)
  n_rec_kind := He.noat_ok (x.c.fact 2)
  n_rec_value := He.noat_ok (x.c.fact 3)
  n_rec_life := He.noat_ok (x.c.fact 4)
  cl_chg := He.cls_ok (x.c.fact 5)
  n_chg_puts_in := He.noat_ok (x.c.fact 6)
  n_chg_record := He.noat_ok (x.c.fact 7)
  cl_zon := He.cls_ok (x.c.fact 8)
  n_zon_identity := He.noat_ok (x.c.fact 9)
  n_zon_apex := He.noat_ok (x.c.fact 10)
  n_zon_life := He.noat_ok (x.c.fact 11)
  n_zon_serial := He.noat_ok (x.c.fact 12)
  n_zon_records := He.noat_ok (x.c.fact 13)
  n_zon_changes := He.noat_ok (x.c.fact 14)
  cl_tel := He.cls_ok (x.c.fact 15)
  n_tel_outcome := He.noat_ok (x.c.fact 16)
  n_tel_name := He.noat_ok (x.c.fact 17)
  n_tel_life := He.noat_ok (x.c.fact 18)
  n_tel_rows := He.noat_ok (x.c.fact 19)
  cl_sea := He.cls_ok (x.c.fact 20)
  n_sea_net := He.noat_ok (x.c.fact 21)
  n_sea_cache := He.noat_ok (x.c.fact 22)
  n_sea_kind := He.noat_ok (x.c.fact 23)
  n_sea_asked := He.noat_ok (x.c.fact 24)
  n_sea_good := He.noat_ok (x.c.fact 25)
  n_sea_names := He.noat_ok (x.c.fact 26)
  cl_hol := He.cls_ok (x.c.fact 27)
  n_hol_zone := He.noat_ok (x.c.fact 28)
  n_hol_origin := He.noat_ok (x.c.fact 29)
  n_hol_good := He.noat_ok (x.c.fact 30)
  n_hol_since := He.noat_ok (x.c.fact 31)
  cl_srv := He.cls_ok (x.c.fact 32)
  n_srv_up := He.noat_ok (x.c.fact 33)
  n_srv_holdings := He.noat_ok (x.c.fact 34)
  cl_fac := He.cls_ok (x.c.fact 35)
  n_fac_telling := He.noat_ok (x.c.fact 36)
  n_fac_kind := He.noat_ok (x.c.fact 37)
  n_fac_until := He.noat_ok (x.c.fact 38)
  cl_cac := He.cls_ok (x.c.fact 39)
  n_cac_facts := He.noat_ok (x.c.fact 40)
  cl_net := He.cls_ok (x.c.fact 41)
  n_net_now := He.noat_ok (x.c.fact 42)
  n_net_servers := He.noat_ok (x.c.fact 43)
  n_net_caches := He.noat_ok (x.c.fact 44)
  n_net_roots := He.noat_ok (x.c.fact 45)
  n_net_zones_made := He.noat_ok (x.c.fact 46)
  cl_rdr := He.cls_ok (x.c.fact 47)
  n_rdr_calls := He.noat_ok (x.c.fact 48)
  n_rdr_place := He.noat_ok (x.c.fact 49)
  k_MOST_LABELS := He.int_ok x.X x.G (x.c.fact 50)
  k_HIGHEST_LABEL := He.int_ok x.X x.G (x.c.fact 51)
  k_NUMBER := He.int_ok x.X x.G (x.c.fact 52)
  k_ALIAS := He.int_ok x.X x.G (x.c.fact 53)
  k_HANDED_ON := He.int_ok x.X x.G (x.c.fact 54)
  k_LONGEST_LIFE := He.int_ok x.X x.G (x.c.fact 55)
  k_HIGHEST_NUMBER := He.int_ok x.X x.G (x.c.fact 56)
  k_MOST_RECORDS := He.int_ok x.X x.G (x.c.fact 57)
  k_CHANGES_KEPT := He.int_ok x.X x.G (x.c.fact 58)
  k_REFUSES := He.int_ok x.X x.G (x.c.fact 59)
  k_TELLS := He.int_ok x.X x.G (x.c.fact 60)
  k_NOTHING := He.int_ok x.X x.G (x.c.fact 61)
  k_NO_SUCH_NAME := He.int_ok x.X x.G (x.c.fact 62)
  k_LEADS_ON := He.int_ok x.X x.G (x.c.fact 63)
  k_HANDS_ON := He.int_ok x.X x.G (x.c.fact 64)
  k_MOST_ASKED := He.int_ok x.X x.G (x.c.fact 65)
  k_MOST_NAMES := He.int_ok x.X x.G (x.c.fact 66)
  k_LONGEST_GOOD_search := He.int_ok x.X x.G (x.c.fact 67)
  k_MOST_SERVERS := He.int_ok x.X x.G (x.c.fact 68)
  k_MOST_CACHES := He.int_ok x.X x.G (x.c.fact 69)
  k_LONGEST_GOOD_zone_calls := He.int_ok x.X x.G (x.c.fact 70)
  k_LONGEST_PASS := He.int_ok x.X x.G (x.c.fact 71)
  k_NO_KIND := He.int_ok x.X x.G (x.c.fact 72)
  k_FIRST_SERVERS := He.int_ok x.X x.G (x.c.fact 73)
  k_FIRST_CACHES := He.int_ok x.X x.G (x.c.fact 74)
  k_FIRST_LIFE := He.int_ok x.X x.G (x.c.fact 75)
  f_all := He.free_ok x.X x.G (x.c.fact 76)
  f_any := He.free_ok x.X x.G (x.c.fact 77)
  f_len := He.free_ok x.X x.G (x.c.fact 78)
  f_list := He.free_ok x.X x.G (x.c.fact 79)
  f_min := He.free_ok x.X x.G (x.c.fact 80)
  f_range := He.free_ok x.X x.G (x.c.fact 81)
  f_sorted := He.free_ok x.X x.G (x.c.fact 82)
  f_tuple := He.free_ok x.X x.G (x.c.fact 83)
  f_zip := He.free_ok x.X x.G (x.c.fact 84)
theorem Ctx.cok (x : Ctx K mg h) : COk (csOf K) := ⟨of_decide_eq_true x.ap⟩
def kvsOf (K : PySem.W.Frag) : List (Int × Addr) := callNames.map fun p => (p.1, He.ga K p.2)
theorem callsE_ok (K : PySem.W.Frag) : ∀ (es : List DictEntry) (ps : List (Int × Str)), callsE K es ps = true → Paired (fun (e : DictEntry) (p : Int × Addr) => e.hash = hashInt p.1 ∧ (∃ t, e.key = .int p.1 t) ∧ e.val = .ref p.2) es (ps.map fun p => (p.1, He.ga K p.2))
  | [], [], _ => .nil
  | [], _ :: _, h => by cases h
  | _ :: _, [], h => by cases h
  | e :: es, p :: ps, h => by
    unfold callsE at h
    rw [Bool.and_eq_true, Bool.and_eq_true, Bool.and_eq_true] at h
    obtain ⟨h1, h2, h3, h4⟩ := h
    refine .cons ⟨of_decide_eq_true h1, ?_, ?_⟩ (callsE_ok K es ps h4)
    · cases ek : e.key with
      | int i t =>
        rw [ek] at h2
        exact ⟨t, by rw [of_decide_eq_true h2]⟩
      | _ =>
        rw [ek] at h2
        cases h2
    · cases ev : e.val with
      | ref a =>
        rw [ev] at h3
        exact congrArg Value.ref (of_decide_eq_true h3)
      | _ =>
        rw [ev] at h3
        cases h3
theorem Ctx.tab (x : Ctx K mg h) : CallsAt K (He.ga K "CALLS") (kvsOf K) := by
  have hb := x.cl
  unfold callsB at hb
  cases q : K.lookup (He.ga K "CALLS") with
  | none =>
    rw [q] at hb
    cases hb
  | some o =>
    obtain ⟨oc, od, dt, osl⟩ := o
    rw [q] at hb
    cases oc with
    | type c =>
      cases od with
      | none =>
        cases dt with
        | dict es n =>
          have hb : (decide (c = "dict") && (decide (osl.size = 0) && callsE K es.toList callNames)) = true := hb
          rw [Bool.and_eq_true, Bool.and_eq_true] at hb
          obtain ⟨h1, h2, h3⟩ := hb
          have h1 := of_decide_eq_true h1
          have h2 : osl = #[] := Array.size_eq_zero_iff.mp (of_decide_eq_true h2)
          subst h1 h2
          refine ⟨⟨es, n, q, callsE_ok K _ _ h3⟩, ?_⟩
          show ([1, 2, 3, 4, 5, 6, 7, 8, 9, 10, 11, 12, 13, 14] : List Int).Nodup
          decide
        | _ => cases hb
      | some a => cases dt <;> cases hb
    | _ => cases od <;> cases dt <;> cases hb
theorem held_of {k : Nat} {x : Str} {ps : List Str} {sp : Sp} {a : Addr} (g : GFn P w K mg base k x ps sp) (e : mg x = some (.ref a)) : Held P w K mg base k a sp := by
  obtain ⟨f, fd, h1, h2, h3, h4⟩ := g.ex
  rw [e] at h1
  cases h1
  exact ⟨fd, ps, h2, h3, h4⟩
theorem t_is_name (x : Ctx K mg h) : GFn P w K mg base 1 "is_name" ["row"] sp_is_name := by
  obtain ⟨fd, FD⟩ := x.c.def_ 0 (d := dd_is_name)
  have F : Fun K "is_name" "is_name" s_is_name (He.ga K "is_name") fd := fun_d FD
  exact ⟨⟨_, fd, He.glo_ok x.X x.G (x.c.fact 107), ok_is_name F x.txt x.cok , F.kp, (F.binds fun _ _ _ _ _ _ us hl => match us, hl with | [_], _ => rfl)⟩⟩
theorem t_is_for_all_others (x : Ctx K mg h) : GFn P w K mg base 1 "is_for_all_others" ["row"] sp_others := by
  obtain ⟨fd, FD⟩ := x.c.def_ 1 (d := dd_is_for_all_others)
  have F : Fun K "is_for_all_others" "is_for_all_others" s_is_for_all_others (He.ga K "is_for_all_others") fd := fun_d FD
  exact ⟨⟨_, fd, He.glo_ok x.X x.G (x.c.fact 108), ok_is_for_all_others F x.txt x.cok , F.kp, (F.binds fun _ _ _ _ _ _ us hl => match us, hl with | [_], _ => rfl)⟩⟩
theorem t_is_record_name (x : Ctx K mg h) : GFn P w K mg base 2 "is_record_name" ["row"] sp_owner := by
  obtain ⟨fd, FD⟩ := x.c.def_ 2 (d := dd_is_record_name)
  have F : Fun K "is_record_name" "is_record_name" s_is_record_name (He.ga K "is_record_name") fd := fun_d FD
  exact ⟨⟨_, fd, He.glo_ok x.X x.G (x.c.fact 109), ok_is_record_name F x.txt x.cok (t_is_for_all_others x) (t_is_name x), F.kp, (F.binds fun _ _ _ _ _ _ us hl => match us, hl with | [_], _ => rfl)⟩⟩
theorem t_begins_with (x : Ctx K mg h) : GFn P w K mg base 1 "begins_with" ["row", "beginning"] sp_begins := by
  obtain ⟨fd, FD⟩ := x.c.def_ 3 (d := dd_begins_with)
  have F : Fun K "begins_with" "begins_with" s_begins_with (He.ga K "begins_with") fd := fun_d FD
  exact ⟨⟨_, fd, He.glo_ok x.X x.G (x.c.fact 110), ok_begins_with F x.txt x.cok , F.kp, (F.binds fun _ _ _ _ _ _ us hl => match us, hl with | [_, _], _ => rfl)⟩⟩
theorem t_Record_init (x : Ctx K mg h) : CFn P w K mg base 1 (csOf K).crec "Record" ["self", "name", "kind", "value", "life"] (spIni (csOf K).crec 4 recI) := by
  obtain ⟨fd, FD⟩ := x.c.def_ 4 (d := dd_Record_init)
  have F : Fun K "__init__" "Record.__init__" s_Record_init (He.ma K (He.ga K "Record") "__init__") fd := fun_d FD
  exact ⟨He.glo_ok x.X x.G (x.c.fact 85), _, fd, He.mkr_ok (x.c.fact 86), ok_Record_init F x.txt x.cok , (F.binds fun _ _ _ _ _ _ us hl => match us, hl with | [_, _, _, _, _], _ => rfl)⟩
theorem t_Record_is_same_as (x : Ctx K mg h) : MFn P w K mg base 1 (csOf K).crec "is_same_as" ["self", "other"] (sp_same (csOf K)) := by
  obtain ⟨fd, FD⟩ := x.c.def_ 5 (d := dd_Record_is_same_as)
  have F : Fun K "is_same_as" "Record.is_same_as" s_Record_is_same_as (He.ma K (He.ga K "Record") "is_same_as") fd := fun_d FD
  exact ⟨x.txt.cl_rec, _, fd, He.meth_ok (x.c.fact 111), ok_Record_is_same_as F x.txt x.cok , (F.binds fun _ _ _ _ _ _ us hl => match us, hl with | [_, _], _ => rfl)⟩
theorem t_Change_init (x : Ctx K mg h) : CFn P w K mg base 1 (csOf K).cchg "Change" ["self", "puts_in", "record"] (spIni (csOf K).cchg 2 chgI) := by
  obtain ⟨fd, FD⟩ := x.c.def_ 6 (d := dd_Change_init)
  have F : Fun K "__init__" "Change.__init__" s_Change_init (He.ma K (He.ga K "Change") "__init__") fd := fun_d FD
  exact ⟨He.glo_ok x.X x.G (x.c.fact 87), _, fd, He.mkr_ok (x.c.fact 88), ok_Change_init F x.txt x.cok , (F.binds fun _ _ _ _ _ _ us hl => match us, hl with | [_, _, _], _ => rfl)⟩
theorem t_Zone_init (x : Ctx K mg h) : CFn P w K mg base 1 (csOf K).czon "Zone" ["self", "identity", "apex", "life"] (sp_zon_init (csOf K)) := by
  obtain ⟨fd, FD⟩ := x.c.def_ 7 (d := dd_Zone_init)
  have F : Fun K "__init__" "Zone.__init__" s_Zone_init (He.ma K (He.ga K "Zone") "__init__") fd := fun_d FD
  exact ⟨He.glo_ok x.X x.G (x.c.fact 89), _, fd, He.mkr_ok (x.c.fact 90), ok_Zone_init F x.txt x.cok , (F.binds fun _ _ _ _ _ _ us hl => match us, hl with | [_, _, _, _], _ => rfl)⟩
theorem t_Zone_undergo (x : Ctx K mg h) : MFn P w K mg base 2 (csOf K).czon "undergo" ["self", "change"] (sp_undergo (csOf K)) := by
  obtain ⟨fd, FD⟩ := x.c.def_ 8 (d := dd_Zone_undergo)
  have F : Fun K "undergo" "Zone.undergo" s_Zone_undergo (He.ma K (He.ga K "Zone") "undergo") fd := fun_d FD
  exact ⟨x.txt.cl_zon, _, fd, He.meth_ok (x.c.fact 112), ok_Zone_undergo F x.txt x.cok (t_Record_is_same_as x), (F.binds fun _ _ _ _ _ _ us hl => match us, hl with | [_, _], _ => rfl)⟩
theorem t_Zone_twin (x : Ctx K mg h) : MFn P w K mg base 3 (csOf K).czon "twin" ["self"] (sp_twin (csOf K)) := by
  obtain ⟨fd, FD⟩ := x.c.def_ 9 (d := dd_Zone_twin)
  have F : Fun K "twin" "Zone.twin" s_Zone_twin (He.ma K (He.ga K "Zone") "twin") fd := fun_d FD
  exact ⟨x.txt.cl_zon, _, fd, He.meth_ok (x.c.fact 113), ok_Zone_twin F x.txt x.cok (t_Zone_init x), (F.binds fun _ _ _ _ _ _ us hl => match us, hl with | [_], _ => rfl)⟩
theorem t_Zone_is_at (x : Ctx K mg h) : MFn P w K mg base 1 (csOf K).czon "is_at" ["self", "serial"] (sp_is_at (csOf K)) := by
  obtain ⟨fd, FD⟩ := x.c.def_ 10 (d := dd_Zone_is_at)
  have F : Fun K "is_at" "Zone.is_at" s_Zone_is_at (He.ma K (He.ga K "Zone") "is_at") fd := fun_d FD
  exact ⟨x.txt.cl_zon, _, fd, He.meth_ok (x.c.fact 114), ok_Zone_is_at F x.txt x.cok , (F.binds fun _ _ _ _ _ _ us hl => match us, hl with | [_, _], _ => rfl)⟩
theorem t_Zone_has (x : Ctx K mg h) : MFn P w K mg base 2 (csOf K).czon "has" ["self", "wanted"] (sp_has (csOf K)) := by
  obtain ⟨fd, FD⟩ := x.c.def_ 11 (d := dd_Zone_has)
  have F : Fun K "has" "Zone.has" s_Zone_has (He.ma K (He.ga K "Zone") "has") fd := fun_d FD
  exact ⟨x.txt.cl_zon, _, fd, He.meth_ok (x.c.fact 115), ok_Zone_has F x.txt x.cok (t_Record_is_same_as x), (F.binds fun _ _ _ _ _ _ us hl => match us, hl with | [_, _], _ => rfl)⟩
theorem t_Zone_has_record_of (x : Ctx K mg h) : MFn P w K mg base 1 (csOf K).czon "has_record_of" ["self", "name"] (sp_has_of (csOf K)) := by
  obtain ⟨fd, FD⟩ := x.c.def_ 12 (d := dd_Zone_has_record_of)
  have F : Fun K "has_record_of" "Zone.has_record_of" s_Zone_has_record_of (He.ma K (He.ga K "Zone") "has_record_of") fd := fun_d FD
  exact ⟨x.txt.cl_zon, _, fd, He.meth_ok (x.c.fact 116), ok_Zone_has_record_of F x.txt x.cok , (F.binds fun _ _ _ _ _ _ us hl => match us, hl with | [_, _], _ => rfl)⟩
theorem t_Zone_records_of (x : Ctx K mg h) : MFn P w K mg base 1 (csOf K).czon "records_of" ["self", "name", "kind"] (sp_records_of (csOf K)) := by
  obtain ⟨fd, FD⟩ := x.c.def_ 13 (d := dd_Zone_records_of)
  have F : Fun K "records_of" "Zone.records_of" s_Zone_records_of (He.ma K (He.ga K "Zone") "records_of") fd := fun_d FD
  exact ⟨x.txt.cl_zon, _, fd, He.meth_ok (x.c.fact 117), ok_Zone_records_of F x.txt x.cok , (F.binds fun _ _ _ _ _ _ us hl => match us, hl with | [_, _, _], _ => rfl)⟩
theorem t_Zone_is_full (x : Ctx K mg h) : MFn P w K mg base 1 (csOf K).czon "is_full" ["self"] (sp_is_full (csOf K)) := by
  obtain ⟨fd, FD⟩ := x.c.def_ 14 (d := dd_Zone_is_full)
  have F : Fun K "is_full" "Zone.is_full" s_Zone_is_full (He.ma K (He.ga K "Zone") "is_full") fd := fun_d FD
  exact ⟨x.txt.cl_zon, _, fd, He.meth_ok (x.c.fact 118), ok_Zone_is_full F x.txt x.cok , (F.binds fun _ _ _ _ _ _ us hl => match us, hl with | [_], _ => rfl)⟩
theorem t_Zone_has_clash (x : Ctx K mg h) : MFn P w K mg base 2 (csOf K).czon "has_clash" ["self", "added"] (sp_clash (csOf K)) := by
  obtain ⟨fd, FD⟩ := x.c.def_ 15 (d := dd_Zone_has_clash)
  have F : Fun K "has_clash" "Zone.has_clash" s_Zone_has_clash (He.ma K (He.ga K "Zone") "has_clash") fd := fun_d FD
  exact ⟨x.txt.cl_zon, _, fd, He.meth_ok (x.c.fact 119), ok_Zone_has_clash F x.txt x.cok (t_Record_is_same_as x), (F.binds fun _ _ _ _ _ _ us hl => match us, hl with | [_, _], _ => rfl)⟩
theorem t_Zone_may_stand_here (x : Ctx K mg h) : MFn P w K mg base 3 (csOf K).czon "may_stand_here" ["self", "record"] (sp_may (csOf K)) := by
  obtain ⟨fd, FD⟩ := x.c.def_ 16 (d := dd_Zone_may_stand_here)
  have F : Fun K "may_stand_here" "Zone.may_stand_here" s_Zone_may_stand_here (He.ma K (He.ga K "Zone") "may_stand_here") fd := fun_d FD
  exact ⟨x.txt.cl_zon, _, fd, He.meth_ok (x.c.fact 120), ok_Zone_may_stand_here F x.txt x.cok (t_is_for_all_others x) (t_Zone_has_clash x), (F.binds fun _ _ _ _ _ _ us hl => match us, hl with | [_, _], _ => rfl)⟩
theorem t_is_right_value (x : Ctx K mg h) : GFn P w K mg base 2 "is_right_value" ["kind", "value", "server_count"] sp_right_value := by
  obtain ⟨fd, FD⟩ := x.c.def_ 17 (d := dd_is_right_value)
  have F : Fun K "is_right_value" "is_right_value" s_is_right_value (He.ga K "is_right_value") fd := fun_d FD
  exact ⟨⟨_, fd, He.glo_ok x.X x.G (x.c.fact 121), ok_is_right_value F x.txt x.cok (t_is_name x), F.kp, (F.binds fun _ _ _ _ _ _ us hl => match us, hl with | [_, _, _], _ => rfl)⟩⟩
theorem t_is_right_record (x : Ctx K mg h) : GFn P w K mg base 3 "is_right_record" ["record", "apex", "server_count"] (sp_right_rec (csOf K)) := by
  obtain ⟨fd, FD⟩ := x.c.def_ 18 (d := dd_is_right_record)
  have F : Fun K "is_right_record" "is_right_record" s_is_right_record (He.ga K "is_right_record") fd := fun_d FD
  exact ⟨⟨_, fd, He.glo_ok x.X x.G (x.c.fact 122), ok_is_right_record F x.txt x.cok (t_begins_with x) (t_is_record_name x) (t_is_right_value x), F.kp, (F.binds fun _ _ _ _ _ _ us hl => match us, hl with | [_, _, _], _ => rfl)⟩⟩
theorem t_Telling_init (x : Ctx K mg h) : CFn P w K mg base 1 (csOf K).ctel "Telling" ["self", "outcome", "name", "life", "rows"] (spIni (csOf K).ctel 4 telI) := by
  obtain ⟨fd, FD⟩ := x.c.def_ 19 (d := dd_Telling_init)
  have F : Fun K "__init__" "Telling.__init__" s_Telling_init (He.ma K (He.ga K "Telling") "__init__") fd := fun_d FD
  exact ⟨He.glo_ok x.X x.G (x.c.fact 91), _, fd, He.mkr_ok (x.c.fact 92), ok_Telling_init F x.txt x.cok , (F.binds fun _ _ _ _ _ _ us hl => match us, hl with | [_, _, _, _, _], _ => rfl)⟩
theorem t_refusal_to_tell (x : Ctx K mg h) : GFn P w K mg base 3 "refusal_to_tell" ["name"] (sp_refusal (csOf K)) := by
  obtain ⟨fd, FD⟩ := x.c.def_ 20 (d := dd_refusal_to_tell)
  have F : Fun K "refusal_to_tell" "refusal_to_tell" s_refusal_to_tell (He.ga K "refusal_to_tell") fd := fun_d FD
  exact ⟨⟨_, fd, He.glo_ok x.X x.G (x.c.fact 123), ok_refusal_to_tell F x.txt x.cok (t_Telling_init x), F.kp, (F.binds fun _ _ _ _ _ _ us hl => match us, hl with | [_], _ => rfl)⟩⟩
theorem t_least_life (x : Ctx K mg h) : GFn P w K mg base 1 "least_life" ["records"] (sp_least (csOf K)) := by
  obtain ⟨fd, FD⟩ := x.c.def_ 21 (d := dd_least_life)
  have F : Fun K "least_life" "least_life" s_least_life (He.ga K "least_life") fd := fun_d FD
  exact ⟨⟨_, fd, He.glo_ok x.X x.G (x.c.fact 124), ok_least_life F x.txt x.cok , F.kp, (F.binds fun _ _ _ _ _ _ us hl => match us, hl with | [_], _ => rfl)⟩⟩
theorem t_handing_on (x : Ctx K mg h) : GFn P w K mg base 4 "handing_on" ["zone", "name"] (sp_handing (csOf K)) := by
  obtain ⟨fd, FD⟩ := x.c.def_ 22 (d := dd_handing_on)
  have F : Fun K "handing_on" "handing_on" s_handing_on (He.ga K "handing_on") fd := fun_d FD
  exact ⟨⟨_, fd, He.glo_ok x.X x.G (x.c.fact 125), ok_handing_on F x.txt x.cok (t_Zone_records_of x) (t_Telling_init x) (t_least_life x), F.kp, (F.binds fun _ _ _ _ _ _ us hl => match us, hl with | [_, _], _ => rfl)⟩⟩
theorem t_there_is (x : Ctx K mg h) : GFn P w K mg base 2 "there_is" ["zone", "name"] (sp_there (csOf K)) := by
  obtain ⟨fd, FD⟩ := x.c.def_ 23 (d := dd_there_is)
  have F : Fun K "there_is" "there_is" s_there_is (He.ga K "there_is") fd := fun_d FD
  exact ⟨⟨_, fd, He.glo_ok x.X x.G (x.c.fact 126), ok_there_is F x.txt x.cok (t_begins_with x), F.kp, (F.binds fun _ _ _ _ _ _ us hl => match us, hl with | [_, _], _ => rfl)⟩⟩
theorem t_name_for_all_others (x : Ctx K mg h) : GFn P w K mg base 3 "name_for_all_others" ["zone", "name"] (sp_stand (csOf K)) := by
  obtain ⟨fd, FD⟩ := x.c.def_ 24 (d := dd_name_for_all_others)
  have F : Fun K "name_for_all_others" "name_for_all_others" s_name_for_all_others (He.ga K "name_for_all_others") fd := fun_d FD
  exact ⟨⟨_, fd, He.glo_ok x.X x.G (x.c.fact 127), ok_name_for_all_others F x.txt x.cok (t_there_is x), F.kp, (F.binds fun _ _ _ _ _ _ us hl => match us, hl with | [_, _], _ => rfl)⟩⟩
theorem t_tell_by (x : Ctx K mg h) : GFn P w K mg base 3 "tell_by" ["zone", "source", "name", "kind"] (sp_tell_by (csOf K)) := by
  obtain ⟨fd, FD⟩ := x.c.def_ 25 (d := dd_tell_by)
  have F : Fun K "tell_by" "tell_by" s_tell_by (He.ga K "tell_by") fd := fun_d FD
  exact ⟨⟨_, fd, He.glo_ok x.X x.G (x.c.fact 128), ok_tell_by F x.txt x.cok (t_Zone_records_of x) (t_Telling_init x) (t_least_life x), F.kp, (F.binds fun _ _ _ _ _ _ us hl => match us, hl with | [_, _, _, _], _ => rfl)⟩⟩
theorem t_tell (x : Ctx K mg h) : GFn P w K mg base 5 "tell" ["zone", "name", "kind"] (sp_tell (csOf K)) := by
  obtain ⟨fd, FD⟩ := x.c.def_ 26 (d := dd_tell)
  have F : Fun K "tell" "tell" s_tell (He.ga K "tell") fd := fun_d FD
  exact ⟨⟨_, fd, He.glo_ok x.X x.G (x.c.fact 129), ok_tell F x.txt x.cok (t_handing_on x) (t_there_is x) (t_tell_by x) (t_name_for_all_others x) (t_Zone_has_record_of x) (t_Telling_init x), F.kp, (F.binds fun _ _ _ _ _ _ us hl => match us, hl with | [_, _, _], _ => rfl)⟩⟩
theorem t_Search_init (x : Ctx K mg h) : CFn P w K mg base 1 (csOf K).csea "Search" ["self", "net", "cache", "kind"] (sp_sea_init (csOf K)) := by
  obtain ⟨fd, FD⟩ := x.c.def_ 27 (d := dd_Search_init)
  have F : Fun K "__init__" "Search.__init__" s_Search_init (He.ma K (He.ga K "Search") "__init__") fd := fun_d FD
  exact ⟨He.glo_ok x.X x.G (x.c.fact 93), _, fd, He.mkr_ok (x.c.fact 94), ok_Search_init F x.txt x.cok , (F.binds fun _ _ _ _ _ _ us hl => match us, hl with | [_, _, _, _], _ => rfl)⟩
theorem t_Fact_is_known (x : Ctx K mg h) : MFn P w K mg base 1 (csOf K).cfac "is_known" ["self", "now"] (sp_is_known (csOf K)) := by
  obtain ⟨fd, FD⟩ := x.c.def_ 74 (d := dd_Fact_is_known)
  have F : Fun K "is_known" "Fact.is_known" s_Fact_is_known (He.ma K (He.ga K "Fact") "is_known") fd := fun_d FD
  exact ⟨x.txt.cl_fac, _, fd, He.meth_ok (x.c.fact 173), ok_Fact_is_known F x.txt x.cok , (F.binds fun _ _ _ _ _ _ us hl => match us, hl with | [_, _], _ => rfl)⟩
theorem t_Cache_fact_of (x : Ctx K mg h) : MFn P w K mg base 2 (csOf K).ccac "fact_of" ["self", "name", "kind", "now"] (sp_fact_of P w (csOf K)) := by
  obtain ⟨fd, FD⟩ := x.c.def_ 81 (d := dd_Cache_fact_of)
  have F : Fun K "fact_of" "Cache.fact_of" s_Cache_fact_of (He.ma K (He.ga K "Cache") "fact_of") fd := fun_d FD
  exact ⟨x.txt.cl_cac, _, fd, He.meth_ok (x.c.fact 179), ok_Cache_fact_of F x.txt x.cok (t_Fact_is_known x), (F.binds fun _ _ _ _ _ _ us hl => match us, hl with | [_, _, _, _], _ => rfl)⟩
theorem t_Cache_alias_of (x : Ctx K mg h) : MFn P w K mg base 3 (csOf K).ccac "alias_of" ["self", "name", "now"] (sp_alias_of P w (csOf K)) := by
  obtain ⟨fd, FD⟩ := x.c.def_ 82 (d := dd_Cache_alias_of)
  have F : Fun K "alias_of" "Cache.alias_of" s_Cache_alias_of (He.ma K (He.ga K "Cache") "alias_of") fd := fun_d FD
  exact ⟨x.txt.cl_cac, _, fd, He.meth_ok (x.c.fact 180), ok_Cache_alias_of F x.txt x.cok (t_Cache_fact_of x), (F.binds fun _ _ _ _ _ _ us hl => match us, hl with | [_, _, _], _ => rfl)⟩
theorem t_Cache_recalled (x : Ctx K mg h) : MFn P w K mg base 4 (csOf K).ccac "recalled" ["self", "name", "kind", "now"] (sp_recalled P w (csOf K)) := by
  obtain ⟨fd, FD⟩ := x.c.def_ 83 (d := dd_Cache_recalled)
  have F : Fun K "recalled" "Cache.recalled" s_Cache_recalled (He.ma K (He.ga K "Cache") "recalled") fd := fun_d FD
  exact ⟨x.txt.cl_cac, _, fd, He.meth_ok (x.c.fact 181), ok_Cache_recalled F x.txt x.cok (t_Cache_fact_of x) (t_Cache_alias_of x), (F.binds fun _ _ _ _ _ _ us hl => match us, hl with | [_, _, _, _], _ => rfl)⟩
theorem t_Fact_left (x : Ctx K mg h) : MFn P w K mg base 1 (csOf K).cfac "left" ["self", "now"] (sp_left (csOf K)) := by
  obtain ⟨fd, FD⟩ := x.c.def_ 75 (d := dd_Fact_left)
  have F : Fun K "left" "Fact.left" s_Fact_left (He.ma K (He.ga K "Fact") "left") fd := fun_d FD
  exact ⟨x.txt.cl_fac, _, fd, He.meth_ok (x.c.fact 174), ok_Fact_left F x.txt x.cok , (F.binds fun _ _ _ _ _ _ us hl => match us, hl with | [_, _], _ => rfl)⟩
theorem t_Cache_nearest_handing_on (x : Ctx K mg h) : MFn P w K mg base 3 (csOf K).ccac "nearest_handing_on" ["self", "name", "now"] (sp_nearest P w (csOf K)) := by
  obtain ⟨fd, FD⟩ := x.c.def_ 84 (d := dd_Cache_nearest_handing_on)
  have F : Fun K "nearest_handing_on" "Cache.nearest_handing_on" s_Cache_nearest_handing_on (He.ma K (He.ga K "Cache") "nearest_handing_on") fd := fun_d FD
  exact ⟨x.txt.cl_cac, _, fd, He.meth_ok (x.c.fact 182), ok_Cache_nearest_handing_on F x.txt x.cok (t_Cache_fact_of x), (F.binds fun _ _ _ _ _ _ us hl => match us, hl with | [_, _, _], _ => rfl)⟩
theorem t_Server_has_zone (x : Ctx K mg h) : MFn P w K mg base 1 (csOf K).csrv "has_zone" ["self", "apex"] (sp_has_zone (csOf K)) := by
  obtain ⟨fd, FD⟩ := x.c.def_ 40 (d := dd_Server_has_zone)
  have F : Fun K "has_zone" "Server.has_zone" s_Server_has_zone (He.ma K (He.ga K "Server") "has_zone") fd := fun_d FD
  exact ⟨x.txt.cl_srv, _, fd, He.meth_ok (x.c.fact 140), ok_Server_has_zone F x.txt x.cok , (F.binds fun _ _ _ _ _ _ us hl => match us, hl with | [_, _], _ => rfl)⟩
theorem t_Server_holding_of (x : Ctx K mg h) : MFn P w K mg base 1 (csOf K).csrv "holding_of" ["self", "apex"] (sp_holding_of (csOf K)) := by
  obtain ⟨fd, FD⟩ := x.c.def_ 39 (d := dd_Server_holding_of)
  have F : Fun K "holding_of" "Server.holding_of" s_Server_holding_of (He.ma K (He.ga K "Server") "holding_of") fd := fun_d FD
  exact ⟨x.txt.cl_srv, _, fd, He.meth_ok (x.c.fact 139), ok_Server_holding_of F x.txt x.cok , (F.binds fun _ _ _ _ _ _ us hl => match us, hl with | [_, _], _ => rfl)⟩
theorem t_Server_longest_holding (x : Ctx K mg h) : MFn P w K mg base 2 (csOf K).csrv "longest_holding" ["self", "name"] (sp_longest (csOf K)) := by
  obtain ⟨fd, FD⟩ := x.c.def_ 45 (d := dd_Server_longest_holding)
  have F : Fun K "longest_holding" "Server.longest_holding" s_Server_longest_holding (He.ma K (He.ga K "Server") "longest_holding") fd := fun_d FD
  exact ⟨x.txt.cl_srv, _, fd, He.meth_ok (x.c.fact 145), ok_Server_longest_holding F x.txt x.cok (t_Server_has_zone x) (t_Server_holding_of x), (F.binds fun _ _ _ _ _ _ us hl => match us, hl with | [_, _], _ => rfl)⟩
theorem t_Holding_is_copy (x : Ctx K mg h) : MFn P w K mg base 1 (csOf K).chol "is_copy" ["self"] (sp_is_copy (csOf K)) := by
  obtain ⟨fd, FD⟩ := x.c.def_ 35 (d := dd_Holding_is_copy)
  have F : Fun K "is_copy" "Holding.is_copy" s_Holding_is_copy (He.ma K (He.ga K "Holding") "is_copy") fd := fun_d FD
  exact ⟨x.txt.cl_hol, _, fd, He.meth_ok (x.c.fact 136), ok_Holding_is_copy F x.txt x.cok , (F.binds fun _ _ _ _ _ _ us hl => match us, hl with | [_], _ => rfl)⟩
theorem t_Holding_is_good (x : Ctx K mg h) : MFn P w K mg base 2 (csOf K).chol "is_good" ["self", "now"] (sp_is_good (csOf K)) := by
  obtain ⟨fd, FD⟩ := x.c.def_ 36 (d := dd_Holding_is_good)
  have F : Fun K "is_good" "Holding.is_good" s_Holding_is_good (He.ma K (He.ga K "Holding") "is_good") fd := fun_d FD
  exact ⟨x.txt.cl_hol, _, fd, He.meth_ok (x.c.fact 137), ok_Holding_is_good F x.txt x.cok (t_Holding_is_copy x), (F.binds fun _ _ _ _ _ _ us hl => match us, hl with | [_, _], _ => rfl)⟩
theorem t_Server_told_of (x : Ctx K mg h) : MFn P w K mg base 6 (csOf K).csrv "told_of" ["self", "name", "kind", "now"] (sp_srv_told (csOf K)) := by
  obtain ⟨fd, FD⟩ := x.c.def_ 46 (d := dd_Server_told_of)
  have F : Fun K "told_of" "Server.told_of" s_Server_told_of (He.ma K (He.ga K "Server") "told_of") fd := fun_d FD
  exact ⟨x.txt.cl_srv, _, fd, He.meth_ok (x.c.fact 146), ok_Server_told_of F x.txt x.cok (t_Server_longest_holding x) (t_Holding_is_good x) (t_refusal_to_tell x) (t_tell x), (F.binds fun _ _ _ _ _ _ us hl => match us, hl with | [_, _, _, _], _ => rfl)⟩
theorem t_Server_told_when_asked (x : Ctx K mg h) : MFn P w K mg base 7 (csOf K).csrv "told_when_asked" ["self", "name", "kind", "now"] (sp_srv_asked (csOf K)) := by
  obtain ⟨fd, FD⟩ := x.c.def_ 47 (d := dd_Server_told_when_asked)
  have F : Fun K "told_when_asked" "Server.told_when_asked" s_Server_told_when_asked (He.ma K (He.ga K "Server") "told_when_asked") fd := fun_d FD
  exact ⟨x.txt.cl_srv, _, fd, He.meth_ok (x.c.fact 147), ok_Server_told_when_asked F x.txt x.cok (t_refusal_to_tell x) (t_Server_told_of x), (F.binds fun _ _ _ _ _ _ us hl => match us, hl with | [_, _, _, _], _ => rfl)⟩
theorem t_Search_told_by (x : Ctx K mg h) : MFn P w K mg base 8 (csOf K).csea "told_by" ["self", "server", "name"] (sp_told_by P w (csOf K)) := by
  obtain ⟨fd, FD⟩ := x.c.def_ 32 (d := dd_Search_told_by)
  have F : Fun K "told_by" "Search.told_by" s_Search_told_by (He.ma K (He.ga K "Search") "told_by") fd := fun_d FD
  exact ⟨x.txt.cl_sea, _, fd, He.meth_ok (x.c.fact 134), ok_Search_told_by F x.txt x.cok (t_Server_told_when_asked x), (F.binds fun _ _ _ _ _ _ us hl => match us, hl with | [_, _, _], _ => rfl)⟩
theorem t_kind_of_fact (x : Ctx K mg h) : GFn P w K mg base 1 "kind_of_fact" ["outcome", "asked_kind"] sp_kind_of := by
  obtain ⟨fd, FD⟩ := x.c.def_ 76 (d := dd_kind_of_fact)
  have F : Fun K "kind_of_fact" "kind_of_fact" s_kind_of_fact (He.ga K "kind_of_fact") fd := fun_d FD
  exact ⟨⟨_, fd, He.glo_ok x.X x.G (x.c.fact 175), ok_kind_of_fact F x.txt x.cok , F.kp, (F.binds fun _ _ _ _ _ _ us hl => match us, hl with | [_, _], _ => rfl)⟩⟩
theorem t_Fact_init (x : Ctx K mg h) : CFn P w K mg base 1 (csOf K).cfac "Fact" ["self", "telling", "kind", "until"] (spIni (csOf K).cfac 3 facI) := by
  obtain ⟨fd, FD⟩ := x.c.def_ 73 (d := dd_Fact_init)
  have F : Fun K "__init__" "Fact.__init__" s_Fact_init (He.ma K (He.ga K "Fact") "__init__") fd := fun_d FD
  exact ⟨He.glo_ok x.X x.G (x.c.fact 99), _, fd, He.mkr_ok (x.c.fact 100), ok_Fact_init F x.txt x.cok , (F.binds fun _ _ _ _ _ _ us hl => match us, hl with | [_, _, _, _], _ => rfl)⟩
theorem t_Cache_learn (x : Ctx K mg h) : MFn P w K mg base 3 (csOf K).ccac "learn" ["self", "telling", "asked_kind", "now"] (sp_cac_learn P w (csOf K)) := by
  obtain ⟨fd, FD⟩ := x.c.def_ 78 (d := dd_Cache_learn)
  have F : Fun K "learn" "Cache.learn" s_Cache_learn (He.ma K (He.ga K "Cache") "learn") fd := fun_d FD
  exact ⟨x.txt.cl_cac, _, fd, He.meth_ok (x.c.fact 176), ok_Cache_learn F x.txt x.cok (t_kind_of_fact x) (t_Fact_init x), (F.binds fun _ _ _ _ _ _ us hl => match us, hl with | [_, _, _, _], _ => rfl)⟩
theorem t_Search_learn (x : Ctx K mg h) : MFn P w K mg base 4 (csOf K).csea "learn" ["self", "telling"] (sp_sea_learn P w (csOf K)) := by
  obtain ⟨fd, FD⟩ := x.c.def_ 33 (d := dd_Search_learn)
  have F : Fun K "learn" "Search.learn" s_Search_learn (He.ma K (He.ga K "Search") "learn") fd := fun_d FD
  exact ⟨x.txt.cl_sea, _, fd, He.meth_ok (x.c.fact 135), ok_Search_learn F x.txt x.cok (t_Cache_learn x), (F.binds fun _ _ _ _ _ _ us hl => match us, hl with | [_, _], _ => rfl)⟩
theorem t_Search_told_by_servers (x : Ctx K mg h) : MFn P w K mg base 9 (csOf K).csea "told_by_servers" ["self", "name"] (sp_by_servers P w (csOf K)) := by
  obtain ⟨fd, FD⟩ := x.c.def_ 31 (d := dd_Search_told_by_servers)
  have F : Fun K "told_by_servers" "Search.told_by_servers" s_Search_told_by_servers (He.ma K (He.ga K "Search") "told_by_servers") fd := fun_d FD
  exact ⟨x.txt.cl_sea, _, fd, He.meth_ok (x.c.fact 133), ok_Search_told_by_servers F x.txt x.cok (t_Cache_nearest_handing_on x) (t_Search_told_by x) (t_Search_learn x), (F.binds fun _ _ _ _ _ _ us hl => match us, hl with | [_, _], _ => rfl)⟩
theorem t_Search_told_of (x : Ctx K mg h) : MFn P w K mg base 10 (csOf K).csea "told_of" ["self", "name"] (sp_sea_told P w (csOf K)) := by
  obtain ⟨fd, FD⟩ := x.c.def_ 30 (d := dd_Search_told_of)
  have F : Fun K "told_of" "Search.told_of" s_Search_told_of (He.ma K (He.ga K "Search") "told_of") fd := fun_d FD
  exact ⟨x.txt.cl_sea, _, fd, He.meth_ok (x.c.fact 132), ok_Search_told_of F x.txt x.cok (t_Cache_recalled x) (t_Fact_left x) (t_Search_told_by_servers x), (F.binds fun _ _ _ _ _ _ us hl => match us, hl with | [_, _], _ => rfl)⟩
theorem t_Search_is_to_go_on (x : Ctx K mg h) : MFn P w K mg base 1 (csOf K).csea "is_to_go_on" ["self", "telling"] (sp_goes_on P w (csOf K)) := by
  obtain ⟨fd, FD⟩ := x.c.def_ 29 (d := dd_Search_is_to_go_on)
  have F : Fun K "is_to_go_on" "Search.is_to_go_on" s_Search_is_to_go_on (He.ma K (He.ga K "Search") "is_to_go_on") fd := fun_d FD
  exact ⟨x.txt.cl_sea, _, fd, He.meth_ok (x.c.fact 131), ok_Search_is_to_go_on F x.txt x.cok , (F.binds fun _ _ _ _ _ _ us hl => match us, hl with | [_, _], _ => rfl)⟩
theorem t_Search_found (x : Ctx K mg h) : MFn P w K mg base 11 (csOf K).csea "found" ["self", "name"] (sp_found P w (csOf K)) := by
  obtain ⟨fd, FD⟩ := x.c.def_ 28 (d := dd_Search_found)
  have F : Fun K "found" "Search.found" s_Search_found (He.ma K (He.ga K "Search") "found") fd := fun_d FD
  exact ⟨x.txt.cl_sea, _, fd, He.meth_ok (x.c.fact 130), ok_Search_found F x.txt x.cok (t_Search_told_of x) (t_Search_is_to_go_on x), (F.binds fun _ _ _ _ _ _ us hl => match us, hl with | [_, _], _ => rfl)⟩
theorem t_Holding_init (x : Ctx K mg h) : CFn P w K mg base 1 (csOf K).chol "Holding" ["self", "zone", "origin", "good", "since"] (spIni (csOf K).chol 4 holI) := by
  obtain ⟨fd, FD⟩ := x.c.def_ 34 (d := dd_Holding_init)
  have F : Fun K "__init__" "Holding.__init__" s_Holding_init (He.ma K (He.ga K "Holding") "__init__") fd := fun_d FD
  exact ⟨He.glo_ok x.X x.G (x.c.fact 95), _, fd, He.mkr_ok (x.c.fact 96), ok_Holding_init F x.txt x.cok , (F.binds fun _ _ _ _ _ _ us hl => match us, hl with | [_, _, _, _, _], _ => rfl)⟩
theorem t_Holding_since_for_copies (x : Ctx K mg h) : MFn P w K mg base 2 (csOf K).chol "since_for_copies" ["self", "now"] (sp_since (csOf K)) := by
  obtain ⟨fd, FD⟩ := x.c.def_ 37 (d := dd_Holding_since_for_copies)
  have F : Fun K "since_for_copies" "Holding.since_for_copies" s_Holding_since_for_copies (He.ma K (He.ga K "Holding") "since_for_copies") fd := fun_d FD
  exact ⟨x.txt.cl_hol, _, fd, He.meth_ok (x.c.fact 138), ok_Holding_since_for_copies F x.txt x.cok (t_Holding_is_copy x), (F.binds fun _ _ _ _ _ _ us hl => match us, hl with | [_, _], _ => rfl)⟩
theorem t_Server_init (x : Ctx K mg h) : CFn P w K mg base 1 (csOf K).csrv "Server" ["self"] (sp_srv_init (csOf K)) := by
  obtain ⟨fd, FD⟩ := x.c.def_ 38 (d := dd_Server_init)
  have F : Fun K "__init__" "Server.__init__" s_Server_init (He.ma K (He.ga K "Server") "__init__") fd := fun_d FD
  exact ⟨He.glo_ok x.X x.G (x.c.fact 97), _, fd, He.mkr_ok (x.c.fact 98), ok_Server_init F x.txt x.cok , (F.binds fun _ _ _ _ _ _ us hl => match us, hl with | [_], _ => rfl)⟩
theorem t_Server_hold (x : Ctx K mg h) : MFn P w K mg base 1 (csOf K).csrv "hold" ["self", "holding"] (sp_hold (csOf K)) := by
  obtain ⟨fd, FD⟩ := x.c.def_ 41 (d := dd_Server_hold)
  have F : Fun K "hold" "Server.hold" s_Server_hold (He.ma K (He.ga K "Server") "hold") fd := fun_d FD
  exact ⟨x.txt.cl_srv, _, fd, He.meth_ok (x.c.fact 141), ok_Server_hold F x.txt x.cok , (F.binds fun _ _ _ _ _ _ us hl => match us, hl with | [_, _], _ => rfl)⟩
theorem t_Server_let_go (x : Ctx K mg h) : MFn P w K mg base 1 (csOf K).csrv "let_go" ["self", "apex"] (sp_let_go (csOf K)) := by
  obtain ⟨fd, FD⟩ := x.c.def_ 42 (d := dd_Server_let_go)
  have F : Fun K "let_go" "Server.let_go" s_Server_let_go (He.ma K (He.ga K "Server") "let_go") fd := fun_d FD
  exact ⟨x.txt.cl_srv, _, fd, He.meth_ok (x.c.fact 142), ok_Server_let_go F x.txt x.cok , (F.binds fun _ _ _ _ _ _ us hl => match us, hl with | [_, _], _ => rfl)⟩
theorem t_Server_zone_count (x : Ctx K mg h) : MFn P w K mg base 1 (csOf K).csrv "zone_count" ["self"] (sp_zone_count (csOf K)) := by
  obtain ⟨fd, FD⟩ := x.c.def_ 43 (d := dd_Server_zone_count)
  have F : Fun K "zone_count" "Server.zone_count" s_Server_zone_count (He.ma K (He.ga K "Server") "zone_count") fd := fun_d FD
  exact ⟨x.txt.cl_srv, _, fd, He.meth_ok (x.c.fact 143), ok_Server_zone_count F x.txt x.cok , (F.binds fun _ _ _ _ _ _ us hl => match us, hl with | [_], _ => rfl)⟩
theorem t_Server_can_hand_out (x : Ctx K mg h) : MFn P w K mg base 3 (csOf K).csrv "can_hand_out" ["self", "apex", "now"] (sp_can (csOf K)) := by
  obtain ⟨fd, FD⟩ := x.c.def_ 44 (d := dd_Server_can_hand_out)
  have F : Fun K "can_hand_out" "Server.can_hand_out" s_Server_can_hand_out (He.ma K (He.ga K "Server") "can_hand_out") fd := fun_d FD
  exact ⟨x.txt.cl_srv, _, fd, He.meth_ok (x.c.fact 144), ok_Server_can_hand_out F x.txt x.cok (t_Holding_is_good x) (t_Server_holding_of x) (t_Server_has_zone x), (F.binds fun _ _ _ _ _ _ us hl => match us, hl with | [_, _, _], _ => rfl)⟩
theorem t_are_roots (x : Ctx K mg h) : GFn P w K mg base 1 "are_roots" ["roots", "server_count"] sp_are_roots := by
  obtain ⟨fd, FD⟩ := x.c.def_ 48 (d := dd_are_roots)
  have F : Fun K "are_roots" "are_roots" s_are_roots (He.ga K "are_roots") fd := fun_d FD
  exact ⟨⟨_, fd, He.glo_ok x.X x.G (x.c.fact 148), ok_are_roots F x.txt x.cok , F.kp, (F.binds fun _ _ _ _ _ _ us hl => match us, hl with | [_, _], _ => rfl)⟩⟩
theorem t_Cache_init (x : Ctx K mg h) : CFn P w K mg base 1 (csOf K).ccac "Cache" ["self"] (sp_cac_init P w (csOf K)) := by
  obtain ⟨fd, FD⟩ := x.c.def_ 77 (d := dd_Cache_init)
  have F : Fun K "__init__" "Cache.__init__" s_Cache_init (He.ma K (He.ga K "Cache") "__init__") fd := fun_d FD
  exact ⟨He.glo_ok x.X x.G (x.c.fact 101), _, fd, He.mkr_ok (x.c.fact 102), ok_Cache_init F x.txt x.cok , (F.binds fun _ _ _ _ _ _ us hl => match us, hl with | [_], _ => rfl)⟩
theorem t_Net_begin_anew (x : Ctx K mg h) : MFn P w K mg base 3 (csOf K).cnet "begin_anew" ["self", "server_count", "cache_count", "roots"] (sp_begin_anew P w (csOf K)) := by
  obtain ⟨fd, FD⟩ := x.c.def_ 86 (d := dd_Net_begin_anew)
  have F : Fun K "begin_anew" "Net.begin_anew" s_Net_begin_anew (He.ma K (He.ga K "Net") "begin_anew") fd := fun_d FD
  exact ⟨x.txt.cl_net, _, fd, He.meth_ok (x.c.fact 183), ok_Net_begin_anew F x.txt x.cok (t_Server_init x) (t_Cache_init x), (F.binds fun _ _ _ _ _ _ us hl => match us, hl with | [_, _, _, _], _ => rfl)⟩
theorem t_answer_begin (x : Ctx K mg h) : GFn P w K mg base 4 "answer_begin" ["net", "server_count", "cache_count", "roots"] (sp_answer_begin P w (csOf K)) := by
  obtain ⟨fd, FD⟩ := x.c.def_ 49 (d := dd_answer_begin)
  have F : Fun K "answer_begin" "answer_begin" s_answer_begin (He.ga K "answer_begin") fd := fun_d FD
  exact ⟨⟨_, fd, He.glo_ok x.X x.G (x.c.fact 149), ok_answer_begin F x.txt x.cok (t_are_roots x) (t_Net_begin_anew x), F.kp, (F.binds fun _ _ _ _ _ _ us hl => match us, hl with | [_, _, _, _], _ => rfl)⟩⟩
theorem t_Net_has_server (x : Ctx K mg h) : MFn P w K mg base 1 (csOf K).cnet "has_server" ["self", "server"] (sp_has_server P w (csOf K)) := by
  obtain ⟨fd, FD⟩ := x.c.def_ 88 (d := dd_Net_has_server)
  have F : Fun K "has_server" "Net.has_server" s_Net_has_server (He.ma K (He.ga K "Net") "has_server") fd := fun_d FD
  exact ⟨x.txt.cl_net, _, fd, He.meth_ok (x.c.fact 185), ok_Net_has_server F x.txt x.cok , (F.binds fun _ _ _ _ _ _ us hl => match us, hl with | [_, _], _ => rfl)⟩
theorem t_Net_make_zone (x : Ctx K mg h) : MFn P w K mg base 3 (csOf K).cnet "make_zone" ["self", "server", "life", "apex"] (sp_make_zone P w (csOf K)) := by
  obtain ⟨fd, FD⟩ := x.c.def_ 87 (d := dd_Net_make_zone)
  have F : Fun K "make_zone" "Net.make_zone" s_Net_make_zone (He.ma K (He.ga K "Net") "make_zone") fd := fun_d FD
  exact ⟨x.txt.cl_net, _, fd, He.meth_ok (x.c.fact 184), ok_Net_make_zone F x.txt x.cok (t_Zone_init x) (t_Server_hold x) (t_Holding_init x), (F.binds fun _ _ _ _ _ _ us hl => match us, hl with | [_, _, _, _], _ => rfl)⟩
theorem t_answer_zone (x : Ctx K mg h) : GFn P w K mg base 4 "answer_zone" ["net", "server", "life", "apex"] (sp_answer_zone P w (csOf K)) := by
  obtain ⟨fd, FD⟩ := x.c.def_ 50 (d := dd_answer_zone)
  have F : Fun K "answer_zone" "answer_zone" s_answer_zone (He.ga K "answer_zone") fd := fun_d FD
  exact ⟨⟨_, fd, He.glo_ok x.X x.G (x.c.fact 150), ok_answer_zone F x.txt x.cok (t_Net_has_server x) (t_is_name x) (t_Server_has_zone x) (t_Net_make_zone x) (t_Server_zone_count x), F.kp, (F.binds fun _ _ _ _ _ _ us hl => match us, hl with | [_, _, _, _], _ => rfl)⟩⟩
theorem t_refusal_of_zone (x : Ctx K mg h) : GFn P w K mg base 2 "refusal_of_zone" ["net", "server", "apex"] (sp_ref_zone P w (csOf K)) := by
  obtain ⟨fd, FD⟩ := x.c.def_ 51 (d := dd_refusal_of_zone)
  have F : Fun K "refusal_of_zone" "refusal_of_zone" s_refusal_of_zone (He.ga K "refusal_of_zone") fd := fun_d FD
  exact ⟨⟨_, fd, He.glo_ok x.X x.G (x.c.fact 151), ok_refusal_of_zone F x.txt x.cok (t_Net_has_server x) (t_Server_has_zone x), F.kp, (F.binds fun _ _ _ _ _ _ us hl => match us, hl with | [_, _, _], _ => rfl)⟩⟩
theorem t_refusal_of_copy (x : Ctx K mg h) : GFn P w K mg base 4 "refusal_of_copy" ["net", "server", "origin", "good", "apex"] (sp_ref_copy P w (csOf K)) := by
  obtain ⟨fd, FD⟩ := x.c.def_ 52 (d := dd_refusal_of_copy)
  have F : Fun K "refusal_of_copy" "refusal_of_copy" s_refusal_of_copy (He.ga K "refusal_of_copy") fd := fun_d FD
  exact ⟨⟨_, fd, He.glo_ok x.X x.G (x.c.fact 152), ok_refusal_of_copy F x.txt x.cok (t_Net_has_server x) (t_refusal_of_zone x) (t_Server_has_zone x) (t_Server_can_hand_out x), F.kp, (F.binds fun _ _ _ _ _ _ us hl => match us, hl with | [_, _, _, _, _], _ => rfl)⟩⟩
theorem t_answer_copy (x : Ctx K mg h) : GFn P w K mg base 5 "answer_copy" ["net", "server", "origin", "good", "apex"] (sp_answer_copy P w (csOf K)) := by
  obtain ⟨fd, FD⟩ := x.c.def_ 53 (d := dd_answer_copy)
  have F : Fun K "answer_copy" "answer_copy" s_answer_copy (He.ga K "answer_copy") fd := fun_d FD
  exact ⟨⟨_, fd, He.glo_ok x.X x.G (x.c.fact 153), ok_answer_copy F x.txt x.cok (t_refusal_of_copy x) (t_Server_holding_of x) (t_Holding_since_for_copies x) (t_Server_hold x) (t_Holding_init x) (t_Zone_twin x), F.kp, (F.binds fun _ _ _ _ _ _ us hl => match us, hl with | [_, _, _, _, _], _ => rfl)⟩⟩
theorem t_answer_drop (x : Ctx K mg h) : GFn P w K mg base 3 "answer_drop" ["net", "server", "apex"] (sp_answer_drop P w (csOf K)) := by
  obtain ⟨fd, FD⟩ := x.c.def_ 54 (d := dd_answer_drop)
  have F : Fun K "answer_drop" "answer_drop" s_answer_drop (He.ga K "answer_drop") fd := fun_d FD
  exact ⟨⟨_, fd, He.glo_ok x.X x.G (x.c.fact 154), ok_answer_drop F x.txt x.cok (t_refusal_of_zone x) (t_Server_let_go x) (t_Server_zone_count x), F.kp, (F.binds fun _ _ _ _ _ _ us hl => match us, hl with | [_, _, _], _ => rfl)⟩⟩
theorem t_refusal_of_own_zone (x : Ctx K mg h) : GFn P w K mg base 3 "refusal_of_own_zone" ["net", "server", "apex"] (sp_ref_own P w (csOf K)) := by
  obtain ⟨fd, FD⟩ := x.c.def_ 55 (d := dd_refusal_of_own_zone)
  have F : Fun K "refusal_of_own_zone" "refusal_of_own_zone" s_refusal_of_own_zone (He.ga K "refusal_of_own_zone") fd := fun_d FD
  exact ⟨⟨_, fd, He.glo_ok x.X x.G (x.c.fact 155), ok_refusal_of_own_zone F x.txt x.cok (t_refusal_of_zone x) (t_Holding_is_copy x) (t_Server_holding_of x), F.kp, (F.binds fun _ _ _ _ _ _ us hl => match us, hl with | [_, _, _], _ => rfl)⟩⟩
theorem t_refusal_of_record (x : Ctx K mg h) : GFn P w K mg base 5 "refusal_of_record" ["net", "zone", "serial", "record"] (sp_ref_rec P w (csOf K)) := by
  obtain ⟨fd, FD⟩ := x.c.def_ 56 (d := dd_refusal_of_record)
  have F : Fun K "refusal_of_record" "refusal_of_record" s_refusal_of_record (He.ga K "refusal_of_record") fd := fun_d FD
  exact ⟨⟨_, fd, He.glo_ok x.X x.G (x.c.fact 156), ok_refusal_of_record F x.txt x.cok (t_is_right_record x) (t_Zone_is_at x) (t_Zone_may_stand_here x) (t_Zone_is_full x), F.kp, (F.binds fun _ _ _ _ _ _ us hl => match us, hl with | [_, _, _, _], _ => rfl)⟩⟩
theorem t_answer_add (x : Ctx K mg h) : GFn P w K mg base 6 "answer_add" ["net", "server", "serial", "kind", "life", "apex", "name", "value"] (sp_answer_add P w (csOf K)) := by
  obtain ⟨fd, FD⟩ := x.c.def_ 57 (d := dd_answer_add)
  have F : Fun K "answer_add" "answer_add" s_answer_add (He.ga K "answer_add") fd := fun_d FD
  exact ⟨⟨_, fd, He.glo_ok x.X x.G (x.c.fact 157), ok_answer_add F x.txt x.cok (t_refusal_of_own_zone x) (t_Server_holding_of x) (t_Record_init x) (t_refusal_of_record x) (t_Zone_undergo x) (t_Change_init x), F.kp, (F.binds fun _ _ _ _ _ _ us hl => match us, hl with | [_, _, _, _, _, _, _, _], _ => rfl)⟩⟩
theorem t_answer_remove (x : Ctx K mg h) : GFn P w K mg base 4 "answer_remove" ["net", "server", "serial", "kind", "apex", "name", "value"] (sp_answer_remove P w (csOf K)) := by
  obtain ⟨fd, FD⟩ := x.c.def_ 58 (d := dd_answer_remove)
  have F : Fun K "answer_remove" "answer_remove" s_answer_remove (He.ga K "answer_remove") fd := fun_d FD
  exact ⟨⟨_, fd, He.glo_ok x.X x.G (x.c.fact 158), ok_answer_remove F x.txt x.cok (t_refusal_of_own_zone x) (t_Server_holding_of x) (t_Record_init x) (t_Zone_is_at x) (t_Zone_has x) (t_Zone_undergo x) (t_Change_init x), F.kp, (F.binds fun _ _ _ _ _ _ us hl => match us, hl with | [_, _, _, _, _, _, _], _ => rfl)⟩⟩
theorem t_bring_up (x : Ctx K mg h) : GFn P w K mg base 4 "bring_up" ["held", "other", "now"] (sp_bring (csOf K)) := by
  obtain ⟨fd, FD⟩ := x.c.def_ 59 (d := dd_bring_up)
  have F : Fun K "bring_up" "bring_up" s_bring_up (He.ga K "bring_up") fd := fun_d FD
  exact ⟨⟨_, fd, He.glo_ok x.X x.G (x.c.fact 159), ok_bring_up F x.txt x.cok (t_Holding_since_for_copies x) (t_Zone_undergo x) (t_Zone_twin x), F.kp, (F.binds fun _ _ _ _ _ _ us hl => match us, hl with | [_, _, _], _ => rfl)⟩⟩
theorem t_answer_transfer (x : Ctx K mg h) : GFn P w K mg base 5 "answer_transfer" ["net", "server", "apex"] (sp_answer_transfer P w (csOf K)) := by
  obtain ⟨fd, FD⟩ := x.c.def_ 60 (d := dd_answer_transfer)
  have F : Fun K "answer_transfer" "answer_transfer" s_answer_transfer (He.ga K "answer_transfer") fd := fun_d FD
  exact ⟨⟨_, fd, He.glo_ok x.X x.G (x.c.fact 160), ok_answer_transfer F x.txt x.cok (t_refusal_of_zone x) (t_Server_holding_of x) (t_Holding_is_copy x) (t_Server_can_hand_out x) (t_bring_up x), F.kp, (F.binds fun _ _ _ _ _ _ us hl => match us, hl with | [_, _, _], _ => rfl)⟩⟩
theorem t_counted (x : Ctx K mg h) : GFn P w K mg base 1 "counted" ["row"] sp_counted := by
  obtain ⟨fd, FD⟩ := x.c.def_ 61 (d := dd_counted)
  have F : Fun K "counted" "counted" s_counted (He.ga K "counted") fd := fun_d FD
  exact ⟨⟨_, fd, He.glo_ok x.X x.G (x.c.fact 161), ok_counted F x.txt x.cok , F.kp, (F.binds fun _ _ _ _ _ _ us hl => match us, hl with | [_], _ => rfl)⟩⟩
theorem t_each_counted (x : Ctx K mg h) : GFn P w K mg base 2 "each_counted" ["rows"] sp_each := by
  obtain ⟨fd, FD⟩ := x.c.def_ 62 (d := dd_each_counted)
  have F : Fun K "each_counted" "each_counted" s_each_counted (He.ga K "each_counted") fd := fun_d FD
  exact ⟨⟨_, fd, He.glo_ok x.X x.G (x.c.fact 162), ok_each_counted F x.txt x.cok (t_counted x), F.kp, (F.binds fun _ _ _ _ _ _ us hl => match us, hl with | [_], _ => rfl)⟩⟩
theorem t_rows_told (x : Ctx K mg h) : GFn P w K mg base 3 "rows_told" ["telling"] (sp_rows_told (csOf K)) := by
  obtain ⟨fd, FD⟩ := x.c.def_ 63 (d := dd_rows_told)
  have F : Fun K "rows_told" "rows_told" s_rows_told (He.ga K "rows_told") fd := fun_d FD
  exact ⟨⟨_, fd, He.glo_ok x.X x.G (x.c.fact 163), ok_rows_told F x.txt x.cok (t_each_counted x), F.kp, (F.binds fun _ _ _ _ _ _ us hl => match us, hl with | [_], _ => rfl)⟩⟩
theorem t_answer_set (x : Ctx K mg h) : GFn P w K mg base 2 "answer_set" ["net", "server", "up"] (sp_answer_set P w (csOf K)) := by
  obtain ⟨fd, FD⟩ := x.c.def_ 64 (d := dd_answer_set)
  have F : Fun K "answer_set" "answer_set" s_answer_set (He.ga K "answer_set") fd := fun_d FD
  exact ⟨⟨_, fd, He.glo_ok x.X x.G (x.c.fact 164), ok_answer_set F x.txt x.cok (t_Net_has_server x), F.kp, (F.binds fun _ _ _ _ _ _ us hl => match us, hl with | [_, _, _], _ => rfl)⟩⟩
theorem t_answer_pass (x : Ctx K mg h) : GFn P w K mg base 1 "answer_pass" ["net", "length"] (sp_answer_pass P w (csOf K)) := by
  obtain ⟨fd, FD⟩ := x.c.def_ 65 (d := dd_answer_pass)
  have F : Fun K "answer_pass" "answer_pass" s_answer_pass (He.ga K "answer_pass") fd := fun_d FD
  exact ⟨⟨_, fd, He.glo_ok x.X x.G (x.c.fact 165), ok_answer_pass F x.txt x.cok , F.kp, (F.binds fun _ _ _ _ _ _ us hl => match us, hl with | [_, _], _ => rfl)⟩⟩
theorem t_Net_has_cache (x : Ctx K mg h) : MFn P w K mg base 1 (csOf K).cnet "has_cache" ["self", "cache"] (sp_has_cache P w (csOf K)) := by
  obtain ⟨fd, FD⟩ := x.c.def_ 89 (d := dd_Net_has_cache)
  have F : Fun K "has_cache" "Net.has_cache" s_Net_has_cache (He.ma K (He.ga K "Net") "has_cache") fd := fun_d FD
  exact ⟨x.txt.cl_net, _, fd, He.meth_ok (x.c.fact 186), ok_Net_has_cache F x.txt x.cok , (F.binds fun _ _ _ _ _ _ us hl => match us, hl with | [_, _], _ => rfl)⟩
theorem t_answer_query (x : Ctx K mg h) : GFn P w K mg base 13 "answer_query" ["net", "cache", "kind", "name"] (sp_answer_query P w (csOf K)) := by
  obtain ⟨fd, FD⟩ := x.c.def_ 66 (d := dd_answer_query)
  have F : Fun K "answer_query" "answer_query" s_answer_query (He.ga K "answer_query") fd := fun_d FD
  exact ⟨⟨_, fd, He.glo_ok x.X x.G (x.c.fact 166), ok_answer_query F x.txt x.cok (t_Net_has_cache x) (t_is_name x) (t_Search_init x) (t_Search_found x) (t_each_counted x), F.kp, (F.binds fun _ _ _ _ _ _ us hl => match us, hl with | [_, _, _, _], _ => rfl)⟩⟩
theorem t_answer_ask (x : Ctx K mg h) : GFn P w K mg base 8 "answer_ask" ["net", "server", "kind", "name"] (sp_answer_ask P w (csOf K)) := by
  obtain ⟨fd, FD⟩ := x.c.def_ 67 (d := dd_answer_ask)
  have F : Fun K "answer_ask" "answer_ask" s_answer_ask (He.ga K "answer_ask") fd := fun_d FD
  exact ⟨⟨_, fd, He.glo_ok x.X x.G (x.c.fact 167), ok_answer_ask F x.txt x.cok (t_Net_has_server x) (t_is_name x) (t_Server_told_of x) (t_counted x) (t_rows_told x), F.kp, (F.binds fun _ _ _ _ _ _ us hl => match us, hl with | [_, _, _, _], _ => rfl)⟩⟩
theorem t_numbers_of_record (x : Ctx K mg h) : GFn P w K mg base 2 "numbers_of_record" ["record"] (sp_rec_num (csOf K)) := by
  obtain ⟨fd, FD⟩ := x.c.def_ 68 (d := dd_numbers_of_record)
  have F : Fun K "numbers_of_record" "numbers_of_record" s_numbers_of_record (He.ga K "numbers_of_record") fd := fun_d FD
  exact ⟨⟨_, fd, He.glo_ok x.X x.G (x.c.fact 168), ok_numbers_of_record F x.txt x.cok (t_counted x), F.kp, (F.binds fun _ _ _ _ _ _ us hl => match us, hl with | [_], _ => rfl)⟩⟩
theorem t_answer_records (x : Ctx K mg h) : GFn P w K mg base 3 "answer_records" ["net", "server", "apex"] (sp_answer_records P w (csOf K)) := by
  obtain ⟨fd, FD⟩ := x.c.def_ 69 (d := dd_answer_records)
  have F : Fun K "answer_records" "answer_records" s_answer_records (He.ga K "answer_records") fd := fun_d FD
  exact ⟨⟨_, fd, He.glo_ok x.X x.G (x.c.fact 169), ok_answer_records F x.txt x.cok (t_refusal_of_zone x) (t_Server_holding_of x) (t_Holding_is_good x) (t_numbers_of_record x), F.kp, (F.binds fun _ _ _ _ _ _ us hl => match us, hl with | [_, _, _], _ => rfl)⟩⟩
theorem t_numbers_of_fact (x : Ctx K mg h) : GFn P w K mg base 4 "numbers_of_fact" ["fact", "now"] (sp_fact_num (csOf K)) := by
  obtain ⟨fd, FD⟩ := x.c.def_ 70 (d := dd_numbers_of_fact)
  have F : Fun K "numbers_of_fact" "numbers_of_fact" s_numbers_of_fact (He.ga K "numbers_of_fact") fd := fun_d FD
  exact ⟨⟨_, fd, He.glo_ok x.X x.G (x.c.fact 170), ok_numbers_of_fact F x.txt x.cok (t_Fact_left x) (t_counted x) (t_rows_told x), F.kp, (F.binds fun _ _ _ _ _ _ us hl => match us, hl with | [_, _], _ => rfl)⟩⟩
theorem t_Cache_known_facts (x : Ctx K mg h) : MFn P w K mg base 2 (csOf K).ccac "known_facts" ["self", "now"] (sp_known_facts P w (csOf K)) := by
  obtain ⟨fd, FD⟩ := x.c.def_ 80 (d := dd_Cache_known_facts)
  have F : Fun K "known_facts" "Cache.known_facts" s_Cache_known_facts (He.ma K (He.ga K "Cache") "known_facts") fd := fun_d FD
  exact ⟨x.txt.cl_cac, _, fd, He.meth_ok (x.c.fact 178), ok_Cache_known_facts F x.txt x.cok (t_Fact_is_known x), (F.binds fun _ _ _ _ _ _ us hl => match us, hl with | [_, _], _ => rfl)⟩
theorem t_answer_facts (x : Ctx K mg h) : GFn P w K mg base 5 "answer_facts" ["net", "cache"] (sp_answer_facts P w (csOf K)) := by
  obtain ⟨fd, FD⟩ := x.c.def_ 71 (d := dd_answer_facts)
  have F : Fun K "answer_facts" "answer_facts" s_answer_facts (He.ga K "answer_facts") fd := fun_d FD
  exact ⟨⟨_, fd, He.glo_ok x.X x.G (x.c.fact 171), ok_answer_facts F x.txt x.cok (t_Net_has_cache x) (t_Cache_known_facts x) (t_numbers_of_fact x), F.kp, (F.binds fun _ _ _ _ _ _ us hl => match us, hl with | [_, _], _ => rfl)⟩⟩
theorem t_Cache_forget_all (x : Ctx K mg h) : MFn P w K mg base 1 (csOf K).ccac "forget_all" ["self"] (sp_forget P w (csOf K)) := by
  obtain ⟨fd, FD⟩ := x.c.def_ 79 (d := dd_Cache_forget_all)
  have F : Fun K "forget_all" "Cache.forget_all" s_Cache_forget_all (He.ma K (He.ga K "Cache") "forget_all") fd := fun_d FD
  exact ⟨x.txt.cl_cac, _, fd, He.meth_ok (x.c.fact 177), ok_Cache_forget_all F x.txt x.cok , (F.binds fun _ _ _ _ _ _ us hl => match us, hl with | [_], _ => rfl)⟩
theorem t_answer_flush (x : Ctx K mg h) : GFn P w K mg base 3 "answer_flush" ["net", "cache"] (sp_answer_flush P w (csOf K)) := by
  obtain ⟨fd, FD⟩ := x.c.def_ 72 (d := dd_answer_flush)
  have F : Fun K "answer_flush" "answer_flush" s_answer_flush (He.ga K "answer_flush") fd := fun_d FD
  exact ⟨⟨_, fd, He.glo_ok x.X x.G (x.c.fact 172), ok_answer_flush F x.txt x.cok (t_Net_has_cache x) (t_Cache_known_facts x) (t_Cache_forget_all x), F.kp, (F.binds fun _ _ _ _ _ _ us hl => match us, hl with | [_, _], _ => rfl)⟩⟩
theorem t_Net_init (x : Ctx K mg h) : CFn P w K mg base 4 (csOf K).cnet "Net" ["self"] (sp_net_init P w (csOf K)) := by
  obtain ⟨fd, FD⟩ := x.c.def_ 85 (d := dd_Net_init)
  have F : Fun K "__init__" "Net.__init__" s_Net_init (He.ma K (He.ga K "Net") "__init__") fd := fun_d FD
  exact ⟨He.glo_ok x.X x.G (x.c.fact 103), _, fd, He.mkr_ok (x.c.fact 104), ok_Net_init F x.txt x.cok (t_Net_begin_anew x) (t_Net_make_zone x), (F.binds fun _ _ _ _ _ _ us hl => match us, hl with | [_], _ => rfl)⟩
theorem t_Reader_init (x : Ctx K mg h) : CFn P w K mg base 1 (csOf K).crdr "Reader" ["self", "calls"] (spIni (csOf K).crdr 1 rdrI) := by
  obtain ⟨fd, FD⟩ := x.c.def_ 90 (d := dd_Reader_init)
  have F : Fun K "__init__" "Reader.__init__" s_Reader_init (He.ma K (He.ga K "Reader") "__init__") fd := fun_d FD
  exact ⟨He.glo_ok x.X x.G (x.c.fact 105), _, fd, He.mkr_ok (x.c.fact 106), ok_Reader_init F x.txt x.cok , (F.binds fun _ _ _ _ _ _ us hl => match us, hl with | [_, _], _ => rfl)⟩
theorem t_Reader_is_done (x : Ctx K mg h) : MFn P w K mg base 1 (csOf K).crdr "is_done" ["self"] (sp_rdr_done K (csOf K)) := by
  obtain ⟨fd, FD⟩ := x.c.def_ 91 (d := dd_Reader_is_done)
  have F : Fun K "is_done" "Reader.is_done" s_Reader_is_done (He.ma K (He.ga K "Reader") "is_done") fd := fun_d FD
  exact ⟨x.txt.cl_rdr, _, fd, He.meth_ok (x.c.fact 187), ok_Reader_is_done F x.txt x.cok , (F.binds fun _ _ _ _ _ _ us hl => match us, hl with | [_], _ => rfl)⟩
theorem t_Reader_number (x : Ctx K mg h) : MFn P w K mg base 1 (csOf K).crdr "number" ["self"] (sp_rdr_num K (csOf K)) := by
  obtain ⟨fd, FD⟩ := x.c.def_ 92 (d := dd_Reader_number)
  have F : Fun K "number" "Reader.number" s_Reader_number (He.ma K (He.ga K "Reader") "number") fd := fun_d FD
  exact ⟨x.txt.cl_rdr, _, fd, He.meth_ok (x.c.fact 188), ok_Reader_number F x.txt x.cok , (F.binds fun _ _ _ _ _ _ us hl => match us, hl with | [_], _ => rfl)⟩
theorem t_Reader_row (x : Ctx K mg h) : MFn P w K mg base 2 (csOf K).crdr "row" ["self"] (sp_rdr_row K (csOf K)) := by
  obtain ⟨fd, FD⟩ := x.c.def_ 93 (d := dd_Reader_row)
  have F : Fun K "row" "Reader.row" s_Reader_row (He.ma K (He.ga K "Reader") "row") fd := fun_d FD
  exact ⟨x.txt.cl_rdr, _, fd, He.meth_ok (x.c.fact 189), ok_Reader_row F x.txt x.cok (t_Reader_number x), (F.binds fun _ _ _ _ _ _ us hl => match us, hl with | [_], _ => rfl)⟩
theorem t_begin_call (x : Ctx K mg h) : GFn P w K mg base 16 "begin_call" ["net", "reader"] (spC P w K (csOf K) 1) := by
  obtain ⟨fd, FD⟩ := x.c.def_ 94 (d := dd_begin_call)
  have F : Fun K "begin_call" "begin_call" s_begin_call (He.ga K "begin_call") fd := fun_d FD
  exact ⟨⟨_, fd, He.glo_ok x.X x.G (x.c.fact 190), ok_begin_call F x.txt x.cok (t_Reader_number x) (t_Reader_row x) (t_answer_begin x), F.kp, (F.binds fun _ _ _ _ _ _ us hl => match us, hl with | [_, _], _ => rfl)⟩⟩
theorem t_zone_call (x : Ctx K mg h) : GFn P w K mg base 16 "zone_call" ["net", "reader"] (spC P w K (csOf K) 2) := by
  obtain ⟨fd, FD⟩ := x.c.def_ 95 (d := dd_zone_call)
  have F : Fun K "zone_call" "zone_call" s_zone_call (He.ga K "zone_call") fd := fun_d FD
  exact ⟨⟨_, fd, He.glo_ok x.X x.G (x.c.fact 191), ok_zone_call F x.txt x.cok (t_Reader_number x) (t_Reader_row x) (t_answer_zone x), F.kp, (F.binds fun _ _ _ _ _ _ us hl => match us, hl with | [_, _], _ => rfl)⟩⟩
theorem t_copy_call (x : Ctx K mg h) : GFn P w K mg base 16 "copy_call" ["net", "reader"] (spC P w K (csOf K) 3) := by
  obtain ⟨fd, FD⟩ := x.c.def_ 96 (d := dd_copy_call)
  have F : Fun K "copy_call" "copy_call" s_copy_call (He.ga K "copy_call") fd := fun_d FD
  exact ⟨⟨_, fd, He.glo_ok x.X x.G (x.c.fact 192), ok_copy_call F x.txt x.cok (t_Reader_number x) (t_Reader_row x) (t_answer_copy x), F.kp, (F.binds fun _ _ _ _ _ _ us hl => match us, hl with | [_, _], _ => rfl)⟩⟩
theorem t_drop_call (x : Ctx K mg h) : GFn P w K mg base 16 "drop_call" ["net", "reader"] (spC P w K (csOf K) 4) := by
  obtain ⟨fd, FD⟩ := x.c.def_ 97 (d := dd_drop_call)
  have F : Fun K "drop_call" "drop_call" s_drop_call (He.ga K "drop_call") fd := fun_d FD
  exact ⟨⟨_, fd, He.glo_ok x.X x.G (x.c.fact 193), ok_drop_call F x.txt x.cok (t_Reader_number x) (t_Reader_row x) (t_answer_drop x), F.kp, (F.binds fun _ _ _ _ _ _ us hl => match us, hl with | [_, _], _ => rfl)⟩⟩
theorem t_add_call (x : Ctx K mg h) : GFn P w K mg base 16 "add_call" ["net", "reader"] (spC P w K (csOf K) 5) := by
  obtain ⟨fd, FD⟩ := x.c.def_ 98 (d := dd_add_call)
  have F : Fun K "add_call" "add_call" s_add_call (He.ga K "add_call") fd := fun_d FD
  exact ⟨⟨_, fd, He.glo_ok x.X x.G (x.c.fact 194), ok_add_call F x.txt x.cok (t_Reader_number x) (t_Reader_row x) (t_answer_add x), F.kp, (F.binds fun _ _ _ _ _ _ us hl => match us, hl with | [_, _], _ => rfl)⟩⟩
theorem t_remove_call (x : Ctx K mg h) : GFn P w K mg base 16 "remove_call" ["net", "reader"] (spC P w K (csOf K) 6) := by
  obtain ⟨fd, FD⟩ := x.c.def_ 99 (d := dd_remove_call)
  have F : Fun K "remove_call" "remove_call" s_remove_call (He.ga K "remove_call") fd := fun_d FD
  exact ⟨⟨_, fd, He.glo_ok x.X x.G (x.c.fact 195), ok_remove_call F x.txt x.cok (t_Reader_number x) (t_Reader_row x) (t_answer_remove x), F.kp, (F.binds fun _ _ _ _ _ _ us hl => match us, hl with | [_, _], _ => rfl)⟩⟩
theorem t_transfer_call (x : Ctx K mg h) : GFn P w K mg base 16 "transfer_call" ["net", "reader"] (spC P w K (csOf K) 7) := by
  obtain ⟨fd, FD⟩ := x.c.def_ 100 (d := dd_transfer_call)
  have F : Fun K "transfer_call" "transfer_call" s_transfer_call (He.ga K "transfer_call") fd := fun_d FD
  exact ⟨⟨_, fd, He.glo_ok x.X x.G (x.c.fact 196), ok_transfer_call F x.txt x.cok (t_Reader_number x) (t_Reader_row x) (t_answer_transfer x), F.kp, (F.binds fun _ _ _ _ _ _ us hl => match us, hl with | [_, _], _ => rfl)⟩⟩
theorem t_set_call (x : Ctx K mg h) : GFn P w K mg base 16 "set_call" ["net", "reader"] (spC P w K (csOf K) 8) := by
  obtain ⟨fd, FD⟩ := x.c.def_ 101 (d := dd_set_call)
  have F : Fun K "set_call" "set_call" s_set_call (He.ga K "set_call") fd := fun_d FD
  exact ⟨⟨_, fd, He.glo_ok x.X x.G (x.c.fact 197), ok_set_call F x.txt x.cok (t_Reader_number x) (t_answer_set x), F.kp, (F.binds fun _ _ _ _ _ _ us hl => match us, hl with | [_, _], _ => rfl)⟩⟩
theorem t_pass_call (x : Ctx K mg h) : GFn P w K mg base 16 "pass_call" ["net", "reader"] (spC P w K (csOf K) 9) := by
  obtain ⟨fd, FD⟩ := x.c.def_ 102 (d := dd_pass_call)
  have F : Fun K "pass_call" "pass_call" s_pass_call (He.ga K "pass_call") fd := fun_d FD
  exact ⟨⟨_, fd, He.glo_ok x.X x.G (x.c.fact 198), ok_pass_call F x.txt x.cok (t_Reader_number x) (t_answer_pass x), F.kp, (F.binds fun _ _ _ _ _ _ us hl => match us, hl with | [_, _], _ => rfl)⟩⟩
theorem t_query_call (x : Ctx K mg h) : GFn P w K mg base 16 "query_call" ["net", "reader"] (spC P w K (csOf K) 10) := by
  obtain ⟨fd, FD⟩ := x.c.def_ 103 (d := dd_query_call)
  have F : Fun K "query_call" "query_call" s_query_call (He.ga K "query_call") fd := fun_d FD
  exact ⟨⟨_, fd, He.glo_ok x.X x.G (x.c.fact 199), ok_query_call F x.txt x.cok (t_Reader_number x) (t_Reader_row x) (t_answer_query x), F.kp, (F.binds fun _ _ _ _ _ _ us hl => match us, hl with | [_, _], _ => rfl)⟩⟩
theorem t_ask_call (x : Ctx K mg h) : GFn P w K mg base 16 "ask_call" ["net", "reader"] (spC P w K (csOf K) 11) := by
  obtain ⟨fd, FD⟩ := x.c.def_ 104 (d := dd_ask_call)
  have F : Fun K "ask_call" "ask_call" s_ask_call (He.ga K "ask_call") fd := fun_d FD
  exact ⟨⟨_, fd, He.glo_ok x.X x.G (x.c.fact 200), ok_ask_call F x.txt x.cok (t_Reader_number x) (t_Reader_row x) (t_answer_ask x), F.kp, (F.binds fun _ _ _ _ _ _ us hl => match us, hl with | [_, _], _ => rfl)⟩⟩
theorem t_records_call (x : Ctx K mg h) : GFn P w K mg base 16 "records_call" ["net", "reader"] (spC P w K (csOf K) 12) := by
  obtain ⟨fd, FD⟩ := x.c.def_ 105 (d := dd_records_call)
  have F : Fun K "records_call" "records_call" s_records_call (He.ga K "records_call") fd := fun_d FD
  exact ⟨⟨_, fd, He.glo_ok x.X x.G (x.c.fact 201), ok_records_call F x.txt x.cok (t_Reader_number x) (t_Reader_row x) (t_answer_records x), F.kp, (F.binds fun _ _ _ _ _ _ us hl => match us, hl with | [_, _], _ => rfl)⟩⟩
theorem t_facts_call (x : Ctx K mg h) : GFn P w K mg base 16 "facts_call" ["net", "reader"] (spC P w K (csOf K) 13) := by
  obtain ⟨fd, FD⟩ := x.c.def_ 106 (d := dd_facts_call)
  have F : Fun K "facts_call" "facts_call" s_facts_call (He.ga K "facts_call") fd := fun_d FD
  exact ⟨⟨_, fd, He.glo_ok x.X x.G (x.c.fact 202), ok_facts_call F x.txt x.cok (t_Reader_number x) (t_answer_facts x), F.kp, (F.binds fun _ _ _ _ _ _ us hl => match us, hl with | [_, _], _ => rfl)⟩⟩
theorem t_flush_call (x : Ctx K mg h) : GFn P w K mg base 16 "flush_call" ["net", "reader"] (spC P w K (csOf K) 14) := by
  obtain ⟨fd, FD⟩ := x.c.def_ 107 (d := dd_flush_call)
  have F : Fun K "flush_call" "flush_call" s_flush_call (He.ga K "flush_call") fd := fun_d FD
  exact ⟨⟨_, fd, He.glo_ok x.X x.G (x.c.fact 203), ok_flush_call F x.txt x.cok (t_Reader_number x) (t_answer_flush x), F.kp, (F.binds fun _ _ _ _ _ _ us hl => match us, hl with | [_, _], _ => rfl)⟩⟩
theorem t_answer_next (x : Ctx K mg h) : GFn P w K mg base 17 "answer_next" ["net", "reader"] (sp_next P w K (csOf K)) := by
  obtain ⟨fd, FD⟩ := x.c.def_ 108 (d := dd_answer_next)
  have F : Fun K "answer_next" "answer_next" s_answer_next (He.ga K "answer_next") fd := fun_d FD
  exact ⟨⟨_, fd, He.glo_ok x.X x.G (x.c.fact 204), (ok_answer_next F x.txt x.cok (t_Reader_number x) x.tab (He.glo_ok x.X x.G (x.c.fact 206)) fun k h1 h2 => (match k, h1, h2 with | 1, _, _ => ⟨_, rfl, held_of (t_begin_call x) (He.glo_ok x.X x.G (x.c.fact 190))⟩ | 2, _, _ => ⟨_, rfl, held_of (t_zone_call x) (He.glo_ok x.X x.G (x.c.fact 191))⟩ | 3, _, _ => ⟨_, rfl, held_of (t_copy_call x) (He.glo_ok x.X x.G (x.c.fact 192))⟩ | 4, _, _ => ⟨_, rfl, held_of (t_drop_call x) (He.glo_ok x.X x.G (x.c.fact 193))⟩ | 5, _, _ => ⟨_, rfl, held_of (t_add_call x) (He.glo_ok x.X x.G (x.c.fact 194))⟩ | 6, _, _ => ⟨_, rfl, held_of (t_remove_call x) (He.glo_ok x.X x.G (x.c.fact 195))⟩ | 7, _, _ => ⟨_, rfl, held_of (t_transfer_call x) (He.glo_ok x.X x.G (x.c.fact 196))⟩ | 8, _, _ => ⟨_, rfl, held_of (t_set_call x) (He.glo_ok x.X x.G (x.c.fact 197))⟩ | 9, _, _ => ⟨_, rfl, held_of (t_pass_call x) (He.glo_ok x.X x.G (x.c.fact 198))⟩ | 10, _, _ => ⟨_, rfl, held_of (t_query_call x) (He.glo_ok x.X x.G (x.c.fact 199))⟩ | 11, _, _ => ⟨_, rfl, held_of (t_ask_call x) (He.glo_ok x.X x.G (x.c.fact 200))⟩ | 12, _, _ => ⟨_, rfl, held_of (t_records_call x) (He.glo_ok x.X x.G (x.c.fact 201))⟩ | 13, _, _ => ⟨_, rfl, held_of (t_facts_call x) (He.glo_ok x.X x.G (x.c.fact 202))⟩ | 14, _, _ => ⟨_, rfl, held_of (t_flush_call x) (He.glo_ok x.X x.G (x.c.fact 203))⟩ | k + 15, _, h2 => absurd h2 (by omega))), F.kp, (F.binds fun _ _ _ _ _ _ us hl => match us, hl with | [_, _], _ => rfl)⟩⟩
theorem t_answers (x : Ctx K mg h) : ∃ fd, mg "answers" = some (.ref (He.ga K "answers")) ∧ (∀ base : Heap, FnOk P w K mg base CX0 18 (He.ga K "answers") fd ["calls"] (sp_answers K)) ∧ ∀ (s : Shared) (us : List Value), us.length = (["calls"] : List Str).length → BindsTo s fd ⟨us, []⟩ ((["calls"] : List Str).zip us) := by
  obtain ⟨fd, FD⟩ := x.c.def_ 109 (d := dd_answers)
  have F : Fun K "answers" "answers" s_answers (He.ga K "answers") fd := fun_d FD
  exact ⟨fd, He.glo_ok x.X x.G (x.c.fact 205), fun base => ok_answers F x.txt x.cok (t_Net_init x) (t_Reader_init x) (t_Reader_is_done x) (t_answer_next x), fun s us hl => FD.bindsA (fun _ _ _ _ _ _ us hl => match us, hl with | [_], _ => rfl) s us hl⟩
end
end Nn

namespace Nn
open PySem PySem.Spec PyProof.Rows L2
open PySem.W (WData Codec OpenSpec) in
theorem says_answers {K : PySem.W.Frag} (H : Hp) (xs : List V) (a : Codec.denoteAll R.args) (hwi : Codec.withinAll R.args a = true) (hask : Codec.app R.args R.asked a = true) (hx : DwAll K H xs (Codec.encAll R.args a)) :
    sp_answers K xs H (fun v H' => Dw K H' v (R.ret.enc (Codec.app R.args R.f a))) fun _ _ _ => False := by
  cases hx with
  | cons h1 h2 =>
    cases h2
    cases h1 with
    | lst hs ha =>
      have e := L2.ints_dw a.1 _ ha
      subst e
      have q : ((Codec.inLen 0 16000 a.1 && a.1.all (Codec.inInt 0 18446744073709551615)) && true) = true := hwi
      rw [Bool.and_eq_true, Bool.and_eq_true] at q
      have q1 := (Codec.inNat_iff.mp q.1.1).2
      obtain ⟨cs, e1, e2, e3, e4⟩ := asked_calls (l := a.1) hask
      refine ⟨_, a.1, cs, rfl, hs, e1, q1, e2, e3, fun H' p hp => ?_⟩
      show Dw K H' (.ref p) (R.ret.enc (PyDn01.answers a.1))
      rw [e4]
      exact .lst (L2.SqL.of hp) (L2.dw_ints _)
theorem ends_answers (w : World) (mg : Str → Option Value) (fa : Addr) (h : Heap) (Y : ∃ K : PySem.W.Frag, K.In h ∧ obsXK K = valX) (G : h.Ns mainGlobals mg) (hmg : mg ("answers" : Str) = some (.ref fa)) :
    ∃ (K : PySem.W.Frag) (fd : FuncData) (sp : Sp), K.In h ∧ (∀ (s : Shared) (us : List Value), us.length = (["calls"] : List Str).length → BindsTo s fd ⟨us, []⟩ ((["calls"] : List Str).zip us)) ∧
        (∀ (H : Hp) (xs : List V) (a : PySem.W.Codec.denoteAll R.args), OnlyF H → PySem.W.Codec.withinAll R.args a = true → PySem.W.Codec.app R.args R.asked a = true → DwAll K H xs (PySem.W.Codec.encAll R.args a) → sp xs H (fun v H' => Dw K H' v (R.ret.enc (PySem.W.Codec.app R.args R.f a))) fun _ _ _ => False) ∧
        ∀ base : Heap, K.In base → base.Ns mainGlobals mg → FnOk R.prog w K mg base CX0 18 fa fd ["calls"] sp := by
  obtain ⟨K, KX, c⟩ := Y
  have c1 : (callsB K && apartB K) = true := congrArg (fun z : AlX => z.1) c
  have c2 : He.SaysD faL fnL K := congrArg (fun z : AlX => z.2) c
  rw [Bool.and_eq_true] at c1
  have cx : Ctx K mg h := ⟨KX, G, c2, c1.2, c1.1⟩
  obtain ⟨fd, hm, hF, hb⟩ := t_answers (P := R.prog) (w := w) cx
  rw [hm] at hmg
  cases hmg
  exact ⟨K, fd, sp_answers K, KX, hb, fun H xs a _ hwi hask hx => says_answers H xs a hwi hask hx, fun base _ _ => hF base⟩
end Nn

open PySem PySem.W PySem.Calls PyProof.Rows
theorem PySem.Challenge.cw_netnames_s01_answers_holds : PySem.Challenge.rw_netnames_s01_answers.Holds := by
  exact Nn.head_all Nn.ends_answers
#print axioms PySem.Challenge.cw_netnames_s01_answers_holds
