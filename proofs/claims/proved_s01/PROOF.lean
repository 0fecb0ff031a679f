import PyProof.Rows.All
import Wide.All
import OpenK.AllK
import Wide.FinOn
import Open.SpecLaws
import KE.OsHead
import KE.OsGo
import HandS.ForSpec
import HandS.ForMost
import HandS.Codes
import PySem.Challenge.RW_texttrees_s01_answers
import HandS.More
import HandS.SortInts
import Ue17Spec
import HandS.Conv
import HandS.NoneIn
import HandS.Zip
import HandS.SortKw
import KE.DataMinMax
import KE.KEqSeq
import HandS.Walk
import Ue17Neutral
import PyUe17
set_option Elab.async false
set_option maxRecDepth 100000
set_option linter.unusedVariables false
section
set_option maxHeartbeats 2000000
namespace TT
open PySem PySem.Spec PyProof.Rows L2
/-! the text by places -/
def top (i : Nat) : Stmt := PySem.Challenge.pw_texttrees_s01_answers.main.body.getD i (.Pass ⟨0, 0, 0, 0⟩)
abbrev s_record : Stmt := top 8
abbrev s_record_size : Stmt := top 9
abbrev s_read : Stmt := top 10
abbrev s_body_at : Stmt := top 11
abbrev s_is_right : Stmt := top 12
abbrev s_changed : Stmt := top 23
abbrev s_Tree___init__ : Stmt := inClass (top 24) 0
abbrev s_Tree_has : Stmt := inClass (top 24) 1
abbrev s_Tree_numbers : Stmt := inClass (top 24) 2
abbrev s_Tree_text_now : Stmt := inClass (top 24) 3
abbrev s_Tree_text_of : Stmt := inClass (top 24) 4
abbrev s_Tree_way_to : Stmt := inClass (top 24) 5
abbrev s_Tree_made_of : Stmt := inClass (top 24) 6
abbrev s_Tree_undone : Stmt := inClass (top 24) 7
abbrev s_Tree_done_again : Stmt := inClass (top 24) 8
abbrev s_Tree_put_state : Stmt := inClass (top 24) 9
abbrev s_Tree_make : Stmt := inClass (top 24) 10
abbrev s_Tree_go : Stmt := inClass (top 24) 11
abbrev s_Tree_remember : Stmt := inClass (top 24) 12
abbrev s_Tree_keep : Stmt := inClass (top 24) 13
abbrev s_Tree_forget : Stmt := inClass (top 24) 14
abbrev s_Tree_lowest_free_end : Stmt := inClass (top 24) 15
abbrev s_Tree_first_may_go : Stmt := inClass (top 24) 16
abbrev s_Tree_drop : Stmt := inClass (top 24) 17
abbrev s_Tree_drop_first : Stmt := inClass (top 24) 18
abbrev s_refusal_of_deed : Stmt := top 30
abbrev s_refusal_of_its_sort : Stmt := top 31
abbrev s_refusal_of_make : Stmt := top 32
abbrev s_refusal_of_change : Stmt := top 33
abbrev s_do_deed : Stmt := top 34
abbrev s_tree_made_by : Stmt := top 35
abbrev s_copy_of : Stmt := top 37
abbrev s_first_body : Stmt := top 38
abbrev s_other_body : Stmt := top 39
abbrev s_end_body : Stmt := top 40
abbrev s_tree_copied : Stmt := top 41
abbrev s_bodies_of_copy : Stmt := top 42
abbrev s_tree_of_first : Stmt := top 43
abbrev s_other_fits : Stmt := top 44
abbrev s_end_fits : Stmt := top 45
abbrev s_pairs_of : Stmt := top 46
abbrev s_pairs_fit : Stmt := top 47
abbrev s_take_end : Stmt := top 48
abbrev s_Disk___init__ : Stmt := inClass (top 50) 0
abbrev s_Disk_send : Stmt := inClass (top 50) 1
abbrev s_Disk_arrive : Stmt := inClass (top 50) 2
abbrev s_Disk_arrive_in_part : Stmt := inClass (top 50) 3
abbrev s_Disk_store : Stmt := inClass (top 50) 4
abbrev s_Disk_wipe : Stmt := inClass (top 50) 5
abbrev s_head : Stmt := top 53
abbrev s_number_of : Stmt := top 54
abbrev s_number_behind : Stmt := top 55
abbrev s_new_file : Stmt := top 56
abbrev s_tree_said : Stmt := top 57
abbrev s_found_file : Stmt := top 58
abbrev s_refused : Stmt := top 61
abbrev s_Editor___init__ : Stmt := inClass (top 62) 0
abbrev s_Editor_use_new_file : Stmt := inClass (top 62) 1
abbrev s_Editor_do : Stmt := inClass (top 62) 2
abbrev s_Editor_refusal_of : Stmt := inClass (top 62) 3
abbrev s_Editor_settle : Stmt := inClass (top 62) 4
abbrev s_Editor_flush : Stmt := inClass (top 62) 5
abbrev s_Editor_begin_copy : Stmt := inClass (top 62) 6
abbrev s_Editor_turn : Stmt := inClass (top 62) 7
abbrev s_Editor_lose_power : Stmt := inClass (top 62) 8
abbrev s_Editor_start_anew : Stmt := inClass (top 62) 9
abbrev s_Editor_spoil : Stmt := inClass (top 62) 10
abbrev s_counted : Stmt := top 64
abbrev s_text_told : Stmt := top 65
abbrev s_tree_told : Stmt := top 66
abbrev s_file_told : Stmt := top 67
abbrev s_state_told : Stmt := top 68
abbrev s_past_told : Stmt := top 69
abbrev s_change : Stmt := top 71
abbrev s_undo : Stmt := top 72
abbrev s_redo : Stmt := top 73
abbrev s_go_where : Stmt := top 74
abbrev s_goto : Stmt := top 75
abbrev s_keep : Stmt := top 76
abbrev s_forget : Stmt := top 77
abbrev s_flush : Stmt := top 78
abbrev s_begin_copy : Stmt := top 79
abbrev s_turn : Stmt := top 80
abbrev s_power : Stmt := top 81
abbrev s_start : Stmt := top 82
abbrev s_tell_text : Stmt := top 83
abbrev s_tell_tree : Stmt := top 84
abbrev s_tell_file : Stmt := top 85
abbrev s_spoil : Stmt := top 86
abbrev s_tell_state : Stmt := top 87
abbrev s_was : Stmt := top 88
abbrev s_split_calls : Stmt := top 92
abbrev s_answers : Stmt := top 93
/-- a def of the module: it stands, under its name, its arguments bind -/
def CalT (K : PySem.W.Frag) (mg : Str → Option Value) (x : Str) (st : Stmt) (ps : List Str) : Prop := ∃ (f : Addr) (fd : FuncData), Fun K x x st f fd ∧ mg x = some (.ref f) ∧ Binds K fd ps []
def MetT (K : PySem.W.Frag) (C : Addr) (m qual : Str) (st : Stmt) (ps : List Str) : Prop := ∃ (f : Addr) (fd : FuncData), Fun K m qual st f fd ∧ Meth K C m f ∧ Binds K fd ps []
def MakT (K : PySem.W.Frag) (mg : Str → Option Value) (x : Str) (C : Addr) (qual : Str) (st : Stmt) (ps : List Str) : Prop := ∃ (f : Addr) (fd : FuncData), Fun K "__init__" qual st f fd ∧ Mk K C f ∧ mg x = some (.ref C) ∧ Binds K fd ps []
def AtT (K : PySem.W.Frag) (f : Addr) (x : Str) (st : Stmt) (ps : List Str) : Prop := ∃ (fd : FuncData), Fun K x x st f fd ∧ Binds K fd ps []
section
variable {P : Program} {w : World} {K : PySem.W.Frag} {mg : Str → Option Value} {base : Heap}
theorem CalT.ok {x : Str} {st : Stmt} {N ps : List Str} {k : Nat} {sp : Sp} (T : CalT K mg x st ps) (S : FnScope N ps (defScope st)) (len : ∀ vs H Q E, sp vs H Q E → vs.length = ps.length)
    (hbody : ∀ (f : Addr) (cdv : Value) (A : Around) (outer : List Env) (s : Shared) (H : Hp) (vs : List V) (Q : VK) (E : XK), Room k (A.deeper (envOfC x (defScope st) s.heap.objs.size f cdv)) → sp vs H Q E →
      ∃ t, PSs (cxOf CX0 P w K mg base N x (defScope st) f cdv A outer s H E).nox (defBody st) t ∧ t { nx := fun _ H' => Q .non H', rt := Q } (start N vs) H) : C8.Cal P w K mg base (k + 1) x sp [] := by
  obtain ⟨f, fd, F, hm, hb⟩ := T
  exact ⟨f, fd, ps, [], F.ok S len (hbody f), hm, F.kp, hb, .nil⟩
theorem AtT.ok {x : Str} {f : Addr} {st : Stmt} {N ps : List Str} {k : Nat} {sp : Sp} (T : AtT K f x st ps) (S : FnScope N ps (defScope st)) (len : ∀ vs H Q E, sp vs H Q E → vs.length = ps.length)
    (hbody : ∀ (f : Addr) (cdv : Value) (A : Around) (outer : List Env) (s : Shared) (H : Hp) (vs : List V) (Q : VK) (E : XK), Room k (A.deeper (envOfC x (defScope st) s.heap.objs.size f cdv)) → sp vs H Q E →
      ∃ t, PSs (cxOf CX0 P w K mg base N x (defScope st) f cdv A outer s H E).nox (defBody st) t ∧ t { nx := fun _ H' => Q .non H', rt := Q } (start N vs) H) : C8.CalAt P w K mg base (k + 1) f sp := by
  obtain ⟨fd, F, hb⟩ := T
  exact ⟨fd, ps, F.ok S len (hbody f), F.kp, hb⟩
theorem MetT.ok {C : Addr} {m qual : Str} {st : Stmt} {N ps : List Str} {k : Nat} {sp : Sp} (T : MetT K C m qual st ps) (c : Cls K C) (S : FnScope N ps (defScope st)) (len : ∀ vs H Q E, sp vs H Q E → vs.length = ps.length)
    (hbody : ∀ (f : Addr) (cdv : Value) (A : Around) (outer : List Env) (s : Shared) (H : Hp) (vs : List V) (Q : VK) (E : XK), Room k (A.deeper (envOfC qual (defScope st) s.heap.objs.size f cdv)) → sp vs H Q E →
      ∃ t, PSs (cxOf CX0 P w K mg base N qual (defScope st) f cdv A outer s H E).nox (defBody st) t ∧ t { nx := fun _ H' => Q .non H', rt := Q } (start N vs) H) : C8.Met P w K mg base (k + 1) C m sp [] := by
  obtain ⟨f, fd, F, hm, hb⟩ := T
  exact ⟨f, fd, ps, [], c, hm, F.ok S len (hbody f), hb, .nil⟩
theorem MakT.ok {x : Str} {C : Addr} {qual : Str} {st : Stmt} {N ps : List Str} {k : Nat} {sp : Sp} (T : MakT K mg x C qual st ps) (S : FnScope N ps (defScope st)) (len : ∀ vs H Q E, sp vs H Q E → vs.length = ps.length)
    (hbody : ∀ (f : Addr) (cdv : Value) (A : Around) (outer : List Env) (s : Shared) (H : Hp) (vs : List V) (Q : VK) (E : XK), Room k (A.deeper (envOfC qual (defScope st) s.heap.objs.size f cdv)) → sp vs H Q E →
      ∃ t, PSs (cxOf CX0 P w K mg base N qual (defScope st) f cdv A outer s H E).nox (defBody st) t ∧ t { nx := fun _ H' => Q .non H', rt := Q } (start N vs) H) : C8.Mak P w K mg base (k + 1) x C sp [] := by
  obtain ⟨f, fd, F, M, hm, hb⟩ := T
  exact ⟨f, fd, ps, [], M, F.ok S len (hbody f), hm, hb, .nil⟩
theorem calT_mk {x : Str} {st : Stmt} {ps : List Str} {h : Heap} {f : Addr} {oc : Value} {od an : Option Addr} {osl : Array (Option Value)} {kV doc pm cdv ct : Value} (X : K.In h) (G : h.Ns mainGlobals mg)
    (hb : ∀ (kV doc pm : Value) (an : Option Addr) (cdv ct : Value) (us : List Value), us.length = ps.length → bindArgs (PySem.W.fnOf x x (defArgs st) (defBody st) (defScope st) .none kV doc pm an cdv ct) ⟨us, []⟩ = pure (ps.zip us))
    (a : PySem.W.nsIn K mainGlobals x = some (some (.ref f))) (l : K.lookup f = some ⟨oc, od, .func (PySem.W.fnOf x x (defArgs st) (defBody st) (defScope st) .none kV doc pm an cdv ct), osl⟩)
    (c : PySem.W.codeIn K cdv x = true) (k : PySem.W.keepIn K (.ref f) = true) : CalT K mg x st ps :=
  ⟨f, _, fun_mk l c k, PySem.W.mg_of X G a, (fun_mk l c k).binds hb⟩
theorem atT_mk {x : Str} {st : Stmt} {ps : List Str} {f : Addr} (T : CalT K mg x st ps) (h : mg x = some (.ref f)) : AtT K f x st ps := by
  obtain ⟨f', fd, F, hm, hb⟩ := T
  rw [h] at hm
  cases hm
  exact ⟨fd, F, hb⟩
theorem metT_mk {C : Addr} {m qual : Str} {st : Stmt} {ps : List Str} {f : Addr} {oc : Value} {od an : Option Addr} {osl : Array (Option Value)} {kV doc pm cdv ct : Value}
    (hb : ∀ (kV doc pm : Value) (an : Option Addr) (cdv ct : Value) (us : List Value), us.length = ps.length → bindArgs (PySem.W.fnOf m qual (defArgs st) (defBody st) (defScope st) .none kV doc pm an cdv ct) ⟨us, []⟩ = pure (ps.zip us))
    (a : PySem.W.findIn K (.ref C) m = some (some (.ref f))) (i : PySem.W.isFn K (.ref f) = true) (l : K.lookup f = some ⟨oc, od, .func (PySem.W.fnOf m qual (defArgs st) (defBody st) (defScope st) .none kV doc pm an cdv ct), osl⟩)
    (c : PySem.W.codeIn K cdv qual = true) (k : PySem.W.keepIn K (.ref f) = true) : MetT K C m qual st ps :=
  ⟨f, _, fun_mk l c k, ⟨a, i, k⟩, (fun_mk l c k).binds hb⟩
theorem makT_mk {x : Str} {C : Addr} {qual : Str} {st : Stmt} {ps : List Str} {h : Heap} {f : Addr} {oc : Value} {od an : Option Addr} {osl : Array (Option Value)} {kV doc pm cdv ct : Value} (X : K.In h) (G : h.Ns mainGlobals mg)
    (hb : ∀ (kV doc pm : Value) (an : Option Addr) (cdv ct : Value) (us : List Value), us.length = ps.length → bindArgs (PySem.W.fnOf "__init__" qual (defArgs st) (defBody st) (defScope st) .none kV doc pm an cdv ct) ⟨us, []⟩ = pure (ps.zip us))
    (aC : PySem.W.nsIn K mainGlobals x = some (some (.ref C))) (mk : PySem.W.makesIn K C = true) (kc : PySem.W.keepIn K (.ref C) = true)
    (a : PySem.W.findIn K (.ref C) "__init__" = some (some (.ref f))) (i : PySem.W.isFn K (.ref f) = true) (l : K.lookup f = some ⟨oc, od, .func (PySem.W.fnOf "__init__" qual (defArgs st) (defBody st) (defScope st) .none kV doc pm an cdv ct), osl⟩)
    (c : PySem.W.codeIn K cdv qual = true) (k : PySem.W.keepIn K (.ref f) = true) : MakT K mg x C qual st ps :=
  ⟨f, _, fun_mk l c k, ⟨mk, a, i, kc⟩, PySem.W.mg_of X G aC, (fun_mk l c k).binds hb⟩
/-- a constant of the module -/
def ConT (mg : Str → Option Value) (x : Str) (i : Int) : Prop := ∃ u, mg x = some u ∧ RelV (.int i) u
theorem conT_mk {x : Str} {i : Int} {t : Tok} {h : Heap} (X : K.In h) (G : h.Ns mainGlobals mg) (a : PySem.W.nsIn K mainGlobals x = some (some (.int i t))) : ConT mg x i := ⟨_, PySem.W.mg_of X G a, t, rfl⟩
end
/-- what the top has written -/
structure Txt (K : PySem.W.Frag) (mg : Str → Option Value) (CT CD CE : Addr) : Prop where
  clT : Cls K CT
  nT_first : NoAttr K CT "first"
  nT_first_text : NoAttr K CT "first_text"
  nT_parents : NoAttr K CT "parents"
  nT_changes : NoAttr K CT "changes"
  nT_kept : NoAttr K CT "kept"
  nT_passed : NoAttr K CT "passed"
  nT_now : NoAttr K CT "now"
  nT_given : NoAttr K CT "given"
  nT_deeds : NoAttr K CT "deeds"
  clD : Cls K CD
  nD_files : NoAttr K CD "files"
  nD_writes : NoAttr K CD "writes"
  clE : Cls K CE
  nE_tree : NoAttr K CE "tree"
  nE_remembered : NoAttr K CE "remembered"
  nE_disk : NoAttr K CE "disk"
  nE_powered : NoAttr K CE "powered"
  nE_copying : NoAttr K CE "copying"
  nE_safe : NoAttr K CE "safe"
  nE_used : NoAttr K CE "used"
  nE_number : NoAttr K CE "number"
  nE_size : NoAttr K CE "size"
  d_record : CalT K mg "record" s_record ["body"]
  d_record_size : CalT K mg "record_size" s_record_size ["body"]
  d_read : CalT K mg "read" s_read ["written"]
  d_body_at : CalT K mg "body_at" s_body_at ["written", "place"]
  d_is_right : CalT K mg "is_right" s_is_right ["body"]
  d_changed : CalT K mg "changed" s_changed ["text", "place", "out", "put"]
  m_Tree : MakT K mg "Tree" CT "Tree.__init__" s_Tree___init__ ["self", "first", "text"]
  d_Tree_has : MetT K CT "has" "Tree.has" s_Tree_has ["self", "state"]
  d_Tree_numbers : MetT K CT "numbers" "Tree.numbers" s_Tree_numbers ["self"]
  d_Tree_text_now : MetT K CT "text_now" "Tree.text_now" s_Tree_text_now ["self"]
  d_Tree_text_of : MetT K CT "text_of" "Tree.text_of" s_Tree_text_of ["self", "state"]
  d_Tree_way_to : MetT K CT "way_to" "Tree.way_to" s_Tree_way_to ["self", "state"]
  d_Tree_made_of : MetT K CT "made_of" "Tree.made_of" s_Tree_made_of ["self", "state"]
  d_Tree_undone : MetT K CT "undone" "Tree.undone" s_Tree_undone ["self"]
  d_Tree_done_again : MetT K CT "done_again" "Tree.done_again" s_Tree_done_again ["self"]
  d_Tree_put_state : MetT K CT "put_state" "Tree.put_state" s_Tree_put_state ["self", "number", "parent", "kept", "change"]
  d_Tree_make : MetT K CT "make" "Tree.make" s_Tree_make ["self", "place", "out", "put"]
  d_Tree_go : MetT K CT "go" "Tree.go" s_Tree_go ["self", "state"]
  d_Tree_remember : MetT K CT "remember" "Tree.remember" s_Tree_remember ["self", "state", "child"]
  d_Tree_keep : MetT K CT "keep" "Tree.keep" s_Tree_keep ["self", "state", "kept"]
  d_Tree_forget : MetT K CT "forget" "Tree.forget" s_Tree_forget ["self", "many"]
  d_Tree_lowest_free_end : MetT K CT "lowest_free_end" "Tree.lowest_free_end" s_Tree_lowest_free_end ["self"]
  d_Tree_first_may_go : MetT K CT "first_may_go" "Tree.first_may_go" s_Tree_first_may_go ["self"]
  d_Tree_drop : MetT K CT "drop" "Tree.drop" s_Tree_drop ["self", "state"]
  d_Tree_drop_first : MetT K CT "drop_first" "Tree.drop_first" s_Tree_drop_first ["self"]
  d_refusal_of_deed : CalT K mg "refusal_of_deed" s_refusal_of_deed ["tree", "deed"]
  d_refusal_of_its_sort : CalT K mg "refusal_of_its_sort" s_refusal_of_its_sort ["tree", "deed"]
  d_refusal_of_make : CalT K mg "refusal_of_make" s_refusal_of_make ["tree", "deed"]
  d_refusal_of_change : CalT K mg "refusal_of_change" s_refusal_of_change ["text", "place", "out", "put"]
  d_do_deed : CalT K mg "do_deed" s_do_deed ["tree", "deed"]
  d_tree_made_by : CalT K mg "tree_made_by" s_tree_made_by ["deeds"]
  d_copy_of : CalT K mg "copy_of" s_copy_of ["tree"]
  d_first_body : CalT K mg "first_body" s_first_body ["tree"]
  d_other_body : CalT K mg "other_body" s_other_body ["tree", "state"]
  d_end_body : CalT K mg "end_body" s_end_body ["tree"]
  d_tree_copied : CalT K mg "tree_copied" s_tree_copied ["bodies"]
  d_bodies_of_copy : CalT K mg "bodies_of_copy" s_bodies_of_copy ["bodies"]
  d_tree_of_first : CalT K mg "tree_of_first" s_tree_of_first ["body"]
  d_other_fits : CalT K mg "other_fits" s_other_fits ["tree", "body"]
  d_end_fits : CalT K mg "end_fits" s_end_fits ["tree", "body"]
  d_pairs_of : CalT K mg "pairs_of" s_pairs_of ["body"]
  d_pairs_fit : CalT K mg "pairs_fit" s_pairs_fit ["tree", "pairs"]
  d_take_end : CalT K mg "take_end" s_take_end ["tree", "body"]
  m_Disk : MakT K mg "Disk" CD "Disk.__init__" s_Disk___init__ ["self"]
  d_Disk_send : MetT K CD "send" "Disk.send" s_Disk_send ["self", "which", "place", "put"]
  d_Disk_arrive : MetT K CD "arrive" "Disk.arrive" s_Disk_arrive ["self"]
  d_Disk_arrive_in_part : MetT K CD "arrive_in_part" "Disk.arrive_in_part" s_Disk_arrive_in_part ["self", "many_of_each"]
  d_Disk_store : MetT K CD "store" "Disk.store" s_Disk_store ["self", "which", "place", "put"]
  d_Disk_wipe : MetT K CD "wipe" "Disk.wipe" s_Disk_wipe ["self", "which"]
  d_head : CalT K mg "head" s_head ["number"]
  d_number_of : CalT K mg "number_of" s_number_of ["written"]
  d_number_behind : CalT K mg "number_behind" s_number_behind ["number"]
  d_new_file : CalT K mg "new_file" s_new_file ["number", "tree"]
  d_tree_said : CalT K mg "tree_said" s_tree_said ["written"]
  d_found_file : CalT K mg "found_file" s_found_file ["files"]
  d_refused : CalT K mg "refused" s_refused ["refusal"]
  m_Editor : MakT K mg "Editor" CE "Editor.__init__" s_Editor___init__ ["self"]
  d_Editor_use_new_file : MetT K CE "use_new_file" "Editor.use_new_file" s_Editor_use_new_file ["self", "which", "number"]
  d_Editor_do : MetT K CE "do" "Editor.do" s_Editor_do ["self", "deed"]
  d_Editor_refusal_of : MetT K CE "refusal_of" "Editor.refusal_of" s_Editor_refusal_of ["self", "deed"]
  d_Editor_settle : MetT K CE "settle" "Editor.settle" s_Editor_settle ["self"]
  d_Editor_flush : MetT K CE "flush" "Editor.flush" s_Editor_flush ["self"]
  d_Editor_begin_copy : MetT K CE "begin_copy" "Editor.begin_copy" s_Editor_begin_copy ["self"]
  d_Editor_turn : MetT K CE "turn" "Editor.turn" s_Editor_turn ["self"]
  d_Editor_lose_power : MetT K CE "lose_power" "Editor.lose_power" s_Editor_lose_power ["self", "arrived"]
  d_Editor_start_anew : MetT K CE "start_anew" "Editor.start_anew" s_Editor_start_anew ["self"]
  d_Editor_spoil : MetT K CE "spoil" "Editor.spoil" s_Editor_spoil ["self", "which", "place", "byte"]
  d_counted : CalT K mg "counted" s_counted ["put"]
  d_text_told : CalT K mg "text_told" s_text_told ["editor", "state"]
  d_tree_told : CalT K mg "tree_told" s_tree_told ["editor"]
  d_file_told : CalT K mg "file_told" s_file_told ["editor", "which"]
  d_state_told : CalT K mg "state_told" s_state_told ["editor"]
  d_past_told : CalT K mg "past_told" s_past_told ["editor", "many"]
  d_change : CalT K mg "change" s_change ["editor", "given"]
  d_undo : CalT K mg "undo" s_undo ["editor", "given"]
  d_redo : CalT K mg "redo" s_redo ["editor", "given"]
  d_go_where : CalT K mg "go_where" s_go_where ["editor", "state"]
  d_goto : CalT K mg "goto" s_goto ["editor", "given"]
  d_keep : CalT K mg "keep" s_keep ["editor", "given"]
  d_forget : CalT K mg "forget" s_forget ["editor", "given"]
  d_flush : CalT K mg "flush" s_flush ["editor", "given"]
  d_begin_copy : CalT K mg "begin_copy" s_begin_copy ["editor", "given"]
  d_turn : CalT K mg "turn" s_turn ["editor", "given"]
  d_power : CalT K mg "power" s_power ["editor", "given"]
  d_start : CalT K mg "start" s_start ["editor", "given"]
  d_tell_text : CalT K mg "tell_text" s_tell_text ["editor", "given"]
  d_tell_tree : CalT K mg "tell_tree" s_tell_tree ["editor", "given"]
  d_tell_file : CalT K mg "tell_file" s_tell_file ["editor", "given"]
  d_spoil : CalT K mg "spoil" s_spoil ["editor", "given"]
  d_tell_state : CalT K mg "tell_state" s_tell_state ["editor", "given"]
  d_was : CalT K mg "was" s_was ["editor", "given"]
  d_split_calls : CalT K mg "split_calls" s_split_calls ["calls"]
  d_answers : CalT K mg "answers" s_answers ["calls"]
  c_MAKE : ConT mg "MAKE" 1
  c_GO : ConT mg "GO" 2
  c_KEEP : ConT mg "KEEP" 3
  c_FORGET : ConT mg "FORGET" 4
  c_COPIED_FIRST : ConT mg "COPIED_FIRST" 5
  c_COPIED_OTHER : ConT mg "COPIED_OTHER" 6
  c_COPIED_END : ConT mg "COPIED_END" 7
  c_GRANTED : ConT mg "GRANTED" 0
  c_BEYOND : ConT mg "BEYOND" 1
  c_MISSING : ConT mg "MISSING" 2
  c_FULL : ConT mg "FULL" 5
  c_NO_ROOM : ConT mg "NO_ROOM" 6
  c_NONE_COUNTS : ConT mg "NONE_COUNTS" 6
  c_NOWHERE : ConT mg "NOWHERE" 7
  c_NOT_NOW : ConT mg "NOT_NOW" 8
  c_WRONG_POWER : ConT mg "WRONG_POWER" 9
  c_LONGEST_TEXT : ConT mg "LONGEST_TEXT" 80
  c_MOST_NUMBERS : ConT mg "MOST_NUMBERS" 40
  c_MOST_DEEDS : ConT mg "MOST_DEEDS" 65535
  c_HIGHEST_BYTE : ConT mg "HIGHEST_BYTE" 255
  c_HEAD_SIZE : ConT mg "HEAD_SIZE" 3
  c_LONGEST_FILE : ConT mg "LONGEST_FILE" 5000
  b_len : mg "len" = none
  b_sum : mg "sum" = none
  b_max : mg "max" = none
  b_sorted : mg "sorted" = none
  b_list : mg "list" = none
  b_set : mg "set" = none
  b_all : mg "all" = none
  b_reversed : mg "reversed" = none
  b_enumerate : mg "enumerate" = none
  b_zip : mg "zip" = none
  b_range : mg "range" = none
  t_WHOLE_NUMBERS : ∃ a, mg "WHOLE_NUMBERS" = some (.ref a) ∧ ∀ H, SqT K H a [.int 2, .int 0, .int 0, .int 1, .int 2, .int 1, .int 0, .int 0, .int 0, .int 0, .int 0, .int 1, .int 0, .int 1, .int 3, .int 0, .int 1]
  t_ROWS : ∃ a, mg "ROWS" = some (.ref a) ∧ ∀ H, SqT K H a [.int 1, .int 0, .int 0, .int 0, .int 0, .int 0, .int 0, .int 0, .int 0, .int 1, .int 0, .int 0, .int 0, .int 0, .int 0, .int 0, .int 0]
  t_CALLS : ∃ a f0 f1 f2 f3 f4 f5 f6 f7 f8 f9 f10 f11 f12 f13 f14 f15 f16, mg "CALLS" = some (.ref a) ∧ (∀ H, SqT K H a [.ref f0, .ref f1, .ref f2, .ref f3, .ref f4, .ref f5, .ref f6, .ref f7, .ref f8, .ref f9, .ref f10, .ref f11, .ref f12, .ref f13, .ref f14, .ref f15, .ref f16]) ∧ AtT K f0 "change" s_change ["editor", "given"] ∧ AtT K f1 "undo" s_undo ["editor", "given"] ∧ AtT K f2 "redo" s_redo ["editor", "given"] ∧ AtT K f3 "goto" s_goto ["editor", "given"] ∧ AtT K f4 "keep" s_keep ["editor", "given"] ∧ AtT K f5 "forget" s_forget ["editor", "given"] ∧ AtT K f6 "flush" s_flush ["editor", "given"] ∧ AtT K f7 "begin_copy" s_begin_copy ["editor", "given"] ∧ AtT K f8 "turn" s_turn ["editor", "given"] ∧ AtT K f9 "power" s_power ["editor", "given"] ∧ AtT K f10 "start" s_start ["editor", "given"] ∧ AtT K f11 "tell_text" s_tell_text ["editor", "given"] ∧ AtT K f12 "tell_tree" s_tell_tree ["editor", "given"] ∧ AtT K f13 "tell_file" s_tell_file ["editor", "given"] ∧ AtT K f14 "spoil" s_spoil ["editor", "given"] ∧ AtT K f15 "tell_state" s_tell_state ["editor", "given"] ∧ AtT K f16 "was" s_was ["editor", "given"]
end TT
end
section
set_option maxHeartbeats 2000000
namespace TT
open PySem PySem.Spec PyProof.Rows L2
/-- sorted(d), the keys whole numbers, any number of them -/
def rSrtD : List V → Hp → VK → Prop := fun xs H Q => ∃ (a : Addr) (kvs : List (Key × V)) (ks : List Int), xs = [.ref a] ∧ H a = some (.dK kvs) ∧ kvs.map (·.1) = ks.map Sum.inl ∧ ks.length ≤ 100000 ∧
  ∀ (ys : List Int) (p : Addr), ys.Perm ks → ys.Pairwise (· ≤ ·) → H p = none → Q (.ref p) (upd H p (.lst (ys.map V.int)))
section
variable {X : Cx}
theorem key_ints {ks : List Int} {l : List Value} (hlen : l.length = ks.length) (h : ∀ (j : Nat) (v : Value), l[j]? = some v → ∃ y t, ks[j]? = some y ∧ v = .int y t) : IntsAre l ks := by
  induction l generalizing ks with
  | nil =>
    cases ks with
    | nil => exact .nil
    | cons _ _ => simp at hlen
  | cons v l ih =>
    cases ks with
    | nil => simp at hlen
    | cons y ks =>
      obtain ⟨y', t, e1, e2⟩ := h 0 v rfl
      obtain rfl : y = y' := Option.some.inj e1
      subst e2
      exact .cons y t (ih (by simpa using hlen) fun j u e => h (j + 1) u e)
theorem cr_srtD (hcm : X.calm = true) : CallR X (.builtin "sorted") rSrtD := by
  intro pins s σ H xs us Q I r q0
  obtain ⟨a, kvs, ks, rfl, hd, hks, hlen, q⟩ := q0
  obtain ⟨u0, rfl, ru⟩ := vals1 r
  cases ru
  obtain ⟨z, lo, vs, rel, dd⟩ := dk_rd I.hok (.inl hd)
  obtain ⟨ep, hat⟩ := dd.dictAt
  have hky : vs.map (·.1) = ks.map Sum.inl := rel.keys.symm.trans hks
  have hvl : vs.length = ks.length := by simpa using congrArg List.length hky
  have hv16 : vs.length ≤ sizeLine := Nat.le_trans (by omega : vs.length ≤ 100000) (by decide)
  apply Calls.call_function_entry kind_sorted plain_sorted entry_sorted (args_sorted1 _)
  unfold Builtin.«sorted»
  refine wpAny_bind (m := checkCount "sorted" 1 1 _) (wpAny_pure (wpAny_bind (PySem.W.kdu_collect (A := X.A.in1) (PySem.W.kdl_dict (knd := mixKind X.prog X.w) (kvs := vs) (ep := ep) lo) (I.ok.hd hcm) hat hv16 fun h' tk acc hk hacc => ?_)))
  have hal : acc.toList.length = ks.length := by rw [Array.length_toList, hacc.1, hvl]
  have hS : IntsAre acc.toList ks := key_ints hal fun j v e => by
    obtain ⟨k, x, e1, e2⟩ := hacc.2 j v ((Array.getElem?_toList ..).symm.trans e)
    have e3 : (ks.map (Sum.inl (β := Str)))[j]? = some k := by rw [← hky, List.getElem?_map, e1]; rfl
    rw [List.getElem?_map] at e3
    cases e4 : ks[j]? with
    | none => rw [e4] at e3; exact nomatch e3
    | some y =>
      rw [e4] at e3
      obtain rfl : Sum.inl y = k := Option.some.inj e3
      rcases keyIs_shape (show keyIs (Sum.inl y) v = true from e2) with ⟨i, t, ek, ev⟩ | ⟨w, t, ek, ev⟩
      · cases ek; exact ⟨y, t, rfl, ev⟩
      · cases ek
  have J1 : Inv X pins σ H { s with heap := h', toks := tk } := I.kept hk
  have hz : acc.toList.length ≤ sizeLine := Nat.le_trans (by omega : acc.toList.length ≤ 100000) (by decide)
  apply wpAny_bind
  refine wpAny_newList ?_ hz
  generalize hnew : h'.push (seqObj "list" acc.toList.toArray 0) = h1
  have hoL : h1.get? h'.objs.size = some (seqObj "list" acc.toList.toArray 0) := by rw [← hnew]; exact Heap.get?_push_size _ rfl
  have hsz : h1.objs.size = h'.objs.size + 1 := by rw [← hnew, size_push']
  show wpAny _ _ _ _ _ { s with heap := h1, toks := tk }
  refine wpAny_bind (wpAny_holding (wpAny_call_entry slot_list_sort ⟨_, hoL, rfl⟩ entry_list_sort (SrtO.list_sort_ord (s := { s with heap := h1, toks := tk }) SrtO.swo_int hoL hz (fun h2 => SrtO.ints_sortable hS h2) fun out o1 o2 => ⟨_, rfl, ?_⟩) (args_list_sort _)))
  obtain ⟨k1, k2, k3⟩ := SrtO.ints_out hS o1 o2
  obtain ⟨e', he'⟩ := sortedHeap_at (vs := acc.toList) (out := out.toArray) hoL
  have hol : ((out.map SrtO.iv).map V.int).length ≤ sizeLine := by
    rw [List.length_map, k2.length_eq, ← hal]
    exact hz
  refine wpAny_pure ⟨_, rfl, .ref h'.objs.size, upd H h'.objs.size (.lst ((out.map SrtO.iv).map V.int)), J1.laid (t' := tk) (fun b o e => ?_) (Nat.le_refl _) (show ObjOk X.prog X.w _ _ _ (.lst ((out.map SrtO.iv).map V.int)) from ⟨hol, out, e', vals_of_ints k1, he'⟩), rfl, q _ _ k2 k3 (J1.hok.fresh (Nat.le_refl _))⟩
  have hbs : b < h'.objs.size := Heap.lt_size e
  rw [sortedHeap_old (Nat.ne_of_lt hbs) (by show b < h1.objs.size; rw [hsz]; exact Nat.lt_succ_of_lt hbs), ← hnew]; exact Heap.get?_push_of_some _ e
end
end TT
end
section
set_option maxHeartbeats 2000000
namespace TT
open PySem PySem.Spec PyProof.Rows L2
/-! words -/
abbrev iv (l : List Nat) : List V := l.map fun (n : Nat) => V.int (n : Int)
theorem iv_append (a b : List Nat) : iv (a ++ b) = iv a ++ iv b := List.map_append
theorem iv_len (a : List Nat) : (iv a).length = a.length := List.length_map ..
abbrev zi (l : List Nat) : List Int := l.map fun (n : Nat) => Int.ofNat n
theorem iv_zi (l : List Nat) : iv l = (zi l).map V.int := by
  rw [List.map_map]
  rfl
theorem iv_get {l : List Nat} {i : Nat} {x : Nat} (h : l[i]? = some x) : (iv l)[i]? = some (V.int (x : Int)) := by
  unfold iv
  rw [List.getElem?_map, h]
  rfl
theorem iv_at {l : List Nat} {i : Nat} {x : Nat} (h : l[i]? = some x) : atI (iv l) (i : Int) = some (V.int (x : Int)) := atI_nat (iv_get h)
/-- a new object, its heap a letter -/
theorem snew {H H1 : Hp} {p : Addr} {o : HO} (hp : H p = none) (e : upd H p o = H1) : Same H H1 := fun b u h => by
  rw [← e, upd_ne (ne_of_none h hp)]
  exact h
theorem hnew {H H1 : Hp} {p : Addr} {o : HO} (e : upd H p o = H1) : H1 p = some o := by
  rw [← e]
  exact upd_same
theorem sz (n : Nat) (h : n ≤ 100000) : n ≤ sizeLine := Nat.le_trans h (by decide)
theorem szl (n : Nat) (h : n ≤ 100000) : n < sizeLine := Nat.lt_of_le_of_lt h (by decide)
/-- what a def that only reads hands back: a new list | a value -/
def newL (H : Hp) (xs : List V) (Q : VK) : Prop := ∀ (p : Addr) (H' : Hp), H p = none → Same H H' → H' p = some (.lst xs) → Q (.ref p) H'
def pureV (H : Hp) (v : V) (Q : VK) : Prop := ∀ H', Same H H' → Q v H'
/-- slices of a list by natural numbers -/
theorem cut_nn (l : List V) (i j : Nat) : cutV l (some (i : Int)) (some (j : Int)) = (l.drop i).take (j - i) := by
  unfold cutV
  rw [HT.sIx_nat, HT.sIx_nat]
  by_cases h : i ≤ l.length
  · rw [Nat.min_eq_left h]
    by_cases h2 : j ≤ l.length
    · rw [Nat.min_eq_left h2]
    · rw [Nat.min_eq_right (by omega), List.take_of_length_le (by rw [List.length_drop] <;> omega), List.take_of_length_le (by rw [List.length_drop] <;> omega)]
  · rw [Nat.min_eq_right (show l.length ≤ i by omega), List.drop_eq_nil_of_le (Nat.le_refl _), List.drop_eq_nil_of_le (show l.length ≤ i by omega), List.take_nil, List.take_nil]
theorem cut_n (l : List V) (i : Nat) : cutV l (some (i : Int)) none = l.drop i := by
  unfold cutV
  rw [HT.sIx_nat, HT.sIx_none]
  by_cases h : i ≤ l.length
  · rw [Nat.min_eq_left h, List.take_of_length_le (by rw [List.length_drop] <;> omega)]
  · rw [Nat.min_eq_right (by omega), List.drop_eq_nil_of_le (Nat.le_refl _), List.drop_eq_nil_of_le (by omega), List.take_nil]
theorem cut_to (l : List V) (j : Nat) : cutV l none (some (j : Int)) = l.take j := by
  unfold cutV
  rw [HT.sIx_nat, HT.sIx_none, List.drop_zero, Nat.sub_zero]
  by_cases h : j ≤ l.length
  · rw [Nat.min_eq_left h]
  · rw [Nat.min_eq_right (by omega), List.take_length, List.take_of_length_le (by omega)]
theorem iv_cut_nn (l : List Nat) (i j : Nat) : cutV (iv l) (some (i : Int)) (some (j : Int)) = iv ((l.drop i).take (j - i)) := by
  rw [cut_nn]
  unfold iv
  rw [List.map_take, List.map_drop]
theorem iv_cut_n (l : List Nat) (i : Nat) : cutV (iv l) (some (i : Int)) none = iv (l.drop i) := by
  rw [cut_n]
  unfold iv
  rw [List.map_drop]
theorem iv_cut_to (l : List Nat) (j : Nat) : cutV (iv l) none (some (j : Int)) = iv (l.take j) := by
  rw [cut_to]
  unfold iv
  rw [List.map_take]
/-- the sum -/
theorem foldl_sum : ∀ (w : List Nat) (a : Nat), w.foldl (fun s b => s + b) a = a + Ue17.sum w
  | [], a => rfl
  | x :: w, a => by
    show w.foldl (fun s b => s + b) (a + x) = a + w.foldl (fun s b => s + b) (0 + x)
    rw [foldl_sum w (a + x), foldl_sum w (0 + x)]
    omega
theorem sum_zi : ∀ w : List Nat, (zi w).sum = (Ue17.sum w : Int)
  | [] => rfl
  | x :: w => by
    have e : Ue17.sum (x :: w) = x + Ue17.sum w := (foldl_sum w (0 + x)).trans (by omega)
    show ((Int.ofNat x) :: zi w).sum = _
    rw [List.sum_cons, sum_zi w, e]
    show (x : Int) + (Ue17.sum w : Int) = ((x + Ue17.sum w : Nat) : Int)
    omega
/-- equality of lists of ints -/
abbrev dz (l : List Nat) : List PyData := l.map fun (n : Nat) => PyData.int (Int.ofNat n)
theorem dpAll_iv {K : PySem.W.Frag} {H : Hp} : ∀ l : List Nat, DpAll K H (iv l) (dz l)
  | [] => .nil
  | x :: l => .cons (.int (Int.ofNat x)) (dpAll_iv l)
theorem dp_iv {K : PySem.W.Frag} {H : Hp} {a : Addr} {l : List Nat} (h : SqL K H a (iv l)) : Dp K H (.ref a) (.list (dz l)) := .lst h (dpAll_iv l)
theorem eqv_dz : ∀ l m : List Nat, PyData.eqvAll (dz l) (dz m) = decide (l = m)
  | [], [] => by simp [PyData.eqvAll]
  | [], _ :: _ => by simp [PyData.eqvAll]
  | _ :: _, [] => by simp [PyData.eqvAll]
  | x :: l, y :: m => by
    have ih := eqv_dz l m
    have e : PyData.eqv (PyData.int (Int.ofNat x)) (PyData.int (Int.ofNat y)) = decide (x = y) := by
      show ((Int.ofNat x) == (Int.ofNat y)) = decide (x = y)
      by_cases h : x = y
      · subst h; simp
      · rw [decide_eq_false h]
        exact beq_eq_false_iff_ne.mpr fun q => h (Int.ofNat.inj q)
    show (PyData.eqv (PyData.int (Int.ofNat x)) (PyData.int (Int.ofNat y)) && PyData.eqvAll (dz l) (dz m)) = decide (x :: l = y :: m)
    rw [e, ih]
    by_cases h : x = y <;> by_cases h2 : l = m <;> simp [h, h2]
theorem shaped_dz (l : List Nat) : SeqAt.shaped (.list (dz l)) = true := by
  have h := PySem.W.ke_shaped_ints (zi l)
  rw [List.map_map] at h
  exact h
def rEqN (K : PySem.W.Frag) : R2 := fun x y H Q => ∃ a b l m, x = .ref a ∧ y = .ref b ∧ SqL K H a (iv l) ∧ SqL K H b (iv m) ∧ Q (.bl (decide (l = m))) H
def rNeN (K : PySem.W.Frag) : R2 := fun x y H Q => ∃ a b l m, x = .ref a ∧ y = .ref b ∧ SqL K H a (iv l) ∧ SqL K H b (iv m) ∧ Q (.bl (!decide (l = m))) H
section
variable {X : Cx}
theorem op_eqN (hu : X.A.units + 64 < cLine) : OpR X (compareOp .Eq) (rEqN X.K) := by
  intro pins st σ H x y v u Q J rx ry hw
  obtain ⟨a, b, l, m, rfl, rfl, h1, h2, q⟩ := hw
  refine op_eqD hu pins st σ H _ _ v u Q J rx ry ⟨_, _, dp_iv h1, dp_iv h2, shaped_dz l, shaped_dz m, ?_⟩
  show Q (.bl (PyData.eqvAll (dz l) (dz m))) H
  rw [eqv_dz]
  exact q
theorem op_neN (hu : X.A.units + 64 < cLine) : OpR X (compareOp .NotEq) (rNeN X.K) := by
  intro pins st σ H x y v u Q J rx ry hw
  obtain ⟨a, b, l, m, rfl, rfl, h1, h2, q⟩ := hw
  refine op_neD hu pins st σ H _ _ v u Q J rx ry ⟨_, _, dp_iv h1, dp_iv h2, shaped_dz l, shaped_dz m, ?_⟩
  show Q (.bl (!PyData.eqvAll (dz l) (dz m))) H
  rw [eqv_dz]
  exact q
/-- C() of a class by its bundle -/
theorem pe_mk0 {k j : Nat} {C : Addr} {x : Str} {sp : Sp} {p pos : Pos} (c : C8.Mak X.prog X.w X.K X.mg X.base k x C sp []) (hr : Room j X.A) (hk : k + 1 ≤ j) (hg : Gl X x) (hdb : (x == ("__debug__" : Str)) = false := by decide) :
    PE X (.Call (.Name x p) [] [] pos) (tMake C sp [] E0 tNil) := by
  obtain ⟨fa, fd, ps, ds, hM, hF, named, binds, dflt⟩ := c.ex
  exact pe_make0 hM hF (hr.mono hk) hg named binds dflt pass0 hdb
/-- a call of what an expression gives: a def at an address -/
def tCallE (S : Addr → Sp → Prop) (te : TE) (t : TA) : TE := fun σ H Q => te σ H fun x H1 => ∃ f sp, x = .ref f ∧ S f sp ∧ t σ H1 fun vs H2 => sp vs H2 Q E0
theorem pe_callE {S : Addr → Sp → Prop} {j : Nat} {f e : Expr} {es : List Expr} {te : TE} {t : TA} {pos : Pos} (c : ∀ f sp, S f sp → C8.CalAt X.prog X.w X.K X.mg X.base j f sp) (room : Room j X.A) (hf : PE X f te) (ha : PA X (e :: es) t)
    (hstar : starEach (e :: es) X.env = (false, eval e X.env) :: starEach es X.env := by rfl) (hnone : (backTo pos (starEach es X.env)).any (·.1) = false := by rfl)
    (hev : eval (.Call f (e :: es) [] pos) X.env = (do callWith pos (← eval f X.env) [] (backTo pos (starEach (e :: es) X.env)) (backToKw pos (keywordEach [] X.env))) := by rfl) :
    PE X (.Call f (e :: es) [] pos) (tCallE S te t) := by
  constructor
  intro pins st σ H Q J hw
  refine Call_ (thn (hf.run pins st σ H _ J hw) fun u st1 hu => ?_) hev
  obtain ⟨x, H1, J1, rx, g, sp, rfl, hS, hargs⟩ := hu
  obtain rfl : u = Value.ref g := rx
  obtain ⟨fd, ps, hF, kept, binds⟩ := (c g sp hS).ex
  have args := ha.run pos pins st1 σ _ _ J1 hargs
  refine PySem.W.callWith_K (h₀ := X.base) J.ok.mod.kin kept (thn args fun us st2 h2 => ?_) hstar hnone
  obtain ⟨vs, H2, J2, rs, hsp⟩ := h2
  refine ⟨J2.kIn, run_fn hF room binds .nil pass0 J2 rs ?_⟩
  rw [List.append_nil]
  exact hsp
/-- max(xs, default=d) -/
def rMaxDf (K : PySem.W.Frag) : List V → List V → Hp → VK → Prop := fun xs zs H Q => ∃ (a : Addr) (ns : List Int) (d : V), xs = [.ref a] ∧ zs = [d] ∧ SqL K H a (ns.map V.int) ∧ (ns = [] → Q d H) ∧ ∀ m, m ∈ ns → (∀ y, y ∈ ns → y ≤ m) → Q (.int m) H
theorem foldl_max_mem : ∀ (l : List Int) (n : Int), l.foldl max n ∈ n :: l ∧ ∀ y ∈ n :: l, y ≤ l.foldl max n
  | [], n => ⟨by simp, by simp⟩
  | x :: l, n => by
    obtain ⟨h1, h2⟩ := foldl_max_mem l (max n x)
    have h3 : max n x ≤ l.foldl max (max n x) := h2 _ (by simp)
    refine ⟨?_, ?_⟩
    · show l.foldl max (max n x) ∈ n :: x :: l
      rcases List.mem_cons.mp h1 with q | q
      · rw [q]
        by_cases c : n ≤ x
        · rw [Int.max_eq_right c]; simp
        · rw [Int.max_eq_left (by omega)]; simp
      · exact List.mem_cons_of_mem _ (List.mem_cons_of_mem _ q)
    · intro y hy
      show y ≤ l.foldl max (max n x)
      rcases List.mem_cons.mp hy with q | q
      · rw [q]; exact Int.le_trans (Int.le_max_left _ _) h3
      · rcases List.mem_cons.mp q with q | q
        · rw [q]; exact Int.le_trans (Int.le_max_right _ _) h3
        · exact h2 y (List.mem_cons_of_mem _ q)
theorem readsAll_ints {h : Heap} : ∀ {ns : List Int} {us : List Value}, Vals (ns.map V.int) us → ReadsAll h us (ns.map PyData.int) []
  | [], _, .nil => .nil
  | n :: ns, _, .cons r t => by
    obtain ⟨k, rfl⟩ := r
    exact ReadsAll.cons (Reads.int n k) (readsAll_ints t)
theorem depth_ints : ∀ ns : List Int, PyData.depthAll (ns.map PyData.int) ≤ 1
  | [] => by simp [PyData.depthAll]
  | n :: ns => by
    have ih := depth_ints ns
    simp only [List.map_cons, PyData.depthAll, PyData.depth]
    omega
theorem alikeI (ns : List Int) : PySem.W.AlikeAll (ns.map PyData.int) := by
  refine ⟨fun x hx y hy => ?_, fun x hx => ?_⟩
  · obtain ⟨a, _, rfl⟩ := List.mem_map.mp hx
    obtain ⟨b, _, rfl⟩ := List.mem_map.mp hy
    simp [PySem.W.alike]
  · obtain ⟨a, _, rfl⟩ := List.mem_map.mp hx
    intro q
    cases q
theorem call_maxD (hc : X.calm = true) (hu : X.A.units + 64 < cLine) : CallRK X (.builtin "max") ["default"] (rMaxDf X.K) := by
  intro pins s σ H xs zs us ws Q I r r2 h
  obtain ⟨a, ns, d, rfl, rfl, hs, q0, q⟩ := h
  obtain ⟨its, hvals, hl, _⟩ := I.list hs
  rw [Vals.ref1 r]
  cases r2 with
  | cons rd rn =>
  cases rn
  refine PySem.W.max_list_default (I.ok.hd hc) hl.isList (by simpa using readsAll_ints (h := s.heap) hvals) (alikeI ns) (by have := depth_ints ns; show X.A.units + 1 + PyData.depthAll (ns.map PyData.int) < cLine; omega) ?_ ?_
  · intro e h' tk hk
    have e' : ns = [] := List.map_eq_nil_iff.mp e
    exact ⟨d, H, I.kept hk, rd, q0 e'⟩
  · intro y ys i v h' tk bs e hv hr hk
    cases ns with
    | nil => cases e
    | cons n ns =>
      have e1 : y = PyData.int n ∧ ys = ns.map PyData.int := by
        have z : PyData.int n :: ns.map PyData.int = y :: ys := e
        injection z with z1 z2
        exact ⟨z1.symm, z2.symm⟩
      obtain ⟨rfl, rfl⟩ := e1
      rw [PySem.W.maxD_ints] at hr
      obtain ⟨h1, h2⟩ := foldl_max_mem ns n
      cases hr
      exact ⟨.int _, H, I.kept hk, ⟨_, rfl⟩, q _ h1 h2⟩
/-- len(set(xs)) of ints -/
def tLenSetA (K : PySem.W.Frag) (ta : TE) : TE := fun σ H Q => ta σ H fun x H1 => ∃ (l : Addr) (ns : List Int), x = .ref l ∧ SqL K H1 l (ns.map V.int) ∧ ns.length ≤ 4000 ∧ Q (.int ((firstMet (fun i => ns.getD i 0) ns.length).length : Nat)) H1
theorem pe_lenSetA {a : Expr} {ta : TE} {p p2 q pos : Pos} (gl : Gl X "len") (ml : X.mg "len" = none) (gs : Gl X "set") (ms : X.mg "set" = none) (ha : PE X a ta) (hcalm : X.calm = true := by rfl)
    (hs : starEach [a] X.env = (false, eval a X.env) :: starEach [] X.env := by rfl) : PE X (.Call (.Name "len" p) [.Call (.Name "set" p2) [a] [] q] [] pos) (tLenSetA X.K ta) := by
  constructor
  intro pins st σ H Q J hw
  refine Call_ (ld_blt J gl ml boot_len (callWith_builtin1 (args_cons (Call_ (ld_blt J gs ms boot_set (callWith_type1 (args_cons (thn (ha.run pins st σ H _ J hw) fun v st1 hv => args_nil ?_) hs) hs rfl))) rfl) rfl rfl))
  obtain ⟨x, H1, J1, rx, l, ns, rfl, hsq, hlong, hq⟩ := hv
  cases rx
  obtain ⟨its, hvals, place, _⟩ := J1.list hsq
  have many : its.toArray.size = ns.length := by
    have := hvals.length
    rw [List.length_map] at this
    rw [List.size_toArray]
    exact this.symm
  refine call_set_list (J1.ok.hd hcalm) place.isList (by simpa using RZ.intsAre_vals hvals) (by rw [many]; unfold scanBound; omega) fun h' tk made kept => args_nil ?_
  rw [many] at made
  obtain ⟨o, es, ep, t, at_, elts, dd, _, _, _, fin_, num⟩ := made
  have J2 : Inv X pins σ H1 { st1 with heap := h', toks := tk } := J1.kept fun b o hb => kept b o (Heap.lt_size hb) hb
  have few := firstMet_length_le (fun i => ns.getD i 0) ns.length
  exact call_len_set at_ elts dd fin_ (by rw [num] <;> omega) ⟨.int (firstMet (fun i => ns.getD i 0) ns.length).length, H1, J2.tok _, ⟨_, by rw [num]⟩, hq⟩
end
end TT
end
section
namespace TT
open Ue17
theorem bitOf_some (k : Nat) : (bitOf k).isSome = decide (k ≤ 1) := by
  unfold bitOf
  by_cases h : k = 0
  · subst h; rfl
  · by_cases h1 : k = 1
    · subst h1; rfl
    · rw [if_neg h, if_neg h1, decide_eq_false (by omega)]; rfl
theorem pairsOf_some : ∀ l : List Nat, (pairsOf l).isSome = decide (l.length % 2 = 0)
  | [] => rfl
  | [_] => rfl
  | a :: b :: l => by
    have ih := pairsOf_some l
    show ((pairsOf l).map _).isSome = _
    rw [Option.isSome_map, ih]
    have : (a :: b :: l).length % 2 = l.length % 2 := by simp [List.length_cons]; omega
    rw [this]
theorem isr1 (r : List Nat) : (recOf (1 :: r)).isSome = decide (3 ≤ r.length + 1) := by
  match r with
  | [] => rfl
  | [_] => rfl
  | a :: b :: w => simp [recOf]
theorem isr2 (r : List Nat) : (recOf (2 :: r)).isSome = decide (r.length + 1 = 2) := by
  match r with
  | [] => rfl
  | [_] => rfl
  | a :: b :: w => simp [recOf]
theorem isr4 (r : List Nat) : (recOf (4 :: r)).isSome = decide (r.length + 1 = 2) := by
  match r with
  | [] => rfl
  | [_] => rfl
  | a :: b :: w => simp [recOf]
theorem isr3 (r : List Nat) : (recOf (3 :: r)).isSome = (decide (r.length + 1 = 3) && decide (r.getD 1 0 ≤ 1)) := by
  match r with
  | [] => rfl
  | [_] => rfl
  | [a, b] => simp [recOf, bitOf_some]
  | a :: b :: c :: w => simp [recOf]
theorem isr5 (r : List Nat) : (recOf (5 :: r)).isSome = (decide (3 ≤ r.length + 1) && decide (r.getD 1 0 ≤ 1)) := by
  match r with
  | [] => rfl
  | [_] => rfl
  | a :: b :: w => simp [recOf, bitOf_some]
theorem isr6 (r : List Nat) : (recOf (6 :: r)).isSome = (decide (6 ≤ r.length + 1) && decide (r.getD 2 0 ≤ 1)) := by
  match r with
  | [] => rfl
  | [_] => rfl
  | [_, _] => rfl
  | [_, _, _] => simp [recOf]
  | [_, _, _, _] => simp [recOf]
  | a :: b :: k :: d :: e :: w => simp [recOf, bitOf_some]
theorem isr7 (r : List Nat) : (recOf (7 :: r)).isSome = (decide (5 ≤ r.length + 1) && decide ((r.length + 1) % 2 = 1)) := by
  match r with
  | [] => rfl
  | [_] => rfl
  | [_, _] => rfl
  | [_, _, _] => rfl
  | a :: b :: k :: d :: w =>
    simp [recOf, pairsOf_some]
    omega
theorem isr0 (x : Nat) (r : List Nat) (h : x = 0 ∨ 7 < x) : recOf (x :: r) = none := by
  unfold recOf
  split <;> first | rfl | (rename_i q; injection q with q1 q2; omega) | omega
end TT
end
section
namespace TT
open Ue17
def recB (l : List Nat) : List Nat := [l.length, 255 - l.length] ++ l ++ [sum l % 256, 255]
def slot (w : List Nat) (p : Nat) : List Nat := (w.drop (p + 2)).take (w.getD p 0)
def bodyAt (w : List Nat) (p : Nat) : Option (List Nat) :=
  if w.length ≤ p then none else if slot w p = [] ∨ (w.drop p).take ((slot w p).length + 4) ≠ recB (slot w p) then none else if (recOf (slot w p)).isSome = true then some (slot w p) else none
theorem recB_len (l : List Nat) : (recB l).length = l.length + 4 := by
  unfold recB
  simp
theorem body_at_rec {w : List Nat} {p : Nat} (hb : ∀ x ∈ w, x ≤ 255) : recordAt (w.drop p) = (bodyAt w p).bind fun b => (recOf b).map fun r => (r, b.length + 4) := by
  unfold bodyAt
  by_cases h0 : w.length ≤ p
  · rw [if_pos h0, List.drop_eq_nil_of_le h0]
    rfl
  rw [if_neg h0]
  have hlt : p < w.length := by omega
  have e0 : w.drop p = w[p] :: w.drop (p + 1) := List.drop_eq_getElem_cons hlt
  have g0 : w.getD p 0 = w[p] := by rw [List.getD_eq_getElem?_getD, List.getElem?_eq_getElem hlt]; rfl
  by_cases h1 : p + 1 < w.length
  · have e1 : w.drop (p + 1) = w[p + 1] :: w.drop (p + 2) := List.drop_eq_getElem_cons h1
    have hs : slot w p = (w.drop (p + 2)).take w[p] := by unfold slot; rw [g0]
    generalize hn : w[p] = n at *
    generalize hm : w[p + 1] = m at *
    have hnb : n ≤ 255 := by rw [← hn]; exact hb _ (List.getElem_mem ..)
    generalize hv : w.drop (p + 2) = v at *
    rw [e0, e1]
    show (if n + m = 255 ∧ 0 < n ∧ n + 2 ≤ v.length ∧ v.getD n 0 = sum (v.take n) % 256 ∧ v.getD (n + 1) 0 = 255 then (recOf (v.take n)).map fun r => (r, n + 4) else none) = _
    rw [hs]
    by_cases c : n + m = 255 ∧ 0 < n ∧ n + 2 ≤ v.length ∧ v.getD n 0 = sum (v.take n) % 256 ∧ v.getD (n + 1) 0 = 255
    · obtain ⟨c1, c2, c3, c4, c5⟩ := c
      have l1 : (v.take n).length = n := by rw [List.length_take]; omega
      have ne : v.take n ≠ [] := by intro q; rw [q] at l1; simp at l1; omega
      have eq : (n :: m :: v).take ((v.take n).length + 4) = recB (v.take n) := by
        rw [l1]
        unfold recB
        rw [l1]
        have q1 : v.take (n + 2) = v.take n ++ [v.getD n 0, v.getD (n + 1) 0] := by
          have a1 : v.take (n + 1) = v.take n ++ [v.getD n 0] := by
            rw [List.take_add_one, List.getElem?_eq_getElem (by omega), List.getD_eq_getElem?_getD, List.getElem?_eq_getElem (by omega)]; rfl
          have a2 : v.take (n + 2) = v.take (n + 1) ++ [v.getD (n + 1) 0] := by
            rw [List.take_add_one, List.getElem?_eq_getElem (by omega), List.getD_eq_getElem?_getD, List.getElem?_eq_getElem (by omega)]; rfl
          rw [a2, a1, List.append_assoc]; rfl
        show n :: m :: v.take (n + 2) = _
        rw [q1, c4, c5, show m = 255 - n by omega]
        simp
      rw [if_pos ⟨c1, c2, c3, c4, c5⟩, if_neg (by rintro (q | q); exact ne q; exact q eq)]
      cases hr : recOf (v.take n) with
      | none => simp
      | some r => simp [hr, l1]
    · rw [if_neg c]
      by_cases d : v.take n = [] ∨ (n :: m :: v).take ((v.take n).length + 4) ≠ recB (v.take n)
      · rw [if_pos d]; rfl
      · exfalso
        have d1 : ¬ v.take n = [] := fun q => d (.inl q)
        have d2 : (n :: m :: v).take ((v.take n).length + 4) = recB (v.take n) := Classical.byContradiction fun q => d (.inr q)
        apply c
        generalize hb' : v.take n = b at *
        have hlen := congrArg List.length d2
        rw [recB_len, List.length_take] at hlen
        have hl2 : b.length + 2 ≤ v.length := by simp at hlen; omega
        unfold recB at d2
        have d3 : n :: m :: v.take (b.length + 2) = b.length :: (255 - b.length) :: (b ++ [sum b % 256, 255]) := by
          have : (n :: m :: v).take (b.length + 4) = n :: m :: v.take (b.length + 2) := rfl
          rw [← this, d2]; simp
        injection d3 with d4 d5
        injection d5 with d6 d7
        have hb0 : 0 < b.length := by cases b with | nil => exact absurd rfl d1 | cons _ _ => simp
        have lb : b.length ≤ 255 := by omega
        have t1 : (v.take (b.length + 2))[b.length]? = some (sum b % 256) := by rw [d7, List.getElem?_append_right (Nat.le_refl _)]; simp
        have t2 : (v.take (b.length + 2))[b.length + 1]? = some 255 := by rw [d7, List.getElem?_append_right (by omega)]; simp
        rw [List.getElem?_take, if_pos (by omega)] at t1 t2
        rw [d4]
        refine ⟨by omega, hb0, hl2, ?_, ?_⟩
        · rw [List.getD_eq_getElem?_getD, t1]; rfl
        · rw [List.getD_eq_getElem?_getD, t2]; rfl
  · have e1 : w.drop (p + 1) = [] := List.drop_eq_nil_of_le (by omega)
    have hs : slot w p = [] := by unfold slot; rw [List.drop_eq_nil_of_le (by omega), List.take_nil]
    rw [e0, e1, hs, if_pos (.inl rfl)]
    rfl
theorem bodyAt_fits {w b : List Nat} {p : Nat} (h : bodyAt w p = some b) : b ≠ [] ∧ p + b.length + 4 ≤ w.length ∧ (recOf b).isSome = true ∧ (∀ x ∈ b, x ∈ w) ∧ b = slot w p := by
  unfold bodyAt at h
  split at h
  · cases h
  split at h
  · cases h
  rename_i h0 h1
  split at h
  · rename_i h2
    have e := Option.some.inj h
    rw [e] at h1 h2
    have d1 : ¬ b = [] := fun q => h1 (.inl q)
    have d2 : (w.drop p).take (b.length + 4) = recB b := Classical.byContradiction fun q => h1 (.inr q)
    have hl := congrArg List.length d2
    rw [recB_len, List.length_take, List.length_drop] at hl
    refine ⟨d1, by omega, h2, fun x hx => ?_, e.symm⟩
    rw [← e] at hx
    unfold slot at hx
    exact List.mem_of_mem_drop (List.mem_of_mem_take hx)
  · cases h
def bodiesF : Nat → List Nat → Nat → List (List Nat)
  | 0, _, _ => []
  | f + 1, w, p => match bodyAt w p with
    | none => []
    | some b => b :: bodiesF f w (p + (b.length + 4))
def bodies (w : List Nat) : List (List Nat) := bodiesF (w.length + 1) w 0
theorem bodiesF_rec {w : List Nat} (hb : ∀ x ∈ w, x ≤ 255) : ∀ f p, (bodiesF f w p).map recOf = (recordsFrom f (w.drop p)).map some
  | 0, _ => rfl
  | f + 1, p => by
    unfold bodiesF recordsFrom
    rw [body_at_rec hb]
    cases h : bodyAt w p with
    | none => rfl
    | some b =>
      obtain ⟨r, hr⟩ := Option.isSome_iff_exists.mp (bodyAt_fits h).2.2.1
      show (b :: bodiesF f w (p + (b.length + 4))).map recOf = _
      simp only [Option.bind_some, hr, Option.map_some, List.map_cons]
      rw [bodiesF_rec hb f (p + (b.length + 4)), List.drop_drop]
theorem bodies_rec {w : List Nat} (hb : ∀ x ∈ w, x ≤ 255) : (bodies w).map recOf = (records w).map some := bodiesF_rec hb (w.length + 1) 0
theorem bodiesF_mem {w : List Nat} : ∀ f p b, b ∈ bodiesF f w p → b ≠ [] ∧ (recOf b).isSome = true ∧ ∀ x ∈ b, x ∈ w
  | 0, _, _, h => by cases h
  | f + 1, p, b, h => by
    unfold bodiesF at h
    cases hb : bodyAt w p with
    | none => rw [hb] at h; cases h
    | some c =>
      rw [hb] at h
      rcases List.mem_cons.mp h with q | q
      · subst q
        obtain ⟨h1, _, h2, h3, _⟩ := bodyAt_fits hb
        exact ⟨h1, h2, h3⟩
      · exact bodiesF_mem f _ b q
theorem bodiesF_len {w : List Nat} : ∀ f p, p ≤ w.length → (bodiesF f w p).length + p ≤ w.length
  | 0, p, h => by show 0 + p ≤ _; omega
  | f + 1, p, h => by
    unfold bodiesF
    cases hb : bodyAt w p with
    | none => show 0 + p ≤ _; omega
    | some c =>
      have := (bodyAt_fits hb).2.1
      have ih := bodiesF_len f (p + (c.length + 4)) (by omega)
      show (bodiesF f w (p + (c.length + 4))).length + 1 + p ≤ _
      omega
end TT
end
section
set_option maxHeartbeats 2000000
namespace TT
open PySem PySem.Spec PyProof.Rows L2
section
variable {P : Program} {w : World} {K : PySem.W.Frag} {mg : Str → Option Value} {base : Heap} {CT CD CE : Addr}
abbrev N_record : List Str := ["body"]
theorem sc_record : FnScope N_record ["body"] (defScope s_record) := ⟨rfl, rfl, rfl, by decide +kernel, rfl, by decide +kernel, by decide +kernel⟩
abbrev N_record_size : List Str := ["body"]
theorem sc_record_size : FnScope N_record_size ["body"] (defScope s_record_size) := ⟨rfl, rfl, rfl, by decide +kernel, rfl, by decide +kernel, by decide +kernel⟩
def sp_record : Sp := fun vs H Q _ => ∃ (a : Addr) (l : List Nat), vs = [.ref a] ∧ H a = some (.lst (iv l)) ∧ l.length ≤ 255 ∧ newL H (iv (recB l)) Q
theorem ok_record (T : Txt K mg CT CD CE) : C8.Cal P w K mg base 1 "record" sp_record [] := by
  refine T.d_record.ok sc_record (fun vs H Q E h => ?_) (fun f cdv A outer s H vs Q E hr h => ?_)
  · obtain ⟨a, l, rfl, _⟩ := h
    rfl
  · obtain ⟨a, l, rfl, ha, hl, k⟩ := h
    refine ⟨_, (pss_one (ps_ret (pe_op op_cat (pe_op op_cat (pe_lst (pa_cons (pe_callB call_len_seq (by rfl) T.b_len PySem.boot_len (pa_cons (pv 0) pa_nil)) (pa_cons (pe_op op_sub pe_int (pe_callB call_len_seq (by rfl) T.b_len PySem.boot_len (pa_cons (pv 0) pa_nil))) pa_nil))) (pv 0)) (pe_lst (pa_cons (pe_op op_mod (pe_callB (cr_sum rfl) (by rfl) T.b_sum (by decide +kernel) (pa_cons (pv 0) pa_nil)) pe_int) (pa_cons pe_int pa_nil)))))) , ?_⟩
    have hz : (iv l).length ≤ 255 := by rw [iv_len]; exact hl
    refine ⟨_, rfl, a, _, rfl, .inl (SqL.of ha), _, rfl, a, _, rfl, .inl (SqL.of ha), _, _, rfl, rfl, sz 2 (by decide), ?_⟩
    intro p np; generalize hH_p : upd _ p _ = H1; have s1 := snew np hH_p; have h1 := hnew hH_p; clear hH_p
    refine ⟨_, rfl, p, a, _, _, rfl, rfl, h1, s1 _ _ ha, sz _ (by show 2 + (iv l).length ≤ _; omega), ?_⟩
    intro q nq; generalize hH_q : upd _ q _ = H2; have s2 := snew nq hH_q; have h2 := hnew hH_q; clear hH_q
    refine ⟨_, rfl, a, zi l, rfl, SqL.of (by rw [← iv_zi]; exact s2 _ _ (s1 _ _ ha)), _, _, rfl, rfl, (by show (0 : Int) < 256; decide), sz 2 (by decide), ?_⟩
    intro r nr; generalize hH_r : upd _ r _ = H3; have s3 := snew nr hH_r; have h3 := hnew hH_r; clear hH_r
    refine ⟨q, r, _, _, rfl, rfl, s3 _ _ h2, h3, sz _ (by rw [List.length_append]; show 2 + (iv l).length + 2 ≤ _; omega), ?_⟩
    intro u nu; generalize hH_u : upd _ u _ = H4; have s4 := snew nu hH_u; have h4 := hnew hH_u; clear hH_u
    refine k u H4 ((s1.trans (s2.trans s3)).free nu) (((s1.trans s2).trans s3).trans s4) ?_
    rw [h4]
    congr 2
    rw [sum_zi]
    unfold recB
    rw [iv_append, iv_append]
    show [V.int ((iv l).length : Int), V.int (255 - ((iv l).length : Int))] ++ iv l ++ [V.int ((Ue17.sum l : Int) % 256), V.int 255] = [V.int (l.length : Int), V.int ((255 - l.length : Nat) : Int)] ++ iv l ++ [V.int ((Ue17.sum l % 256 : Nat) : Int), V.int 255]
    rw [iv_len, show (255 : Int) - (l.length : Int) = ((255 - l.length : Nat) : Int) by omega]
    rfl
def sp_record_size : Sp := fun vs H Q _ => ∃ (a : Addr) (l : List V), vs = [.ref a] ∧ H a = some (.lst l) ∧ Q (.int ((l.length + 4 : Nat) : Int)) H
theorem ok_record_size (T : Txt K mg CT CD CE) : C8.Cal P w K mg base 1 "record_size" sp_record_size [] := by
  refine T.d_record_size.ok sc_record_size (fun vs H Q E h => ?_) (fun f cdv A outer s H vs Q E hr h => ?_)
  · obtain ⟨a, l, rfl, _⟩ := h
    rfl
  · obtain ⟨a, l, rfl, ha, k⟩ := h
    refine ⟨_, (pss_one (ps_ret (pe_op op_add (pe_callB call_len_seq (by rfl) T.b_len PySem.boot_len (pa_cons (pv 0) pa_nil)) pe_int))) , ?_⟩
    exact ⟨_, rfl, a, _, rfl, .inl (SqL.of ha), _, _, rfl, rfl, k⟩
end
end TT
end
section
set_option maxHeartbeats 2000000
namespace TT
open PySem PySem.Spec PyProof.Rows L2
/-! tests -/
theorem itI {i j : Int} {A B : Prop} (h1 : i = j → A) (h2 : i ≠ j → B) : if decide (V.int i = V.int j) = true then A else B := by
  by_cases h : i = j
  · rw [if_pos (decide_eq_true (by rw [h]))]
    exact h1 h
  · rw [if_neg (by intro q; exact h (V.int.inj (of_decide_eq_true q)))]
    exact h2 h
theorem itNI {i j : Int} {A B : Prop} (h1 : i ≠ j → A) (h2 : i = j → B) : if (!decide (V.int i = V.int j)) = true then A else B := by
  by_cases h : i = j
  · rw [if_neg (by rw [decide_eq_true (by rw [h])]; decide)]
    exact h2 h
  · rw [if_pos (by rw [decide_eq_false (fun q => h (V.int.inj q))]; rfl)]
    exact h1 h
theorem itD {p A B : Prop} [Decidable p] (h1 : p → A) (h2 : ¬ p → B) : if decide p = true then A else B := by
  by_cases h : p
  · rw [if_pos (decide_eq_true h)]
    exact h1 h
  · rw [if_neg (by intro q; exact h (of_decide_eq_true q))]
    exact h2 h
theorem itND {p A B : Prop} [Decidable p] (h1 : ¬ p → A) (h2 : p → B) : if (!decide p) = true then A else B := by
  by_cases h : p
  · rw [if_neg (by rw [decide_eq_true h]; decide)]
    exact h2 h
  · rw [if_pos (by rw [decide_eq_false h]; rfl)]
    exact h1 h
theorem itB {b : Bool} {A B : Prop} (h1 : b = true → A) (h2 : b = false → B) : if b = true then A else B := by
  cases b with
  | true => exact h1 rfl
  | false => exact h2 rfl
theorem itNB {b : Bool} {A B : Prop} (h1 : b = false → A) (h2 : b = true → B) : if (!b) = true then A else B := by
  cases b with
  | true => exact h2 rfl
  | false => exact h1 rfl
theorem fin_v {Q : VK} {v v' : V} {H : Hp} (k : Q v H) (e : v = v') : Q v' H := e ▸ k
theorem fin_b {Q : VK} {v v' : Bool} {H : Hp} (k : Q (.bl v) H) (e : v = v') : Q (.bl v') H := e ▸ k
theorem fin_i {Q : VK} {v v' : Int} {H : Hp} (k : Q (.int v) H) (e : v = v') : Q (.int v') H := e ▸ k
theorem dec_eq {p q : Prop} [Decidable p] [Decidable q] (h : p ↔ q) : decide p = decide q := decide_eq_decide.mpr h
theorem dec_int {i j : Int} {p : Prop} [Decidable p] (h : p ↔ i = j) : decide p = decide (V.int i = V.int j) := decide_eq_decide.mpr ⟨fun a => by rw [h.mp a], fun a => h.mpr (V.int.inj a)⟩
section
variable {P : Program} {w : World} {K : PySem.W.Frag} {mg : Str → Option Value} {base : Heap} {CT CD CE : Addr}
abbrev N_is_right : List Str := ["body", "sort", "many"]
theorem sc_is_right : FnScope N_is_right ["body"] (defScope s_is_right) := ⟨rfl, rfl, rfl, by decide +kernel, rfl, by decide +kernel, by decide +kernel⟩
abbrev N_changed : List Str := ["text", "place", "out", "put"]
theorem sc_changed : FnScope N_changed ["text", "place", "out", "put"] (defScope s_changed) := ⟨rfl, rfl, rfl, by decide +kernel, rfl, by decide +kernel, by decide +kernel⟩
abbrev N_body_at : List Str := ["written", "place", "body"]
theorem sc_body_at : FnScope N_body_at ["written", "place"] (defScope s_body_at) := ⟨rfl, rfl, rfl, by decide +kernel, rfl, by decide +kernel, by decide +kernel⟩
abbrev N_read : List Str := ["written", "bodies", "place", "body"]
theorem sc_read : FnScope N_read ["written"] (defScope s_read) := ⟨rfl, rfl, rfl, by decide +kernel, rfl, by decide +kernel, by decide +kernel⟩
def sp_is_right : Sp := fun vs H Q _ => ∃ (a : Addr) (l : List Nat), vs = [.ref a] ∧ H a = some (.lst (iv l)) ∧ l ≠ [] ∧ Q (.bl (Ue17.recOf l).isSome) H
theorem ok_is_right (T : Txt K mg CT CD CE) : C8.Cal P w K mg base 1 "is_right" sp_is_right [] := by
  refine T.d_is_right.ok sc_is_right (fun vs H Q E h => ?_) (fun f cdv A outer s H vs Q E hr h => ?_)
  · obtain ⟨a, l, rfl, _⟩ := h
    rfl
  · obtain ⟨a, l, rfl, ha, hl, k⟩ := h
    refine ⟨_, (pss_cons (ps_set (i := 1) sc_is_right.nd rfl (Or.inl rfl) (pe_ix ix_list (pv 0) pe_int (fun _ _ => rfl)))
      (pss_cons (ps_set (i := 2) sc_is_right.nd rfl (Or.inl rfl) (pe_callB call_len_seq (by rfl) T.b_len PySem.boot_len (pa_cons (pv 0) pa_nil)))
      (pss_cons (ps_if (pt_cmpR op_eq (pv 1) (C8.pe_gc (by rfl) T.c_MAKE) (nomark _))
        (pss_one (ps_ret (pe_cmpR op_ge (pv 2) pe_int (nomark _))))
        pss_nil)
      (pss_cons (ps_if (PW.pt (pw_or (pt_cmpR op_eq (pv 1) (C8.pe_gc (by rfl) T.c_GO) (nomark _)) (pw_or1 (pt_cmpR op_eq (pv 1) (C8.pe_gc (by rfl) T.c_FORGET) (nomark _)))))
        (pss_one (ps_ret (pe_cmpR op_eq (pv 2) pe_int (nomark _))))
        pss_nil)
      (pss_cons (ps_if (pt_cmpR op_eq (pv 1) (C8.pe_gc (by rfl) T.c_KEEP) (nomark _))
        (pss_one (ps_ret (pe_and (pe_cmpR op_eq (pv 2) pe_int (nomark _)) (pe_one (pe_cmpR op_le (pe_ix ix_list (pv 0) pe_int (fun _ _ => rfl)) pe_int (nomark _))))))
        pss_nil)
      (pss_cons (ps_if (pt_cmpR op_eq (pv 1) (C8.pe_gc (by rfl) T.c_COPIED_FIRST) (nomark _))
        (pss_one (ps_ret (pe_and (pe_cmpR op_ge (pv 2) pe_int (nomark _)) (pe_one (pe_cmpR op_le (pe_ix ix_list (pv 0) pe_int (fun _ _ => rfl)) pe_int (nomark _))))))
        pss_nil)
      (pss_cons (ps_if (pt_cmpR op_eq (pv 1) (C8.pe_gc (by rfl) T.c_COPIED_OTHER) (nomark _))
        (pss_one (ps_ret (pe_and (pe_cmpR op_ge (pv 2) pe_int (nomark _)) (pe_one (pe_cmpR op_le (pe_ix ix_list (pv 0) pe_int (fun _ _ => rfl)) pe_int (nomark _))))))
        pss_nil)
      (pss_cons (ps_if (pt_cmpR op_eq (pv 1) (C8.pe_gc (by rfl) T.c_COPIED_END) (nomark _))
        (pss_one (ps_ret (pe_and (pe_cmpR op_ge (pv 2) pe_int (nomark _)) (pe_one (pe_cmpR op_eq (pe_op op_mod (pv 2) pe_int) pe_int (nomark _))))))
        pss_nil)
      (pss_one (ps_ret pe_bl)))))))))) , ?_⟩
    cases l with
    | nil => exact absurd rfl hl
    | cons x r =>
    have hlen : (iv (x :: r)).length = r.length + 1 := by rw [iv_len]; rfl
    have hget : ∀ {i : Nat}, i + 1 < r.length + 1 → atI (iv (x :: r)) ((i + 1 : Nat) : Int) = some (V.int ((r.getD i 0 : Nat) : Int)) := fun {i} hi => iv_at (by
      rw [List.getElem?_cons_succ, List.getD_eq_getElem?_getD, List.getElem?_eq_getElem (by omega)]; rfl)
    refine ⟨_, rfl, a, _, _, _, rfl, rfl, SqL.of ha, iv_at (l := x :: r) (i := 0) rfl, ?_⟩
    refine ⟨_, rfl, a, _, rfl, .inl (SqL.of ha), ?_⟩
    refine ⟨_, rfl, rfl, _, rfl, itI (fun e => ?_) (fun e1 => ?_)⟩
    · obtain rfl : x = 1 := by omega
      refine ⟨_, rfl, _, _, rfl, rfl, fin_b k ?_⟩
      rw [isr1]
      exact dec_eq (by omega)
    refine ⟨_, rfl, rfl, _, rfl, itI (fun e => iteT ?_) (fun e2 => ⟨_, rfl, rfl, _, rfl, itI (fun e => ?_) (fun e4 => ?_)⟩)⟩
    · obtain rfl : x = 2 := by omega
      refine ⟨_, rfl, rfl, fin_b k ?_⟩
      rw [isr2]
      exact dec_int (by omega)
    · obtain rfl : x = 4 := by omega
      refine ⟨_, rfl, rfl, fin_b k ?_⟩
      rw [isr4]
      exact dec_int (by omega)
    refine ⟨_, rfl, rfl, _, rfl, itI (fun e => ?_) (fun e3 => ?_)⟩
    · obtain rfl : x = 3 := by omega
      refine ⟨_, rfl, rfl, _, rfl, itI (fun c => ?_) (fun c => ?_)⟩
      · refine ⟨_, rfl, a, _, _, _, rfl, rfl, SqL.of ha, hget (i := 1) (by omega), _, _, rfl, rfl, fin_b k ?_⟩
        rw [isr3, decide_eq_true (show r.length + 1 = 3 by omega), Bool.true_and]
        exact dec_eq (by omega)
      · refine fin_b k ?_
        rw [isr3, decide_eq_false (show ¬ r.length + 1 = 3 by omega), Bool.false_and]
    refine ⟨_, rfl, rfl, _, rfl, itI (fun e => ?_) (fun e5 => ?_)⟩
    · obtain rfl : x = 5 := by omega
      refine ⟨_, rfl, _, _, rfl, rfl, _, rfl, itD (fun c => ?_) (fun c => ?_)⟩
      · refine ⟨_, rfl, a, _, _, _, rfl, rfl, SqL.of ha, hget (i := 1) (by omega), _, _, rfl, rfl, fin_b k ?_⟩
        rw [isr5, decide_eq_true (show 3 ≤ r.length + 1 by omega), Bool.true_and]
        exact dec_eq (by omega)
      · refine fin_b k ?_
        rw [isr5, decide_eq_false (show ¬ 3 ≤ r.length + 1 by omega), Bool.false_and]
    refine ⟨_, rfl, rfl, _, rfl, itI (fun e => ?_) (fun e6 => ?_)⟩
    · obtain rfl : x = 6 := by omega
      refine ⟨_, rfl, _, _, rfl, rfl, _, rfl, itD (fun c => ?_) (fun c => ?_)⟩
      · refine ⟨_, rfl, a, _, _, _, rfl, rfl, SqL.of ha, hget (i := 2) (by omega), _, _, rfl, rfl, fin_b k ?_⟩
        rw [isr6, decide_eq_true (show 6 ≤ r.length + 1 by omega), Bool.true_and]
        exact dec_eq (by omega)
      · refine fin_b k ?_
        rw [isr6, decide_eq_false (show ¬ 6 ≤ r.length + 1 by omega), Bool.false_and]
    refine ⟨_, rfl, rfl, _, rfl, itI (fun e => ?_) (fun e7 => ?_)⟩
    · obtain rfl : x = 7 := by omega
      refine ⟨_, rfl, _, _, rfl, rfl, _, rfl, itD (fun c => ?_) (fun c => ?_)⟩
      · refine ⟨_, rfl, _, _, rfl, rfl, (by show (0 : Int) < 2; decide), rfl, fin_b k ?_⟩
        rw [isr7, decide_eq_true (show 5 ≤ r.length + 1 by omega), Bool.true_and]
        exact dec_int (by omega)
      · refine fin_b k ?_
        rw [isr7, decide_eq_false (show ¬ 5 ≤ r.length + 1 by omega), Bool.false_and]
    refine fin_b k ?_
    rw [isr0 x r (by omega)]
    rfl
def sp_changed : Sp := fun vs H Q _ => ∃ (a b : Addr) (t i : List Nat) (p o : Nat), vs = [.ref a, .int (p : Int), .int (o : Int), .ref b] ∧ H a = some (.lst (iv t)) ∧ H b = some (.lst (iv i)) ∧ t.length ≤ 80000 ∧ i.length ≤ 10000 ∧
  newL H (iv (Ue17.changed t ⟨p, o, i⟩)) Q
theorem ok_changed (T : Txt K mg CT CD CE) : C8.Cal P w K mg base 1 "changed" sp_changed [] := by
  refine T.d_changed.ok sc_changed (fun vs H Q E h => ?_) (fun f cdv A outer s H vs Q E hr h => ?_)
  · obtain ⟨a, b, t, i, p, o, rfl, _⟩ := h
    rfl
  · obtain ⟨a, b, t, i, p, o, rfl, ha, hb, ht, hi, k⟩ := h
    refine ⟨_, (pss_one (ps_ret (pe_op op_cat (pe_op op_cat (pe_slice sl_list (pv 0) po_none (po_some (pv 1))) (pv 3)) (pe_slice sl_list (pv 0) (po_some (pe_op op_add (pv 1) (pv 2))) po_none)))) , ?_⟩
    refine ⟨_, rfl, _, rfl, _, rfl, a, _, rfl, SqL.of ha, ?_⟩
    intro x nx; generalize hH_x : upd _ x _ = H1; have s1 := snew nx hH_x; have h1 := hnew hH_x; clear hH_x
    rw [iv_cut_to] at h1
    refine ⟨_, rfl, x, b, _, _, rfl, rfl, h1, s1 _ _ hb, sz _ (by rw [iv_len, iv_len, List.length_take]; omega), ?_⟩
    intro y ny; generalize hH_y : upd _ y _ = H2; have s2 := snew ny hH_y; have h2 := hnew hH_y; clear hH_y
    refine ⟨_, rfl, _, rfl, _, rfl, _, _, rfl, rfl, _, rfl, a, _, rfl, SqL.of (s2 _ _ (s1 _ _ ha)), ?_⟩
    intro z nz; generalize hH_z : upd _ z _ = H3; have s3 := snew nz hH_z; have h3 := hnew hH_z; clear hH_z
    rw [show cutV (iv t) (some ((p : Int) + (o : Int))) none = iv (t.drop (p + o)) from iv_cut_n t (p + o)] at h3
    refine ⟨y, z, _, _, rfl, rfl, s3 _ _ h2, h3, sz _ (by rw [List.length_append, iv_len, iv_len, iv_len, List.length_take, List.length_drop]; omega), ?_⟩
    intro u nu; generalize hH_u : upd _ u _ = H4; have s4 := snew nu hH_u; have h4 := hnew hH_u; clear hH_u
    refine k u H4 (((s1.trans s2).trans s3).free nu) (((s1.trans s2).trans s3).trans s4) ?_
    rw [h4]
    unfold Ue17.changed
    rw [iv_append, iv_append, List.append_assoc]
end
end TT
end
section
set_option maxHeartbeats 2000000
namespace TT
open PySem PySem.Spec PyProof.Rows L2
section
variable {P : Program} {w : World} {K : PySem.W.Frag} {mg : Str → Option Value} {base : Heap} {CT CD CE : Addr}
def sp_body_at : Sp := fun vs H Q _ => ∃ (a : Addr) (w : List Nat) (p : Nat), vs = [.ref a, .int (p : Int)] ∧ H a = some (.lst (iv w)) ∧ (∀ x ∈ w, x ≤ 255) ∧ w.length ≤ 40000 ∧
  (bodyAt w p = none → pureV H .non Q) ∧ (∀ b, bodyAt w p = some b → newL H (iv b) Q)
theorem ok_body_at (T : Txt K mg CT CD CE) : C8.Cal P w K mg base 2 "body_at" sp_body_at [] := by
  refine T.d_body_at.ok sc_body_at (fun vs H Q E h => ?_) (fun f cdv A outer s H vs Q E hr h => ?_)
  · obtain ⟨a, l, p, rfl, _⟩ := h
    rfl
  · obtain ⟨a, l, p, rfl, ha, hb, hl, k0, k1⟩ := h
    refine ⟨_, (pss_cons (ps_if (pt_cmpR op_ge (pv 1) (pe_callB call_len_seq (by rfl) T.b_len PySem.boot_len (pa_cons (pv 0) pa_nil)) (nomark _))
        (pss_one (ps_ret pe_non))
        pss_nil)
      (pss_cons (ps_set (i := 2) sc_body_at.nd rfl (Or.inl rfl) (pe_slice sl_list (pv 0) (po_some (pe_op op_add (pv 1) pe_int)) (po_some (pe_op op_add (pe_op op_add (pv 1) pe_int) (pe_ix ix_list (pv 0) (pv 1) (fun _ _ => rfl))))))
      (pss_cons (ps_if (PW.pt (pw_or (pt_cmpR (op_eqN hr.units) (pv 2) (pe_lst pa_nil) (nomark _)) (pw_or1 (pt_cmpR (op_neN hr.units) (pe_slice sl_list (pv 0) (po_some (pv 1)) (po_some (pe_op op_add (pv 1) (C8.pe_c (ok_record_size T) hr (by decide) (by rfl) (pa_cons (pv 2) pa_nil))))) (C8.pe_c (ok_record T) hr (by decide) (by rfl) (pa_cons (pv 2) pa_nil)) (nomark _)))))
        (pss_one (ps_ret pe_non))
        pss_nil)
      (pss_one (ps_ret (pe_ifExp (pt_val (C8.pe_c (ok_is_right T) hr (by decide) (by rfl) (pa_cons (pv 2) pa_nil))) (pv 2) pe_non)))))) , ?_⟩
    refine ⟨_, rfl, _, rfl, a, _, rfl, .inl (SqL.of ha), _, _, rfl, rfl, _, rfl, itD (fun c => ?_) (fun c => ?_)⟩
    · rw [iv_len] at c
      exact k0 (by unfold bodyAt; rw [if_pos (by omega)]) H (Same.refl H)
    rw [iv_len] at c
    have hlt : p < l.length := by omega
    have hg : l[p]? = some (l.getD p 0) := by rw [List.getD_eq_getElem?_getD, List.getElem?_eq_getElem hlt]; rfl
    refine ⟨_, rfl, _, rfl, _, _, rfl, rfl, _, rfl, _, rfl, _, _, rfl, rfl, _, rfl, _, rfl, a, _, _, _, rfl, rfl, SqL.of ha, iv_at hg, _, _, rfl, rfl, _, rfl, a, _, rfl, SqL.of ha, ?_⟩
    intro x nx; generalize hH_x : upd _ x _ = H1; have s1 := snew nx hH_x; have h1 := hnew hH_x; clear hH_x
    rw [show cutV (iv l) (some ((p : Int) + 2)) (some ((p : Int) + 2 + (l.getD p 0 : Int))) = iv (slot l p) by
      have e := iv_cut_nn l (p + 2) (p + 2 + l.getD p 0)
      rw [show p + 2 + l.getD p 0 - (p + 2) = l.getD p 0 by omega] at e
      exact e] at h1
    have hn : l.getD p 0 ≤ 255 := hb _ (List.mem_of_getElem? hg)
    have hsl : (slot l p).length ≤ 255 := by unfold slot; rw [List.length_take]; omega
    refine ⟨_, rfl, sz 0 (by decide), ?_⟩
    intro y ny; generalize hH_y : upd _ y _ = H2; have s2 := snew ny hH_y; have h2 := hnew hH_y; clear hH_y
    refine ⟨x, y, slot l p, [], rfl, rfl, SqL.of (s2 _ _ h1), SqL.of h2, _, rfl, itD (fun c1 => iteT ?_) (fun c1 => ?_)⟩
    · exact k0 (by unfold bodyAt; rw [if_neg (by omega), if_pos (.inl c1)]) H2 (s1.trans s2)
    refine ⟨_, rfl, _, rfl, _, rfl, _, rfl, _, rfl, x, _, rfl, s2 _ _ h1, _, _, rfl, rfl, _, rfl, a, _, rfl, SqL.of (s2 _ _ (s1 _ _ ha)), ?_⟩
    intro z nz; generalize hH_z : upd _ z _ = H3; have s3 := snew nz hH_z; have h3 := hnew hH_z; clear hH_z
    rw [show cutV (iv l) (some (p : Int)) (some ((p : Int) + (((iv (slot l p)).length + 4 : Nat) : Int))) = iv ((l.drop p).take ((slot l p).length + 4)) by
      have e := iv_cut_nn l p (p + ((iv (slot l p)).length + 4))
      rw [show p + ((iv (slot l p)).length + 4) - p = (slot l p).length + 4 by rw [iv_len]; omega] at e
      exact e] at h3
    refine ⟨_, rfl, x, slot l p, rfl, s3 _ _ (s2 _ _ h1), hsl, fun u H4 nu s4 h4 => ?_⟩
    refine ⟨z, u, _, _, rfl, rfl, SqL.of (s4 _ _ h3), SqL.of h4, _, rfl, itND (fun c2 => ?_) (fun c2 => ?_)⟩
    · exact k0 (by unfold bodyAt; rw [if_neg (by omega), if_pos (.inr c2)]) H4 (((s1.trans s2).trans s3).trans s4)
    refine ⟨_, rfl, x, slot l p, rfl, s4 _ _ (s3 _ _ (s2 _ _ h1)), c1, _, rfl, itB (fun c3 => ?_) (fun c3 => ?_)⟩
    · refine ⟨_, rfl, k1 (slot l p) (by unfold bodyAt; rw [if_neg (by omega), if_neg (by rintro (q | q); exact c1 q; exact q c2), if_pos c3]) x H4 nx (((s1.trans s2).trans s3).trans s4) (s4 _ _ (s3 _ _ (s2 _ _ h1)))⟩
    · exact k0 (by unfold bodyAt; rw [if_neg (by omega), if_neg (by rintro (q | q); exact c1 q; exact q c2), if_neg (by rw [c3]; decide)]) H4 (((s1.trans s2).trans s3).trans s4)
/-- a list of lists of numbers -/
structure ListsAt (H : Hp) (ps : List Addr) (bs : List (List Nat)) : Prop where
  len : ps.length = bs.length
  at_ : ∀ (i : Nat) (p : Addr) (b : List Nat), ps[i]? = some p → bs[i]? = some b → H p = some (.lst (iv b))
theorem ListsAt.same {H H' : Hp} {ps : List Addr} {bs : List (List Nat)} (L : ListsAt H ps bs) (s : Same H H') : ListsAt H' ps bs := ⟨L.len, fun i p b h1 h2 => s _ _ (L.at_ i p b h1 h2)⟩
theorem ListsAt.nil {H : Hp} : ListsAt H [] [] := ⟨rfl, fun i p b h => by simp at h⟩
theorem ListsAt.snoc {H : Hp} {ps : List Addr} {bs : List (List Nat)} {p : Addr} {b : List Nat} (L : ListsAt H ps bs) (h : H p = some (.lst (iv b))) : ListsAt H (ps ++ [p]) (bs ++ [b]) := by
  refine ⟨by rw [List.length_append, List.length_append, L.len]; rfl, fun i q c h1 h2 => ?_⟩
  have hl := L.len
  by_cases hi : i < ps.length
  · rw [List.getElem?_append_left hi] at h1
    rw [List.getElem?_append_left (by omega)] at h2
    exact L.at_ i q c h1 h2
  · rw [List.getElem?_append_right (by omega)] at h1
    rw [List.getElem?_append_right (by omega)] at h2
    have e : i - ps.length = 0 := by
      have := (List.getElem?_eq_some_iff.mp h1).1
      simp at this
      omega
    rw [show i - bs.length = 0 by omega] at h2
    rw [e] at h1
    obtain rfl : p = q := Option.some.inj h1
    obtain rfl : b = c := Option.some.inj h2
    exact h
abbrev rv (ps : List Addr) : List V := ps.map V.ref
theorem rv_append (a b : List Addr) : rv (a ++ b) = rv a ++ rv b := List.map_append
theorem rv_len (a : List Addr) : (rv a).length = a.length := List.length_map ..
def sp_read : Sp := fun vs H Q _ => ∃ (a : Addr) (w : List Nat), vs = [.ref a] ∧ H a = some (.lst (iv w)) ∧ (∀ x ∈ w, x ≤ 255) ∧ w.length ≤ 40000 ∧
  ∀ (q : Addr) (ps : List Addr) (H' : Hp), H q = none → Same H H' → H' q = some (.lst (rv ps)) → ListsAt H' ps (bodies w) → (∀ p ∈ ps, H p = none ∧ p ≠ q) → Q (.ref q) H'
theorem ok_read (T : Txt K mg CT CD CE) : C8.Cal P w K mg base 3 "read" sp_read [] := by
  refine T.d_read.ok sc_read (fun vs H Q E h => ?_) (fun f cdv A outer s H vs Q E hr h => ?_)
  · obtain ⟨a, l, rfl, _⟩ := h
    rfl
  · obtain ⟨a, l, rfl, ha, hb, hl, k⟩ := h
    refine ⟨_, (pss_cons (ps_set (i := 1) sc_read.nd rfl (Or.inl rfl) (pe_lst pa_nil))
      (pss_cons (ps_set (i := 2) sc_read.nd rfl (Or.inl rfl) pe_int)
      (pss_cons (ps_set (i := 3) sc_read.nd rfl (Or.inl rfl) (C8.pe_c (ok_body_at T) hr (by decide) (by rfl) (pa_cons (pv 0) (pa_cons (pv 2) pa_nil))))
      (pss_cons (ps_while PassesOwn.never (pt_cmpR op_notN (pv 3) pe_non (nomark _))
        (pss_cons (ps_expr (pe_bm PySem.F.plainAttrs_list PySem.F.slot_list_append PySem.F.type_list_append mt_append (pv 1) (pa_cons (pv 3) pa_nil)))
          (pss_cons (ps_set (i := 2) sc_read.nd rfl (Or.inl rfl) (pe_op op_add (pv 2) (C8.pe_c (ok_record_size T) hr (by decide) (by rfl) (pa_cons (pv 3) pa_nil))))
          (pss_one (ps_set (i := 3) sc_read.nd rfl (Or.inl rfl) (C8.pe_c (ok_body_at T) hr (by decide) (by rfl) (pa_cons (pv 0) (pa_cons (pv 2) pa_nil))))))))
      (pss_one (ps_ret (pv 1))))))) , ?_⟩
    refine ⟨sz 0 (by decide), ?_⟩
    intro q nq; generalize hH_q : upd _ q _ = H1; have s1 := snew nq hH_q; have h1 := hnew hH_q; clear hH_q
    let W : Nat → L2.St → Hp → Prop := fun m σ H' => ∃ (bs : List (List Nat)) (ps : List Addr) (p : Nat) (v : V), σ = [some (.ref a), some (.ref q), some (.int (p : Int)), some v] ∧ H' q = some (.lst (rv ps)) ∧ Same H H' ∧ ListsAt H' ps bs ∧ (∀ x ∈ ps, H x = none ∧ x ≠ q) ∧
      bs ++ bodiesF m l p = bodies l ∧ bs.length + m = l.length + 1 ∧ bs.length ≤ p ∧ p ≤ l.length ∧ ((bodyAt l p = none ∧ v = .non) ∨ (∃ b x, bodyAt l p = some b ∧ v = .ref x ∧ H' x = some (.lst (iv b)) ∧ H x = none ∧ x ≠ q))
    have loop : ∀ (v : V) (H2 : Hp), Same H1 H2 → ((bodyAt l 0 = none ∧ v = .non) ∨ (∃ b x, bodyAt l 0 = some b ∧ v = .ref x ∧ H2 x = some (.lst (iv b)) ∧ H x = none ∧ x ≠ q)) → W (l.length + 1) [some (.ref a), some (.ref q), some (.int ((0 : Nat) : Int)), some v] H2 := fun v H2 s2 hv =>
      ⟨[], [], 0, v, rfl, s2 _ _ h1, s1.trans s2, .nil, fun x hx => by simp at hx, rfl, by simp, Nat.le_refl _, Nat.zero_le _, hv⟩
    refine ⟨_, rfl, _, rfl, a, l, 0, rfl, s1 _ _ ha, hb, hl, fun e H2 s2 => ?_, fun b e x H2 nx s2 h2 => ?_⟩
    all_goals refine ⟨W, ⟨l.length + 1, loop _ H2 s2 ?_⟩, fun m σ H3 hW => ?_⟩
    case refine_2.refine_1.refine_1 => exact .inl ⟨e, rfl⟩
    case refine_2.refine_2.refine_1 => exact .inr ⟨b, x, e, rfl, h2, s1.free nx, fun z => by subst z; rw [h1] at nx; cases nx⟩
    all_goals
      obtain ⟨bs, ps, p, v, rfl, hq, s3, LL, fr, eb, em, hbp, hpl, hv⟩ := hW
      refine ⟨_, rfl, rfl, _, rfl, itND (fun c => ?_) (fun c => ?_)⟩
      · rcases hv with ⟨_, z⟩ | ⟨b, x, e1, rfl, hx, nx, nxq⟩
        · exact absurd z c
        obtain ⟨f1, f2, f3, f4, f5⟩ := bodyAt_fits e1
        have hm : ∃ m', m = m' + 1 := ⟨m - 1, by omega⟩
        obtain ⟨m', rfl⟩ := hm
        refine ⟨fun σ' H' => ∃ m'', m'' < m' + 1 ∧ W m'' σ' H', fun _ _ z => z, ?_⟩
        have hlen : ps.length ≤ 40000 := by rw [LL.len]; omega
        refine ⟨_, rfl, .inl ⟨rfl, _, SqL.of hq⟩, _, rfl, q, _, _, rfl, rfl, hq, szl _ (by rw [rv_len]; omega), ?_⟩
        generalize hH4 : upd H3 q _ = H4
        have k4 : ∀ y o, H3 y = some o → y ≠ q → H4 y = some o := fun y o hy ne => by rw [← hH4, upd_ne ne]; exact hy
        have h4q : H4 q = some (.lst (rv (ps ++ [x]))) := by rw [← hH4, upd_same, rv_append]; rfl
        have s4 : Same H H4 := fun y o hy => k4 y o (s3 y o hy) fun z => by subst z; rw [hy] at nq; cases nq
        have hx4 : H4 x = some (.lst (iv b)) := k4 _ _ hx nxq
        have LL4 : ListsAt H4 (ps ++ [x]) (bs ++ [b]) := ListsAt.snoc ⟨LL.len, fun i y c h1 h2 => k4 _ _ (LL.at_ i y c h1 h2) (fr y (List.mem_of_getElem? h1)).2⟩ hx4
        have fr4 : ∀ y ∈ ps ++ [x], H y = none ∧ y ≠ q := fun y hy => by
          rcases List.mem_append.mp hy with z | z
          · exact fr y z
          · obtain rfl := List.mem_singleton.mp z
            exact ⟨nx, nxq⟩
        have eb4 : (bs ++ [b]) ++ bodiesF m' l (p + (b.length + 4)) = bodies l := by
          rw [← eb]
          show _ = bs ++ (match bodyAt l p with | none => [] | some b => b :: bodiesF m' l (p + (b.length + 4)))
          rw [e1, List.append_assoc]
          rfl
        have next : ∀ (v : V) (H5 : Hp), Same H4 H5 → ((bodyAt l (p + (b.length + 4)) = none ∧ v = .non) ∨ (∃ c y, bodyAt l (p + (b.length + 4)) = some c ∧ v = .ref y ∧ H5 y = some (.lst (iv c)) ∧ H y = none ∧ y ≠ q)) →
            W m' [some (.ref a), some (.ref q), some (.int ((p + (b.length + 4) : Nat) : Int)), some v] H5 := fun v H5 s5 hv =>
          ⟨bs ++ [b], ps ++ [x], p + (b.length + 4), v, rfl, s5 _ _ h4q, s4.trans s5, LL4.same s5, fr4, eb4, by rw [List.length_append]; simp; omega, by rw [List.length_append]; simp; omega, by omega, hv⟩
        refine ⟨_, rfl, _, rfl, x, _, rfl, hx4, (p : Int), ((b.length + 4 : Nat) : Int), rfl, (by rw [iv_len]), ?_⟩
        refine ⟨_, rfl, _, rfl, a, l, p + (b.length + 4), rfl, s4 _ _ ha, hb, hl, fun e H5 s5 => ?_, fun c e y H5 ny s5 h5 => ?_⟩
        · exact ⟨m', Nat.lt_succ_self _, next _ H5 s5 (.inl ⟨e, rfl⟩)⟩
        · exact ⟨m', Nat.lt_succ_self _, next _ H5 s5 (.inr ⟨c, y, e, rfl, h5, s4.free ny, fun z => by subst z; rw [h4q] at ny; cases ny⟩)⟩
      · rcases hv with ⟨e1, rfl⟩ | ⟨b, x, e1, rfl, hx, nx, nxq⟩
        · refine ⟨_, rfl, k q ps H3 nq s3 hq ?_ fr⟩
          have : bodiesF m l p = [] := by
            cases m with
            | zero => rfl
            | succ m => unfold bodiesF; rw [e1]
          rw [this, List.append_nil] at eb
          rw [← eb]
          exact LL
        · cases c
end
end TT
end
section
set_option maxHeartbeats 2000000
namespace TT
open PySem PySem.Spec PyProof.Rows L2
open Ue17 (Node Tree)
/-! dicts of a tree -/
abbrev kI (n : Nat) : Key := Sum.inl (n : Int)
theorem kI_inj {n m : Nat} (h : kI n = kI m) : n = m := by
  have := Sum.inl.inj h
  omega
abbrev nV (n : Nat) : V := V.int (n : Int)
def fnd (ns : List Node) (n : Nat) : Option Node := ns.find? fun x => x.number == n
def kepKV (ns : List Node) : List (Key × V) := ns.map fun x => (kI x.number, nV (Ue17.bit x.kept))
def parKV (ns : List Node) : List (Key × V) := ns.filterMap fun x => x.parent.map fun p => (kI x.number, nV p)
def chKV (ca : Nat → Addr × Addr) (ns : List Node) : List (Key × V) := ns.filterMap fun x => x.parent.map fun _ => (kI x.number, V.ref (ca x.number).1)
def pasKV (l : List (Nat × Nat)) : List (Key × V) := l.reverse.map fun x => (kI x.1, nV x.2)
abbrev NdN (ns : List Node) : Prop := (ns.map fun x => x.number).Nodup
theorem fnd_cons_pos {x : Node} {ns : List Node} {n : Nat} (h : x.number = n) : fnd (x :: ns) n = some x := by
  unfold fnd
  rw [List.find?_cons, show (x.number == n) = true by rw [h]; exact beq_self_eq_true n]
theorem fnd_cons_neg {x : Node} {ns : List Node} {n : Nat} (h : ¬ x.number = n) : fnd (x :: ns) n = fnd ns n := by
  unfold fnd
  rw [List.find?_cons, show (x.number == n) = false from beq_eq_false_iff_ne.mpr h]
theorem fnd_some {ns : List Node} {n : Nat} {x : Node} (h : fnd ns n = some x) : x ∈ ns ∧ x.number = n := ⟨List.mem_of_find?_eq_some h, eq_of_beq (List.find?_some (p := fun y : Node => y.number == n) h)⟩
theorem fnd_none {ns : List Node} {n : Nat} (h : fnd ns n = none) : ∀ x ∈ ns, x.number ≠ n := fun x hx e => by
  have := List.find?_eq_none.mp h x hx
  simp [e] at this
theorem fnd_mem : ∀ {ns : List Node} {x : Node}, NdN ns → x ∈ ns → fnd ns x.number = some x
  | [], _, _, h => by cases h
  | y :: ns, x, nd, h => by
    have nd : (y.number :: ns.map fun x => x.number).Nodup := nd
    obtain ⟨n1, n2⟩ := List.nodup_cons.mp nd
    by_cases e : y.number = x.number
    · rw [fnd_cons_pos e]
      rcases List.mem_cons.mp h with q | q
      · rw [q]
      · exact absurd (List.mem_map.mpr ⟨x, q, e.symm⟩) n1
    · rw [fnd_cons_neg e]
      rcases List.mem_cons.mp h with q | q
      · rw [q] at e; exact absurd rfl e
      · exact fnd_mem n2 q
theorem val_kep : ∀ (ns : List Node) (n : Nat), valV (kepKV ns) (kI n) = (fnd ns n).map fun x => nV (Ue17.bit x.kept)
  | [], _ => rfl
  | x :: ns, n => by
    show valV ((kI x.number, nV (Ue17.bit x.kept)) :: kepKV ns) (kI n) = _
    by_cases h : x.number = n
    · rw [valV_pos (by rw [h]), fnd_cons_pos h]; rfl
    · rw [valV_neg (fun q => h (kI_inj q)), fnd_cons_neg h, val_kep ns n]
theorem val_fm {g : Node → Nat → V} : ∀ (ns : List Node) (n : Nat), NdN ns → valV (ns.filterMap fun x => x.parent.map fun p => (kI x.number, g x p)) (kI n) = (fnd ns n).bind fun x => x.parent.map fun p => g x p
  | [], _, _ => rfl
  | x :: ns, n, nd => by
    have nd : (x.number :: ns.map fun x => x.number).Nodup := nd
    obtain ⟨n1, n2⟩ := List.nodup_cons.mp nd
    have ih := val_fm (g := g) ns n n2
    cases hp : x.parent with
    | none =>
      rw [List.filterMap_cons_none (by rw [hp]; rfl)]
      by_cases h : x.number = n
      · rw [fnd_cons_pos h, ih]
        cases hf : fnd ns n with
        | none => simp [hp]
        | some y =>
          obtain ⟨a, b⟩ := fnd_some hf
          exact absurd (List.mem_map.mpr ⟨y, a, b.trans h.symm⟩) n1
      · rw [fnd_cons_neg h, ih]
    | some p =>
      rw [List.filterMap_cons_some (b := (kI x.number, g x p)) (by rw [hp]; rfl)]
      by_cases h : x.number = n
      · rw [valV_pos (by rw [h]), fnd_cons_pos h]
        simp [hp]
      · rw [valV_neg (fun q => h (kI_inj q)), fnd_cons_neg h, ih]
theorem val_par (ns : List Node) (n : Nat) (nd : NdN ns) : valV (parKV ns) (kI n) = ((fnd ns n).bind fun x => x.parent).map nV := by
  have := val_fm (g := fun _ p => nV p) ns n nd
  refine this.trans ?_
  cases fnd ns n with
  | none => rfl
  | some x => cases x.parent <;> rfl
theorem val_ch (ca : Nat → Addr × Addr) (ns : List Node) (n : Nat) (nd : NdN ns) : valV (chKV ca ns) (kI n) = (fnd ns n).bind fun x => x.parent.map fun _ => V.ref (ca x.number).1 := val_fm (g := fun x _ => V.ref (ca x.number).1) ns n nd
theorem drop_kep : ∀ (ns : List Node) (n : Nat), dropK (kepKV ns) (kI n) = kepKV (ns.filter fun y => y.number != n)
  | [], _ => rfl
  | x :: ns, n => by
    show dropK ((kI x.number, nV (Ue17.bit x.kept)) :: kepKV ns) (kI n) = _
    by_cases h : x.number = n
    · rw [dropK_pos (by rw [h]), List.filter_cons, if_neg (by simp [h]), drop_kep ns n]
    · rw [dropK_neg (fun q => h (kI_inj q)), List.filter_cons, if_pos (by simp [h]), drop_kep ns n]; rfl
theorem drop_fm {g : Node → Nat → V} : ∀ (ns : List Node) (n : Nat), dropK (ns.filterMap fun x => x.parent.map fun p => (kI x.number, g x p)) (kI n) = (ns.filter fun y => y.number != n).filterMap fun x => x.parent.map fun p => (kI x.number, g x p)
  | [], _ => rfl
  | x :: ns, n => by
    have ih := drop_fm (g := g) ns n
    cases hp : x.parent with
    | none =>
      rw [List.filterMap_cons_none (by rw [hp]; rfl), ih, List.filter_cons]
      split
      · rw [List.filterMap_cons_none (by rw [hp]; rfl)]
      · rfl
    | some p =>
      rw [List.filterMap_cons_some (b := (kI x.number, g x p)) (by rw [hp]; rfl)]
      by_cases h : x.number = n
      · rw [dropK_pos (by rw [h]), List.filter_cons, if_neg (by simp [h]), ih]
      · rw [dropK_neg (fun q => h (kI_inj q)), List.filter_cons, if_pos (by simp [h]), List.filterMap_cons_some (b := (kI x.number, g x p)) (by rw [hp]; rfl), ih]
theorem drop_par (ns : List Node) (n : Nat) : dropK (parKV ns) (kI n) = parKV (ns.filter fun y => y.number != n) := drop_fm (g := fun _ p => nV p) ns n
theorem drop_ch (ca : Nat → Addr × Addr) (ns : List Node) (n : Nat) : dropK (chKV ca ns) (kI n) = chKV ca (ns.filter fun y => y.number != n) := drop_fm (g := fun x _ => V.ref (ca x.number).1) ns n
theorem pas_cons (x : Nat × Nat) (l : List (Nat × Nat)) : pasKV (x :: l) = pasKV l ++ [(kI x.1, nV x.2)] := by
  unfold pasKV
  rw [List.reverse_cons, List.map_append]
  rfl
theorem dropK_append {a b : List (Key × V)} {k : Key} : dropK (a ++ b) k = dropK a k ++ dropK b k := List.filter_append ..
theorem pas_drop : ∀ (l : List (Nat × Nat)) (a : Nat), dropK (pasKV l) (kI a) = pasKV (l.filter fun x => x.1 != a)
  | [], _ => rfl
  | x :: l, a => by
    rw [pas_cons, dropK_append, pas_drop l a, List.filter_cons]
    by_cases h : x.1 = a
    · rw [if_neg (by simp [h]), dropK_pos (by rw [h])]
      exact List.append_nil _
    · rw [if_pos (by simp [h]), dropK_neg (fun q => h (kI_inj q)), pas_cons]; rfl
theorem val_pas_none {l : List (Nat × Nat)} {a : Nat} (h : ∀ x ∈ l, x.1 ≠ a) : valV (pasKV l) (kI a) = none := by
  unfold valV
  rw [List.find?_eq_none.mpr]
  · rfl
  · intro x hx
    obtain ⟨y, hy, rfl⟩ := List.mem_map.mp hx
    simp only [decide_eq_true_eq]
    exact fun q => h y (List.mem_reverse.mp hy) (kI_inj q)
theorem pas_set (l : List (Nat × Nat)) (a b : Nat) : putK (dropK (pasKV l) (kI a)) (kI a) (nV b) = pasKV (Ue17.setLast l a b) := by
  rw [pas_drop, putK_new _ (val_pas_none fun x hx => by simpa using (List.mem_filter.mp hx).2)]
  exact (pas_cons (a, b) _).symm
theorem kep_append (a b : List Node) : kepKV (a ++ b) = kepKV a ++ kepKV b := List.map_append
theorem par_append (a b : List Node) : parKV (a ++ b) = parKV a ++ parKV b := List.filterMap_append
theorem ch_append (ca : Nat → Addr × Addr) (a b : List Node) : chKV ca (a ++ b) = chKV ca a ++ chKV ca b := List.filterMap_append
theorem ch_congr {ca cb : Nat → Addr × Addr} : ∀ {ns : List Node}, (∀ x ∈ ns, ca x.number = cb x.number) → chKV ca ns = chKV cb ns
  | [], _ => rfl
  | x :: ns, h => by
    have ih := ch_congr (ns := ns) fun y hy => h y (List.mem_cons_of_mem _ hy)
    unfold chKV at ih ⊢
    rw [List.filterMap_cons, List.filterMap_cons, h x List.mem_cons_self, ih]
theorem kep_put {n : Nat} {k : Bool} : ∀ {ns : List Node}, (fnd ns n).isSome = true → putK (kepKV ns) (kI n) (nV (Ue17.bit k)) = kepKV (ns.map fun x => if x.number = n then { x with kept := k } else x) := fun {ns} h => by
  unfold putK
  rw [if_pos (by rw [valV_any, val_kep, Option.isSome_map]; exact h)]
  unfold kepKV
  rw [List.map_map, List.map_map]
  refine List.map_congr_left fun x _ => ?_
  show (if kI x.number = kI n then (kI x.number, nV (Ue17.bit k)) else (kI x.number, nV (Ue17.bit x.kept))) = _
  by_cases e : x.number = n
  · rw [if_pos (by rw [e])]
    show _ = (fun x : Node => (kI x.number, nV (Ue17.bit x.kept))) (if x.number = n then { x with kept := k } else x)
    rw [if_pos e]
  · rw [if_neg (fun q => e (kI_inj q))]
    show _ = (fun x : Node => (kI x.number, nV (Ue17.bit x.kept))) (if x.number = n then { x with kept := k } else x)
    rw [if_neg e]
end TT
end
section
set_option maxHeartbeats 2000000
namespace TT
open PySem PySem.Spec PyProof.Rows L2
theorem lk_here {k : Str} {v : V} {r : List (Str × V)} : List.lookup k ((k, v) :: r) = some v := by
  have e : (k == k) = true := beq_self_eq_true k
  simp only [List.lookup, e]
theorem lk_past {k g : Str} {v : V} {r : List (Str × V)} (h : (k == g) = false) : List.lookup k ((g, v) :: r) = List.lookup k r := by
  simp only [List.lookup, h]
theorem put_here {f : Str} {v x : V} {r : List (Str × V)} : putF f v ((f, x) :: r) = (f, v) :: r := if_pos rfl
theorem put_past {f g : Str} {v x : V} {r : List (Str × V)} (h : ¬ g = f) : putF f v ((g, x) :: r) = (g, x) :: putF f v r := if_neg h
def tF (v0 v1 v2 v3 v4 v5 v6 v7 v8 : V) : List (Str × V) := [("first", v0), ("first_text", v1), ("parents", v2), ("changes", v3), ("kept", v4), ("passed", v5), ("now", v6), ("given", v7), ("deeds", v8)]
theorem tF_first {v0 v1 v2 v3 v4 v5 v6 v7 v8 : V} : (tF v0 v1 v2 v3 v4 v5 v6 v7 v8).lookup ("first" : Str) = some v0 := lk_here
theorem tF_put_first {v0 v1 v2 v3 v4 v5 v6 v7 v8 y : V} : putF "first" y (tF v0 v1 v2 v3 v4 v5 v6 v7 v8) = tF y v1 v2 v3 v4 v5 v6 v7 v8 := put_here
theorem tF_first_text {v0 v1 v2 v3 v4 v5 v6 v7 v8 : V} : (tF v0 v1 v2 v3 v4 v5 v6 v7 v8).lookup ("first_text" : Str) = some v1 := ((lk_past (by decide +kernel)).trans lk_here)
theorem tF_put_first_text {v0 v1 v2 v3 v4 v5 v6 v7 v8 y : V} : putF "first_text" y (tF v0 v1 v2 v3 v4 v5 v6 v7 v8) = tF v0 y v2 v3 v4 v5 v6 v7 v8 := ((put_past (by decide +kernel)).trans (congrArg _ put_here))
theorem tF_parents {v0 v1 v2 v3 v4 v5 v6 v7 v8 : V} : (tF v0 v1 v2 v3 v4 v5 v6 v7 v8).lookup ("parents" : Str) = some v2 := ((lk_past (by decide +kernel)).trans ((lk_past (by decide +kernel)).trans lk_here))
theorem tF_put_parents {v0 v1 v2 v3 v4 v5 v6 v7 v8 y : V} : putF "parents" y (tF v0 v1 v2 v3 v4 v5 v6 v7 v8) = tF v0 v1 y v3 v4 v5 v6 v7 v8 := ((put_past (by decide +kernel)).trans (congrArg _ ((put_past (by decide +kernel)).trans (congrArg _ put_here))))
theorem tF_changes {v0 v1 v2 v3 v4 v5 v6 v7 v8 : V} : (tF v0 v1 v2 v3 v4 v5 v6 v7 v8).lookup ("changes" : Str) = some v3 := ((lk_past (by decide +kernel)).trans ((lk_past (by decide +kernel)).trans ((lk_past (by decide +kernel)).trans lk_here)))
theorem tF_put_changes {v0 v1 v2 v3 v4 v5 v6 v7 v8 y : V} : putF "changes" y (tF v0 v1 v2 v3 v4 v5 v6 v7 v8) = tF v0 v1 v2 y v4 v5 v6 v7 v8 := ((put_past (by decide +kernel)).trans (congrArg _ ((put_past (by decide +kernel)).trans (congrArg _ ((put_past (by decide +kernel)).trans (congrArg _ put_here))))))
theorem tF_kept {v0 v1 v2 v3 v4 v5 v6 v7 v8 : V} : (tF v0 v1 v2 v3 v4 v5 v6 v7 v8).lookup ("kept" : Str) = some v4 := ((lk_past (by decide +kernel)).trans ((lk_past (by decide +kernel)).trans ((lk_past (by decide +kernel)).trans ((lk_past (by decide +kernel)).trans lk_here))))
theorem tF_put_kept {v0 v1 v2 v3 v4 v5 v6 v7 v8 y : V} : putF "kept" y (tF v0 v1 v2 v3 v4 v5 v6 v7 v8) = tF v0 v1 v2 v3 y v5 v6 v7 v8 := ((put_past (by decide +kernel)).trans (congrArg _ ((put_past (by decide +kernel)).trans (congrArg _ ((put_past (by decide +kernel)).trans (congrArg _ ((put_past (by decide +kernel)).trans (congrArg _ put_here))))))))
theorem tF_passed {v0 v1 v2 v3 v4 v5 v6 v7 v8 : V} : (tF v0 v1 v2 v3 v4 v5 v6 v7 v8).lookup ("passed" : Str) = some v5 := ((lk_past (by decide +kernel)).trans ((lk_past (by decide +kernel)).trans ((lk_past (by decide +kernel)).trans ((lk_past (by decide +kernel)).trans ((lk_past (by decide +kernel)).trans lk_here)))))
theorem tF_put_passed {v0 v1 v2 v3 v4 v5 v6 v7 v8 y : V} : putF "passed" y (tF v0 v1 v2 v3 v4 v5 v6 v7 v8) = tF v0 v1 v2 v3 v4 y v6 v7 v8 := ((put_past (by decide +kernel)).trans (congrArg _ ((put_past (by decide +kernel)).trans (congrArg _ ((put_past (by decide +kernel)).trans (congrArg _ ((put_past (by decide +kernel)).trans (congrArg _ ((put_past (by decide +kernel)).trans (congrArg _ put_here))))))))))
theorem tF_now {v0 v1 v2 v3 v4 v5 v6 v7 v8 : V} : (tF v0 v1 v2 v3 v4 v5 v6 v7 v8).lookup ("now" : Str) = some v6 := ((lk_past (by decide +kernel)).trans ((lk_past (by decide +kernel)).trans ((lk_past (by decide +kernel)).trans ((lk_past (by decide +kernel)).trans ((lk_past (by decide +kernel)).trans ((lk_past (by decide +kernel)).trans lk_here))))))
theorem tF_put_now {v0 v1 v2 v3 v4 v5 v6 v7 v8 y : V} : putF "now" y (tF v0 v1 v2 v3 v4 v5 v6 v7 v8) = tF v0 v1 v2 v3 v4 v5 y v7 v8 := ((put_past (by decide +kernel)).trans (congrArg _ ((put_past (by decide +kernel)).trans (congrArg _ ((put_past (by decide +kernel)).trans (congrArg _ ((put_past (by decide +kernel)).trans (congrArg _ ((put_past (by decide +kernel)).trans (congrArg _ ((put_past (by decide +kernel)).trans (congrArg _ put_here))))))))))))
theorem tF_given {v0 v1 v2 v3 v4 v5 v6 v7 v8 : V} : (tF v0 v1 v2 v3 v4 v5 v6 v7 v8).lookup ("given" : Str) = some v7 := ((lk_past (by decide +kernel)).trans ((lk_past (by decide +kernel)).trans ((lk_past (by decide +kernel)).trans ((lk_past (by decide +kernel)).trans ((lk_past (by decide +kernel)).trans ((lk_past (by decide +kernel)).trans ((lk_past (by decide +kernel)).trans lk_here)))))))
theorem tF_put_given {v0 v1 v2 v3 v4 v5 v6 v7 v8 y : V} : putF "given" y (tF v0 v1 v2 v3 v4 v5 v6 v7 v8) = tF v0 v1 v2 v3 v4 v5 v6 y v8 := ((put_past (by decide +kernel)).trans (congrArg _ ((put_past (by decide +kernel)).trans (congrArg _ ((put_past (by decide +kernel)).trans (congrArg _ ((put_past (by decide +kernel)).trans (congrArg _ ((put_past (by decide +kernel)).trans (congrArg _ ((put_past (by decide +kernel)).trans (congrArg _ ((put_past (by decide +kernel)).trans (congrArg _ put_here))))))))))))))
theorem tF_deeds {v0 v1 v2 v3 v4 v5 v6 v7 v8 : V} : (tF v0 v1 v2 v3 v4 v5 v6 v7 v8).lookup ("deeds" : Str) = some v8 := ((lk_past (by decide +kernel)).trans ((lk_past (by decide +kernel)).trans ((lk_past (by decide +kernel)).trans ((lk_past (by decide +kernel)).trans ((lk_past (by decide +kernel)).trans ((lk_past (by decide +kernel)).trans ((lk_past (by decide +kernel)).trans ((lk_past (by decide +kernel)).trans lk_here))))))))
theorem tF_put_deeds {v0 v1 v2 v3 v4 v5 v6 v7 v8 y : V} : putF "deeds" y (tF v0 v1 v2 v3 v4 v5 v6 v7 v8) = tF v0 v1 v2 v3 v4 v5 v6 v7 y := ((put_past (by decide +kernel)).trans (congrArg _ ((put_past (by decide +kernel)).trans (congrArg _ ((put_past (by decide +kernel)).trans (congrArg _ ((put_past (by decide +kernel)).trans (congrArg _ ((put_past (by decide +kernel)).trans (congrArg _ ((put_past (by decide +kernel)).trans (congrArg _ ((put_past (by decide +kernel)).trans (congrArg _ ((put_past (by decide +kernel)).trans (congrArg _ put_here))))))))))))))))
theorem tF_new_first {v0 : V} : putF "first" v0 ([] : List (Str × V)) = ([("first", v0)] : List (Str × V)) := rfl
theorem tF_new_first_text {v0 v1 : V} : putF "first_text" v1 ([("first", v0)] : List (Str × V)) = ([("first", v0), ("first_text", v1)] : List (Str × V)) := ((put_past (by decide +kernel)).trans (congrArg _ rfl))
theorem tF_new_parents {v0 v1 v2 : V} : putF "parents" v2 ([("first", v0), ("first_text", v1)] : List (Str × V)) = ([("first", v0), ("first_text", v1), ("parents", v2)] : List (Str × V)) := ((put_past (by decide +kernel)).trans (congrArg _ ((put_past (by decide +kernel)).trans (congrArg _ rfl))))
theorem tF_new_changes {v0 v1 v2 v3 : V} : putF "changes" v3 ([("first", v0), ("first_text", v1), ("parents", v2)] : List (Str × V)) = ([("first", v0), ("first_text", v1), ("parents", v2), ("changes", v3)] : List (Str × V)) := ((put_past (by decide +kernel)).trans (congrArg _ ((put_past (by decide +kernel)).trans (congrArg _ ((put_past (by decide +kernel)).trans (congrArg _ rfl))))))
theorem tF_new_kept {v0 v1 v2 v3 v4 : V} : putF "kept" v4 ([("first", v0), ("first_text", v1), ("parents", v2), ("changes", v3)] : List (Str × V)) = ([("first", v0), ("first_text", v1), ("parents", v2), ("changes", v3), ("kept", v4)] : List (Str × V)) := ((put_past (by decide +kernel)).trans (congrArg _ ((put_past (by decide +kernel)).trans (congrArg _ ((put_past (by decide +kernel)).trans (congrArg _ ((put_past (by decide +kernel)).trans (congrArg _ rfl))))))))
theorem tF_new_passed {v0 v1 v2 v3 v4 v5 : V} : putF "passed" v5 ([("first", v0), ("first_text", v1), ("parents", v2), ("changes", v3), ("kept", v4)] : List (Str × V)) = ([("first", v0), ("first_text", v1), ("parents", v2), ("changes", v3), ("kept", v4), ("passed", v5)] : List (Str × V)) := ((put_past (by decide +kernel)).trans (congrArg _ ((put_past (by decide +kernel)).trans (congrArg _ ((put_past (by decide +kernel)).trans (congrArg _ ((put_past (by decide +kernel)).trans (congrArg _ ((put_past (by decide +kernel)).trans (congrArg _ rfl))))))))))
theorem tF_new_now {v0 v1 v2 v3 v4 v5 v6 : V} : putF "now" v6 ([("first", v0), ("first_text", v1), ("parents", v2), ("changes", v3), ("kept", v4), ("passed", v5)] : List (Str × V)) = ([("first", v0), ("first_text", v1), ("parents", v2), ("changes", v3), ("kept", v4), ("passed", v5), ("now", v6)] : List (Str × V)) := ((put_past (by decide +kernel)).trans (congrArg _ ((put_past (by decide +kernel)).trans (congrArg _ ((put_past (by decide +kernel)).trans (congrArg _ ((put_past (by decide +kernel)).trans (congrArg _ ((put_past (by decide +kernel)).trans (congrArg _ ((put_past (by decide +kernel)).trans (congrArg _ rfl))))))))))))
theorem tF_new_given {v0 v1 v2 v3 v4 v5 v6 v7 : V} : putF "given" v7 ([("first", v0), ("first_text", v1), ("parents", v2), ("changes", v3), ("kept", v4), ("passed", v5), ("now", v6)] : List (Str × V)) = ([("first", v0), ("first_text", v1), ("parents", v2), ("changes", v3), ("kept", v4), ("passed", v5), ("now", v6), ("given", v7)] : List (Str × V)) := ((put_past (by decide +kernel)).trans (congrArg _ ((put_past (by decide +kernel)).trans (congrArg _ ((put_past (by decide +kernel)).trans (congrArg _ ((put_past (by decide +kernel)).trans (congrArg _ ((put_past (by decide +kernel)).trans (congrArg _ ((put_past (by decide +kernel)).trans (congrArg _ ((put_past (by decide +kernel)).trans (congrArg _ rfl))))))))))))))
theorem tF_new_deeds {v0 v1 v2 v3 v4 v5 v6 v7 v8 : V} : putF "deeds" v8 ([("first", v0), ("first_text", v1), ("parents", v2), ("changes", v3), ("kept", v4), ("passed", v5), ("now", v6), ("given", v7)] : List (Str × V)) = ([("first", v0), ("first_text", v1), ("parents", v2), ("changes", v3), ("kept", v4), ("passed", v5), ("now", v6), ("given", v7), ("deeds", v8)] : List (Str × V)) := ((put_past (by decide +kernel)).trans (congrArg _ ((put_past (by decide +kernel)).trans (congrArg _ ((put_past (by decide +kernel)).trans (congrArg _ ((put_past (by decide +kernel)).trans (congrArg _ ((put_past (by decide +kernel)).trans (congrArg _ ((put_past (by decide +kernel)).trans (congrArg _ ((put_past (by decide +kernel)).trans (congrArg _ ((put_past (by decide +kernel)).trans (congrArg _ rfl))))))))))))))))
theorem tF_no_has {v0 v1 v2 v3 v4 v5 v6 v7 v8 : V} : (tF v0 v1 v2 v3 v4 v5 v6 v7 v8).lookup ("has" : Str) = none := ((lk_past (by decide +kernel)).trans ((lk_past (by decide +kernel)).trans ((lk_past (by decide +kernel)).trans ((lk_past (by decide +kernel)).trans ((lk_past (by decide +kernel)).trans ((lk_past (by decide +kernel)).trans ((lk_past (by decide +kernel)).trans ((lk_past (by decide +kernel)).trans ((lk_past (by decide +kernel)).trans rfl)))))))))
theorem tF_no_numbers {v0 v1 v2 v3 v4 v5 v6 v7 v8 : V} : (tF v0 v1 v2 v3 v4 v5 v6 v7 v8).lookup ("numbers" : Str) = none := ((lk_past (by decide +kernel)).trans ((lk_past (by decide +kernel)).trans ((lk_past (by decide +kernel)).trans ((lk_past (by decide +kernel)).trans ((lk_past (by decide +kernel)).trans ((lk_past (by decide +kernel)).trans ((lk_past (by decide +kernel)).trans ((lk_past (by decide +kernel)).trans ((lk_past (by decide +kernel)).trans rfl)))))))))
theorem tF_no_text_now {v0 v1 v2 v3 v4 v5 v6 v7 v8 : V} : (tF v0 v1 v2 v3 v4 v5 v6 v7 v8).lookup ("text_now" : Str) = none := ((lk_past (by decide +kernel)).trans ((lk_past (by decide +kernel)).trans ((lk_past (by decide +kernel)).trans ((lk_past (by decide +kernel)).trans ((lk_past (by decide +kernel)).trans ((lk_past (by decide +kernel)).trans ((lk_past (by decide +kernel)).trans ((lk_past (by decide +kernel)).trans ((lk_past (by decide +kernel)).trans rfl)))))))))
theorem tF_no_text_of {v0 v1 v2 v3 v4 v5 v6 v7 v8 : V} : (tF v0 v1 v2 v3 v4 v5 v6 v7 v8).lookup ("text_of" : Str) = none := ((lk_past (by decide +kernel)).trans ((lk_past (by decide +kernel)).trans ((lk_past (by decide +kernel)).trans ((lk_past (by decide +kernel)).trans ((lk_past (by decide +kernel)).trans ((lk_past (by decide +kernel)).trans ((lk_past (by decide +kernel)).trans ((lk_past (by decide +kernel)).trans ((lk_past (by decide +kernel)).trans rfl)))))))))
theorem tF_no_way_to {v0 v1 v2 v3 v4 v5 v6 v7 v8 : V} : (tF v0 v1 v2 v3 v4 v5 v6 v7 v8).lookup ("way_to" : Str) = none := ((lk_past (by decide +kernel)).trans ((lk_past (by decide +kernel)).trans ((lk_past (by decide +kernel)).trans ((lk_past (by decide +kernel)).trans ((lk_past (by decide +kernel)).trans ((lk_past (by decide +kernel)).trans ((lk_past (by decide +kernel)).trans ((lk_past (by decide +kernel)).trans ((lk_past (by decide +kernel)).trans rfl)))))))))
theorem tF_no_made_of {v0 v1 v2 v3 v4 v5 v6 v7 v8 : V} : (tF v0 v1 v2 v3 v4 v5 v6 v7 v8).lookup ("made_of" : Str) = none := ((lk_past (by decide +kernel)).trans ((lk_past (by decide +kernel)).trans ((lk_past (by decide +kernel)).trans ((lk_past (by decide +kernel)).trans ((lk_past (by decide +kernel)).trans ((lk_past (by decide +kernel)).trans ((lk_past (by decide +kernel)).trans ((lk_past (by decide +kernel)).trans ((lk_past (by decide +kernel)).trans rfl)))))))))
theorem tF_no_undone {v0 v1 v2 v3 v4 v5 v6 v7 v8 : V} : (tF v0 v1 v2 v3 v4 v5 v6 v7 v8).lookup ("undone" : Str) = none := ((lk_past (by decide +kernel)).trans ((lk_past (by decide +kernel)).trans ((lk_past (by decide +kernel)).trans ((lk_past (by decide +kernel)).trans ((lk_past (by decide +kernel)).trans ((lk_past (by decide +kernel)).trans ((lk_past (by decide +kernel)).trans ((lk_past (by decide +kernel)).trans ((lk_past (by decide +kernel)).trans rfl)))))))))
theorem tF_no_done_again {v0 v1 v2 v3 v4 v5 v6 v7 v8 : V} : (tF v0 v1 v2 v3 v4 v5 v6 v7 v8).lookup ("done_again" : Str) = none := ((lk_past (by decide +kernel)).trans ((lk_past (by decide +kernel)).trans ((lk_past (by decide +kernel)).trans ((lk_past (by decide +kernel)).trans ((lk_past (by decide +kernel)).trans ((lk_past (by decide +kernel)).trans ((lk_past (by decide +kernel)).trans ((lk_past (by decide +kernel)).trans ((lk_past (by decide +kernel)).trans rfl)))))))))
theorem tF_no_put_state {v0 v1 v2 v3 v4 v5 v6 v7 v8 : V} : (tF v0 v1 v2 v3 v4 v5 v6 v7 v8).lookup ("put_state" : Str) = none := ((lk_past (by decide +kernel)).trans ((lk_past (by decide +kernel)).trans ((lk_past (by decide +kernel)).trans ((lk_past (by decide +kernel)).trans ((lk_past (by decide +kernel)).trans ((lk_past (by decide +kernel)).trans ((lk_past (by decide +kernel)).trans ((lk_past (by decide +kernel)).trans ((lk_past (by decide +kernel)).trans rfl)))))))))
theorem tF_no_make {v0 v1 v2 v3 v4 v5 v6 v7 v8 : V} : (tF v0 v1 v2 v3 v4 v5 v6 v7 v8).lookup ("make" : Str) = none := ((lk_past (by decide +kernel)).trans ((lk_past (by decide +kernel)).trans ((lk_past (by decide +kernel)).trans ((lk_past (by decide +kernel)).trans ((lk_past (by decide +kernel)).trans ((lk_past (by decide +kernel)).trans ((lk_past (by decide +kernel)).trans ((lk_past (by decide +kernel)).trans ((lk_past (by decide +kernel)).trans rfl)))))))))
theorem tF_no_go {v0 v1 v2 v3 v4 v5 v6 v7 v8 : V} : (tF v0 v1 v2 v3 v4 v5 v6 v7 v8).lookup ("go" : Str) = none := ((lk_past (by decide +kernel)).trans ((lk_past (by decide +kernel)).trans ((lk_past (by decide +kernel)).trans ((lk_past (by decide +kernel)).trans ((lk_past (by decide +kernel)).trans ((lk_past (by decide +kernel)).trans ((lk_past (by decide +kernel)).trans ((lk_past (by decide +kernel)).trans ((lk_past (by decide +kernel)).trans rfl)))))))))
theorem tF_no_remember {v0 v1 v2 v3 v4 v5 v6 v7 v8 : V} : (tF v0 v1 v2 v3 v4 v5 v6 v7 v8).lookup ("remember" : Str) = none := ((lk_past (by decide +kernel)).trans ((lk_past (by decide +kernel)).trans ((lk_past (by decide +kernel)).trans ((lk_past (by decide +kernel)).trans ((lk_past (by decide +kernel)).trans ((lk_past (by decide +kernel)).trans ((lk_past (by decide +kernel)).trans ((lk_past (by decide +kernel)).trans ((lk_past (by decide +kernel)).trans rfl)))))))))
theorem tF_no_keep {v0 v1 v2 v3 v4 v5 v6 v7 v8 : V} : (tF v0 v1 v2 v3 v4 v5 v6 v7 v8).lookup ("keep" : Str) = none := ((lk_past (by decide +kernel)).trans ((lk_past (by decide +kernel)).trans ((lk_past (by decide +kernel)).trans ((lk_past (by decide +kernel)).trans ((lk_past (by decide +kernel)).trans ((lk_past (by decide +kernel)).trans ((lk_past (by decide +kernel)).trans ((lk_past (by decide +kernel)).trans ((lk_past (by decide +kernel)).trans rfl)))))))))
theorem tF_no_forget {v0 v1 v2 v3 v4 v5 v6 v7 v8 : V} : (tF v0 v1 v2 v3 v4 v5 v6 v7 v8).lookup ("forget" : Str) = none := ((lk_past (by decide +kernel)).trans ((lk_past (by decide +kernel)).trans ((lk_past (by decide +kernel)).trans ((lk_past (by decide +kernel)).trans ((lk_past (by decide +kernel)).trans ((lk_past (by decide +kernel)).trans ((lk_past (by decide +kernel)).trans ((lk_past (by decide +kernel)).trans ((lk_past (by decide +kernel)).trans rfl)))))))))
theorem tF_no_lowest_free_end {v0 v1 v2 v3 v4 v5 v6 v7 v8 : V} : (tF v0 v1 v2 v3 v4 v5 v6 v7 v8).lookup ("lowest_free_end" : Str) = none := ((lk_past (by decide +kernel)).trans ((lk_past (by decide +kernel)).trans ((lk_past (by decide +kernel)).trans ((lk_past (by decide +kernel)).trans ((lk_past (by decide +kernel)).trans ((lk_past (by decide +kernel)).trans ((lk_past (by decide +kernel)).trans ((lk_past (by decide +kernel)).trans ((lk_past (by decide +kernel)).trans rfl)))))))))
theorem tF_no_first_may_go {v0 v1 v2 v3 v4 v5 v6 v7 v8 : V} : (tF v0 v1 v2 v3 v4 v5 v6 v7 v8).lookup ("first_may_go" : Str) = none := ((lk_past (by decide +kernel)).trans ((lk_past (by decide +kernel)).trans ((lk_past (by decide +kernel)).trans ((lk_past (by decide +kernel)).trans ((lk_past (by decide +kernel)).trans ((lk_past (by decide +kernel)).trans ((lk_past (by decide +kernel)).trans ((lk_past (by decide +kernel)).trans ((lk_past (by decide +kernel)).trans rfl)))))))))
theorem tF_no_drop {v0 v1 v2 v3 v4 v5 v6 v7 v8 : V} : (tF v0 v1 v2 v3 v4 v5 v6 v7 v8).lookup ("drop" : Str) = none := ((lk_past (by decide +kernel)).trans ((lk_past (by decide +kernel)).trans ((lk_past (by decide +kernel)).trans ((lk_past (by decide +kernel)).trans ((lk_past (by decide +kernel)).trans ((lk_past (by decide +kernel)).trans ((lk_past (by decide +kernel)).trans ((lk_past (by decide +kernel)).trans ((lk_past (by decide +kernel)).trans rfl)))))))))
theorem tF_no_drop_first {v0 v1 v2 v3 v4 v5 v6 v7 v8 : V} : (tF v0 v1 v2 v3 v4 v5 v6 v7 v8).lookup ("drop_first" : Str) = none := ((lk_past (by decide +kernel)).trans ((lk_past (by decide +kernel)).trans ((lk_past (by decide +kernel)).trans ((lk_past (by decide +kernel)).trans ((lk_past (by decide +kernel)).trans ((lk_past (by decide +kernel)).trans ((lk_past (by decide +kernel)).trans ((lk_past (by decide +kernel)).trans ((lk_past (by decide +kernel)).trans rfl)))))))))
def dF (v0 v1 : V) : List (Str × V) := [("files", v0), ("writes", v1)]
theorem dF_files {v0 v1 : V} : (dF v0 v1).lookup ("files" : Str) = some v0 := lk_here
theorem dF_put_files {v0 v1 y : V} : putF "files" y (dF v0 v1) = dF y v1 := put_here
theorem dF_writes {v0 v1 : V} : (dF v0 v1).lookup ("writes" : Str) = some v1 := ((lk_past (by decide +kernel)).trans lk_here)
theorem dF_put_writes {v0 v1 y : V} : putF "writes" y (dF v0 v1) = dF v0 y := ((put_past (by decide +kernel)).trans (congrArg _ put_here))
theorem dF_new_files {v0 : V} : putF "files" v0 ([] : List (Str × V)) = ([("files", v0)] : List (Str × V)) := rfl
theorem dF_new_writes {v0 v1 : V} : putF "writes" v1 ([("files", v0)] : List (Str × V)) = ([("files", v0), ("writes", v1)] : List (Str × V)) := ((put_past (by decide +kernel)).trans (congrArg _ rfl))
theorem dF_no_send {v0 v1 : V} : (dF v0 v1).lookup ("send" : Str) = none := ((lk_past (by decide +kernel)).trans ((lk_past (by decide +kernel)).trans rfl))
theorem dF_no_arrive {v0 v1 : V} : (dF v0 v1).lookup ("arrive" : Str) = none := ((lk_past (by decide +kernel)).trans ((lk_past (by decide +kernel)).trans rfl))
theorem dF_no_arrive_in_part {v0 v1 : V} : (dF v0 v1).lookup ("arrive_in_part" : Str) = none := ((lk_past (by decide +kernel)).trans ((lk_past (by decide +kernel)).trans rfl))
theorem dF_no_store {v0 v1 : V} : (dF v0 v1).lookup ("store" : Str) = none := ((lk_past (by decide +kernel)).trans ((lk_past (by decide +kernel)).trans rfl))
theorem dF_no_wipe {v0 v1 : V} : (dF v0 v1).lookup ("wipe" : Str) = none := ((lk_past (by decide +kernel)).trans ((lk_past (by decide +kernel)).trans rfl))
def eF (v0 v1 v2 v3 v4 v5 v6 v7 v8 : V) : List (Str × V) := [("tree", v0), ("remembered", v1), ("disk", v2), ("powered", v3), ("copying", v4), ("safe", v5), ("used", v6), ("number", v7), ("size", v8)]
theorem eF_tree {v0 v1 v2 v3 v4 v5 v6 v7 v8 : V} : (eF v0 v1 v2 v3 v4 v5 v6 v7 v8).lookup ("tree" : Str) = some v0 := lk_here
theorem eF_put_tree {v0 v1 v2 v3 v4 v5 v6 v7 v8 y : V} : putF "tree" y (eF v0 v1 v2 v3 v4 v5 v6 v7 v8) = eF y v1 v2 v3 v4 v5 v6 v7 v8 := put_here
theorem eF_remembered {v0 v1 v2 v3 v4 v5 v6 v7 v8 : V} : (eF v0 v1 v2 v3 v4 v5 v6 v7 v8).lookup ("remembered" : Str) = some v1 := ((lk_past (by decide +kernel)).trans lk_here)
theorem eF_put_remembered {v0 v1 v2 v3 v4 v5 v6 v7 v8 y : V} : putF "remembered" y (eF v0 v1 v2 v3 v4 v5 v6 v7 v8) = eF v0 y v2 v3 v4 v5 v6 v7 v8 := ((put_past (by decide +kernel)).trans (congrArg _ put_here))
theorem eF_disk {v0 v1 v2 v3 v4 v5 v6 v7 v8 : V} : (eF v0 v1 v2 v3 v4 v5 v6 v7 v8).lookup ("disk" : Str) = some v2 := ((lk_past (by decide +kernel)).trans ((lk_past (by decide +kernel)).trans lk_here))
theorem eF_put_disk {v0 v1 v2 v3 v4 v5 v6 v7 v8 y : V} : putF "disk" y (eF v0 v1 v2 v3 v4 v5 v6 v7 v8) = eF v0 v1 y v3 v4 v5 v6 v7 v8 := ((put_past (by decide +kernel)).trans (congrArg _ ((put_past (by decide +kernel)).trans (congrArg _ put_here))))
theorem eF_powered {v0 v1 v2 v3 v4 v5 v6 v7 v8 : V} : (eF v0 v1 v2 v3 v4 v5 v6 v7 v8).lookup ("powered" : Str) = some v3 := ((lk_past (by decide +kernel)).trans ((lk_past (by decide +kernel)).trans ((lk_past (by decide +kernel)).trans lk_here)))
theorem eF_put_powered {v0 v1 v2 v3 v4 v5 v6 v7 v8 y : V} : putF "powered" y (eF v0 v1 v2 v3 v4 v5 v6 v7 v8) = eF v0 v1 v2 y v4 v5 v6 v7 v8 := ((put_past (by decide +kernel)).trans (congrArg _ ((put_past (by decide +kernel)).trans (congrArg _ ((put_past (by decide +kernel)).trans (congrArg _ put_here))))))
theorem eF_copying {v0 v1 v2 v3 v4 v5 v6 v7 v8 : V} : (eF v0 v1 v2 v3 v4 v5 v6 v7 v8).lookup ("copying" : Str) = some v4 := ((lk_past (by decide +kernel)).trans ((lk_past (by decide +kernel)).trans ((lk_past (by decide +kernel)).trans ((lk_past (by decide +kernel)).trans lk_here))))
theorem eF_put_copying {v0 v1 v2 v3 v4 v5 v6 v7 v8 y : V} : putF "copying" y (eF v0 v1 v2 v3 v4 v5 v6 v7 v8) = eF v0 v1 v2 v3 y v5 v6 v7 v8 := ((put_past (by decide +kernel)).trans (congrArg _ ((put_past (by decide +kernel)).trans (congrArg _ ((put_past (by decide +kernel)).trans (congrArg _ ((put_past (by decide +kernel)).trans (congrArg _ put_here))))))))
theorem eF_safe {v0 v1 v2 v3 v4 v5 v6 v7 v8 : V} : (eF v0 v1 v2 v3 v4 v5 v6 v7 v8).lookup ("safe" : Str) = some v5 := ((lk_past (by decide +kernel)).trans ((lk_past (by decide +kernel)).trans ((lk_past (by decide +kernel)).trans ((lk_past (by decide +kernel)).trans ((lk_past (by decide +kernel)).trans lk_here)))))
theorem eF_put_safe {v0 v1 v2 v3 v4 v5 v6 v7 v8 y : V} : putF "safe" y (eF v0 v1 v2 v3 v4 v5 v6 v7 v8) = eF v0 v1 v2 v3 v4 y v6 v7 v8 := ((put_past (by decide +kernel)).trans (congrArg _ ((put_past (by decide +kernel)).trans (congrArg _ ((put_past (by decide +kernel)).trans (congrArg _ ((put_past (by decide +kernel)).trans (congrArg _ ((put_past (by decide +kernel)).trans (congrArg _ put_here))))))))))
theorem eF_used {v0 v1 v2 v3 v4 v5 v6 v7 v8 : V} : (eF v0 v1 v2 v3 v4 v5 v6 v7 v8).lookup ("used" : Str) = some v6 := ((lk_past (by decide +kernel)).trans ((lk_past (by decide +kernel)).trans ((lk_past (by decide +kernel)).trans ((lk_past (by decide +kernel)).trans ((lk_past (by decide +kernel)).trans ((lk_past (by decide +kernel)).trans lk_here))))))
theorem eF_put_used {v0 v1 v2 v3 v4 v5 v6 v7 v8 y : V} : putF "used" y (eF v0 v1 v2 v3 v4 v5 v6 v7 v8) = eF v0 v1 v2 v3 v4 v5 y v7 v8 := ((put_past (by decide +kernel)).trans (congrArg _ ((put_past (by decide +kernel)).trans (congrArg _ ((put_past (by decide +kernel)).trans (congrArg _ ((put_past (by decide +kernel)).trans (congrArg _ ((put_past (by decide +kernel)).trans (congrArg _ ((put_past (by decide +kernel)).trans (congrArg _ put_here))))))))))))
theorem eF_number {v0 v1 v2 v3 v4 v5 v6 v7 v8 : V} : (eF v0 v1 v2 v3 v4 v5 v6 v7 v8).lookup ("number" : Str) = some v7 := ((lk_past (by decide +kernel)).trans ((lk_past (by decide +kernel)).trans ((lk_past (by decide +kernel)).trans ((lk_past (by decide +kernel)).trans ((lk_past (by decide +kernel)).trans ((lk_past (by decide +kernel)).trans ((lk_past (by decide +kernel)).trans lk_here)))))))
theorem eF_put_number {v0 v1 v2 v3 v4 v5 v6 v7 v8 y : V} : putF "number" y (eF v0 v1 v2 v3 v4 v5 v6 v7 v8) = eF v0 v1 v2 v3 v4 v5 v6 y v8 := ((put_past (by decide +kernel)).trans (congrArg _ ((put_past (by decide +kernel)).trans (congrArg _ ((put_past (by decide +kernel)).trans (congrArg _ ((put_past (by decide +kernel)).trans (congrArg _ ((put_past (by decide +kernel)).trans (congrArg _ ((put_past (by decide +kernel)).trans (congrArg _ ((put_past (by decide +kernel)).trans (congrArg _ put_here))))))))))))))
theorem eF_size {v0 v1 v2 v3 v4 v5 v6 v7 v8 : V} : (eF v0 v1 v2 v3 v4 v5 v6 v7 v8).lookup ("size" : Str) = some v8 := ((lk_past (by decide +kernel)).trans ((lk_past (by decide +kernel)).trans ((lk_past (by decide +kernel)).trans ((lk_past (by decide +kernel)).trans ((lk_past (by decide +kernel)).trans ((lk_past (by decide +kernel)).trans ((lk_past (by decide +kernel)).trans ((lk_past (by decide +kernel)).trans lk_here))))))))
theorem eF_put_size {v0 v1 v2 v3 v4 v5 v6 v7 v8 y : V} : putF "size" y (eF v0 v1 v2 v3 v4 v5 v6 v7 v8) = eF v0 v1 v2 v3 v4 v5 v6 v7 y := ((put_past (by decide +kernel)).trans (congrArg _ ((put_past (by decide +kernel)).trans (congrArg _ ((put_past (by decide +kernel)).trans (congrArg _ ((put_past (by decide +kernel)).trans (congrArg _ ((put_past (by decide +kernel)).trans (congrArg _ ((put_past (by decide +kernel)).trans (congrArg _ ((put_past (by decide +kernel)).trans (congrArg _ ((put_past (by decide +kernel)).trans (congrArg _ put_here))))))))))))))))
theorem eF_new_tree {v0 : V} : putF "tree" v0 ([] : List (Str × V)) = ([("tree", v0)] : List (Str × V)) := rfl
theorem eF_new_remembered {v0 v1 : V} : putF "remembered" v1 ([("tree", v0)] : List (Str × V)) = ([("tree", v0), ("remembered", v1)] : List (Str × V)) := ((put_past (by decide +kernel)).trans (congrArg _ rfl))
theorem eF_new_disk {v0 v1 v2 : V} : putF "disk" v2 ([("tree", v0), ("remembered", v1)] : List (Str × V)) = ([("tree", v0), ("remembered", v1), ("disk", v2)] : List (Str × V)) := ((put_past (by decide +kernel)).trans (congrArg _ ((put_past (by decide +kernel)).trans (congrArg _ rfl))))
theorem eF_new_powered {v0 v1 v2 v3 : V} : putF "powered" v3 ([("tree", v0), ("remembered", v1), ("disk", v2)] : List (Str × V)) = ([("tree", v0), ("remembered", v1), ("disk", v2), ("powered", v3)] : List (Str × V)) := ((put_past (by decide +kernel)).trans (congrArg _ ((put_past (by decide +kernel)).trans (congrArg _ ((put_past (by decide +kernel)).trans (congrArg _ rfl))))))
theorem eF_new_copying {v0 v1 v2 v3 v4 : V} : putF "copying" v4 ([("tree", v0), ("remembered", v1), ("disk", v2), ("powered", v3)] : List (Str × V)) = ([("tree", v0), ("remembered", v1), ("disk", v2), ("powered", v3), ("copying", v4)] : List (Str × V)) := ((put_past (by decide +kernel)).trans (congrArg _ ((put_past (by decide +kernel)).trans (congrArg _ ((put_past (by decide +kernel)).trans (congrArg _ ((put_past (by decide +kernel)).trans (congrArg _ rfl))))))))
theorem eF_new_safe {v0 v1 v2 v3 v4 v5 : V} : putF "safe" v5 ([("tree", v0), ("remembered", v1), ("disk", v2), ("powered", v3), ("copying", v4)] : List (Str × V)) = ([("tree", v0), ("remembered", v1), ("disk", v2), ("powered", v3), ("copying", v4), ("safe", v5)] : List (Str × V)) := ((put_past (by decide +kernel)).trans (congrArg _ ((put_past (by decide +kernel)).trans (congrArg _ ((put_past (by decide +kernel)).trans (congrArg _ ((put_past (by decide +kernel)).trans (congrArg _ ((put_past (by decide +kernel)).trans (congrArg _ rfl))))))))))
theorem eF_new_used {v0 v1 v2 v3 v4 v5 v6 : V} : putF "used" v6 ([("tree", v0), ("remembered", v1), ("disk", v2), ("powered", v3), ("copying", v4), ("safe", v5)] : List (Str × V)) = ([("tree", v0), ("remembered", v1), ("disk", v2), ("powered", v3), ("copying", v4), ("safe", v5), ("used", v6)] : List (Str × V)) := ((put_past (by decide +kernel)).trans (congrArg _ ((put_past (by decide +kernel)).trans (congrArg _ ((put_past (by decide +kernel)).trans (congrArg _ ((put_past (by decide +kernel)).trans (congrArg _ ((put_past (by decide +kernel)).trans (congrArg _ ((put_past (by decide +kernel)).trans (congrArg _ rfl))))))))))))
theorem eF_new_number {v0 v1 v2 v3 v4 v5 v6 v7 : V} : putF "number" v7 ([("tree", v0), ("remembered", v1), ("disk", v2), ("powered", v3), ("copying", v4), ("safe", v5), ("used", v6)] : List (Str × V)) = ([("tree", v0), ("remembered", v1), ("disk", v2), ("powered", v3), ("copying", v4), ("safe", v5), ("used", v6), ("number", v7)] : List (Str × V)) := ((put_past (by decide +kernel)).trans (congrArg _ ((put_past (by decide +kernel)).trans (congrArg _ ((put_past (by decide +kernel)).trans (congrArg _ ((put_past (by decide +kernel)).trans (congrArg _ ((put_past (by decide +kernel)).trans (congrArg _ ((put_past (by decide +kernel)).trans (congrArg _ ((put_past (by decide +kernel)).trans (congrArg _ rfl))))))))))))))
theorem eF_new_size {v0 v1 v2 v3 v4 v5 v6 v7 v8 : V} : putF "size" v8 ([("tree", v0), ("remembered", v1), ("disk", v2), ("powered", v3), ("copying", v4), ("safe", v5), ("used", v6), ("number", v7)] : List (Str × V)) = ([("tree", v0), ("remembered", v1), ("disk", v2), ("powered", v3), ("copying", v4), ("safe", v5), ("used", v6), ("number", v7), ("size", v8)] : List (Str × V)) := ((put_past (by decide +kernel)).trans (congrArg _ ((put_past (by decide +kernel)).trans (congrArg _ ((put_past (by decide +kernel)).trans (congrArg _ ((put_past (by decide +kernel)).trans (congrArg _ ((put_past (by decide +kernel)).trans (congrArg _ ((put_past (by decide +kernel)).trans (congrArg _ ((put_past (by decide +kernel)).trans (congrArg _ ((put_past (by decide +kernel)).trans (congrArg _ rfl))))))))))))))))
theorem eF_no_use_new_file {v0 v1 v2 v3 v4 v5 v6 v7 v8 : V} : (eF v0 v1 v2 v3 v4 v5 v6 v7 v8).lookup ("use_new_file" : Str) = none := ((lk_past (by decide +kernel)).trans ((lk_past (by decide +kernel)).trans ((lk_past (by decide +kernel)).trans ((lk_past (by decide +kernel)).trans ((lk_past (by decide +kernel)).trans ((lk_past (by decide +kernel)).trans ((lk_past (by decide +kernel)).trans ((lk_past (by decide +kernel)).trans ((lk_past (by decide +kernel)).trans rfl)))))))))
theorem eF_no_do {v0 v1 v2 v3 v4 v5 v6 v7 v8 : V} : (eF v0 v1 v2 v3 v4 v5 v6 v7 v8).lookup ("do" : Str) = none := ((lk_past (by decide +kernel)).trans ((lk_past (by decide +kernel)).trans ((lk_past (by decide +kernel)).trans ((lk_past (by decide +kernel)).trans ((lk_past (by decide +kernel)).trans ((lk_past (by decide +kernel)).trans ((lk_past (by decide +kernel)).trans ((lk_past (by decide +kernel)).trans ((lk_past (by decide +kernel)).trans rfl)))))))))
theorem eF_no_refusal_of {v0 v1 v2 v3 v4 v5 v6 v7 v8 : V} : (eF v0 v1 v2 v3 v4 v5 v6 v7 v8).lookup ("refusal_of" : Str) = none := ((lk_past (by decide +kernel)).trans ((lk_past (by decide +kernel)).trans ((lk_past (by decide +kernel)).trans ((lk_past (by decide +kernel)).trans ((lk_past (by decide +kernel)).trans ((lk_past (by decide +kernel)).trans ((lk_past (by decide +kernel)).trans ((lk_past (by decide +kernel)).trans ((lk_past (by decide +kernel)).trans rfl)))))))))
theorem eF_no_settle {v0 v1 v2 v3 v4 v5 v6 v7 v8 : V} : (eF v0 v1 v2 v3 v4 v5 v6 v7 v8).lookup ("settle" : Str) = none := ((lk_past (by decide +kernel)).trans ((lk_past (by decide +kernel)).trans ((lk_past (by decide +kernel)).trans ((lk_past (by decide +kernel)).trans ((lk_past (by decide +kernel)).trans ((lk_past (by decide +kernel)).trans ((lk_past (by decide +kernel)).trans ((lk_past (by decide +kernel)).trans ((lk_past (by decide +kernel)).trans rfl)))))))))
theorem eF_no_flush {v0 v1 v2 v3 v4 v5 v6 v7 v8 : V} : (eF v0 v1 v2 v3 v4 v5 v6 v7 v8).lookup ("flush" : Str) = none := ((lk_past (by decide +kernel)).trans ((lk_past (by decide +kernel)).trans ((lk_past (by decide +kernel)).trans ((lk_past (by decide +kernel)).trans ((lk_past (by decide +kernel)).trans ((lk_past (by decide +kernel)).trans ((lk_past (by decide +kernel)).trans ((lk_past (by decide +kernel)).trans ((lk_past (by decide +kernel)).trans rfl)))))))))
theorem eF_no_begin_copy {v0 v1 v2 v3 v4 v5 v6 v7 v8 : V} : (eF v0 v1 v2 v3 v4 v5 v6 v7 v8).lookup ("begin_copy" : Str) = none := ((lk_past (by decide +kernel)).trans ((lk_past (by decide +kernel)).trans ((lk_past (by decide +kernel)).trans ((lk_past (by decide +kernel)).trans ((lk_past (by decide +kernel)).trans ((lk_past (by decide +kernel)).trans ((lk_past (by decide +kernel)).trans ((lk_past (by decide +kernel)).trans ((lk_past (by decide +kernel)).trans rfl)))))))))
theorem eF_no_turn {v0 v1 v2 v3 v4 v5 v6 v7 v8 : V} : (eF v0 v1 v2 v3 v4 v5 v6 v7 v8).lookup ("turn" : Str) = none := ((lk_past (by decide +kernel)).trans ((lk_past (by decide +kernel)).trans ((lk_past (by decide +kernel)).trans ((lk_past (by decide +kernel)).trans ((lk_past (by decide +kernel)).trans ((lk_past (by decide +kernel)).trans ((lk_past (by decide +kernel)).trans ((lk_past (by decide +kernel)).trans ((lk_past (by decide +kernel)).trans rfl)))))))))
theorem eF_no_lose_power {v0 v1 v2 v3 v4 v5 v6 v7 v8 : V} : (eF v0 v1 v2 v3 v4 v5 v6 v7 v8).lookup ("lose_power" : Str) = none := ((lk_past (by decide +kernel)).trans ((lk_past (by decide +kernel)).trans ((lk_past (by decide +kernel)).trans ((lk_past (by decide +kernel)).trans ((lk_past (by decide +kernel)).trans ((lk_past (by decide +kernel)).trans ((lk_past (by decide +kernel)).trans ((lk_past (by decide +kernel)).trans ((lk_past (by decide +kernel)).trans rfl)))))))))
theorem eF_no_start_anew {v0 v1 v2 v3 v4 v5 v6 v7 v8 : V} : (eF v0 v1 v2 v3 v4 v5 v6 v7 v8).lookup ("start_anew" : Str) = none := ((lk_past (by decide +kernel)).trans ((lk_past (by decide +kernel)).trans ((lk_past (by decide +kernel)).trans ((lk_past (by decide +kernel)).trans ((lk_past (by decide +kernel)).trans ((lk_past (by decide +kernel)).trans ((lk_past (by decide +kernel)).trans ((lk_past (by decide +kernel)).trans ((lk_past (by decide +kernel)).trans rfl)))))))))
theorem eF_no_spoil {v0 v1 v2 v3 v4 v5 v6 v7 v8 : V} : (eF v0 v1 v2 v3 v4 v5 v6 v7 v8).lookup ("spoil" : Str) = none := ((lk_past (by decide +kernel)).trans ((lk_past (by decide +kernel)).trans ((lk_past (by decide +kernel)).trans ((lk_past (by decide +kernel)).trans ((lk_past (by decide +kernel)).trans ((lk_past (by decide +kernel)).trans ((lk_past (by decide +kernel)).trans ((lk_past (by decide +kernel)).trans ((lk_past (by decide +kernel)).trans rfl)))))))))
end TT
end
section
namespace TT
open Ue17
structure WF (f : Nat) (t : Tree) (n : Nat) : Prop where
  inc : t.nodes.Pairwise fun x y => x.number < y.number
  fst : ∃ x ∈ t.nodes, x.number = f ∧ x.parent = none
  uniq : ∀ x ∈ t.nodes, x.parent = none → x.number = f
  lt : ∀ x ∈ t.nodes, x.number < t.given
  lnd : (t.last.map fun y => y.1).Nodup
  lch : ∀ y ∈ t.last, ∃ x ∈ t.nodes, x.number = y.2 ∧ x.parent = some y.1
  chl : ∀ x ∈ t.nodes, x.change.in_.length ≤ 255
  bas : t.base.length + 255 * t.nodes.length ≤ 255 * n
theorem WF.len {f : Nat} {t : Tree} {n : Nat} (W : WF f t n) : t.nodes.length ≤ n := by have := W.bas; omega
theorem nd_of_inc {ns : List Node} (h : ns.Pairwise fun x y => x.number < y.number) : (ns.map fun x => x.number).Nodup := by
  refine List.pairwise_map.mpr (h.imp fun {a b} q => ?_)
  show a.number ≠ b.number
  omega
theorem WF.nd {f : Nat} {t : Tree} {n : Nat} (W : WF f t n) : (t.nodes.map fun x => x.number).Nodup := nd_of_inc W.inc
structure WT (t : Tree) (n : Nat) : Prop where
  nd : (t.nodes.map fun x => x.number).Nodup
  chl : ∀ x ∈ t.nodes, x.change.in_.length ≤ 255
  bas : t.base.length + 255 * t.nodes.length ≤ 255 * n
theorem WT.len {t : Tree} {n : Nat} (W : WT t n) : t.nodes.length ≤ n := by have := W.bas; omega
theorem WF.wt {f : Nat} {t : Tree} {n : Nat} (W : WF f t n) : WT t n := ⟨W.nd, W.chl, W.bas⟩
theorem find_some {t : Tree} {n : Nat} {x : Node} (h : find t n = some x) : x ∈ t.nodes ∧ x.number = n := ⟨List.mem_of_find?_eq_some h, eq_of_beq (List.find?_some (p := fun y : Node => y.number == n) h)⟩
theorem mem_inj : ∀ {ns : List Node} {x y : Node}, (ns.map fun x => x.number).Nodup → x ∈ ns → y ∈ ns → x.number = y.number → x = y
  | [], _, _, _, h, _, _ => by cases h
  | z :: ns, x, y, nd, hx, hy, e => by
    have nd : (z.number :: ns.map fun x => x.number).Nodup := nd
    obtain ⟨n1, n2⟩ := List.nodup_cons.mp nd
    rcases List.mem_cons.mp hx with q | q
    · rcases List.mem_cons.mp hy with r | r
      · rw [q, r]
      · exact absurd (show z.number ∈ ns.map fun x => x.number from List.mem_map.mpr ⟨y, r, by rw [← e, q]⟩) n1
    · rcases List.mem_cons.mp hy with r | r
      · exact absurd (show z.number ∈ ns.map fun x => x.number from List.mem_map.mpr ⟨x, q, by rw [e, r]⟩) n1
      · exact mem_inj n2 q r e
theorem find_mem {t : Tree} {x : Node} (nd : (t.nodes.map fun x => x.number).Nodup) (h : x ∈ t.nodes) : find t x.number = some x := by
  cases q : find t x.number with
  | none =>
    have := List.find?_eq_none.mp q x h
    simp at this
  | some y =>
    obtain ⟨a, b⟩ := find_some q
    rw [mem_inj nd a h b]
theorem WF.ffind {f : Nat} {t : Tree} {n : Nat} (W : WF f t n) : ∃ x, find t f = some x ∧ x.number = f ∧ x.parent = none := by
  obtain ⟨x, hx, e1, e2⟩ := W.fst
  have := find_mem W.nd hx
  rw [e1] at this
  exact ⟨x, this, e1, e2⟩
/-! the way back -/
def par (t : Tree) (n : Nat) : Option Nat := (find t n).bind fun x => x.parent
def up (t : Tree) (n : Nat) : Option Nat := match par t n with
  | none => none
  | some p => if (find t p).isSome = true then some p else none
def wayUp : Nat → Tree → Nat → List Nat → List Nat
  | 0, _, n, l => n :: l
  | k + 1, t, n, l => match up t n with
    | none => n :: l
    | some p => wayUp k t p (n :: l)
def way (t : Tree) (n : Nat) : List Nat := wayUp t.nodes.length t n []
theorem way_path {t : Tree} : ∀ (k : Nat) (n : Nat) (l : List Node), (find t n).isSome = true → (upFrom (k + 1) t n l).map (fun x => x.number) = wayUp k t n (l.map fun x => x.number)
  | 0, n, l, h => by
    obtain ⟨x, hx⟩ := Option.isSome_iff_exists.mp h
    have e := (find_some hx).2
    unfold upFrom
    rw [hx]
    show (match x.parent with | none => x :: l | some p => upFrom 0 t p (x :: l)).map _ = n :: l.map _
    cases x.parent with
    | none => show x.number :: _ = _; rw [e]
    | some p => show x.number :: _ = _; rw [e]
  | k + 1, n, l, h => by
    obtain ⟨x, hx⟩ := Option.isSome_iff_exists.mp h
    have e := (find_some hx).2
    unfold upFrom
    rw [hx]
    show (match x.parent with | none => x :: l | some p => upFrom (k + 1) t p (x :: l)).map _ = wayUp (k + 1) t n (l.map _)
    have eu : par t n = x.parent := by unfold par; rw [hx]; rfl
    unfold wayUp up
    rw [eu]
    cases x.parent with
    | none => show x.number :: _ = _; rw [e]
    | some p =>
      show (upFrom (k + 1) t p (x :: l)).map _ = match (if (find t p).isSome = true then some p else none) with | none => n :: l.map _ | some p => wayUp k t p (n :: l.map _)
      by_cases q : (find t p).isSome = true
      · rw [if_pos q]
        show _ = wayUp k t p (n :: l.map _)
        rw [way_path k p (x :: l) q]
        show wayUp k t p (x.number :: _) = _
        rw [e]
      · rw [if_neg q]
        have q' : find t p = none := by cases z : find t p with | none => rfl | some y => rw [z] at q; exact absurd rfl q
        unfold upFrom
        rw [q']
        show x.number :: _ = _
        rw [e]
theorem path_none {t : Tree} {n : Nat} (h : find t n = none) : path t n = [] := by
  unfold path upFrom
  rw [h]
theorem way_none {t : Tree} {n : Nat} (h : find t n = none) : way t n = [n] := by
  unfold way
  cases t.nodes.length with
  | zero => rfl
  | succ k =>
    unfold wayUp up par
    rw [h]
    rfl
theorem way_some {t : Tree} {n : Nat} (h : (find t n).isSome = true) : way t n = (path t n).map fun x => x.number := (way_path t.nodes.length n [] h).symm
theorem way_drop (t : Tree) (n : Nat) : (way t n).drop 1 = ((path t n).drop 1).map fun x => x.number := by
  cases h : find t n with
  | none => rw [way_none h, path_none h]; rfl
  | some x => rw [way_some (by rw [h]; rfl), List.map_drop]
theorem way_zip (t : Tree) (n : Nat) : (way t n).zip ((way t n).drop 1) = ((path t n).map fun x => x.number).zip (((path t n).map fun x => x.number).drop 1) := by
  cases h : find t n with
  | none => rw [way_none h, path_none h]; rfl
  | some x => rw [way_some (by rw [h]; rfl)]
theorem wayUp_len (t : Tree) : ∀ (k n : Nat) (l : List Nat), (wayUp k t n l).length ≤ k + 1 + l.length
  | 0, n, l => by show l.length + 1 ≤ _; omega
  | k + 1, n, l => by
    unfold wayUp
    cases up t n with
    | none => show l.length + 1 ≤ _; omega
    | some p =>
      have := wayUp_len t k p (n :: l)
      simp only [List.length_cons] at this
      show (wayUp k t p (n :: l)).length ≤ _
      omega
theorem way_len (t : Tree) (n : Nat) : (way t n).length ≤ t.nodes.length + 1 := wayUp_len t _ n []
/-! each on the path is a state; behind the first each has one that it's made of, the one ahead -/
theorem upFrom_mem {t : Tree} : ∀ (k n : Nat) (l : List Node), (∀ x ∈ l, x ∈ t.nodes) → ∀ x ∈ upFrom k t n l, x ∈ t.nodes
  | 0, _, _, h => h
  | k + 1, n, l, h => by
    unfold upFrom
    cases q : find t n with
    | none => exact h
    | some y =>
      have hy : ∀ x ∈ y :: l, x ∈ t.nodes := fun x hx => by
        rcases List.mem_cons.mp hx with rfl | hx
        · exact (find_some q).1
        · exact h x hx
      show ∀ x ∈ (match y.parent with | none => y :: l | some p => upFrom k t p (y :: l)), x ∈ t.nodes
      cases y.parent with
      | none => exact hy
      | some p => exact upFrom_mem k p (y :: l) hy
theorem path_mem {t : Tree} {n : Nat} {x : Node} (h : x ∈ path t n) : x ∈ t.nodes := upFrom_mem _ n [] (fun _ h => by cases h) x h
/-- a chain: each is made of the one ahead -/
inductive Chain : List Node → Prop
  | nil : Chain []
  | one (x : Node) : Chain [x]
  | cons {x y : Node} {l : List Node} : y.parent = some x.number → Chain (y :: l) → Chain (x :: y :: l)
theorem upFrom_chain {t : Tree} : ∀ (k n : Nat) (l : List Node), Chain l → (∀ y r, l = y :: r → y.parent = some n) → Chain (upFrom k t n l)
  | 0, _, _, h, _ => h
  | k + 1, n, l, h, hn => by
    unfold upFrom
    cases q : find t n with
    | none => exact h
    | some x =>
      have e := (find_some q).2
      have hc : Chain (x :: l) := by
        cases l with
        | nil => exact .one x
        | cons y r => exact .cons (by rw [hn y r rfl, e]) h
      show Chain (match x.parent with | none => x :: l | some p => upFrom k t p (x :: l))
      cases hp : x.parent with
      | none => exact hc
      | some p => exact upFrom_chain k p (x :: l) hc fun y r z => by injection z with z1 z2; rw [← z1]; exact hp
theorem path_chain (t : Tree) (n : Nat) : Chain (path t n) := upFrom_chain _ n [] .nil fun y r z => by cases z
theorem Chain.par : ∀ {l : List Node} {i : Nat} {x y : Node}, Chain l → l[i]? = some x → l[i + 1]? = some y → y.parent = some x.number
  | _, _, _, _, .nil, h, _ => by simp at h
  | _, 0, _, _, .one _, _, h => by simp at h
  | _, i + 1, _, _, .one _, h, _ => by simp at h
  | _, 0, x, y, .cons hp _, h1, h2 => by
    simp at h1 h2
    subst h1 h2
    exact hp
  | _, i + 1, x, y, .cons _ c, h1, h2 => Chain.par (i := i) c h1 h2
theorem path_drop_par {t : Tree} {n : Nat} {x : Node} (h : x ∈ (path t n).drop 1) : x.parent.isSome = true := by
  obtain ⟨i, hi⟩ := List.mem_iff_getElem?.mp h
  rw [List.getElem?_drop] at hi
  have hlt := (List.getElem?_eq_some_iff.mp hi).1
  have h0 : (path t n)[i]? = some ((path t n)[i]'(by omega)) := List.getElem?_eq_getElem (by omega)
  rw [(path_chain t n).par h0 (by rw [Nat.add_comm] at hi; exact hi)]
  rfl
/-! bounds -/
theorem changed_len (w : List Nat) (c : Change) : (changed w c).length ≤ w.length + c.in_.length := by
  unfold changed
  simp only [List.length_append, List.length_take, List.length_drop]
  omega
theorem fold_len (l : List Node) : ∀ (w : List Nat), (∀ x ∈ l, x.change.in_.length ≤ 255) → (l.foldl (fun w x => changed w x.change) w).length ≤ w.length + 255 * l.length := by
  induction l with
  | nil => intro w _; simp
  | cons x l ih =>
    intro w h
    have := ih (changed w x.change) fun y hy => h y (List.mem_cons_of_mem _ hy)
    have h2 := changed_len w x.change
    have h3 := h x List.mem_cons_self
    simp only [List.foldl_cons, List.length_cons]
    omega
theorem upFrom_len {t : Tree} : ∀ (k n : Nat) (l : List Node), (upFrom k t n l).length ≤ k + l.length
  | 0, _, l => by show l.length ≤ _; omega
  | k + 1, n, l => by
    unfold upFrom
    cases find t n with
    | none => show l.length ≤ _; omega
    | some x =>
      show (match x.parent with | none => x :: l | some p => upFrom k t p (x :: l)).length ≤ _
      cases x.parent with
      | none => simp only [List.length_cons]; omega
      | some p => have := upFrom_len (t := t) k p (x :: l); simp only [List.length_cons] at this; show (upFrom k t p (x :: l)).length ≤ _; omega
theorem path_len (t : Tree) (n : Nat) : (path t n).length ≤ t.nodes.length + 1 := upFrom_len _ n []
theorem WF.text {f : Nat} {t : Tree} {n : Nat} (W : WF f t n) (m : Nat) : (textAt t m).length ≤ 255 * n := by
  have h := fold_len ((path t m).drop 1) t.base fun x hx => W.chl x (path_mem (List.mem_of_mem_drop hx))
  have h2 := path_len t m
  rw [List.length_drop] at h
  have := W.bas
  unfold textAt
  have h3 : 255 * ((path t m).length - 1) ≤ 255 * t.nodes.length := Nat.mul_le_mul_left _ (by omega)
  omega
end TT
end
section
set_option maxHeartbeats 2000000
namespace TT
open PySem PySem.Spec PyProof.Rows L2
open Ue17 (Node)
abbrev UT := Ue17.Tree
/-- the addresses of a tree: the instance, its dicts -/
structure TA where
  a : Addr
  pa : Addr
  ch : Addr
  ke : Addr
  ps : Addr
abbrev TA.mut (A : TA) : List Addr := [A.a, A.pa, A.ch, A.ke, A.ps]
def Fr (F : List Addr) (H H' : Hp) : Prop := ∀ b o, H b = some o → b ∉ F → H' b = some o
theorem Fr.refl (F : List Addr) (H : Hp) : Fr F H H := fun _ _ h _ => h
theorem Fr.of {F : List Addr} {H H' : Hp} (s : Same H H') : Fr F H H' := fun b o h _ => s b o h
theorem Fr.trans {F : List Addr} {H H1 H2 : Hp} (s : Fr F H H1) (s2 : Fr F H1 H2) : Fr F H H2 := fun b o h n => s2 b o (s b o h n) n
theorem Fr.upd {F : List Addr} {H : Hp} {a : Addr} {o : HO} (h : a ∈ F) : Fr F H (upd H a o) := fun b u e n => by
  rw [upd_ne (fun q => n (by rw [q]; exact h))]
  exact e
theorem Fr.mono {F G : List Addr} {H H' : Hp} (s : Fr F H H') (h : ∀ b ∈ F, b ∈ G) : Fr G H H' := fun b o e n => s b o e fun m => n (h b m)
def mutK : HO → Bool
  | .ins _ _ _ => true
  | .dK _ => true
  | _ => false
theorem ne_kind {H : Hp} {a b : Addr} {o u : HO} (h : H a = some o) (h' : H b = some u) (d : mutK o ≠ mutK u) : a ≠ b := fun e => by
  subst e
  rw [h] at h'
  exact d (by rw [Option.some.inj h'])
abbrev tFt (f : Nat) (tx : Addr) (A : TA) (t : UT) : List (Str × V) := tF (nV f) (.ref tx) (.ref A.pa) (.ref A.ch) (.ref A.ke) (.ref A.ps) (nV t.now) (nV t.given) (nV t.deeds)
structure ChOk (X : List Addr) (H : Hp) (ns : List Node) (ca : Nat → Addr × Addr) : Prop where
  tup : ∀ x ∈ ns, x.parent.isSome = true → H (ca x.number).1 = some (.tup [nV x.change.at_, nV x.change.out, .ref (ca x.number).2])
  lst : ∀ x ∈ ns, x.parent.isSome = true → H (ca x.number).2 = some (.lst (iv x.change.in_)) ∧ (ca x.number).2 ∉ X
structure TreeAt (C : Addr) (X : List Addr) (H : Hp) (A : TA) (f : Nat) (t : UT) : Prop where
  ins : ∃ dx tx, H A.a = some (.ins C dx (tFt f tx A t)) ∧ H tx = some (.lst (iv t.base)) ∧ tx ∉ X
  pa : H A.pa = some (.dK (parKV t.nodes))
  ch : ∃ ca, H A.ch = some (.dK (chKV ca t.nodes)) ∧ ChOk X H t.nodes ca
  ke : H A.ke = some (.dK (kepKV t.nodes))
  ps : H A.ps = some (.dK (pasKV t.last))
  ap : A.mut.Nodup
  xl : ∀ b ∈ X, ∃ l, H b = some (.lst l)
theorem TreeAt.kinds {C : Addr} {X : List Addr} {H : Hp} {A : TA} {f : Nat} {t : UT} (T : TreeAt C X H A f t) : ∀ b ∈ A.mut, ∃ o, H b = some o ∧ mutK o = true := fun b hb => by
  obtain ⟨dx, tx, h1, _, _⟩ := T.ins
  obtain ⟨ca, h2, _⟩ := T.ch
  simp only [TA.mut, List.mem_cons, List.not_mem_nil, or_false] at hb
  rcases hb with rfl | rfl | rfl | rfl | rfl
  · exact ⟨_, h1, rfl⟩
  · exact ⟨_, T.pa, rfl⟩
  · exact ⟨_, h2, rfl⟩
  · exact ⟨_, T.ke, rfl⟩
  · exact ⟨_, T.ps, rfl⟩
theorem TreeAt.notMut {C : Addr} {X : List Addr} {H : Hp} {A : TA} {f : Nat} {t : UT} (T : TreeAt C X H A f t) {b : Addr} {o : HO} (h : H b = some o) (d : mutK o = false) : b ∉ A.mut := fun m => by
  obtain ⟨u, h1, h2⟩ := T.kinds b m
  rw [h] at h1
  rw [← Option.some.inj h1, d] at h2
  cases h2
/-- a tree stands where what changed is none of it -/
theorem TreeAt.fr {C : Addr} {X : List Addr} {H H' : Hp} {A : TA} {f : Nat} {t : UT} {F : List Addr} (T : TreeAt C X H A f t) (s : Fr F H H') (hF : ∀ b ∈ F, b ∈ X ∨ (b ∉ A.mut ∧ ∀ o, H b = some o → mutK o = true)) (xl : ∀ b ∈ X, ∃ l, H' b = some (.lst l)) : TreeAt C X H' A f t := by
  have hm : ∀ b ∈ A.mut, b ∉ F := fun b hb hbF => by
    rcases hF b hbF with q | q
    · obtain ⟨l, hl⟩ := T.xl b q
      exact T.notMut hl rfl hb
    · exact q.1 hb
  have hi : ∀ {b o}, H b = some o → mutK o = false → (b ∈ X → ∀ l, o ≠ .lst l) → b ∉ F := fun {b o} hb ho hx hbF => by
    rcases hF b hbF with q | q
    · obtain ⟨l, hl⟩ := T.xl b q
      rw [hb] at hl
      exact hx q l (Option.some.inj hl)
    · rw [q.2 o hb] at ho
      cases ho
  obtain ⟨dx, tx, h1, h2, h3⟩ := T.ins
  obtain ⟨ca, h4, h5⟩ := T.ch
  refine ⟨⟨dx, tx, s _ _ h1 (hm _ (by simp)), s _ _ h2 (hi h2 rfl fun q => absurd q h3), h3⟩, s _ _ T.pa (hm _ (by simp)), ⟨ca, s _ _ h4 (hm _ (by simp)), ⟨fun x hx hp => s _ _ (h5.tup x hx hp) (hi (h5.tup x hx hp) rfl fun _ _ e => by cases e), fun x hx hp => ⟨s _ _ (h5.lst x hx hp).1 (hi (h5.lst x hx hp).1 rfl fun q => absurd q (h5.lst x hx hp).2), (h5.lst x hx hp).2⟩⟩⟩, s _ _ T.ke (hm _ (by simp)), s _ _ T.ps (hm _ (by simp)), T.ap, xl⟩
theorem TreeAt.same {C : Addr} {X : List Addr} {H H' : Hp} {A : TA} {f : Nat} {t : UT} (T : TreeAt C X H A f t) (s : Same H H') : TreeAt C X H' A f t :=
  T.fr (F := []) (Fr.of s) (fun b hb => by cases hb) fun b hb => by obtain ⟨l, hl⟩ := T.xl b hb; exact ⟨l, s _ _ hl⟩
/-- more lists are watched -/
theorem TreeAt.more {C : Addr} {X : List Addr} {H : Hp} {A : TA} {f : Nat} {t : UT} (T : TreeAt C X H A f t) {p : Addr} {l : List V} {H0 : Hp} (T0 : TreeAt C X H0 A f t) (hp : H0 p = none) (hl : H p = some (.lst l)) (s : Same H0 H) : TreeAt C (p :: X) H A f t := by
  obtain ⟨dx, tx, h1, h2, h3⟩ := T0.ins
  obtain ⟨ca, h4, h5⟩ := T0.ch
  have n : ∀ {b o}, H0 b = some o → b ∉ X → b ∉ p :: X := fun {b o} hb hx m => by
    rcases List.mem_cons.mp m with rfl | m
    · rw [hb] at hp; cases hp
    · exact hx m
  refine ⟨⟨dx, tx, s _ _ h1, s _ _ h2, n h2 h3⟩, T.pa, ⟨ca, s _ _ h4, ⟨fun x hx q => s _ _ (h5.tup x hx q), fun x hx q => ⟨s _ _ (h5.lst x hx q).1, n (h5.lst x hx q).1 (h5.lst x hx q).2⟩⟩⟩, T.ke, T.ps, T.ap, fun b hb => ?_⟩
  rcases List.mem_cons.mp hb with rfl | hb
  · exact ⟨l, hl⟩
  · exact T.xl b hb
theorem TreeAt.less {C : Addr} {X Y : List Addr} {H : Hp} {A : TA} {f : Nat} {t : UT} (T : TreeAt C X H A f t) (h : ∀ b ∈ Y, b ∈ X) : TreeAt C Y H A f t := by
  obtain ⟨dx, tx, h1, h2, h3⟩ := T.ins
  obtain ⟨ca, h4, h5⟩ := T.ch
  exact ⟨⟨dx, tx, h1, h2, fun q => h3 (h _ q)⟩, T.pa, ⟨ca, h4, ⟨h5.tup, fun x hx q => ⟨(h5.lst x hx q).1, fun z => (h5.lst x hx q).2 (h _ z)⟩⟩⟩, T.ke, T.ps, T.ap, fun b hb => T.xl b (h b hb)⟩
section
variable {P : Program} {w : World} {K : PySem.W.Frag} {mg : Str → Option Value} {base : Heap} {CT CD CE : Addr}
abbrev N_Tree___init__ : List Str := ["self", "first", "text"]
theorem sc_Tree___init__ : FnScope N_Tree___init__ ["self", "first", "text"] (defScope s_Tree___init__) := ⟨rfl, rfl, rfl, by decide +kernel, rfl, by decide +kernel, by decide +kernel⟩
abbrev N_Tree_has : List Str := ["self", "state"]
theorem sc_Tree_has : FnScope N_Tree_has ["self", "state"] (defScope s_Tree_has) := ⟨rfl, rfl, rfl, by decide +kernel, rfl, by decide +kernel, by decide +kernel⟩
abbrev N_Tree_numbers : List Str := ["self"]
theorem sc_Tree_numbers : FnScope N_Tree_numbers ["self"] (defScope s_Tree_numbers) := ⟨rfl, rfl, rfl, by decide +kernel, rfl, by decide +kernel, by decide +kernel⟩
abbrev N_Tree_made_of : List Str := ["self", "state", "number"]
theorem sc_Tree_made_of : FnScope N_Tree_made_of ["self", "state"] (defScope s_Tree_made_of) := ⟨rfl, rfl, rfl, by decide +kernel, rfl, by decide +kernel, by decide +kernel⟩
abbrev N_Tree_way_to : List Str := ["self", "state", "way"]
theorem sc_Tree_way_to : FnScope N_Tree_way_to ["self", "state"] (defScope s_Tree_way_to) := ⟨rfl, rfl, rfl, by decide +kernel, rfl, by decide +kernel, by decide +kernel⟩
abbrev N_Tree_text_of : List Str := ["self", "state", "text", "step", "change"]
theorem sc_Tree_text_of : FnScope N_Tree_text_of ["self", "state"] (defScope s_Tree_text_of) := ⟨rfl, rfl, rfl, by decide +kernel, rfl, by decide +kernel, by decide +kernel⟩
abbrev N_Tree_text_now : List Str := ["self"]
theorem sc_Tree_text_now : FnScope N_Tree_text_now ["self"] (defScope s_Tree_text_now) := ⟨rfl, rfl, rfl, by decide +kernel, rfl, by decide +kernel, by decide +kernel⟩
abbrev N_Tree_undone : List Str := ["self"]
theorem sc_Tree_undone : FnScope N_Tree_undone ["self"] (defScope s_Tree_undone) := ⟨rfl, rfl, rfl, by decide +kernel, rfl, by decide +kernel, by decide +kernel⟩
abbrev N_Tree_done_again : List Str := ["self"]
theorem sc_Tree_done_again : FnScope N_Tree_done_again ["self"] (defScope s_Tree_done_again) := ⟨rfl, rfl, rfl, by decide +kernel, rfl, by decide +kernel, by decide +kernel⟩
abbrev oV (o : Option Nat) : V := match o with
  | none => .non
  | some n => nV n
theorem fnd_find (t : UT) (n : Nat) : fnd t.nodes n = Ue17.find t n := rfl
def sp_has (C : Addr) : Sp := fun vs H Q _ => ∃ (A : TA) (X : List Addr) (f : Nat) (t : UT) (o : Option Nat), vs = [.ref A.a, oV o] ∧ TreeAt C X H A f t ∧ Q (.bl (match o with | none => false | some n => (Ue17.find t n).isSome)) H
theorem ok_Tree_has (T : Txt K mg CT CD CE) : C8.Met P w K mg base 1 CT "has" (sp_has CT) [] := by
  refine T.d_Tree_has.ok T.clT sc_Tree_has (fun vs H Q E h => ?_) (fun f cdv A outer s H vs Q E hr h => ?_)
  · obtain ⟨A, X, f, t, o, rfl, _⟩ := h
    rfl
  · obtain ⟨A, X, f, t, o, rfl, TR, k⟩ := h
    have hu := hu_of hr
    obtain ⟨dx, tx, h1, h2, h3⟩ := TR.ins
    refine ⟨_, (pss_one (ps_ret (pe_cmp (pc_dinN (by exact hu) (pv 1) (pe_fld (pv 0) rfl)) rfl))) , ?_⟩
    refine ⟨_, rfl, _, rfl, A.a, CT, dx, _, _, rfl, h1, T.clT, T.nT_kept, tF_kept, ?_⟩
    cases o with
    | none => exact .inr ⟨A.ke, _, rfl, rfl, .inl TR.ke, k⟩
    | some n =>
      refine .inl ⟨A.ke, _, rfl, DGet.k (k := kI n) TR.ke, fin_b k ?_⟩
      rw [val_kep, Option.isSome_map, fnd_find]
/-- a sorted list that is a permutation of a rising one is that -/
theorem perm_sorted : ∀ {l m : List Int}, l.Perm m → l.Pairwise (· ≤ ·) → m.Pairwise (· < ·) → l = m
  | [], m, p, _, _ => by rw [List.nil_perm.mp p]
  | a :: l, [], p, _, _ => absurd p (by intro q; exact absurd q.length_eq (by simp))
  | a :: l, b :: m, p, h1, h2 => by
    obtain ⟨a1, a2⟩ := List.pairwise_cons.mp h1
    obtain ⟨b1, b2⟩ := List.pairwise_cons.mp h2
    have ma : a ∈ b :: m := p.mem_iff.mp List.mem_cons_self
    have mb : b ∈ a :: l := p.mem_iff.mpr List.mem_cons_self
    have e : a = b := by
      rcases List.mem_cons.mp ma with q | q
      · exact q
      · rcases List.mem_cons.mp mb with z | z
        · exact z.symm
        · have := b1 a q
          have := a1 b z
          omega
    subst e
    rw [perm_sorted (List.Perm.cons_inv p) a2 b2]
theorem keys_kep (ns : List Node) : (kepKV ns).map (·.1) = (zi (ns.map fun x => x.number)).map Sum.inl := by
  unfold kepKV
  rw [List.map_map, List.map_map, List.map_map]
  rfl
def parN (ns : List Node) : List Node := ns.filter fun x => x.parent.isSome
theorem par_parN : ∀ ns : List Node, parKV ns = (parN ns).map fun x => (kI x.number, nV (x.parent.getD 0))
  | [] => rfl
  | x :: ns => by
    have ih := par_parN ns
    unfold parKV parN at ih ⊢
    cases hp : x.parent with
    | none => rw [List.filterMap_cons_none (by rw [hp]; rfl), List.filter_cons, if_neg (by rw [hp]; decide), ih]
    | some p => rw [List.filterMap_cons_some (b := (kI x.number, nV p)) (by rw [hp]; rfl), List.filter_cons, if_pos (by rw [hp]; rfl), ih, List.map_cons, hp]; rfl
theorem keys_par (ns : List Node) : (parKV ns).map (·.1) = (zi ((parN ns).map fun x => x.number)).map Sum.inl := by
  rw [par_parN, List.map_map, List.map_map, List.map_map]
  rfl
theorem rise_zi {ns : List Node} (h : ns.Pairwise fun x y => x.number < y.number) : (zi (ns.map fun x => x.number)).Pairwise (· < ·) := by
  refine List.pairwise_map.mpr (List.pairwise_map.mpr (h.imp fun {a b} q => ?_))
  show (a.number : Int) < (b.number : Int)
  omega
theorem rise_parN {ns : List Node} (h : ns.Pairwise fun x y => x.number < y.number) : (parN ns).Pairwise fun x y => x.number < y.number := h.filter _
def sp_numbers (C : Addr) : Sp := fun vs H Q _ => ∃ (A : TA) (X : List Addr) (f : Nat) (t : UT), vs = [.ref A.a] ∧ TreeAt C X H A f t ∧ (t.nodes.Pairwise fun x y => x.number < y.number) ∧ t.nodes.length ≤ 1000 ∧ newL H (iv (t.nodes.map fun x => x.number)) Q
theorem ok_Tree_numbers (T : Txt K mg CT CD CE) : C8.Met P w K mg base 1 CT "numbers" (sp_numbers CT) [] := by
  refine T.d_Tree_numbers.ok T.clT sc_Tree_numbers (fun vs H Q E h => ?_) (fun f cdv A outer s H vs Q E hr h => ?_)
  · obtain ⟨A, X, f, t, rfl, _⟩ := h
    rfl
  · obtain ⟨A, X, f, t, rfl, TR, hi, hl, k⟩ := h
    obtain ⟨dx, tx, h1, h2, h3⟩ := TR.ins
    refine ⟨_, (pss_one (ps_ret (pe_callB (cr_srtD rfl) (by rfl) T.b_sorted (by decide +kernel) (pa_cons (pe_fld (pv 0) rfl) pa_nil)))) , ?_⟩
    refine ⟨_, rfl, A.a, CT, dx, _, _, rfl, h1, T.clT, T.nT_kept, tF_kept, A.ke, _, zi (t.nodes.map fun x => x.number), rfl, TR.ke, keys_kep _, by rw [List.length_map, List.length_map]; omega, fun ys p hp hs => ?_⟩
    intro np; generalize hH_p : upd _ p _ = H1; have s1 := snew np hH_p; have h1 := hnew hH_p; clear hH_p
    rw [perm_sorted hp hs (rise_zi hi), ← iv_zi] at h1
    exact k p H1 np s1 h1
end
end TT
end
section
set_option maxHeartbeats 2000000
namespace TT
open PySem PySem.Spec PyProof.Rows L2
open Ue17 (Node)
theorem dget_of {H : Hp} {a : Addr} {kvs : List (Key × V)} {n : Nat} {o : Option V} (h : H a = some (.dK kvs)) (e : valV kvs (kI n) = o) : DGet H a (nV n) o := e ▸ DGet.k (k := kI n) h
theorem iv_get' {l : List Nat} {i : Nat} {x : V} (h : (iv l)[i]? = some x) : ∃ n, l[i]? = some n ∧ x = nV n := by
  rw [List.getElem?_map] at h
  cases e : l[i]? with
  | none => rw [e] at h; cases h
  | some n => rw [e] at h; exact ⟨n, rfl, (Option.some.inj h).symm⟩
theorem rv_get' {l : List Addr} {i : Nat} {x : V} (h : (rv l)[i]? = some x) : ∃ n, l[i]? = some n ∧ x = V.ref n := by
  rw [List.getElem?_map] at h
  cases e : l[i]? with
  | none => rw [e] at h; cases h
  | some n => rw [e] at h; exact ⟨n, rfl, (Option.some.inj h).symm⟩
theorem map_get' {α β : Type} {f : α → β} {l : List α} {i : Nat} {x : β} (h : (l.map f)[i]? = some x) : ∃ n, l[i]? = some n ∧ x = f n := by
  rw [List.getElem?_map] at h
  cases e : l[i]? with
  | none => rw [e] at h; cases h
  | some n => rw [e] at h; exact ⟨n, rfl, (Option.some.inj h).symm⟩
theorem take_snoc {α : Type} : ∀ {l : List α} {i : Nat} {x : α}, l[i]? = some x → l.take (i + 1) = l.take i ++ [x]
  | [], i, x, h => by simp at h
  | a :: l, 0, x, h => by
    have e : a = x := Option.some.inj h
    subst e
    rfl
  | a :: l, i + 1, x, h => by
    have ih := take_snoc (l := l) (i := i) (x := x) h
    show a :: l.take (i + 1) = a :: l.take i ++ [x]
    rw [ih]
    rfl
theorem same_upd {H H' : Hp} {p : Addr} {o : HO} (s : Same H H') (hp : H p = none) : Same H (upd H' p o) := fun b u h => by
  rw [upd_ne (ne_of_none h hp)]
  exact s b u h
theorem TreeAt.fresh {C : Addr} {X : List Addr} {H : Hp} {A : TA} {f : Nat} {t : UT} (T : TreeAt C X H A f t) {p : Addr} (h : H p = none) : p ∉ X := fun m => by
  obtain ⟨l, hl⟩ := T.xl p m
  rw [hl] at h
  cases h
section
variable {P : Program} {w : World} {K : PySem.W.Frag} {mg : Str → Option Value} {base : Heap} {CT CD CE : Addr}
theorem children_parN (t : UT) (n : Nat) : Ue17.children t n = ((parN t.nodes).filter fun x => x.parent == some n).map fun x => x.number := by
  unfold Ue17.children parN
  rw [List.filter_filter]
  congr 1
  refine List.filter_congr fun x _ => ?_
  cases hp : x.parent with
  | none => rfl
  | some p => simp
def sp_made_of (C : Addr) : Sp := fun vs H Q _ => ∃ (A : TA) (X : List Addr) (f : Nat) (t : UT) (n : Nat), vs = [.ref A.a, nV n] ∧ TreeAt C X H A f t ∧ (t.nodes.Pairwise fun x y => x.number < y.number) ∧ t.nodes.length ≤ 1000 ∧ newL H (iv (Ue17.children t n)) Q
theorem ok_Tree_made_of (T : Txt K mg CT CD CE) : C8.Met P w K mg base 1 CT "made_of" (sp_made_of CT) [] := by
  refine T.d_Tree_made_of.ok T.clT sc_Tree_made_of (fun vs H Q E h => ?_) (fun f cdv A outer s H vs Q E hr h => ?_)
  · obtain ⟨A, X, f, t, n, rfl, _⟩ := h
    rfl
  · obtain ⟨A, X, f, t, n, rfl, TR, hi, hl, k⟩ := h
    have hu := hu_of hr
    obtain ⟨dx, tx, h1, h2, h3⟩ := TR.ins
    have hpl : (parN t.nodes).length ≤ t.nodes.length := List.length_filter_le ..
    refine ⟨_, (pss_one (ps_ret (pe_lc (own := [("number", 2)]) (g := gName 2) (tt := tTest (tOp rEq (tDGet (tFld K (tVar 0) "parents") (tVar 2)) (tVar 1))) (te := tVar 2) rfl sc_Tree_made_of.nd (pi_list (pe_callB (cr_srtD rfl) (by rfl) T.b_sorted (by decide +kernel) (pa_cons (pe_fld (pv 0) rfl) pa_nil))) (blkOk_by (N := N_Tree_made_of) (sc := defScope s_Tree_made_of) (by decide +kernel)) (fun _ _ _ _ _ => (pg_name (i := 2) sc_Tree_made_of.nd rfl (Or.inl rfl))) (fun _ _ _ _ _ => (pts_one (pt_cmpR op_eq (pe_dget (by exact hu) (pe_fld (pv 0) rfl) (pv 2) (fun _ _ => rfl)) (pv 1) (nomark _)))) (fun _ _ _ _ _ => (pv 2))))) , ?_⟩
    refine ⟨_, rfl, A.a, CT, dx, _, _, rfl, h1, T.clT, T.nT_parents, tF_parents, A.pa, _, zi ((parN t.nodes).map fun x => x.number), rfl, TR.pa, keys_par _, by rw [List.length_map, List.length_map]; omega, fun ys p hp hs => ?_⟩
    intro np; generalize hH_p : upd _ p _ = H1; have s1 := snew np hH_p; have hq := hnew hH_p; clear hH_p
    rw [perm_sorted hp hs (rise_zi (rise_parN hi)), ← iv_zi] at hq
    have T1 := TR.same s1
    obtain ⟨dx1, tx1, g1, g2, g3⟩ := T1.ins
    refine ⟨p, rfl, ⟨_, SqL.of hq⟩, fun D nD => lc_list (K := K) (a := p) (xs := iv ((parN t.nodes).map fun x => x.number)) (fun i H' => Same H1 H' ∧ H' D = some (.lst (iv ((((parN t.nodes).take i).filter fun x => x.parent == some n).map fun x => x.number)))) ⟨same_upd (Same.refl H1) nD, upd_same⟩ (fun i H' _ pv => SqL.of (pv.1 _ _ hq)) (fun i x H' hx pv => ?_) (fun H' pv => ?_)⟩
    · obtain ⟨sv, hD⟩ := pv
      obtain ⟨m, hm, rfl⟩ := iv_get' hx
      obtain ⟨y, hy, rfl⟩ := map_get' hm
      have hym : y ∈ parN t.nodes := List.mem_of_getElem? hy
      obtain ⟨hyn, hyp⟩ := List.mem_filter.mp hym
      obtain ⟨pp, hpp⟩ := Option.isSome_iff_exists.mp hyp
      have hv : valV (parKV t.nodes) (kI y.number) = some (nV pp) := by
        rw [val_par _ _ (nd_of_inc hi), fnd_mem (nd_of_inc hi) hyn]
        show y.parent.map nV = _
        rw [hpp]; rfl
      refine ⟨rfl, _, rfl, A.a, CT, dx1, _, _, rfl, sv _ _ g1, T.clT, T.nT_parents, tF_parents, _, rfl, A.pa, _, rfl, dget_of (sv _ _ T1.pa) hv, _, rfl, rfl, _, rfl, itI (fun e => ?_) (fun e => ?_)⟩
      · have e' : pp = n := by omega
        subst e'
        refine ⟨_, rfl, _, hD, szl _ (by rw [iv_len, List.length_map]; have := List.length_filter_le (fun x : Node => x.parent == some pp) ((parN t.nodes).take i); rw [List.length_take] at this; omega), same_upd sv nD, ?_⟩
        rw [upd_same, take_snoc hy, List.filter_append, List.filter_cons, if_pos (by rw [hpp]; exact beq_self_eq_true _), List.filter_nil, List.map_append, iv_append]
        rfl
      · refine ⟨sv, ?_⟩
        rw [hD, take_snoc hy, List.filter_append, List.filter_cons, if_neg (by rw [hpp]; intro q; exact e (by have := Option.some.inj (eq_of_beq q); omega)), List.filter_nil, List.append_nil]
    · obtain ⟨sv, hD⟩ := pv
      refine k D H' (s1.free nD) (s1.trans sv) ?_
      rw [hD, iv_len, List.length_map, List.take_length, children_parN]
def sp_way_to (C : Addr) : Sp := fun vs H Q _ => ∃ (A : TA) (X : List Addr) (f : Nat) (t : UT) (n : Nat), vs = [.ref A.a, nV n] ∧ TreeAt C X H A f t ∧ NdN t.nodes ∧ t.nodes.length ≤ 1000 ∧ newL H (iv (way t n)) Q
theorem ok_Tree_way_to (T : Txt K mg CT CD CE) : C8.Met P w K mg base 2 CT "way_to" (sp_way_to CT) [] := by
  refine T.d_Tree_way_to.ok T.clT sc_Tree_way_to (fun vs H Q E h => ?_) (fun f cdv A outer s H vs Q E hr h => ?_)
  · obtain ⟨A, X, f, t, n, rfl, _⟩ := h
    rfl
  · obtain ⟨A, X, f, t, n, rfl, TR, nd, hl, k⟩ := h
    have hu := hu_of hr
    refine ⟨_, (pss_cons (ps_set (i := 2) sc_Tree_way_to.nd rfl (Or.inl rfl) (pe_lst (pa_cons (pv 1) pa_nil)))
      (pss_cons (ps_while PassesOwn.never (PW.pt (pw_and (pt_cmpR op_le (pe_callB call_len_seq (by rfl) T.b_len PySem.boot_len (pa_cons (pv 2) pa_nil)) (pe_callB call_lenD (by rfl) T.b_len PySem.boot_len (pa_cons (pe_fld (pv 0) rfl) pa_nil)) (nomark _)) (pw_and1 (pt_val (C8.pe_mt (ok_Tree_has T) hr (by decide) (pv 0) (pa_cons (pe_dget1 (by exact hu) (pe_fld (pv 0) rfl) (pe_ix ix_list (pv 2) (pe_un un_neg pe_int) (fun _ _ => rfl)) ⟨rfl, rfl, rfl, rfl⟩) pa_nil))))))
        (pss_one (ps_expr (pe_bm PySem.F.plainAttrs_list PySem.F.slot_list_append PySem.F.type_list_append mt_append (pv 2) (pa_cons (pe_dget (by exact hu) (pe_fld (pv 0) rfl) (pe_ix ix_list (pv 2) (pe_un un_neg pe_int) (fun _ _ => rfl)) (fun _ _ => rfl)) pa_nil)))))
      (pss_cons (ps_expr (pe_bm0 PySem.F.plainAttrs_list PySem.F.slot_list_reverse PySem.F.type_list_reverse mt_reverse (pv 2)))
      (pss_one (ps_ret (pv 2)))))) , ?_⟩
    refine ⟨_, rfl, sz 1 (by decide), ?_⟩
    intro q nq; generalize hH_q : upd _ q _ = H1; have s1 := snew nq hH_q; have hq := hnew hH_q; clear hH_q
    let W : Nat → L2.St → Hp → Prop := fun k σ H' => ∃ (m : Nat) (l : List Nat), σ = [some (.ref A.a), some (nV n), some (.ref q)] ∧ H' q = some (.lst (iv (m :: l).reverse)) ∧ Same H H' ∧ wayUp k t m l = way t n ∧ l.length + k = t.nodes.length
    refine ⟨W, ⟨t.nodes.length, n, [], rfl, hq, s1, rfl, by simp⟩, fun kk σ H2 hW => ?_⟩
    obtain ⟨m, l, rfl, hq2, s2, ew, el⟩ := hW
    have T2 := TR.same s2
    obtain ⟨dx, tx, h1, h2, h3⟩ := T2.ins
    have hlast : atI (iv (m :: l).reverse) (-1) = some (nV m) := by
      rw [List.reverse_cons, iv_append]
      exact atI_last _ _
    have hlen : (iv (m :: l).reverse).length = l.length + 1 := by rw [iv_len, List.length_reverse]; rfl
    have done : kk = 0 ∨ up t m = none → newL H (iv (way t n)) Q → Q (.ref q) (upd H2 q (.lst (iv (way t n)))) := fun c k => by
      refine k q _ nq (same_upd s2 nq) upd_same
    have ewl : kk = 0 ∨ up t m = none → way t n = m :: l := fun c => by
      rw [← ew]
      rcases c with rfl | c
      · rfl
      · cases kk with
        | zero => rfl
        | succ kk => unfold wayUp; rw [c]
    have fin : kk = 0 ∨ up t m = none → Q (.ref q) (upd H2 q (.lst (iv (m :: l).reverse).reverse)) := fun c => by
      have := done c k
      rw [ewl c] at this
      rw [show (iv (m :: l).reverse).reverse = iv (m :: l) by rw [← List.map_reverse, List.reverse_reverse]]
      exact this
    have hk : (kepKV t.nodes).length = t.nodes.length := List.length_map ..
    refine ⟨_, rfl, q, _, rfl, .inl (SqL.of hq2), _, rfl, A.a, CT, dx, _, _, rfl, h1, T.clT, T.nT_kept, tF_kept, A.ke, _, rfl, T2.ke, _, _, rfl, rfl, _, rfl, itD (fun c => ?_) (fun c => ?_)⟩
    · rw [hlen, hk] at c
      refine ⟨_, rfl, A.a, dx, _, rfl, h1, tF_no_has, _, rfl, A.a, CT, dx, _, _, rfl, h1, T.clT, T.nT_parents, tF_parents, A.pa, rfl, .inl ⟨_, .inl T2.pa⟩, _, rfl, _, rfl, q, _, _, _, rfl, rfl, SqL.of hq2, hlast, _, dget_of T2.pa (val_par _ m nd), ?_⟩
      have hpm : ((fnd t.nodes m).bind fun x => x.parent) = par t m := rfl
      rw [hpm]
      refine ⟨A, X, f, t, par t m, ?_, T2, _, rfl, itB (fun b => ?_) (fun b => ?_)⟩
      · cases par t m <;> rfl
      · cases hp : par t m with
        | none => rw [hp] at b; cases b
        | some pp =>
          rw [hp] at b
          have hup : up t m = some pp := by unfold up; rw [hp]; show (if _ then _ else _) = _; rw [if_pos b]
          obtain ⟨k', rfl⟩ : ∃ k', kk = k' + 1 := ⟨kk - 1, by omega⟩
          refine ⟨fun σ' H' => ∃ m', m' < k' + 1 ∧ W m' σ' H', fun _ _ z => z, ?_⟩
          refine ⟨_, rfl, .inl ⟨rfl, _, SqL.of hq2⟩, _, rfl, A.a, CT, dx, _, _, rfl, h1, T.clT, T.nT_parents, tF_parents, _, rfl, _, rfl, q, _, _, _, rfl, rfl, SqL.of hq2, hlast, A.pa, nV pp, rfl, dget_of T2.pa (by rw [val_par _ m nd, hpm, hp]; rfl), q, _, _, rfl, rfl, hq2, szl _ (by rw [hlen]; omega), ?_⟩
          refine ⟨k', Nat.lt_succ_self _, pp, m :: l, rfl, ?_, same_upd s2 nq, ?_, by simp only [List.length_cons]; omega⟩
          · rw [upd_same, List.reverse_cons (a := pp), iv_append]; rfl
          · rw [← ew]
            show _ = (match up t m with | none => m :: l | some p => wayUp k' t p (m :: l))
            rw [hup]
      · have hup : up t m = none := by
          unfold up
          cases hp : par t m with
          | none => rfl
          | some pp =>
            rw [hp] at b
            have b' : (Ue17.find t pp).isSome = false := b
            show (if _ then _ else _) = _
            rw [if_neg (by rw [b']; decide)]
        exact ⟨_, rfl, .inl ⟨rfl, _, SqL.of hq2⟩, q, _, rfl, rfl, hq2, _, rfl, fin (.inr hup)⟩
    · rw [hlen, hk] at c
      exact ⟨_, rfl, .inl ⟨rfl, _, SqL.of hq2⟩, q, _, rfl, rfl, hq2, _, rfl, fin (.inl (by omega))⟩
end
end TT
end
section
set_option maxHeartbeats 2000000
namespace TT
open PySem PySem.Spec PyProof.Rows L2
open Ue17 (Node)
/-- a list that stands, none of those watched -/
def oldL (X : List Addr) (H : Hp) (xs : List V) (Q : VK) : Prop := ∀ (p : Addr) (H' : Hp), Same H H' → H' p = some (.lst xs) → p ∉ X → Q (.ref p) H'
section
variable {P : Program} {w : World} {K : PySem.W.Frag} {mg : Str → Option Value} {base : Heap} {CT CD CE : Addr}
def sp_text_of (C : Addr) : Sp := fun vs H Q _ => ∃ (A : TA) (X : List Addr) (f : Nat) (t : UT) (n nB : Nat), vs = [.ref A.a, nV n] ∧ TreeAt C X H A f t ∧ WT t nB ∧ nB ≤ 300 ∧ oldL X H (iv (Ue17.textAt t n)) Q
theorem ok_Tree_text_of (T : Txt K mg CT CD CE) : C8.Met P w K mg base 3 CT "text_of" (sp_text_of CT) [] := by
  refine T.d_Tree_text_of.ok T.clT sc_Tree_text_of (fun vs H Q E h => ?_) (fun f cdv A outer s H vs Q E hr h => ?_)
  · obtain ⟨A, X, f, t, n, nB, rfl, _⟩ := h
    rfl
  · obtain ⟨A, X, f, t, n, nB, rfl, TR, WFt, hB, k⟩ := h
    have hu := hu_of hr
    obtain ⟨dx, tx, h1, h2, h3⟩ := TR.ins
    have hlen := WFt.len
    refine ⟨_, (pss_cons (ps_set (i := 2) sc_Tree_text_of.nd rfl (Or.inl rfl) (pe_fld (pv 0) rfl))
      (pss_cons (ps_for PassesOwn.never rfl (pi_list (pe_slice sl_list (C8.pe_mt (ok_Tree_way_to T) hr (by decide) (pv 0) (pa_cons (pv 1) pa_nil)) (po_some pe_int) po_none)) (pg_name (i := 3) sc_Tree_text_of.nd rfl (Or.inl rfl))
        (pss_cons (ps_set (i := 4) sc_Tree_text_of.nd rfl (Or.inl rfl) (pe_dget (by exact hu) (pe_fld (pv 0) rfl) (pv 3) (fun _ _ => rfl)))
          (pss_one (ps_set (i := 2) sc_Tree_text_of.nd rfl (Or.inl rfl) (C8.pe_c (ok_changed T) hr (by decide) (by rfl) (pa_cons (pv 2) (pa_cons (pe_ix ix_tup (pv 4) pe_int (fun _ _ => rfl)) (pa_cons (pe_ix ix_tup (pv 4) pe_int (fun _ _ => rfl)) (pa_cons (pe_ix ix_tup (pv 4) pe_int (fun _ _ => rfl)) pa_nil)))))))))
      (pss_one (ps_ret (pv 2))))) , ?_⟩
    refine ⟨_, rfl, A.a, CT, dx, _, _, rfl, h1, T.clT, T.nT_first_text, tF_first_text, ?_⟩
    refine ⟨_, rfl, A.a, dx, _, rfl, h1, tF_no_way_to, _, rfl, A, X, f, t, n, rfl, TR, WFt.nd, by omega, fun q H1 nq s1 hq => ?_⟩
    refine ⟨1, rfl, q, _, rfl, SqL.of hq, ?_⟩
    intro r nr; generalize hH_r : upd _ r _ = H2; have s2 := snew nr hH_r; have hr2 := hnew hH_r; clear hH_r
    rw [show cutV (iv (way t n)) (some 1) none = iv ((way t n).drop 1) from iv_cut_n (way t n) 1, way_drop] at hr2
    refine ⟨r, rfl, ⟨_, SqL.of hr2⟩, for_list (K := K) (a := r) (xs := iv (((Ue17.path t n).drop 1).map fun x => x.number)) (fun i σ H' => ∃ (tp : Addr) (v3 v4 : Option V), σ = [some (.ref A.a), some (nV n), some (.ref tp), v3, v4] ∧ Same H2 H' ∧ H' tp = some (.lst (iv ((((Ue17.path t n).drop 1).take i).foldl (fun w x => Ue17.changed w x.change) t.base))) ∧ tp ∉ X)
      ⟨tx, none, none, rfl, Same.refl H2, s2 _ _ (s1 _ _ h2), h3⟩ (fun i σ H' _ pv => by obtain ⟨tp, v3, v4, _, sv, _⟩ := pv; exact SqL.of (sv _ _ hr2)) (fun i y σ H' hy pv => ?_) (fun σ H' pv => ?_)⟩
    · obtain ⟨tp, v3, v4, rfl, sv, htp, ntp⟩ := pv
      obtain ⟨m, hm, rfl⟩ := iv_get' hy
      obtain ⟨x, hx, rfl⟩ := map_get' hm
      have hxm : x ∈ (Ue17.path t n).drop 1 := List.mem_of_getElem? hx
      have hxn : x ∈ t.nodes := path_mem (List.mem_of_mem_drop hxm)
      have hxp := path_drop_par hxm
      have TH := TR.same ((s1.trans s2).trans sv)
      obtain ⟨dx', tx', h1', _, _⟩ := TH.ins
      obtain ⟨ca, hch, hok⟩ := TH.ch
      have hv : valV (chKV ca t.nodes) (kI x.number) = some (.ref (ca x.number).1) := by
        rw [val_ch _ _ _ WFt.nd, fnd_mem WFt.nd hxn]
        obtain ⟨pp, hpp⟩ := Option.isSome_iff_exists.mp hxp
        show (x.parent.map fun _ => _) = _
        rw [hpp]; rfl
      have htup := hok.tup x hxn hxp
      obtain ⟨hlst, hlx⟩ := hok.lst x hxn hxp
      refine ⟨_, rfl, A.a, CT, dx', _, _, rfl, h1', T.clT, T.nT_changes, tF_changes, _, rfl, A.ch, _, rfl, dget_of hch hv, ?_⟩
      have hb1 : ((((Ue17.path t n).drop 1).take i).foldl (fun w x => Ue17.changed w x.change) t.base).length ≤ 80000 := by
        have h := fold_len (((Ue17.path t n).drop 1).take i) t.base fun x hx => WFt.chl x (path_mem (List.mem_of_mem_drop (List.mem_of_mem_take hx)))
        have h5 := path_len t n
        have h6 : (((Ue17.path t n).drop 1).take i).length ≤ t.nodes.length := by rw [List.length_take, List.length_drop]; omega
        have := WFt.bas
        have : 255 * (((Ue17.path t n).drop 1).take i).length ≤ 255 * t.nodes.length := Nat.mul_le_mul_left _ h6
        omega
      have hb2 : x.change.in_.length ≤ 10000 := by have := WFt.chl x hxn; omega
      refine ⟨_, rfl, _, rfl, _, _, 0, _, rfl, rfl, SqT.of htup, rfl, _, rfl, _, _, 1, _, rfl, rfl, SqT.of htup, rfl, _, rfl, _, _, 2, _, rfl, rfl, SqT.of htup, rfl, tp, (ca x.number).2, _, x.change.in_, x.change.at_, x.change.out, rfl, htp, hlst, hb1, hb2, fun u H3 nu s3 hu3 => ?_⟩
      refine ⟨u, _, _, rfl, sv.trans s3, ?_, TH.fresh nu⟩
      rw [hu3, take_snoc hx, List.foldl_append]
      rfl
    · obtain ⟨tp, v3, v4, rfl, sv, htp, ntp⟩ := pv
      refine ⟨_, rfl, k tp H' ((s1.trans s2).trans sv) ?_ ntp⟩
      rw [htp, iv_len, List.length_map, List.take_length]
      rfl
def sp_text_now (C : Addr) : Sp := fun vs H Q _ => ∃ (A : TA) (X : List Addr) (f : Nat) (t : UT) (nB : Nat), vs = [.ref A.a] ∧ TreeAt C X H A f t ∧ WF f t nB ∧ nB ≤ 300 ∧ oldL X H (iv (Ue17.textAt t t.now)) Q
theorem ok_Tree_text_now (T : Txt K mg CT CD CE) : C8.Met P w K mg base 4 CT "text_now" (sp_text_now CT) [] := by
  refine T.d_Tree_text_now.ok T.clT sc_Tree_text_now (fun vs H Q E h => ?_) (fun f cdv A outer s H vs Q E hr h => ?_)
  · obtain ⟨A, X, f, t, nB, rfl, _⟩ := h
    rfl
  · obtain ⟨A, X, f, t, nB, rfl, TR, WFt, hB, k⟩ := h
    obtain ⟨dx, tx, h1, h2, h3⟩ := TR.ins
    refine ⟨_, (pss_one (ps_ret (C8.pe_mt (ok_Tree_text_of T) hr (by decide) (pv 0) (pa_cons (pe_fld (pv 0) rfl) pa_nil)))) , ?_⟩
    exact ⟨_, rfl, A.a, dx, _, rfl, h1, tF_no_text_of, _, rfl, A.a, CT, dx, _, _, rfl, h1, T.clT, T.nT_now, tF_now, A, X, f, t, t.now, nB, rfl, TR, WFt.wt, hB, k⟩
def sp_undone (C : Addr) : Sp := fun vs H Q _ => ∃ (A : TA) (X : List Addr) (f : Nat) (t : UT), vs = [.ref A.a] ∧ TreeAt C X H A f t ∧ NdN t.nodes ∧ Q (oV (par t t.now)) H
theorem ok_Tree_undone (T : Txt K mg CT CD CE) : C8.Met P w K mg base 1 CT "undone" (sp_undone CT) [] := by
  refine T.d_Tree_undone.ok T.clT sc_Tree_undone (fun vs H Q E h => ?_) (fun f cdv A outer s H vs Q E hr h => ?_)
  · obtain ⟨A, X, f, t, rfl, _⟩ := h
    rfl
  · obtain ⟨A, X, f, t, rfl, TR, nd, k⟩ := h
    have hu := hu_of hr
    obtain ⟨dx, tx, h1, h2, h3⟩ := TR.ins
    refine ⟨_, (pss_one (ps_ret (pe_dget1 (by exact hu) (pe_fld (pv 0) rfl) (pe_fld (pv 0) rfl) ⟨rfl, rfl, rfl, rfl⟩))) , ?_⟩
    refine ⟨_, rfl, A.a, CT, dx, _, _, rfl, h1, T.clT, T.nT_parents, tF_parents, A.pa, rfl, .inl ⟨_, .inl TR.pa⟩, _, rfl, A.a, CT, dx, _, _, rfl, h1, T.clT, T.nT_now, tF_now, _, dget_of TR.pa (val_par _ _ nd), fin_v k ?_⟩
    show oV (par t t.now) = ((par t t.now).map nV).getD .non
    cases par t t.now <;> rfl
theorem val_pas {l : List (Nat × Nat)} {n : Nat} (nd : (l.map fun y => y.1).Nodup) : valV (pasKV l) (kI n) = (l.find? fun x => x.1 == n).map fun x => nV x.2 := by
  induction l with
  | nil => rfl
  | cons y l ih =>
    have nd : (y.1 :: l.map fun y => y.1).Nodup := nd
    obtain ⟨n1, n2⟩ := List.nodup_cons.mp nd
    rw [pas_cons, List.find?_cons]
    by_cases e : y.1 = n
    · rw [show (y.1 == n) = true by rw [e]; exact beq_self_eq_true n]
      have hv : valV (pasKV l) (kI n) = none := val_pas_none fun x hx q => n1 (by rw [e, ← q]; exact List.mem_map.mpr ⟨x, hx, rfl⟩)
      rw [e, valV_snoc _ _ _ _ hv, if_pos rfl]
      rfl
    · rw [show (y.1 == n) = false from beq_eq_false_iff_ne.mpr e]
      have hv : valV (pasKV l) (kI y.1) = none := val_pas_none fun x hx q => n1 (by rw [← q]; exact List.mem_map.mpr ⟨x, hx, rfl⟩)
      rw [valV_snoc _ _ _ _ hv, if_neg (fun q => e (kI_inj q).symm), ih n2]
theorem mem_children {t : UT} {n m : Nat} : m ∈ Ue17.children t n ↔ ∃ x ∈ t.nodes, x.number = m ∧ x.parent = some n := by
  unfold Ue17.children
  rw [List.mem_map]
  constructor
  · rintro ⟨x, hx, e⟩
    obtain ⟨a, b⟩ := List.mem_filter.mp hx
    exact ⟨x, a, e, eq_of_beq b⟩
  · rintro ⟨x, hx, e, p⟩
    exact ⟨x, List.mem_filter.mpr ⟨hx, by rw [p]; exact beq_self_eq_true _⟩, e⟩
theorem children_inc {t : UT} (h : t.nodes.Pairwise fun x y => x.number < y.number) (n : Nat) : (Ue17.children t n).Pairwise (· < ·) := List.pairwise_map.mpr (h.filter _)
theorem getLast_max : ∀ {l : List Nat} {m : Nat}, l.Pairwise (· < ·) → m ∈ l → (∀ y ∈ l, y ≤ m) → l.getLast? = some m
  | [], _, _, h, _ => by cases h
  | [a], m, _, h, _ => by rw [List.mem_singleton.mp h]; rfl
  | a :: b :: l, m, hp, hm, hx => by
    obtain ⟨p1, p2⟩ := List.pairwise_cons.mp hp
    rw [List.getLast?_cons_cons]
    refine getLast_max p2 ?_ fun y hy => hx y (List.mem_cons_of_mem _ hy)
    rcases List.mem_cons.mp hm with q | q
    · have h1 := p1 b List.mem_cons_self
      have h2 := hx b (List.mem_cons_of_mem _ List.mem_cons_self)
      omega
    · exact q
theorem forth_of {f n : Nat} {t : UT} (W : WF f t n) (m : Nat) : Ue17.forth t m = match t.last.find? fun x => x.1 == m with
    | some x => some x.2
    | none => (Ue17.children t m).getLast? := by
  unfold Ue17.forth
  cases h : t.last.find? fun x => x.1 == m with
  | none => rfl
  | some y =>
    have hy := List.mem_of_find?_eq_some h
    have he : y.1 = m := eq_of_beq (List.find?_some (p := fun x : Nat × Nat => x.1 == m) h)
    obtain ⟨x, hx, e1, e2⟩ := W.lch y hy
    show (if (Ue17.children t m).contains y.2 = true then some y.2 else _) = some y.2
    rw [if_pos (by rw [List.contains_iff_mem]; exact mem_children.mpr ⟨x, hx, e1, by rw [e2, he]⟩)]
def sp_done_again (C : Addr) : Sp := fun vs H Q _ => ∃ (A : TA) (X : List Addr) (f : Nat) (t : UT) (nB : Nat), vs = [.ref A.a] ∧ TreeAt C X H A f t ∧ WF f t nB ∧ nB ≤ 300 ∧ pureV H (oV (Ue17.forth t t.now)) Q
theorem ok_Tree_done_again (T : Txt K mg CT CD CE) : C8.Met P w K mg base 2 CT "done_again" (sp_done_again CT) [] := by
  refine T.d_Tree_done_again.ok T.clT sc_Tree_done_again (fun vs H Q E h => ?_) (fun f cdv A outer s H vs Q E hr h => ?_)
  · obtain ⟨A, X, f, t, nB, rfl, _⟩ := h
    rfl
  · obtain ⟨A, X, f, t, nB, rfl, TR, WFt, hB, k⟩ := h
    have hu := hu_of hr
    obtain ⟨dx, tx, h1, h2, h3⟩ := TR.ins
    have hlen := WFt.len
    have hf := forth_of WFt t.now
    have hvp := val_pas (n := t.now) WFt.lnd
    refine ⟨_, (pss_cons (ps_if (pt_cmp (pc_din (by exact hu) (pe_fld (pv 0) rfl) (pe_fld (pv 0) rfl)))
        (pss_one (ps_ret (pe_dget (by exact hu) (pe_fld (pv 0) rfl) (pe_fld (pv 0) rfl) (fun _ _ => rfl))))
        pss_nil)
      (pss_one (ps_ret (pe_callBK (call_maxD rfl hr.units) (by rfl) T.b_max (by decide +kernel) (pa_cons (C8.pe_mt (ok_Tree_made_of T) hr (by decide) (pv 0) (pa_cons (pe_fld (pv 0) rfl) pa_nil)) pa_nil) (pk_cons pe_non pk_nil))))) , ?_⟩
    cases hl : t.last.find? fun x => x.1 == t.now with
    | some y =>
      rw [hl] at hf hvp
      refine ⟨_, rfl, A.a, CT, dx, _, _, rfl, h1, T.clT, T.nT_now, tF_now, _, rfl, A.a, CT, dx, _, _, rfl, h1, T.clT, T.nT_passed, tF_passed, A.ps, _, rfl, dget_of TR.ps hvp, _, rfl, iteT ?_⟩
      refine ⟨_, rfl, A.a, CT, dx, _, _, rfl, h1, T.clT, T.nT_passed, tF_passed, _, rfl, A.a, CT, dx, _, _, rfl, h1, T.clT, T.nT_now, tF_now, A.ps, _, rfl, dget_of TR.ps hvp, ?_⟩
      rw [hf] at k
      exact k H (Same.refl H)
    | none =>
      rw [hl] at hf hvp
      refine ⟨_, rfl, A.a, CT, dx, _, _, rfl, h1, T.clT, T.nT_now, tF_now, _, rfl, A.a, CT, dx, _, _, rfl, h1, T.clT, T.nT_passed, tF_passed, A.ps, _, rfl, dget_of TR.ps hvp, _, rfl, iteF ?_⟩
      refine ⟨_, rfl, A.a, dx, _, rfl, h1, tF_no_made_of, _, rfl, A.a, CT, dx, _, _, rfl, h1, T.clT, T.nT_now, tF_now, A, X, f, t, t.now, rfl, TR, WFt.inc, by omega, fun p H1 np s1 hp => ?_⟩
      rw [iv_zi] at hp
      rw [hf] at k
      refine ⟨p, zi (Ue17.children t t.now), .non, rfl, rfl, SqL.of hp, fun e => ?_, fun m hm hx => ?_⟩
      · rw [List.map_eq_nil_iff.mp e] at k
        exact k H1 s1
      · obtain ⟨m', hm', rfl⟩ := List.mem_map.mp hm
        rw [getLast_max (children_inc WFt.inc _) hm' (fun y hy => by have := hx _ (List.mem_map.mpr ⟨y, hy, rfl⟩); exact Int.ofNat_le.mp this)] at k
        exact k H1 s1
end
end TT
end
section
namespace TT
open Ue17
theorem WF.of {f n : Nat} {t u : Tree} (W : WF f t n) (h1 : u.nodes = t.nodes) (h2 : u.last = t.last) (h3 : u.base = t.base) (h4 : u.given = t.given) : WF f u n := by
  refine ⟨?_, ?_, ?_, ?_, ?_, ?_, ?_, ?_⟩
  · rw [h1]; exact W.inc
  · rw [h1]; exact W.fst
  · rw [h1]; exact W.uniq
  · rw [h1, h4]; exact W.lt
  · rw [h2]; exact W.lnd
  · rw [h1, h2]; exact W.lch
  · rw [h1]; exact W.chl
  · rw [h1, h3]; exact W.bas
theorem WF.mono {f n m : Nat} {t : Tree} (W : WF f t n) (h : n ≤ m) : WF f t m := ⟨W.inc, W.fst, W.uniq, W.lt, W.lnd, W.lch, W.chl, by have := W.bas; omega⟩
theorem nodup_le {l m : List Nat} (h : l.Nodup) (s : ∀ x ∈ l, x ∈ m) : l.length ≤ m.length := by
  induction l generalizing m with
  | nil => simp
  | cons a l ih =>
    obtain ⟨h1, h2⟩ := List.nodup_cons.mp h
    have ha := s a List.mem_cons_self
    have := ih (m := m.erase a) h2 fun x hx => by
      have e : x ≠ a := fun q => h1 (by rw [← q]; exact hx)
      exact (List.mem_erase_of_ne e).mpr (s x (List.mem_cons_of_mem _ hx))
    rw [List.length_erase_of_mem ha] at this
    have : 0 < m.length := List.length_pos_of_mem ha
    simp only [List.length_cons]
    omega
theorem WF.last_len {f n : Nat} {t : Tree} (W : WF f t n) : t.last.length ≤ t.nodes.length := by
  have h : (t.last.map fun y => y.2).Nodup := by
    refine List.pairwise_map.mpr ?_
    have h0 := List.pairwise_map.mp W.lnd
    refine h0.imp_of_mem fun {a b} ha hb q e => ?_
    obtain ⟨x, hx, e1, p1⟩ := W.lch a ha
    obtain ⟨y, hy, e2, p2⟩ := W.lch b hb
    have e3 : x = y := mem_inj W.nd hx hy (by rw [e1, e2]; exact e)
    rw [e3, p2] at p1
    exact q (Option.some.inj p1).symm
  have := nodup_le (m := t.nodes.map fun x => x.number) h fun z hz => by
    obtain ⟨y, hy, rfl⟩ := List.mem_map.mp hz
    obtain ⟨x, hx, e, _⟩ := W.lch y hy
    exact List.mem_map.mpr ⟨x, hx, e⟩
  simpa using this
theorem setLast_keys {l : List (Nat × Nat)} {a b : Nat} (h : (l.map fun y => y.1).Nodup) : ((setLast l a b).map fun y => y.1).Nodup := by
  unfold setLast
  show (a :: (l.filter fun x => x.1 != a).map fun y => y.1).Nodup
  refine List.nodup_cons.mpr ⟨fun m => ?_, ?_⟩
  · obtain ⟨y, hy, e⟩ := List.mem_map.mp m
    have := (List.mem_filter.mp hy).2
    simp [e] at this
  · exact List.pairwise_map.mpr ((List.pairwise_map.mp h).filter _)
theorem setLast_mem {l : List (Nat × Nat)} {a b : Nat} {y : Nat × Nat} (h : y ∈ setLast l a b) : y = (a, b) ∨ y ∈ l := by
  rcases List.mem_cons.mp h with q | q
  · exact .inl q
  · exact .inr (List.mem_filter.mp q).1
theorem WF.set {f n : Nat} {t : Tree} (W : WF f t n) {a b : Nat} (h : ∃ x ∈ t.nodes, x.number = b ∧ x.parent = some a) : WF f { t with last := setLast t.last a b } n := by
  refine ⟨W.inc, W.fst, W.uniq, W.lt, setLast_keys W.lnd, fun y hy => ?_, W.chl, W.bas⟩
  rcases setLast_mem hy with rfl | q
  · exact h
  · exact W.lch y q
theorem WF.make {f n : Nat} {t : Tree} (W : WF f t n) (c : Change) (hc : c.in_.length ≤ 255) : WF f (did t (.make c)) (n + 1) := by
  refine ⟨?_, ?_, ?_, ?_, setLast_keys W.lnd, ?_, ?_, ?_⟩
  · show (t.nodes ++ [(⟨t.given, some t.now, c, false⟩ : Node)]).Pairwise _
    refine List.pairwise_append.mpr ⟨W.inc, List.pairwise_singleton .., fun x hx y hy => ?_⟩
    rw [List.mem_singleton.mp hy]
    exact W.lt x hx
  · obtain ⟨x, hx, e⟩ := W.fst
    exact ⟨x, List.mem_append.mpr (.inl hx), e⟩
  · intro x hx hp
    rcases List.mem_append.mp hx with q | q
    · exact W.uniq x q hp
    · rw [List.mem_singleton.mp q] at hp; cases hp
  · intro x hx
    rcases List.mem_append.mp hx with q | q
    · have := W.lt x q
      show x.number < t.given + 1
      omega
    · rw [List.mem_singleton.mp q]
      show t.given < t.given + 1
      omega
  · intro y hy
    rcases setLast_mem hy with rfl | q
    · exact ⟨_, List.mem_append.mpr (.inr (List.mem_singleton.mpr rfl)), rfl, rfl⟩
    · obtain ⟨x, hx, e⟩ := W.lch y q
      exact ⟨x, List.mem_append.mpr (.inl hx), e⟩
  · intro x hx
    rcases List.mem_append.mp hx with q | q
    · exact W.chl x q
    · rw [List.mem_singleton.mp q]; exact hc
  · have := W.bas
    show t.base.length + 255 * (t.nodes ++ [_]).length ≤ 255 * (n + 1)
    rw [List.length_append]
    simp only [List.length_singleton]
    omega
/-- the pairs on the way -/
theorem zip_get {l : List Nat} {i a b : Nat} (h : (l.zip (l.drop 1))[i]? = some (a, b)) : l[i]? = some a ∧ l[i + 1]? = some b := by
  rw [List.getElem?_zip_eq_some] at h
  rw [List.getElem?_drop] at h
  exact ⟨h.1, by rw [Nat.add_comm]; exact h.2⟩
theorem path_pair {t : Tree} {n : Nat} {y : Nat × Nat} (h : y ∈ ((path t n).map fun x => x.number).zip (((path t n).map fun x => x.number).drop 1)) : ∃ x ∈ t.nodes, x.number = y.2 ∧ x.parent = some y.1 := by
  obtain ⟨i, hi⟩ := List.mem_iff_getElem?.mp h
  obtain ⟨a, b⟩ := y
  obtain ⟨h1, h2⟩ := zip_get hi
  rw [List.getElem?_map] at h1 h2
  cases e1 : (path t n)[i]? with
  | none => rw [e1] at h1; cases h1
  | some x =>
    cases e2 : (path t n)[i + 1]? with
    | none => rw [e2] at h2; cases h2
    | some z =>
      rw [e1] at h1
      rw [e2] at h2
      have p := (path_chain t n).par e1 e2
      refine ⟨z, path_mem (List.mem_of_getElem? e2), Option.some.inj h2, ?_⟩
      rw [p]
      exact congrArg some (Option.some.inj h1)
theorem WF.sets {f n : Nat} : ∀ (l : List (Nat × Nat)) {t : Tree}, WF f t n → (∀ y ∈ l, ∃ x ∈ t.nodes, x.number = y.2 ∧ x.parent = some y.1) → WF f { t with last := l.foldl (fun m x => setLast m x.1 x.2) t.last } n
  | [], t, W, _ => W
  | y :: l, t, W, h => WF.sets l (t := { t with last := setLast t.last y.1 y.2 }) (W.set (h y List.mem_cons_self)) fun z hz => h z (List.mem_cons_of_mem _ hz)
theorem WF.goes {f n : Nat} {t : Tree} (W : WF f t n) (m : Nat) : WF f (did t (.goes m)) n :=
  (W.sets (((path t m).map fun x => x.number).zip (((path t m).map fun x => x.number).drop 1)) fun _ h => path_pair h).of rfl rfl rfl rfl
theorem WF.map {f n : Nat} {t u : Tree} (W : WF f t n) {g : Node → Node} (h1 : u.nodes = t.nodes.map g) (h2 : u.last = t.last) (h3 : u.base = t.base) (h4 : u.given = t.given) (hg : ∀ x, (g x).number = x.number ∧ (g x).parent = x.parent ∧ (g x).change = x.change) : WF f u n := by
  refine ⟨?_, ?_, ?_, ?_, ?_, ?_, ?_, ?_⟩
  · rw [h1]
    exact List.pairwise_map.mpr (W.inc.imp fun {a b} q => by rw [(hg a).1, (hg b).1]; exact q)
  · obtain ⟨x, hx, e1, e2⟩ := W.fst
    exact ⟨g x, by rw [h1]; exact List.mem_map.mpr ⟨x, hx, rfl⟩, (hg x).1.trans e1, (hg x).2.1.trans e2⟩
  · intro x hx hp
    rw [h1] at hx
    obtain ⟨y, hy, rfl⟩ := List.mem_map.mp hx
    rw [(hg y).1]
    exact W.uniq y hy ((hg y).2.1.symm.trans hp)
  · intro x hx
    rw [h1] at hx
    obtain ⟨y, hy, rfl⟩ := List.mem_map.mp hx
    rw [(hg y).1, h4]
    exact W.lt y hy
  · rw [h2]; exact W.lnd
  · intro y hy
    rw [h2] at hy
    obtain ⟨x, hx, e1, e2⟩ := W.lch y hy
    exact ⟨g x, by rw [h1]; exact List.mem_map.mpr ⟨x, hx, rfl⟩, (hg x).1.trans e1, (hg x).2.1.trans e2⟩
  · intro x hx
    rw [h1] at hx
    obtain ⟨y, hy, rfl⟩ := List.mem_map.mp hx
    rw [(hg y).2.2]
    exact W.chl y hy
  · have := W.bas
    rw [h1, h3, List.length_map]
    exact this
theorem WF.keep {f n : Nat} {t : Tree} (W : WF f t n) (m : Nat) (k : Bool) : WF f (did t (.keep m k)) n :=
  W.map (g := fun x => if x.number = m then { x with kept := k } else x) rfl rfl rfl rfl fun x => by
    by_cases e : x.number = m
    · simp [e]
    · simp [e]
/-- a state goes -/
def dropT (t : Tree) (n : Nat) : Tree := { t with nodes := t.nodes.filter fun y => y.number != n, last := t.last.filter fun y => y.1 != n && y.2 != n }
theorem WF.drop {f n : Nat} {t : Tree} (W : WF f t n) {m : Nat} (hm : m ≠ f) : WF f (dropT t m) n := by
  refine ⟨W.inc.filter _, ?_, fun x hx => W.uniq x (List.mem_filter.mp hx).1, fun x hx => W.lt x (List.mem_filter.mp hx).1, List.pairwise_map.mpr ((List.pairwise_map.mp W.lnd).filter _), fun y hy => ?_, fun x hx => W.chl x (List.mem_filter.mp hx).1, ?_⟩
  · obtain ⟨x, hx, e⟩ := W.fst
    exact ⟨x, List.mem_filter.mpr ⟨hx, by simp [e.1]; exact fun q => hm q.symm⟩, e⟩
  · obtain ⟨h1, h2⟩ := List.mem_filter.mp hy
    simp at h2
    obtain ⟨x, hx, e⟩ := W.lch y h1
    exact ⟨x, List.mem_filter.mpr ⟨hx, by simp [e.1]; exact h2.2⟩, e⟩
  · have := W.bas
    have h : (t.nodes.filter fun y => y.number != m).length ≤ t.nodes.length := List.length_filter_le ..
    show t.base.length + 255 * (t.nodes.filter fun y => y.number != m).length ≤ _
    omega
theorem filter_len {f n : Nat} {t : Tree} (W : WF f t n) {x : Node} (hx : x ∈ t.nodes) : (t.nodes.filter fun y => y.number != x.number).length + 1 = t.nodes.length := by
  have : ∀ (ns : List Node), (ns.map fun x => x.number).Nodup → x ∈ ns → (ns.filter fun y => y.number != x.number).length + 1 = ns.length := by
    intro ns
    induction ns with
    | nil => intro _ h; cases h
    | cons z ns ih =>
      intro nd h
      have nd : (z.number :: ns.map fun x => x.number).Nodup := nd
      obtain ⟨n1, n2⟩ := List.nodup_cons.mp nd
      rw [List.filter_cons]
      by_cases e : z.number = x.number
      · rw [if_neg (by simp [e])]
        have : ns.filter (fun y => y.number != x.number) = ns := List.filter_eq_self.mpr fun y hy => by
          simp
          intro q
          exact n1 (by rw [e, ← q]; exact List.mem_map.mpr ⟨y, hy, rfl⟩)
        rw [this]
        rfl
      · rw [if_pos (by simp [e])]
        have hx' : x ∈ ns := by
          rcases List.mem_cons.mp h with q | q
          · rw [q] at e; exact absurd rfl e
          · exact q
        have := ih n2 hx'
        simp only [List.length_cons]
        omega
  exact this t.nodes W.nd hx
/-! the first goes -/
def firstT (t : Tree) (f c : Nat) : Tree := { t with base := textAt t c, nodes := (t.nodes.filter fun y => y.number != f).map (fun y => if y.number = c then { y with parent := none, change := NOTHING } else y), last := t.last.filter fun y => y.1 != f }
theorem up_first {f n : Nat} {t : Tree} (W : WF f t n) {c : Nat} {y : Node} (hy : find t c = some y) (hp : y.parent = some f) : textAt t c = changed t.base y.change := by
  obtain ⟨x, hx, e1, e2⟩ := W.ffind
  have hl : 1 ≤ t.nodes.length := List.length_pos_of_mem (find_some hx).1
  have : path t c = [x, y] := by
    unfold path upFrom
    rw [hy]
    show (match y.parent with | none => [y] | some p => upFrom t.nodes.length t p [y]) = _
    rw [hp]
    show upFrom t.nodes.length t f [y] = _
    obtain ⟨k, hk⟩ : ∃ k, t.nodes.length = k + 1 := ⟨t.nodes.length - 1, by omega⟩
    rw [hk]
    unfold upFrom
    rw [hx]
    show (match x.parent with | none => [x, y] | some p => _) = _
    rw [e2]
  unfold textAt
  rw [this]
  rfl
theorem WF.first {f n : Nat} {t : Tree} (W : WF f t n) {c : Nat} (h : children t f = [c]) : WF c (firstT t f c) n := by
  have hc : ∃ y ∈ t.nodes, y.number = c ∧ y.parent = some f := by
    have : c ∈ children t f := by rw [h]; exact List.mem_singleton.mpr rfl
    unfold children at this
    obtain ⟨y, hy, e⟩ := List.mem_map.mp this
    obtain ⟨a, b⟩ := List.mem_filter.mp hy
    exact ⟨y, a, e, eq_of_beq b⟩
  obtain ⟨y, hy, e1, e2⟩ := hc
  have hcf : c ≠ f := fun q => by
    obtain ⟨x, hx, g1, g2⟩ := W.fst
    have : x = y := mem_inj W.nd hx hy (by rw [g1, e1, q])
    rw [this, e2] at g2
    cases g2
  have only : ∀ z ∈ t.nodes, z.parent = some f → z.number = c := fun z hz hp => by
    have : z.number ∈ children t f := List.mem_map.mpr ⟨z, List.mem_filter.mpr ⟨hz, by rw [hp]; exact beq_self_eq_true _⟩, rfl⟩
    rw [h] at this
    exact List.mem_singleton.mp this
  let g : Node → Node := fun y => if y.number = c then { y with parent := none, change := NOTHING } else y
  have gn : ∀ z, (g z).number = z.number := fun z => by
    show (if z.number = c then _ else _ : Node).number = _
    split <;> rfl
  have gp : ∀ z, z.number ≠ c → g z = z := fun z q => if_neg q
  have gc : ∀ z, z.number = c → (g z).parent = none ∧ (g z).change = NOTHING := fun z q => by
    show (if z.number = c then _ else _ : Node).parent = none ∧ (if z.number = c then _ else _ : Node).change = NOTHING
    rw [if_pos q]
    exact ⟨rfl, rfl⟩
  refine ⟨?_, ?_, ?_, ?_, List.pairwise_map.mpr ((List.pairwise_map.mp W.lnd).filter _), ?_, ?_, ?_⟩
  · show ((t.nodes.filter fun y => y.number != f).map g).Pairwise _
    exact List.pairwise_map.mpr ((W.inc.filter _).imp fun {a b} q => by rw [gn, gn]; exact q)
  · refine ⟨g y, List.mem_map.mpr ⟨y, List.mem_filter.mpr ⟨hy, ?_⟩, rfl⟩, by rw [gn, e1], (gc y e1).1⟩
    simp [e1, hcf]
  · intro z hz hp
    obtain ⟨u, hu, rfl⟩ := List.mem_map.mp hz
    obtain ⟨h1, h2⟩ := List.mem_filter.mp hu
    simp at h2
    by_cases q : u.number = c
    · show (g u).number = c
      rw [gn, q]
    · have hp : (g u).parent = none := hp
      rw [gp u q] at hp
      exact absurd (W.uniq u h1 hp) h2
  · intro z hz
    obtain ⟨u, hu, rfl⟩ := List.mem_map.mp hz
    show (g u).number < _
    rw [gn]
    exact W.lt u (List.mem_filter.mp hu).1
  · intro z hz
    obtain ⟨h1, h2⟩ := List.mem_filter.mp hz
    simp at h2
    obtain ⟨x, hx, q1, q2⟩ := W.lch z h1
    have hxf : x.number ≠ f := fun q => by
      obtain ⟨x', hx', g1, g2⟩ := W.fst
      have : x = x' := mem_inj W.nd hx hx' (by rw [q, g1])
      rw [this, g2] at q2
      cases q2
    have hxc : x.number ≠ c := fun q => by
      have : x = y := mem_inj W.nd hx hy (by rw [q, e1])
      rw [this, e2] at q2
      exact h2 (Option.some.inj q2).symm
    exact ⟨g x, List.mem_map.mpr ⟨x, List.mem_filter.mpr ⟨hx, by simp [hxf]⟩, rfl⟩, by rw [gn, q1], by rw [gp x hxc, q2]⟩
  · intro z hz
    obtain ⟨u, hu, rfl⟩ := List.mem_map.mp hz
    have h1 := (List.mem_filter.mp hu).1
    show (g u).change.in_.length ≤ 255
    by_cases q : u.number = c
    · rw [(gc u q).2]; decide
    · rw [gp u q]; exact W.chl u h1
  · obtain ⟨x, hx, g1, g2⟩ := W.fst
    have hl := filter_len W hx
    rw [g1] at hl
    have hb := W.bas
    have hfy : find t c = some y := by rw [← e1]; exact find_mem W.nd hy
    have ht := up_first W hfy e2
    have hcl := changed_len t.base y.change
    have hyc := W.chl y hy
    show (textAt t c).length + 255 * ((t.nodes.filter fun y => y.number != f).map g).length ≤ 255 * n
    rw [List.length_map, ht]
    omega
end TT
end
section
set_option maxHeartbeats 2000000
namespace TT
open PySem PySem.Spec PyProof.Rows L2
open Ue17 (Node)
theorem ups {H H1 : Hp} {a : Addr} {o : HO} (e : upd H a o = H1) : H1 a = some o ∧ ∀ b u, H b = some u → b ≠ a → H1 b = some u := by
  subst e
  exact ⟨upd_same, fun b u h n => by rw [upd_ne n]; exact h⟩
def freshT (f : Nat) (tx : List Nat) : UT := ⟨tx, [⟨f, none, Ue17.NOTHING, false⟩], f, [], f + 1, 0⟩
theorem freshT_wf (f : Nat) (tx : List Nat) (h : tx.length ≤ 255) : WF f (freshT f tx) 2 := by
  refine ⟨List.pairwise_singleton .., ⟨_, List.mem_singleton.mpr rfl, rfl, rfl⟩, fun x hx _ => (by rw [List.mem_singleton.mp hx]), fun x hx => (by rw [List.mem_singleton.mp hx]; exact Nat.lt_succ_self _), List.Pairwise.nil, fun y hy => (by cases hy), fun x hx => (by rw [List.mem_singleton.mp hx]; exact Nat.zero_le _), ?_⟩
  show tx.length + 255 * 1 ≤ 255 * 2
  omega
section
variable {P : Program} {w : World} {K : PySem.W.Frag} {mg : Str → Option Value} {base : Heap} {CT CD CE : Addr}
abbrev N_Tree_remember : List Str := ["self", "state", "child"]
theorem sc_Tree_remember : FnScope N_Tree_remember ["self", "state", "child"] (defScope s_Tree_remember) := ⟨rfl, rfl, rfl, by decide +kernel, rfl, by decide +kernel, by decide +kernel⟩
abbrev N_Tree_put_state : List Str := ["self", "number", "parent", "kept", "change"]
theorem sc_Tree_put_state : FnScope N_Tree_put_state ["self", "number", "parent", "kept", "change"] (defScope s_Tree_put_state) := ⟨rfl, rfl, rfl, by decide +kernel, rfl, by decide +kernel, by decide +kernel⟩
abbrev N_Tree_make : List Str := ["self", "place", "out", "put", "number"]
theorem sc_Tree_make : FnScope N_Tree_make ["self", "place", "out", "put"] (defScope s_Tree_make) := ⟨rfl, rfl, rfl, by decide +kernel, rfl, by decide +kernel, by decide +kernel⟩
abbrev N_Tree_go : List Str := ["self", "state", "way", "k"]
theorem sc_Tree_go : FnScope N_Tree_go ["self", "state"] (defScope s_Tree_go) := ⟨rfl, rfl, rfl, by decide +kernel, rfl, by decide +kernel, by decide +kernel⟩
abbrev N_Tree_keep : List Str := ["self", "state", "kept"]
theorem sc_Tree_keep : FnScope N_Tree_keep ["self", "state", "kept"] (defScope s_Tree_keep) := ⟨rfl, rfl, rfl, by decide +kernel, rfl, by decide +kernel, by decide +kernel⟩
def sp_tree_init (C : Addr) : Sp := fun vs H Q _ => ∃ (p dx b : Addr) (X : List Addr) (f : Nat) (tx : List Nat), vs = [.ref p, nV f, .ref b] ∧ H p = some (.ins C dx []) ∧ H b = some (.lst (iv tx)) ∧ b ∉ X ∧ (∀ x ∈ X, ∃ l, H x = some (.lst l)) ∧
  ∀ (H' : Hp) (pa ch ke ps : Addr), TreeAt C X H' ⟨p, pa, ch, ke, ps⟩ f (freshT f tx) → (∀ b o, H b = some o → b ≠ p → H' b = some o) → H pa = none → H ch = none → H ke = none → H ps = none → Q .non H'
theorem ok_Tree___init__ (T : Txt K mg CT CD CE) : C8.Mak P w K mg base 1 "Tree" CT (sp_tree_init CT) [] := by
  refine T.m_Tree.ok sc_Tree___init__ (fun vs H Q E h => ?_) (fun f cdv A outer s H vs Q E hr h => ?_)
  · obtain ⟨p, dx, b, X, f, tx, rfl, _⟩ := h
    rfl
  · obtain ⟨p, dx, b, X, f, tx, rfl, hp, hb, hbX, hX, k⟩ := h
    have hu := hu_of hr
    refine ⟨_, (pss_cons (ps_fld (pv 0) (pv 1) rfl)
      (pss_cons (ps_fld (pv 0) (pv 2) rfl)
      (pss_cons (ps_fld (pv 0) pe_dnewK rfl)
      (pss_cons (ps_fld (pv 0) pe_dnewK rfl)
      (pss_cons (ps_fld (pv 0) (pe_disp (pps_cons (pv 1) pe_int pps_nil) (by rfl) (by rfl) (fun z => by cases z) (by decide)) rfl)
      (pss_cons (ps_fld (pv 0) pe_dnewK rfl)
      (pss_cons (ps_fld (pv 0) (pv 1) rfl)
      (pss_cons (ps_fld (pv 0) (pe_op op_add (pv 1) pe_int) rfl)
      (pss_one (ps_fld (pv 0) pe_int rfl)))))))))) , ?_⟩
    have nbp : b ≠ p := ne_of hb hp (by intro z; cases z)
    refine ⟨_, rfl, _, rfl, p, CT, dx, _, rfl, hp, T.clT, T.nT_first, (by show 0 < 1000; decide), ?_⟩
    rw [tF_new_first]
    generalize hH_ : upd _ p _ = H1; obtain ⟨h1, k1⟩ := ups hH_; clear hH_
    refine ⟨_, rfl, _, rfl, p, CT, dx, _, rfl, h1, T.clT, T.nT_first_text, (by show 1 < 1000; decide), ?_⟩
    rw [tF_new_first_text]
    generalize hH_ : upd _ p _ = H2; obtain ⟨h2, k2⟩ := ups hH_; clear hH_
    intro pa npa; generalize hH_pa : upd _ pa _ = H3; have s3 := snew npa hH_pa; have hpa := hnew hH_pa; clear hH_pa
    refine ⟨_, rfl, p, CT, dx, _, rfl, s3 _ _ h2, T.clT, T.nT_parents, (by show 2 < 1000; decide), ?_⟩
    rw [tF_new_parents]
    generalize hH_ : upd _ p _ = H4; obtain ⟨h4, k4⟩ := ups hH_; clear hH_
    intro ch nch; generalize hH_ch : upd _ ch _ = H5; have s5 := snew nch hH_ch; have hch := hnew hH_ch; clear hH_ch
    refine ⟨_, rfl, p, CT, dx, _, rfl, s5 _ _ h4, T.clT, T.nT_changes, (by show 3 < 1000; decide), ?_⟩
    rw [tF_new_changes]
    generalize hH_ : upd _ p _ = H6; obtain ⟨h6, k6⟩ := ups hH_; clear hH_
    intro ke nke
    refine ⟨_, rfl, upd_same, [(kI f, nV 0)], rfl, (by show 1 ≤ 15; decide), ?_⟩
    rw [upd_upd]
    generalize hH_p : upd _ ke _ = H7; have s7 := snew nke hH_p; have hke := hnew hH_p; clear hH_p
    refine ⟨_, rfl, p, CT, dx, _, rfl, s7 _ _ h6, T.clT, T.nT_kept, (by show 4 < 1000; decide), ?_⟩
    rw [tF_new_kept]
    generalize hH_ : upd _ p _ = H8; obtain ⟨h8, k8⟩ := ups hH_; clear hH_
    intro ps nps; generalize hH_ps : upd _ ps _ = H9; have s9 := snew nps hH_ps; have hps := hnew hH_ps; clear hH_ps
    refine ⟨_, rfl, p, CT, dx, _, rfl, s9 _ _ h8, T.clT, T.nT_passed, (by show 5 < 1000; decide), ?_⟩
    rw [tF_new_passed]
    generalize hH_ : upd _ p _ = H10; obtain ⟨h10, k10⟩ := ups hH_; clear hH_
    refine ⟨_, rfl, _, rfl, p, CT, dx, _, rfl, h10, T.clT, T.nT_now, (by show 6 < 1000; decide), ?_⟩
    rw [tF_new_now]
    generalize hH_ : upd _ p _ = H11; obtain ⟨h11, k11⟩ := ups hH_; clear hH_
    refine ⟨_, rfl, _, _, rfl, rfl, _, rfl, p, CT, dx, _, rfl, h11, T.clT, T.nT_given, (by show 7 < 1000; decide), ?_⟩
    rw [tF_new_given]
    generalize hH_ : upd _ p _ = H12; obtain ⟨h12, k12⟩ := ups hH_; clear hH_
    refine ⟨_, rfl, p, CT, dx, _, rfl, h12, T.clT, T.nT_deeds, (by show 8 < 1000; decide), ?_⟩
    rw [tF_new_deeds]
    generalize hH_ : upd _ p _ = H13; obtain ⟨h13, k13⟩ := ups hH_; clear hH_
    have q1 : ∀ b o, H b = some o → b ≠ p → H2 b = some o := fun b o e n => k2 _ _ (k1 _ _ e n) n
    have q2 : ∀ b o, H2 b = some o → b ≠ p → H4 b = some o := fun b o e n => k4 _ _ (s3 _ _ e) n
    have q3 : ∀ b o, H4 b = some o → b ≠ p → H6 b = some o := fun b o e n => k6 _ _ (s5 _ _ e) n
    have q4 : ∀ b o, H6 b = some o → b ≠ p → H8 b = some o := fun b o e n => k8 _ _ (s7 _ _ e) n
    have q5 : ∀ b o, H8 b = some o → b ≠ p → H10 b = some o := fun b o e n => k10 _ _ (s9 _ _ e) n
    have q6 : ∀ b o, H10 b = some o → b ≠ p → H13 b = some o := fun b o e n => k13 _ _ (k12 _ _ (k11 _ _ e n) n) n
    have np1 : pa ≠ p := fun z => by rw [z, h2] at npa; cases npa
    have np2 : ch ≠ p := fun z => by rw [z, h4] at nch; cases nch
    have np3 : ke ≠ p := fun z => by rw [z, h6] at nke; cases nke
    have np4 : ps ≠ p := fun z => by rw [z, h8] at nps; cases nps
    have a1 : H4 pa = some (.dK []) := k4 _ _ hpa np1
    have a2 : H6 pa = some (.dK []) := q3 _ _ a1 np1
    have a3 : H8 pa = some (.dK []) := q4 _ _ a2 np1
    have b2 : H6 ch = some (.dK []) := k6 _ _ hch np2
    have b3 : H8 ch = some (.dK []) := q4 _ _ b2 np2
    have c3 : H8 ke = some (.dK [(kI f, nV 0)]) := k8 _ _ hke np3
    have n12 : pa ≠ ch := fun z => by rw [← z, a1] at nch; cases nch
    have n13 : pa ≠ ke := fun z => by rw [← z, a2] at nke; cases nke
    have n14 : pa ≠ ps := fun z => by rw [← z, a3] at nps; cases nps
    have n23 : ch ≠ ke := fun z => by rw [← z, b2] at nke; cases nke
    have n24 : ch ≠ ps := fun z => by rw [← z, b3] at nps; cases nps
    have n34 : ke ≠ ps := fun z => by rw [← z, c3] at nps; cases nps
    have free : ∀ {z : Addr} {G : Hp}, (∀ b o, H b = some o → b ≠ p → G b = some o) → G z = none → z ≠ p → H z = none := fun {z G} g e n => by
      cases q : H z with
      | none => rfl
      | some o => rw [g z o q n] at e; cases e
    have g2 : ∀ b o, H b = some o → b ≠ p → H4 b = some o := fun b o e n => q2 _ _ (q1 _ _ e n) n
    have g3 : ∀ b o, H b = some o → b ≠ p → H6 b = some o := fun b o e n => q3 _ _ (g2 _ _ e n) n
    have g4 : ∀ b o, H b = some o → b ≠ p → H8 b = some o := fun b o e n => q4 _ _ (g3 _ _ e n) n
    have g6 : ∀ b o, H b = some o → b ≠ p → H13 b = some o := fun b o e n => q6 _ _ (q5 _ _ (g4 _ _ e n) n) n
    refine k H13 pa ch ke ps ⟨⟨dx, b, h13, g6 _ _ hb nbp, hbX⟩, q6 _ _ (q5 _ _ a3 np1) np1, ⟨fun _ => (p, p), q6 _ _ (q5 _ _ b3 np2) np2, ⟨fun x hx hp => ?_, fun x hx hp => ?_⟩⟩, q6 _ _ (q5 _ _ c3 np3) np3, q6 _ _ (k10 _ _ hps np4) np4, ?_, fun x hx => ?_⟩ g6 (free q1 npa np1) (free g2 nch np2) (free g3 nke np3) (free g4 nps np4)
    · rw [List.mem_singleton.mp hx] at hp; cases hp
    · rw [List.mem_singleton.mp hx] at hp; cases hp
    · simp only [TA.mut]
      refine List.nodup_cons.mpr ⟨by simp [np1.symm, np2.symm, np3.symm, np4.symm], List.nodup_cons.mpr ⟨by simp [n12, n13, n14], List.nodup_cons.mpr ⟨by simp [n23, n24], List.nodup_cons.mpr ⟨by simp [n34], by simp⟩⟩⟩⟩
    · obtain ⟨l, hl⟩ := hX x hx
      exact ⟨l, g6 _ _ hl (ne_of hl hp (by intro z; cases z))⟩
end
end TT
end
section
set_option maxHeartbeats 2000000
namespace TT
open PySem PySem.Spec PyProof.Rows L2
open Ue17 (Node)
section
variable {C : Addr} {X : List Addr} {H H' : Hp} {A : TA} {f f' : Nat} {t t' : UT}
theorem TA.nes (h : A.mut.Nodup) : A.a ≠ A.pa ∧ A.a ≠ A.ch ∧ A.a ≠ A.ke ∧ A.a ≠ A.ps ∧ A.pa ≠ A.ch ∧ A.pa ≠ A.ke ∧ A.pa ≠ A.ps ∧ A.ch ≠ A.ke ∧ A.ch ≠ A.ps ∧ A.ke ≠ A.ps := by
  simp only [TA.mut, List.nodup_cons, List.mem_cons, List.not_mem_nil, or_false, not_or] at h
  obtain ⟨⟨a1, a2, a3, a4⟩, ⟨b1, b2, b3⟩, ⟨c1, c2⟩, d1, _⟩ := h
  exact ⟨a1, a2, a3, a4, b1, b2, b3, c1, c2, d1⟩
theorem TreeAt.keep (TR : TreeAt C X H A f t) (s : Fr A.mut H H') {b : Addr} {o : HO} (h : H b = some o) (d : mutK o = false) : H' b = some o := s b o h (TR.notMut h d)
theorem TreeAt.chok (TR : TreeAt C X H A f t) (s : Fr A.mut H H') {ca : Nat → Addr × Addr} (h : ChOk X H t.nodes ca) : ChOk X H' t.nodes ca :=
  ⟨fun x hx hp => TR.keep s (h.tup x hx hp) rfl, fun x hx hp => ⟨TR.keep s (h.lst x hx hp).1 rfl, (h.lst x hx hp).2⟩⟩
theorem TreeAt.mk' (TR : TreeAt C X H A f t) (s : Fr A.mut H H') (hins : ∃ dx tx, H' A.a = some (.ins C dx (tFt f' tx A t')) ∧ H' tx = some (.lst (iv t'.base)) ∧ tx ∉ X) (hpa : H' A.pa = some (.dK (parKV t'.nodes))) (hch : ∃ ca, H' A.ch = some (.dK (chKV ca t'.nodes)) ∧ ChOk X H' t'.nodes ca)
    (hke : H' A.ke = some (.dK (kepKV t'.nodes))) (hps : H' A.ps = some (.dK (pasKV t'.last))) : TreeAt C X H' A f' t' :=
  ⟨hins, hpa, hch, hke, hps, TR.ap, fun b hb => by obtain ⟨l, hl⟩ := TR.xl b hb; exact ⟨l, TR.keep s hl rfl⟩⟩
/-- the instance's own numbers -/
theorem TreeAt.own (TR : TreeAt C X H A f t) {dx tx : Addr} (s : Fr [A.a] H H') (h1 : H' A.a = some (.ins C dx (tFt f' tx A t'))) (h2 : H' tx = some (.lst (iv t'.base))) (h3 : tx ∉ X) (e1 : t'.nodes = t.nodes) (e2 : t'.last = t.last) : TreeAt C X H' A f' t' := by
  obtain ⟨n1, n2, n3, n4, _⟩ := TA.nes TR.ap
  have s' : Fr A.mut H H' := s.mono fun b hb => by rw [List.mem_singleton.mp hb]; simp
  obtain ⟨ca, hc, ho⟩ := TR.ch
  refine TR.mk' s' ⟨dx, tx, h1, h2, h3⟩ ?_ ⟨ca, ?_, ?_⟩ ?_ ?_
  · rw [e1]; exact s _ _ TR.pa (by simp [n1.symm])
  · rw [e1]; exact s _ _ hc (by simp [n2.symm])
  · rw [e1]; exact TR.chok s' ho
  · rw [e1]; exact s _ _ TR.ke (by simp [n3.symm])
  · rw [e2]; exact s _ _ TR.ps (by simp [n4.symm])
/-- the pairs alone -/
theorem TreeAt.pairs (TR : TreeAt C X H A f t) {l : List (Nat × Nat)} (s : Fr [A.ps] H H') (h : H' A.ps = some (.dK (pasKV l))) : TreeAt C X H' A f { t with last := l } := by
  obtain ⟨n1, n2, n3, n4, m1, m2, m3, c1, c2, d1⟩ := TA.nes TR.ap
  have s' : Fr A.mut H H' := s.mono fun b hb => by rw [List.mem_singleton.mp hb]; simp
  obtain ⟨ca, hc, ho⟩ := TR.ch
  obtain ⟨dx, tx, h1, h2, h3⟩ := TR.ins
  exact TR.mk' s' ⟨dx, tx, s _ _ h1 (by simp [n4]), TR.keep s' h2 rfl, h3⟩ (s _ _ TR.pa (by simp [m3])) ⟨ca, s _ _ hc (by simp [c2]), TR.chok s' ho⟩ (s _ _ TR.ke (by simp [d1])) h
end
theorem pas_len (l : List (Nat × Nat)) : (pasKV l).length = l.length := by unfold pasKV; rw [List.length_map, List.length_reverse]
theorem Fr.ups {F : List Addr} {H H1 : Hp} {a : Addr} (k : ∀ b u, H b = some u → b ≠ a → H1 b = some u) (h : a ∈ F) : Fr F H H1 := fun b o e n => k b o e fun q => n (by rw [q]; exact h)
section
variable {P : Program} {w : World} {K : PySem.W.Frag} {mg : Str → Option Value} {base : Heap} {CT CD CE : Addr}
def sp_remember (C : Addr) : Sp := fun vs H Q _ => ∃ (A : TA) (X : List Addr) (f : Nat) (t : UT) (n m : Nat), vs = [.ref A.a, nV n, nV m] ∧ TreeAt C X H A f t ∧ t.last.length ≤ 1000 ∧
  ∀ H', TreeAt C X H' A f { t with last := Ue17.setLast t.last n m } → Fr A.mut H H' → Q .non H'
theorem ok_Tree_remember (T : Txt K mg CT CD CE) : C8.Met P w K mg base 1 CT "remember" (sp_remember CT) [] := by
  refine T.d_Tree_remember.ok T.clT sc_Tree_remember (fun vs H Q E h => ?_) (fun f cdv A outer s H vs Q E hr h => ?_)
  · obtain ⟨A, X, f, t, n, m, rfl, _⟩ := h
    rfl
  · obtain ⟨A, X, f, t, n, m, rfl, TR, hl, k⟩ := h
    have hu := hu_of hr
    obtain ⟨dx, tx, h1, h2, h3⟩ := TR.ins
    obtain ⟨n1, n2, n3, n4, _⟩ := TA.nes TR.ap
    refine ⟨_, (pss_cons (ps_expr (pe_dpop2 (pe_fld (pv 0) rfl) (pv 1) pe_non ⟨rfl, rfl, rfl, rfl⟩))
      (pss_one (ps_dput hu (pe_fld (pv 0) rfl) (pv 1) (pv 2) rfl))) , ?_⟩
    have rest : ∀ H1, H1 A.ps = some (.dK (dropK (pasKV t.last) (kI n))) → Fr [A.ps] H H1 → sDPut (tFld K (tVar 0) "passed") (tVar 1) (tVar 2) { nx := fun _ H' => Q .non H', rt := Q } (L2.start N_Tree_remember [.ref A.a, nV n, nV m]) H1 := fun H1 hp s1 => by
      refine ⟨_, rfl, _, rfl, A.a, CT, dx, _, _, rfl, s1 _ _ h1 (by simp [n4]), T.clT, T.nT_passed, tF_passed, _, rfl, A.ps, _, rfl, DPut.k (k := kI n) hp (szl _ (by have := dropK_le (pasKV t.last) (kI n); rw [pas_len] at this; omega)), ?_⟩
      generalize hH_ : upd _ A.ps _ = H2; obtain ⟨h4, k4⟩ := ups hH_; clear hH_
      rw [pas_set] at h4
      exact k H2 (TR.pairs (s1.trans (Fr.ups k4 (by simp))) h4) ((s1.trans (Fr.ups k4 (by simp))).mono fun b hb => by rw [List.mem_singleton.mp hb]; simp)
    refine ⟨_, rfl, A.a, CT, dx, _, _, rfl, h1, T.clT, T.nT_passed, tF_passed, A.ps, rfl, .inl ⟨_, .inl TR.ps⟩, _, rfl, _, kI n, TR.ps, rfl, fun v hv => ?_, fun hv => ?_⟩
    · generalize hH_ : upd _ A.ps _ = H2; obtain ⟨h4, k4⟩ := ups hH_; clear hH_
      exact rest H2 h4 (Fr.ups k4 (by simp))
    · exact rest H (by rw [dropK_no (valV_not hv)]; exact TR.ps) (Fr.refl _ _)
def sp_put_state (C : Addr) : Sp := fun vs H Q _ => ∃ (A : TA) (X : List Addr) (f : Nat) (t : UT) (n p : Nat) (kb : Bool) (q u : Addr) (c : Ue17.Change), vs = [.ref A.a, nV n, nV p, nV (Ue17.bit kb), .ref q] ∧ TreeAt C X H A f t ∧ (∀ x ∈ t.nodes, x.number ≠ n) ∧ t.nodes.length ≤ 1000 ∧
  H q = some (.tup [nV c.at_, nV c.out, .ref u]) ∧ H u = some (.lst (iv c.in_)) ∧ u ∉ X ∧
  ∀ H', TreeAt C X H' A f { t with nodes := t.nodes ++ [⟨n, some p, c, kb⟩] } → Fr A.mut H H' → Q .non H'
theorem fm_len {g : Node → Option (Key × V)} (ns : List Node) : (ns.filterMap g).length ≤ ns.length := List.length_filterMap_le ..
theorem ok_Tree_put_state (T : Txt K mg CT CD CE) : C8.Met P w K mg base 1 CT "put_state" (sp_put_state CT) [] := by
  refine T.d_Tree_put_state.ok T.clT sc_Tree_put_state (fun vs H Q E h => ?_) (fun f cdv A outer s H vs Q E hr h => ?_)
  · obtain ⟨A, X, f, t, n, p, kb, q, u, c, rfl, _⟩ := h
    rfl
  · obtain ⟨A, X, f, t, n, p, kb, q, u, c, rfl, TR, hn, hl, hq, hlu, hux, k⟩ := h
    have hu := hu_of hr
    obtain ⟨dx, tx, h1, h2, h3⟩ := TR.ins
    obtain ⟨n1, n2, n3, n4, m1, m2, m3, c1, c2, d1⟩ := TA.nes TR.ap
    obtain ⟨ca, hc, ho⟩ := TR.ch
    have hf : fnd t.nodes n = none := List.find?_eq_none.mpr fun x hx => by simp [hn x hx]
    refine ⟨_, (pss_cons (ps_dput hu (pe_fld (pv 0) rfl) (pv 1) (pv 2) rfl)
      (pss_cons (ps_dput hu (pe_fld (pv 0) rfl) (pv 1) (pv 3) rfl)
      (pss_one (ps_dput hu (pe_fld (pv 0) rfl) (pv 1) (pv 4) rfl)))) , ?_⟩
    refine ⟨_, rfl, _, rfl, A.a, CT, dx, _, _, rfl, h1, T.clT, T.nT_parents, tF_parents, _, rfl, A.pa, _, rfl, DPut.k (k := kI n) TR.pa (szl _ (by have := fm_len (g := fun x => x.parent.map fun p => (kI x.number, nV p)) t.nodes; unfold parKV; omega)), ?_⟩
    generalize hH_ : upd _ A.pa _ = H1; obtain ⟨g1, k1⟩ := ups hH_; clear hH_
    refine ⟨_, rfl, _, rfl, A.a, CT, dx, _, _, rfl, k1 _ _ h1 n1, T.clT, T.nT_kept, tF_kept, _, rfl, A.ke, _, rfl, DPut.k (k := kI n) (k1 _ _ TR.ke m2.symm) (szl _ (by unfold kepKV; rw [List.length_map]; omega)), ?_⟩
    generalize hH_ : upd _ A.ke _ = H2; obtain ⟨g2, k2⟩ := ups hH_; clear hH_
    refine ⟨_, rfl, _, rfl, A.a, CT, dx, _, _, rfl, k2 _ _ (k1 _ _ h1 n1) n3, T.clT, T.nT_changes, tF_changes, _, rfl, A.ch, _, rfl, DPut.k (k := kI n) (k2 _ _ (k1 _ _ hc m1.symm) c1) (szl _ (by have := fm_len (g := fun x => x.parent.map fun _ => (kI x.number, V.ref (ca x.number).1)) t.nodes; unfold chKV; omega)), ?_⟩
    generalize hH_ : upd _ A.ch _ = H3; obtain ⟨g3, k3⟩ := ups hH_; clear hH_
    have s3 : Fr A.mut H H3 := ((Fr.ups k1 (by simp)).trans (Fr.ups k2 (by simp))).trans (Fr.ups k3 (by simp))
    have hnd : ∀ x ∈ t.nodes, x.number ≠ n := hn
    refine k H3 (TR.mk' s3 ⟨dx, tx, k3 _ _ (k2 _ _ (k1 _ _ h1 n1) n3) n2, TR.keep s3 h2 rfl, h3⟩ ?_ ⟨fun m => if m = n then (q, u) else ca m, ?_, ?_⟩ ?_ ?_) s3
    · have : H3 A.pa = some (.dK (putK (parKV t.nodes) (kI n) (nV p))) := k3 _ _ (k2 _ _ g1 m2) m1
      rw [this, putK_new]
      · rw [par_append]; rfl
      · cases hv : valV (parKV t.nodes) (kI n) with
        | none => rfl
        | some v =>
          have := valV_in hv
          rw [keys_par] at this
          obtain ⟨z, hz, e⟩ := List.mem_map.mp this
          obtain ⟨y, hy, rfl⟩ := List.mem_map.mp hz
          obtain ⟨x, hx, rfl⟩ := List.mem_map.mp hy
          exact absurd (kI_inj (n := x.number) (m := n) e) (hn x (List.mem_filter.mp hx).1)
    · rw [g3, putK_new]
      · rw [ch_append, ch_congr (ca := fun m => if m = n then (q, u) else ca m) (cb := ca) fun x hx => if_neg (hn x hx)]
        show _ = some (HO.dK (chKV ca t.nodes ++ [(kI n, V.ref (if n = n then (q, u) else ca n).1)]))
        rw [if_pos rfl]
      · cases hv : valV (chKV ca t.nodes) (kI n) with
        | none => rfl
        | some v =>
          have := valV_in hv
          obtain ⟨z, hz, e⟩ := List.mem_map.mp this
          unfold chKV at hz
          obtain ⟨x, hx, ex⟩ := List.mem_filterMap.mp hz
          cases hp : x.parent with
          | none => rw [hp] at ex; cases ex
          | some p' =>
            rw [hp] at ex
            have : z = (kI x.number, V.ref (ca x.number).1) := (Option.some.inj ex).symm
            rw [this] at e
            exact absurd (kI_inj (n := x.number) (m := n) e) (hn x hx)
    · have ho' := TR.chok s3 ho
      refine ⟨fun x hx hp => ?_, fun x hx hp => ?_⟩
      · rcases List.mem_append.mp hx with z | z
        · show H3 (if x.number = n then (q, u) else ca x.number).1 = some (.tup [_, _, .ref (if x.number = n then (q, u) else ca x.number).2])
          rw [if_neg (hn x z)]
          exact ho'.tup x z hp
        · rw [List.mem_singleton.mp z]
          show H3 (if n = n then (q, u) else ca n).1 = some (.tup [_, _, .ref (if n = n then (q, u) else ca n).2])
          rw [if_pos rfl]
          exact TR.keep s3 hq rfl
      · rcases List.mem_append.mp hx with z | z
        · show H3 (if x.number = n then (q, u) else ca x.number).2 = _ ∧ (if x.number = n then (q, u) else ca x.number).2 ∉ X
          rw [if_neg (hn x z)]
          exact ho'.lst x z hp
        · rw [List.mem_singleton.mp z]
          show H3 (if n = n then (q, u) else ca n).2 = _ ∧ (if n = n then (q, u) else ca n).2 ∉ X
          rw [if_pos rfl]
          exact ⟨TR.keep s3 hlu rfl, hux⟩
    · have : H3 A.ke = some (.dK (putK (kepKV t.nodes) (kI n) (nV (Ue17.bit kb)))) := k3 _ _ g2 c1.symm
      rw [this, putK_new, kep_append]
      · rfl
      · rw [val_kep, hf]; rfl
    · exact k3 _ _ (k2 _ _ (k1 _ _ TR.ps m3.symm) d1.symm) c2.symm
end
end TT
end
section
set_option maxHeartbeats 2000000
namespace TT
open PySem PySem.Spec PyProof.Rows L2
open Ue17 (Node)
/-- a deed but for the count -/
def did0 (t : UT) (d : Ue17.Deed) : UT := { Ue17.did t d with deeds := t.deeds }
theorem Fr.same {F : List Addr} {H H1 H2 : Hp} (s : Same H H1) (s2 : Fr F H1 H2) : Fr F H H2 := fun b o h n => s2 b o (s b o h) n
section
variable {P : Program} {w : World} {K : PySem.W.Frag} {mg : Str → Option Value} {base : Heap} {CT CD CE : Addr}
def sp_make (C : Addr) : Sp := fun vs H Q _ => ∃ (A : TA) (X : List Addr) (f : Nat) (t : UT) (p o : Nat) (b : Addr) (i : List Nat) (nB : Nat), vs = [.ref A.a, nV p, nV o, .ref b] ∧ TreeAt C X H A f t ∧ WF f t nB ∧ nB ≤ 900 ∧ H b = some (.lst (iv i)) ∧ b ∉ X ∧
  ∀ H', TreeAt C X H' A f (did0 t (.make ⟨p, o, i⟩)) → Fr A.mut H H' → Q .non H'
theorem ok_Tree_make (T : Txt K mg CT CD CE) : C8.Met P w K mg base 2 CT "make" (sp_make CT) [] := by
  refine T.d_Tree_make.ok T.clT sc_Tree_make (fun vs H Q E h => ?_) (fun f cdv A outer s H vs Q E hr h => ?_)
  · obtain ⟨A, X, f, t, p, o, b, i, nB, rfl, _⟩ := h
    rfl
  · obtain ⟨A, X, f, t, p, o, b, i, nB, rfl, TR, WFt, hB, hb, hbx, k⟩ := h
    have hlen := WFt.len
    have hlast := WFt.last_len
    obtain ⟨dx, tx, h1, h2, h3⟩ := TR.ins
    refine ⟨_, (pss_cons (ps_set (i := 4) sc_Tree_make.nd rfl (Or.inl rfl) (pe_fld (pv 0) rfl))
      (pss_cons (ps_expr (C8.pe_mt (ok_Tree_put_state T) hr (by decide) (pv 0) (pa_cons (pv 4) (pa_cons (pe_fld (pv 0) rfl) (pa_cons pe_int (pa_cons (pe_tup (pa_cons (pv 1) (pa_cons (pv 2) (pa_cons (pv 3) pa_nil)))) pa_nil))))))
      (pss_cons (ps_expr (C8.pe_mt (ok_Tree_remember T) hr (by decide) (pv 0) (pa_cons (pe_fld (pv 0) rfl) (pa_cons (pv 4) pa_nil))))
      (pss_cons (ps_fld (pv 0) (pv 4) rfl)
      (pss_one (ps_fld (pv 0) (pe_op op_add (pv 4) pe_int) rfl)))))) , ?_⟩
    refine ⟨_, rfl, A.a, CT, dx, _, _, rfl, h1, T.clT, T.nT_given, tF_given, ?_⟩
    refine ⟨_, rfl, A.a, dx, _, rfl, h1, tF_no_put_state, _, rfl, _, rfl, A.a, CT, dx, _, _, rfl, h1, T.clT, T.nT_now, tF_now, _, rfl, _, rfl, _, rfl, sz 3 (by decide), ?_⟩
    intro q nq; generalize hH_q : upd _ q _ = H1; have s1 := snew nq hH_q; have hq := hnew hH_q; clear hH_q
    refine ⟨A, X, f, t, t.given, t.now, false, q, b, ⟨p, o, i⟩, rfl, TR.same s1, fun x hx => by have := WFt.lt x hx; omega, by omega, hq, s1 _ _ hb, hbx, fun H2 T2 s2 => ?_⟩
    obtain ⟨dx2, tx2, g1, g2, g3⟩ := T2.ins
    refine ⟨_, rfl, A.a, dx2, _, rfl, g1, tF_no_remember, _, rfl, A.a, CT, dx2, _, _, rfl, g1, T.clT, T.nT_now, tF_now, _, rfl, A, X, f, _, t.now, t.given, rfl, T2, by show t.last.length ≤ 1000; omega, fun H3 T3 s3 => ?_⟩
    obtain ⟨dx3, tx3, e1, e2, e3⟩ := T3.ins
    refine ⟨_, rfl, _, rfl, A.a, CT, dx3, _, rfl, e1, T.clT, T.nT_now, (by show 9 < 1000; decide), ?_⟩
    rw [tF_put_now]
    generalize hH_ : upd _ A.a _ = H4; obtain ⟨g4, k4⟩ := ups hH_; clear hH_
    refine ⟨_, rfl, _, _, rfl, rfl, _, rfl, A.a, CT, dx3, _, rfl, g4, T.clT, T.nT_given, (by show 9 < 1000; decide), ?_⟩
    rw [tF_put_given]
    generalize hH_ : upd _ A.a _ = H5; obtain ⟨g5, k5⟩ := ups hH_; clear hH_
    have s45 : Fr [A.a] H3 H5 := (Fr.ups k4 (by simp)).trans (Fr.ups k5 (by simp))
    have nta : tx3 ≠ A.a := ne_kind e2 e1 (by intro z; cases z)
    refine k H5 (T3.own (t' := did0 t (.make ⟨p, o, i⟩)) s45 g5 (k5 _ _ (k4 _ _ e2 nta) nta) e3 rfl rfl) (Fr.same s1 ((s2.trans s3).trans (s45.mono fun b hb => by rw [List.mem_singleton.mp hb]; simp)))
def sp_keep (C : Addr) : Sp := fun vs H Q _ => ∃ (A : TA) (X : List Addr) (f : Nat) (t : UT) (n : Nat) (kb : Bool), vs = [.ref A.a, nV n, nV (Ue17.bit kb)] ∧ TreeAt C X H A f t ∧ t.nodes.length ≤ 1000 ∧
  ∀ H', TreeAt C X H' A f (did0 t (.keep n kb)) → Fr A.mut H H' → Q .non H'
theorem ok_Tree_keep (T : Txt K mg CT CD CE) : C8.Met P w K mg base 2 CT "keep" (sp_keep CT) [] := by
  refine T.d_Tree_keep.ok T.clT sc_Tree_keep (fun vs H Q E h => ?_) (fun f cdv A outer s H vs Q E hr h => ?_)
  · obtain ⟨A, X, f, t, n, kb, rfl, _⟩ := h
    rfl
  · obtain ⟨A, X, f, t, n, kb, rfl, TR, hl, k⟩ := h
    have hu := hu_of hr
    obtain ⟨dx, tx, h1, h2, h3⟩ := TR.ins
    obtain ⟨n1, n2, n3, n4, m1, m2, m3, c1, c2, d1⟩ := TA.nes TR.ap
    obtain ⟨ca, hc, ho⟩ := TR.ch
    refine ⟨_, (pss_one (ps_if (pt_val (C8.pe_mt (ok_Tree_has T) hr (by decide) (pv 0) (pa_cons (pv 1) pa_nil)))
        (pss_one (ps_dput hu (pe_fld (pv 0) rfl) (pv 1) (pv 2) rfl))
        pss_nil)) , ?_⟩
    refine ⟨_, rfl, A.a, dx, _, rfl, h1, tF_no_has, _, rfl, A, X, f, t, some n, rfl, TR, _, rfl, itB (fun b => ?_) (fun b => ?_)⟩
    · refine ⟨_, rfl, _, rfl, A.a, CT, dx, _, _, rfl, h1, T.clT, T.nT_kept, tF_kept, _, rfl, A.ke, _, rfl, DPut.k (k := kI n) TR.ke (szl _ (by unfold kepKV; rw [List.length_map]; omega)), ?_⟩
      generalize hH_ : upd _ A.ke _ = H1; obtain ⟨g1, k1⟩ := ups hH_; clear hH_
      have s1 : Fr A.mut H H1 := Fr.ups k1 (by simp)
      rw [kep_put b] at g1
      let g : Node → Node := fun x => if x.number = n then { x with kept := kb } else x
      have gn : ∀ x, (g x).number = x.number ∧ (g x).parent = x.parent ∧ (g x).change = x.change := fun x => by
        by_cases e : x.number = n
        · simp [g, e]
        · simp [g, e]
      have e1 : parKV (t.nodes.map g) = parKV t.nodes := by
        unfold parKV
        rw [List.filterMap_map]
        congr 1
        funext x
        show (g x).parent.map _ = x.parent.map _
        rw [(gn x).1, (gn x).2.1]
      have e2 : chKV ca (t.nodes.map g) = chKV ca t.nodes := by
        unfold chKV
        rw [List.filterMap_map]
        congr 1
        funext x
        show (g x).parent.map _ = x.parent.map _
        rw [(gn x).1, (gn x).2.1]
      have ho' := TR.chok s1 ho
      refine k H1 (TR.mk' (t' := did0 t (.keep n kb)) s1 ⟨dx, tx, k1 _ _ h1 n3, TR.keep s1 h2 rfl, h3⟩ ?_ ⟨ca, ?_, ?_, ?_⟩ g1 (k1 _ _ TR.ps d1.symm)) s1
      · show H1 A.pa = some (.dK (parKV (t.nodes.map g)))
        rw [e1]; exact k1 _ _ TR.pa m2
      · show H1 A.ch = some (.dK (chKV ca (t.nodes.map g)))
        rw [e2]; exact k1 _ _ hc c1
      · intro x hx hp
        obtain ⟨y, hy, rfl⟩ := List.mem_map.mp hx
        have hp : (g y).parent.isSome = true := hp
        show H1 (ca (g y).number).1 = some (.tup [nV (g y).change.at_, nV (g y).change.out, .ref (ca (g y).number).2])
        rw [(gn y).1, (gn y).2.2]
        exact ho'.tup y hy (by rw [← (gn y).2.1]; exact hp)
      · intro x hx hp
        obtain ⟨y, hy, rfl⟩ := List.mem_map.mp hx
        have hp : (g y).parent.isSome = true := hp
        show H1 (ca (g y).number).2 = some (.lst (iv (g y).change.in_)) ∧ (ca (g y).number).2 ∉ X
        rw [(gn y).1, (gn y).2.2]
        exact ho'.lst y hy (by rw [← (gn y).2.1]; exact hp)
    · have e : did0 t (.keep n kb) = t := by
        have hn : ∀ x ∈ t.nodes, x.number ≠ n := fnd_none (by
          have b' : (Ue17.find t n).isSome = false := b
          rw [fnd_find]
          cases h : Ue17.find t n with
          | none => rfl
          | some x => rw [h] at b'; cases b')
        show ({ t with nodes := t.nodes.map fun x => if x.number = n then { x with kept := kb } else x } : UT) = t
        have : (t.nodes.map fun x => if x.number = n then { x with kept := kb } else x) = t.nodes := by
          conv => rhs; rw [← List.map_id t.nodes]
          exact List.map_congr_left fun x hx => if_neg (hn x hx)
        rw [this]
      refine k H (by rw [e]; exact TR) (Fr.refl _ _)
def sp_go (C : Addr) : Sp := fun vs H Q _ => ∃ (A : TA) (X : List Addr) (f : Nat) (t : UT) (n nB : Nat), vs = [.ref A.a, nV n] ∧ TreeAt C X H A f t ∧ WF f t nB ∧ nB ≤ 900 ∧
  ∀ H', TreeAt C X H' A f (did0 t (.goes n)) → Fr A.mut H H' → Q .non H'
theorem ok_Tree_go (T : Txt K mg CT CD CE) : C8.Met P w K mg base 3 CT "go" (sp_go CT) [] := by
  refine T.d_Tree_go.ok T.clT sc_Tree_go (fun vs H Q E h => ?_) (fun f cdv A outer s H vs Q E hr h => ?_)
  · obtain ⟨A, X, f, t, n, nB, rfl, _⟩ := h
    rfl
  · obtain ⟨A, X, f, t, n, nB, rfl, TR, WFt, hB, k⟩ := h
    have hlen := WFt.len
    obtain ⟨dx, tx, h1, h2, h3⟩ := TR.ins
    refine ⟨_, (pss_cons (ps_set (i := 2) sc_Tree_go.nd rfl (Or.inl rfl) (C8.pe_mt (ok_Tree_way_to T) hr (by decide) (pv 0) (pa_cons (pv 1) pa_nil)))
      (pss_cons (ps_for PassesOwn.never rfl (pi_range2 (by rfl) T.b_range (pa_cons pe_int (pa_cons (pe_callB call_len_seq (by rfl) T.b_len PySem.boot_len (pa_cons (pv 2) pa_nil)) pa_nil))) (pg_name (i := 3) sc_Tree_go.nd rfl (Or.inl rfl))
        (pss_one (ps_expr (C8.pe_mt (ok_Tree_remember T) hr (by decide) (pv 0) (pa_cons (pe_ix ix_list (pv 2) (pe_op op_sub (pv 3) pe_int) (fun _ _ => rfl)) (pa_cons (pe_ix ix_list (pv 2) (pv 3) (fun _ _ => rfl)) pa_nil))))))
      (pss_one (ps_fld (pv 0) (pv 1) rfl)))) , ?_⟩
    refine ⟨_, rfl, A.a, dx, _, rfl, h1, tF_no_way_to, _, rfl, A, X, f, t, n, rfl, TR, WFt.nd, by omega, fun q H1 nq s1 hq => ?_⟩
    have hwl := way_len t n
    have hz : ∀ y ∈ (way t n).zip ((way t n).drop 1), ∃ x ∈ t.nodes, x.number = y.2 ∧ x.parent = some y.1 := fun y hy => by
      rw [way_zip] at hy
      exact path_pair hy
    refine ⟨_, rfl, q, _, rfl, .inl (SqL.of hq), 1, _, rfl, ⟨by omega, by omega, by rw [iv_len]; omega, by rw [iv_len]; omega⟩, for_range (lo := 1) (n := (((iv (way t n)).length : Int) - 1).toNat) (fun i σ H' => ∃ v3, σ = [some (.ref A.a), some (nV n), some (.ref q), v3] ∧ H' q = some (.lst (iv (way t n))) ∧ Fr A.mut H1 H' ∧ TreeAt CT X H' A f { t with last := (((way t n).zip ((way t n).drop 1)).take i).foldl (fun m x => Ue17.setLast m x.1 x.2) t.last })
      ⟨none, rfl, hq, Fr.refl _ _, TR.same s1⟩ (fun i σ H' hi pv => ?_) (fun σ H' pv => ?_)⟩
    · obtain ⟨v3, rfl, hq', sv, TV⟩ := pv
      obtain ⟨dx', tx', g1, g2, g3⟩ := TV.ins
      rw [iv_len] at hi
      have hi1 : i + 1 < (way t n).length := by omega
      have ga : (way t n)[i]? = some ((way t n)[i]'(by omega)) := List.getElem?_eq_getElem (by omega)
      have gb : (way t n)[i + 1]? = some ((way t n)[i + 1]'hi1) := List.getElem?_eq_getElem hi1
      have WFi : WF f { t with last := (((way t n).zip ((way t n).drop 1)).take i).foldl (fun m x => Ue17.setLast m x.1 x.2) t.last } nB := WFt.sets _ fun y hy => hz y (List.mem_of_mem_take hy)
      have hll := WFi.last_len
      have hz1 : ((way t n).zip ((way t n).drop 1))[i]? = some ((way t n)[i]'(by omega), (way t n)[i + 1]'hi1) := by
        rw [List.getElem?_zip_eq_some, List.getElem?_drop, Nat.add_comm 1 i]
        exact ⟨ga, gb⟩
      have a1 : atI (iv (way t n)) ((1 : Int) + (i : Int) - 1) = some (nV ((way t n)[i]'(by omega))) := by
        rw [show (1 : Int) + (i : Int) - 1 = (i : Int) by omega]
        exact iv_at ga
      have a2 : atI (iv (way t n)) ((1 : Int) + (i : Int)) = some (nV ((way t n)[i + 1]'hi1)) := by
        rw [show (1 : Int) + (i : Int) = ((i + 1 : Nat) : Int) by omega]
        exact iv_at gb
      refine ⟨_, rfl, A.a, dx', _, rfl, g1, tF_no_remember, _, rfl, _, rfl, _, _, rfl, rfl, q, _, _, _, rfl, rfl, SqL.of hq', a1, _, rfl, _, rfl, q, _, _, _, rfl, rfl, SqL.of hq', a2, A, X, f, _, _, _, rfl, TV, by have hll : (List.foldl (fun m x => Ue17.setLast m x.1 x.2) t.last (((way t n).zip ((way t n).drop 1)).take i)).length ≤ t.nodes.length := hll; exact Nat.le_trans hll (by omega), fun H2 T2 s2 => ?_⟩
      refine ⟨_, rfl, TV.keep s2 hq' rfl, sv.trans s2, ?_⟩
      rw [take_snoc hz1, List.foldl_append]
      exact T2
    · obtain ⟨v3, rfl, hq', sv, TV⟩ := pv
      rw [List.take_of_length_le (by rw [iv_len, List.length_zip, List.length_drop]; omega), way_zip] at TV
      obtain ⟨dx', tx', g1, g2, g3⟩ := TV.ins
      refine ⟨_, rfl, _, rfl, A.a, CT, dx', _, rfl, g1, T.clT, T.nT_now, (by show 9 < 1000; decide), ?_⟩
      rw [tF_put_now]
      generalize hH_ : upd _ A.a _ = H4; obtain ⟨g4, k4⟩ := ups hH_; clear hH_
      have nta : tx' ≠ A.a := ne_kind g2 g1 (by intro z; cases z)
      exact k H4 (TV.own (t' := did0 t (.goes n)) (Fr.ups k4 (by simp)) g4 (k4 _ _ g2 nta) g3 rfl rfl) (Fr.same s1 (sv.trans (Fr.ups k4 (by simp))))
end
end TT
end
section
set_option maxHeartbeats 2000000
namespace TT
open PySem PySem.Spec PyProof.Rows L2
open Ue17 (Node)
theorem find_take {α : Type} {p : α → Bool} {l : List α} {i : Nat} {x : α} (h1 : (l.take i).find? p = none) (h2 : l[i]? = some x) (h3 : p x = true) : l.find? p = some x := by
  have e : l = l.take i ++ x :: l.drop (i + 1) := by
    obtain ⟨hi, ex⟩ := List.getElem?_eq_some_iff.mp h2
    rw [← ex, ← List.drop_eq_getElem_cons hi, List.take_append_drop]
  rw [e, List.find?_append, h1, List.find?_cons, h3]
  rfl
theorem find_filter {α : Type} {p q : α → Bool} (l : List α) (h : ∀ x ∈ l, p x = true → q x = true) : l.find? p = (l.filter q).find? p := by
  induction l with
  | nil => rfl
  | cons x l ih =>
    have ih := ih fun y hy => h y (List.mem_cons_of_mem _ hy)
    rw [List.find?_cons, List.filter_cons]
    cases hp : p x with
    | true => rw [if_pos (h x List.mem_cons_self hp), List.find?_cons, hp]
    | false =>
      by_cases hq : q x = true
      · rw [if_pos hq, List.find?_cons, hp, ih]
      · rw [if_neg hq, ih]
def freeEnd (t : UT) (x : Node) : Bool := (Ue17.children t x.number).isEmpty && (x.parent.isSome && (x.number != t.now && !x.kept))
theorem nextEnd_par (t : UT) : Ue17.nextEnd t = (parN t.nodes).find? (freeEnd t) := find_filter (p := freeEnd t) _ fun x _ h => by
  unfold freeEnd at h
  simp only [Bool.and_eq_true] at h
  exact h.2.1
theorem bit_zero (k : Bool) : ((Ue17.bit k : Nat) : Int) = 0 ↔ k = false := by cases k <;> decide
section
variable {P : Program} {w : World} {K : PySem.W.Frag} {mg : Str → Option Value} {base : Heap} {CT CD CE : Addr}
abbrev N_Tree_lowest_free_end : List Str := ["self", "state"]
theorem sc_Tree_lowest_free_end : FnScope N_Tree_lowest_free_end ["self"] (defScope s_Tree_lowest_free_end) := ⟨rfl, rfl, rfl, by decide +kernel, rfl, by decide +kernel, by decide +kernel⟩
abbrev N_Tree_first_may_go : List Str := ["self", "free"]
theorem sc_Tree_first_may_go : FnScope N_Tree_first_may_go ["self"] (defScope s_Tree_first_may_go) := ⟨rfl, rfl, rfl, by decide +kernel, rfl, by decide +kernel, by decide +kernel⟩
abbrev N_Tree_drop : List Str := ["self", "state", "begin"]
theorem sc_Tree_drop : FnScope N_Tree_drop ["self", "state"] (defScope s_Tree_drop) := ⟨rfl, rfl, rfl, by decide +kernel, rfl, by decide +kernel, by decide +kernel⟩
abbrev N_Tree_drop_first : List Str := ["self", "heir"]
theorem sc_Tree_drop_first : FnScope N_Tree_drop_first ["self"] (defScope s_Tree_drop_first) := ⟨rfl, rfl, rfl, by decide +kernel, rfl, by decide +kernel, by decide +kernel⟩
abbrev N_Tree_forget : List Str := ["self", "many", "end"]
theorem sc_Tree_forget : FnScope N_Tree_forget ["self", "many"] (defScope s_Tree_forget) := ⟨rfl, rfl, rfl, by decide +kernel, rfl, by decide +kernel, by decide +kernel⟩
def sp_lowest (C : Addr) : Sp := fun vs H Q _ => ∃ (A : TA) (X : List Addr) (f : Nat) (t : UT) (nB : Nat), vs = [.ref A.a] ∧ TreeAt C X H A f t ∧ WF f t nB ∧ nB ≤ 300 ∧ pureV H (oV ((Ue17.nextEnd t).map fun x => x.number)) Q
theorem ok_Tree_lowest_free_end (T : Txt K mg CT CD CE) : C8.Met P w K mg base 2 CT "lowest_free_end" (sp_lowest CT) [] := by
  refine T.d_Tree_lowest_free_end.ok T.clT sc_Tree_lowest_free_end (fun vs H Q E h => ?_) (fun f cdv A outer s H vs Q E hr h => ?_)
  · obtain ⟨A, X, f, t, nB, rfl, _⟩ := h
    rfl
  · obtain ⟨A, X, f, t, nB, rfl, TR, WFt, hB, k⟩ := h
    have hu := hu_of hr
    have hlen := WFt.len
    obtain ⟨dx, tx, h1, h2, h3⟩ := TR.ins
    have hpl : (parN t.nodes).length ≤ t.nodes.length := List.length_filter_le ..
    rw [nextEnd_par] at k
    refine ⟨_, (pss_cons (ps_for PassesOwn.never rfl (pi_list (pe_callB (cr_srtD rfl) (by rfl) T.b_sorted (by decide +kernel) (pa_cons (pe_fld (pv 0) rfl) pa_nil))) (pg_name (i := 1) sc_Tree_lowest_free_end.nd rfl (Or.inl rfl))
        (pss_one (ps_if (PW.pt (pw_and (pt_cmpR op_ne (pv 1) (pe_fld (pv 0) rfl) (nomark _)) (pw_and (pt_cmpR op_eq (pe_dget (by exact hu) (pe_fld (pv 0) rfl) (pv 1) (fun _ _ => rfl)) pe_int (nomark _)) (pw_and1 (pt_cmpR (op_eqN hr.units) (C8.pe_mt (ok_Tree_made_of T) hr (by decide) (pv 0) (pa_cons (pv 1) pa_nil)) (pe_lst pa_nil) (nomark _))))))
            (pss_one (ps_ret (pv 1)))
            pss_nil)))
      (pss_one (ps_ret pe_non))) , ?_⟩
    refine ⟨_, rfl, A.a, CT, dx, _, _, rfl, h1, T.clT, T.nT_parents, tF_parents, A.pa, _, zi ((parN t.nodes).map fun x => x.number), rfl, TR.pa, keys_par _, by rw [List.length_map, List.length_map]; omega, fun ys p hp hs => ?_⟩
    intro np; generalize hH_p : upd _ p _ = H1; have s1 := snew np hH_p; have hq := hnew hH_p; clear hH_p
    rw [perm_sorted hp hs (rise_zi (rise_parN WFt.inc)), ← iv_zi] at hq
    refine ⟨p, rfl, ⟨_, SqL.of hq⟩, for_list (K := K) (a := p) (xs := iv ((parN t.nodes).map fun x => x.number)) (fun i σ H' => ∃ v1, σ = [some (.ref A.a), v1] ∧ Same H1 H' ∧ ((parN t.nodes).take i).find? (freeEnd t) = none)
      ⟨none, rfl, Same.refl H1, rfl⟩ (fun i σ H' _ pv => by obtain ⟨v1, _, sv, _⟩ := pv; exact SqL.of (sv _ _ hq)) (fun i y σ H' hy pv => ?_) (fun σ H' pv => ?_)⟩
    · obtain ⟨v1, rfl, sv, hn⟩ := pv
      obtain ⟨m, hm, rfl⟩ := iv_get' hy
      obtain ⟨x, hx, rfl⟩ := map_get' hm
      obtain ⟨hxn, hxp⟩ := List.mem_filter.mp (List.mem_of_getElem? hx)
      have TH := TR.same (s1.trans sv)
      obtain ⟨dx', tx', g1, g2, g3⟩ := TH.ins
      have hv : valV (kepKV t.nodes) (kI x.number) = some (nV (Ue17.bit x.kept)) := by rw [val_kep, fnd_mem WFt.nd hxn]; rfl
      have next : ∀ H2, Same H' H2 → freeEnd t x = false → ∃ v1, ([some (V.ref A.a), some (nV x.number)] : L2.St) = [some (.ref A.a), v1] ∧ Same H1 H2 ∧ ((parN t.nodes).take (i + 1)).find? (freeEnd t) = none := fun H2 s2 hf =>
        ⟨_, rfl, sv.trans s2, by rw [take_snoc hx, List.find?_append, hn, List.find?_cons, hf]; rfl⟩
      refine ⟨_, rfl, _, rfl, A.a, CT, dx', _, _, rfl, g1, T.clT, T.nT_now, tF_now, rfl, _, rfl, itNI (fun e1 => ?_) (fun e1 => iteF ?_)⟩
      · refine ⟨_, rfl, A.a, CT, dx', _, _, rfl, g1, T.clT, T.nT_kept, tF_kept, _, rfl, A.ke, _, rfl, dget_of TH.ke hv, rfl, _, rfl, itI (fun e2 => ?_) (fun e2 => iteF ?_)⟩
        · refine ⟨_, rfl, A.a, dx', _, rfl, g1, tF_no_made_of, _, rfl, A, X, f, t, x.number, rfl, TH, WFt.inc, by omega, fun r H2 nr s2 hr2 => ?_⟩
          refine ⟨sz 0 (by decide), ?_⟩
          intro u nu; generalize hH_u : upd _ u _ = H3; have s3 := snew nu hH_u; have hu3 := hnew hH_u; clear hH_u
          refine ⟨r, u, _, [], rfl, rfl, SqL.of (s3 _ _ hr2), SqL.of hu3, _, rfl, itD (fun e3 => ?_) (fun e3 => ?_)⟩
          · have hf : freeEnd t x = true := by
              unfold freeEnd
              rw [e3, hxp, (bit_zero x.kept).mp e2]
              simp
              intro z
              exact e1 (by rw [z])
            refine ⟨_, rfl, ?_⟩
            rw [find_take hn hx hf] at k
            exact k H3 ((s1.trans sv).trans (s2.trans s3))
          · refine next H3 (s2.trans s3) ?_
            unfold freeEnd
            rw [show (Ue17.children t x.number).isEmpty = false by cases hc : Ue17.children t x.number with | nil => exact absurd hc e3 | cons _ _ => rfl]
            rfl
        · refine next H' (Same.refl H') ?_
          unfold freeEnd
          rw [show x.kept = true by cases hk : x.kept with | true => rfl | false => exact absurd ((bit_zero x.kept).mpr hk) e2]
          simp
      · refine next H' (Same.refl H') ?_
        unfold freeEnd
        rw [show x.number = t.now by omega]
        simp
    · obtain ⟨v1, rfl, sv, hn⟩ := pv
      rw [iv_len, List.length_map, List.take_length] at hn
      rw [hn] at k
      exact k H' (s1.trans sv)
def keptAt (t : UT) (n : Nat) : Bool := match Ue17.find t n with
  | none => false
  | some x => x.kept
def fmg (f : Nat) (t : UT) : Bool := (!decide (f = t.now) && !keptAt t f) && decide ((Ue17.children t f).length = 1)
def sp_first_may_go (C : Addr) : Sp := fun vs H Q _ => ∃ (A : TA) (X : List Addr) (f : Nat) (t : UT) (nB : Nat), vs = [.ref A.a] ∧ TreeAt C X H A f t ∧ WF f t nB ∧ nB ≤ 300 ∧ pureV H (.bl (fmg f t)) Q
theorem ok_Tree_first_may_go (T : Txt K mg CT CD CE) : C8.Met P w K mg base 2 CT "first_may_go" (sp_first_may_go CT) [] := by
  refine T.d_Tree_first_may_go.ok T.clT sc_Tree_first_may_go (fun vs H Q E h => ?_) (fun f cdv A outer s H vs Q E hr h => ?_)
  · obtain ⟨A, X, f, t, nB, rfl, _⟩ := h
    rfl
  · obtain ⟨A, X, f, t, nB, rfl, TR, WFt, hB, k⟩ := h
    have hu := hu_of hr
    have hlen := WFt.len
    obtain ⟨dx, tx, h1, h2, h3⟩ := TR.ins
    obtain ⟨x, hx, ex, px⟩ := WFt.ffind
    have hv : valV (kepKV t.nodes) (kI f) = some (nV (Ue17.bit x.kept)) := by rw [val_kep, fnd_find, hx]; rfl
    have hk : keptAt t f = x.kept := by unfold keptAt; rw [hx]
    have rest : ∀ b : Bool, b = (!decide (f = t.now) && !keptAt t f) → tRet (tAndV (tVar 1) (tOp rEq (tCB (fun xs H Q => ∃ p ys, xs = [.ref p] ∧ (SqL K H p ys ∨ SqT K H p ys) ∧ Q (.int ys.length) H) (tCons (tMeth CT "made_of" (sp_made_of CT) [] C8.E0 (tVar 0) (tCons (tFld K (tVar 0) "first") tNil)) tNil)) (tC (.int 1)))) { nx := fun _ H' => Q .non H', rt := Q } [some (.ref A.a), some (.bl b)] H := fun b hb => by
      refine ⟨_, rfl, _, rfl, itB (fun c => ?_) (fun c => ?_)⟩
      · refine ⟨_, rfl, A.a, dx, _, rfl, h1, tF_no_made_of, _, rfl, A.a, CT, dx, _, _, rfl, h1, T.clT, T.nT_first, tF_first, A, X, f, t, f, rfl, TR, WFt.inc, by omega, fun r H2 nr s2 hr2 => ?_⟩
        refine ⟨r, _, rfl, .inl (SqL.of hr2), rfl, fin_b (k H2 s2) ?_⟩
        unfold fmg
        rw [← hb, c, Bool.true_and]
        exact dec_int (by rw [iv_len]; omega)
      · refine fin_b (k H (Same.refl H)) ?_
        unfold fmg
        rw [← hb, c, Bool.false_and]
    refine ⟨_, (pss_cons (ps_set (i := 1) sc_Tree_first_may_go.nd rfl (Or.inl rfl) (pe_and (pe_cmpR op_ne (pe_fld (pv 0) rfl) (pe_fld (pv 0) rfl) (nomark _)) (pe_one (pe_cmpR op_eq (pe_dget (by exact hu) (pe_fld (pv 0) rfl) (pe_fld (pv 0) rfl) (fun _ _ => rfl)) pe_int (nomark _)))))
      (pss_one (ps_ret (pe_and (pv 1) (pe_one (pe_cmpR op_eq (pe_callB call_len_seq (by rfl) T.b_len PySem.boot_len (pa_cons (C8.pe_mt (ok_Tree_made_of T) hr (by decide) (pv 0) (pa_cons (pe_fld (pv 0) rfl) pa_nil)) pa_nil)) pe_int (nomark _))))))) , ?_⟩
    refine ⟨_, rfl, A.a, CT, dx, _, _, rfl, h1, T.clT, T.nT_first, tF_first, _, rfl, A.a, CT, dx, _, _, rfl, h1, T.clT, T.nT_now, tF_now, rfl, _, rfl, itNI (fun e1 => ?_) (fun e1 => ?_)⟩
    · refine ⟨_, rfl, A.a, CT, dx, _, _, rfl, h1, T.clT, T.nT_kept, tF_kept, _, rfl, A.a, CT, dx, _, _, rfl, h1, T.clT, T.nT_first, tF_first, A.ke, _, rfl, dget_of TR.ke hv, rfl, ?_⟩
      refine rest _ ?_
      rw [decide_eq_false (show ¬ f = t.now from fun z => e1 (by rw [z])), hk]
      cases hkk : x.kept <;> decide
    · refine rest _ ?_
      rw [decide_eq_true (show f = t.now by omega)]
      rfl
end
end TT
end
section
set_option maxHeartbeats 2000000
namespace TT
open PySem PySem.Spec PyProof.Rows L2
open Ue17 (Node)
def kvP (y : Nat × Nat) : Key × V := (kI y.1, nV y.2)
theorem kvP_drop {a b : List (Nat × Nat)} {y : Nat × Nat} (ha : ∀ x ∈ a, x.1 ≠ y.1) (hb : ∀ x ∈ b, x.1 ≠ y.1) : dropK ((a ++ y :: b).map kvP) (kI y.1) = (a ++ b).map kvP := by
  have no : ∀ {l : List (Nat × Nat)}, (∀ x ∈ l, x.1 ≠ y.1) → dropK (l.map kvP) (kI y.1) = l.map kvP := fun {l} h => dropK_no fun m => by
    obtain ⟨z, hz, e⟩ := List.mem_map.mp m
    obtain ⟨x, hx, rfl⟩ := List.mem_map.mp hz
    exact h x hx (kI_inj e)
  rw [List.map_append, List.map_cons, dropK_append, no ha, dropK_pos (p := kvP y) (k := kI y.1) rfl, no hb, List.map_append]
theorem kvP_val {a b : List (Nat × Nat)} {y : Nat × Nat} (ha : ∀ x ∈ a, x.1 ≠ y.1) : valV ((a ++ y :: b).map kvP) (kI y.1) = some (nV y.2) := by
  induction a with
  | nil => exact valV_pos (p := kvP y) (k := kI y.1) rfl
  | cons x a ih =>
    show valV (kvP x :: (a ++ y :: b).map kvP) (kI y.1) = _
    rw [valV_neg (fun q => ha x List.mem_cons_self (kI_inj q)), ih fun z hz => ha z (List.mem_cons_of_mem _ hz)]
section
variable {P : Program} {w : World} {K : PySem.W.Frag} {mg : Str → Option Value} {base : Heap} {CT CD CE : Addr}
def sp_drop (C : Addr) : Sp := fun vs H Q _ => ∃ (A : TA) (X : List Addr) (f : Nat) (t : UT) (n : Nat), vs = [.ref A.a, nV n] ∧ TreeAt C X H A f t ∧ (Ue17.find t n).isSome = true ∧ (t.last.map fun y => y.1).Nodup ∧
  ∀ H', TreeAt C X H' A f (dropT t n) → Fr A.mut H H' → Q .non H'
theorem ok_Tree_drop (T : Txt K mg CT CD CE) : C8.Met P w K mg base 1 CT "drop" (sp_drop CT) [] := by
  refine T.d_Tree_drop.ok T.clT sc_Tree_drop (fun vs H Q E h => ?_) (fun f cdv A outer s H vs Q E hr h => ?_)
  · obtain ⟨A, X, f, t, n, rfl, _⟩ := h
    rfl
  · obtain ⟨A, X, f, t, n, rfl, TR, hn, hnd, k⟩ := h
    have hu := hu_of hr
    obtain ⟨dx, tx, h1, h2, h3⟩ := TR.ins
    obtain ⟨n1, n2, n3, n4, m1, m2, m3, c1, c2, d1⟩ := TA.nes TR.ap
    obtain ⟨ca, hc, ho⟩ := TR.ch
    obtain ⟨x0, hx0⟩ := Option.isSome_iff_exists.mp hn
    refine ⟨_, (pss_cons (ps_expr (pe_dpop1 (pe_fld (pv 0) rfl) (pv 1) ⟨rfl, rfl, rfl, rfl⟩))
      (C8.pss_cut (ps_expr (pe_dpop2 (pe_fld (pv 0) rfl) (pv 1) pe_non ⟨rfl, rfl, rfl, rfl⟩))
      (C8.pss_cut (ps_expr (pe_dpop2 (pe_fld (pv 0) rfl) (pv 1) pe_non ⟨rfl, rfl, rfl, rfl⟩))
      (pss_one (ps_for PassesOwn.never rfl (pi_list (pe_callTy (call_list_dK rfl) (by rfl) T.b_list (by decide +kernel) (pa_cons (pe_fld (pv 0) rfl) pa_nil))) (pg_name (i := 2) sc_Tree_drop.nd rfl (Or.inl rfl))
        (pss_one (ps_if (PW.pt (pw_or (pt_cmpR op_eq (pv 2) (pv 1) (nomark _)) (pw_or1 (pt_cmpR op_eq (pe_dget (by exact hu) (pe_fld (pv 0) rfl) (pv 2) (fun _ _ => rfl)) (pv 1) (nomark _)))))
            (pss_one (ps_expr (pe_dpop1 (pe_fld (pv 0) rfl) (pv 2) ⟨rfl, rfl, rfl, rfl⟩)))
            pss_nil))))))) , ?_⟩
    refine ⟨_, rfl, A.a, CT, dx, _, _, rfl, h1, T.clT, T.nT_kept, tF_kept, A.ke, rfl, .inl ⟨_, .inl TR.ke⟩, _, rfl, _, kI n, nV (Ue17.bit x0.kept), TR.ke, rfl, by rw [val_kep, fnd_find, hx0]; rfl, ?_⟩
    generalize hH_ : upd _ A.ke _ = H1; obtain ⟨g1, k1⟩ := ups hH_; clear hH_
    rw [drop_kep] at g1
    have hpa1 := k1 _ _ TR.pa m2
    have hc1 := k1 _ _ hc c1
    have hps1 := k1 _ _ TR.ps d1.symm
    have hi1 := k1 _ _ h1 n3
    refine ⟨fun σ' H' => σ' = [some (.ref A.a), some (nV n), none] ∧ H' A.pa = some (.dK (dropK (parKV t.nodes) (kI n))) ∧ ∀ b u, H1 b = some u → b ≠ A.pa → H' b = some u, ⟨_, rfl, A.a, CT, dx, _, _, rfl, hi1, T.clT, T.nT_parents, tF_parents, A.pa, rfl, .inl ⟨_, .inl hpa1⟩, _, rfl, _, kI n, hpa1, rfl, fun v hv => ?_, fun hv => ?_⟩, fun σ2 H2 hM => ?_⟩
    · exact ⟨rfl, upd_same, fun b u e q => by rw [upd_ne q]; exact e⟩
    · exact ⟨rfl, by rw [dropK_no (valV_not hv)]; exact hpa1, fun b u e _ => e⟩
    obtain ⟨rfl, g2, k2⟩ := hM
    rw [drop_par] at g2
    have hc2 := k2 _ _ hc1 m1.symm
    have hi2 := k2 _ _ hi1 n1
    refine ⟨fun σ' H' => σ' = [some (.ref A.a), some (nV n), none] ∧ H' A.ch = some (.dK (dropK (chKV ca t.nodes) (kI n))) ∧ ∀ b u, H2 b = some u → b ≠ A.ch → H' b = some u, ⟨_, rfl, A.a, CT, dx, _, _, rfl, hi2, T.clT, T.nT_changes, tF_changes, A.ch, rfl, .inl ⟨_, .inl hc2⟩, _, rfl, _, kI n, hc2, rfl, fun v hv => ?_, fun hv => ?_⟩, fun σ3 H3 hM => ?_⟩
    · exact ⟨rfl, upd_same, fun b u e q => by rw [upd_ne q]; exact e⟩
    · exact ⟨rfl, by rw [dropK_no (valV_not hv)]; exact hc2, fun b u e _ => e⟩
    obtain ⟨rfl, g3, k3⟩ := hM
    rw [drop_ch] at g3
    have hi3 := k3 _ _ hi2 n2
    have hps3 := k3 _ _ (k2 _ _ hps1 m3.symm) c2.symm
    have s3 : Fr A.mut H H3 := ((Fr.ups k1 (by simp)).trans (Fr.ups k2 (by simp))).trans (Fr.ups k3 (by simp))
    refine ⟨_, rfl, A.a, CT, dx, _, _, rfl, hi3, T.clT, T.nT_passed, tF_passed, A.ps, _, rfl, hps3, ?_⟩
    intro q nq; generalize hH_q : upd _ q _ = H4; have s4 := snew nq hH_q; have hq := hnew hH_q; clear hH_q
    have ekeys : ((pasKV t.last).map fun kv => kV kv.1) = iv (t.last.reverse.map fun y => y.1) := by
      unfold pasKV iv
      rw [List.map_map, List.map_map]
      rfl
    rw [ekeys] at hq
    have hkp : pasKV t.last = t.last.reverse.map kvP := rfl
    have rnd : (t.last.reverse.map fun y => y.1).Nodup := by rw [List.map_reverse]; exact List.pairwise_reverse.mpr (hnd.imp fun h => h.symm)
    let kp : Nat × Nat → Bool := fun y => y.1 != n && y.2 != n
    refine ⟨q, rfl, ⟨_, SqL.of hq⟩, for_list (K := K) (a := q) (xs := iv (t.last.reverse.map fun y => y.1)) (fun i σ H' => ∃ v2, σ = [some (.ref A.a), some (nV n), v2] ∧ Fr [A.ps] H4 H' ∧ H' A.ps = some (.dK (((t.last.reverse.take i).filter kp ++ t.last.reverse.drop i).map kvP)))
      ⟨none, rfl, Fr.refl _ _, by rw [s4 _ _ hps3, hkp]; rfl⟩ (fun i σ H' _ pv => by obtain ⟨v2, _, sv, _⟩ := pv; exact SqL.of (sv _ _ hq (by simp; exact fun z => by rw [z, hps3] at nq; cases nq))) (fun i y0 σ H' hy0 pv => ?_) (fun σ H' pv => ?_)⟩
    · obtain ⟨v2, rfl, sv, hd⟩ := pv
      obtain ⟨m, hm, rfl⟩ := iv_get' hy0
      obtain ⟨y, hy, rfl⟩ := map_get' hm
      obtain ⟨hi, ey⟩ := List.getElem?_eq_some_iff.mp hy
      have edr : t.last.reverse.drop i = y :: t.last.reverse.drop (i + 1) := by rw [← ey, ← List.drop_eq_getElem_cons hi]
      rw [edr] at hd
      have esp : t.last.reverse = t.last.reverse.take i ++ y :: t.last.reverse.drop (i + 1) := by rw [← edr, List.take_append_drop]
      have rnd2 := rnd
      rw [esp, List.map_append, List.map_cons] at rnd2
      have na : ∀ x ∈ (t.last.reverse.take i).filter kp, x.1 ≠ y.1 := fun x hx e => by
        have := (List.nodup_append.mp rnd2).2.2 x.1 (List.mem_map.mpr ⟨x, (List.mem_filter.mp hx).1, rfl⟩) y.1 List.mem_cons_self
        exact this e
      have nb : ∀ x ∈ t.last.reverse.drop (i + 1), x.1 ≠ y.1 := fun x hx e => by
        have := (List.nodup_cons.mp (List.nodup_append.mp rnd2).2.1).1
        exact this (by rw [← e]; exact List.mem_map.mpr ⟨x, hx, rfl⟩)
      have hiA := sv _ _ (s4 _ _ hi3) (by simp [n4])
      have etk : (t.last.reverse.take (i + 1)).filter kp = (t.last.reverse.take i).filter kp ++ (if kp y = true then [y] else []) := by
        rw [take_snoc hy, List.filter_append, List.filter_cons]
        rfl
      have pop : kp y = false → ∃ v2, ([some (V.ref A.a), some (nV n), some (nV y.1)] : L2.St) = [some (.ref A.a), some (nV n), v2] ∧ Fr [A.ps] H4 (upd H' A.ps (.dK (dropK (((t.last.reverse.take i).filter kp ++ y :: t.last.reverse.drop (i + 1)).map kvP) (kI y.1)))) ∧ (upd H' A.ps (.dK (dropK (((t.last.reverse.take i).filter kp ++ y :: t.last.reverse.drop (i + 1)).map kvP) (kI y.1)))) A.ps = some (.dK (((t.last.reverse.take (i + 1)).filter kp ++ t.last.reverse.drop (i + 1)).map kvP)) := fun hk => by
        refine ⟨_, rfl, sv.trans (Fr.upd (by simp)), ?_⟩
        rw [upd_same, kvP_drop na nb, etk, hk, if_neg (by decide), List.append_nil]
      have keep : kp y = true → ∃ v2, ([some (V.ref A.a), some (nV n), some (nV y.1)] : L2.St) = [some (.ref A.a), some (nV n), v2] ∧ Fr [A.ps] H4 H' ∧ H' A.ps = some (.dK (((t.last.reverse.take (i + 1)).filter kp ++ t.last.reverse.drop (i + 1)).map kvP)) := fun hk => by
        refine ⟨_, rfl, sv, ?_⟩
        rw [hd, etk, hk, if_pos rfl, List.append_assoc]
        rfl
      have hval := kvP_val (b := t.last.reverse.drop (i + 1)) na
      refine ⟨_, rfl, _, rfl, rfl, _, rfl, itI (fun e1 => iteT ?_) (fun e1 => ?_)⟩
      · refine ⟨_, rfl, A.a, CT, dx, _, _, rfl, hiA, T.clT, T.nT_passed, tF_passed, A.ps, rfl, .inl ⟨_, .inl hd⟩, _, rfl, _, kI y.1, _, hd, rfl, hval, pop ?_⟩
        show (y.1 != n && y.2 != n) = false
        rw [show y.1 = n by omega]
        simp
      · refine ⟨_, rfl, A.a, CT, dx, _, _, rfl, hiA, T.clT, T.nT_passed, tF_passed, _, rfl, A.ps, _, rfl, dget_of hd hval, _, rfl, rfl, _, rfl, itI (fun e2 => ?_) (fun e2 => ?_)⟩
        · refine ⟨_, rfl, A.a, CT, dx, _, _, rfl, hiA, T.clT, T.nT_passed, tF_passed, A.ps, rfl, .inl ⟨_, .inl hd⟩, _, rfl, _, kI y.1, _, hd, rfl, hval, pop ?_⟩
          show (y.1 != n && y.2 != n) = false
          rw [show y.2 = n by omega]
          simp
        · refine keep ?_
          show (y.1 != n && y.2 != n) = true
          have a1 : y.1 ≠ n := fun z => e1 (by rw [z])
          have a2 : y.2 ≠ n := fun z => e2 (by rw [z])
          simp [a1, a2]
    · obtain ⟨v2, rfl, sv, hd⟩ := pv
      rw [iv_len, List.length_map, List.take_length, List.drop_length, List.append_nil] at hd
      have s5 : Fr A.mut H H' := s3.trans ((Fr.of s4).trans (sv.mono fun b hb => by rw [List.mem_singleton.mp hb]; simp))
      have up : ∀ {b o}, H3 b = some o → b ≠ A.ps → H' b = some o := fun {b o} e z => sv _ _ (s4 _ _ e) (by simp [z])
      refine k H' (TR.mk' (t' := dropT t n) s5 ⟨dx, tx, up hi3 n4, TR.keep s5 h2 rfl, h3⟩ (up (k3 _ _ g2 m1) m3) ⟨ca, up g3 c2, ?_, ?_⟩ (up (k3 _ _ (k2 _ _ g1 m2.symm) c1.symm) d1) ?_) s5
      · intro x hx hp
        exact (TR.chok s5 ho).tup x (List.mem_filter.mp hx).1 hp
      · intro x hx hp
        exact (TR.chok s5 ho).lst x (List.mem_filter.mp hx).1 hp
      · rw [hd]
        show some (HO.dK ((t.last.reverse.filter kp).map kvP)) = some (HO.dK (pasKV (t.last.filter kp)))
        rw [List.filter_reverse]
        rfl
/-! the heir -/
def heirG (c : Nat) : Node → Node := fun y => if y.number = c then { y with parent := none, change := Ue17.NOTHING } else y
theorem heir_num (c : Nat) (x : Node) : (heirG c x).number = x.number := by unfold heirG; split <;> rfl
theorem heir_kep (c : Nat) (ns : List Node) : kepKV (ns.map (heirG c)) = kepKV ns := by
  unfold kepKV
  rw [List.map_map]
  refine List.map_congr_left fun x _ => ?_
  show (kI (heirG c x).number, nV (Ue17.bit (heirG c x).kept)) = _
  rw [heir_num]
  unfold heirG
  split <;> rfl
theorem heir_fm {g : Nat → Nat → V} (c : Nat) : ∀ ns : List Node, ((ns.map (heirG c)).filterMap fun x => x.parent.map fun p => (kI x.number, g x.number p)) = dropK (ns.filterMap fun x => x.parent.map fun p => (kI x.number, g x.number p)) (kI c)
  | [] => rfl
  | x :: ns => by
    have ih := heir_fm (g := g) c ns
    rw [List.map_cons]
    by_cases e : x.number = c
    · have : (heirG c x).parent = none := by unfold heirG; rw [if_pos e]
      rw [List.filterMap_cons_none (by rw [this]; rfl), ih]
      cases hp : x.parent with
      | none => rw [List.filterMap_cons_none (by rw [hp]; rfl)]
      | some p => rw [List.filterMap_cons_some (b := (kI x.number, g x.number p)) (by rw [hp]; rfl), dropK_pos (by rw [e])]
    · have : heirG c x = x := by unfold heirG; rw [if_neg e]
      rw [this]
      cases hp : x.parent with
      | none => rw [List.filterMap_cons_none (by rw [hp]; rfl), List.filterMap_cons_none (by rw [hp]; rfl), ih]
      | some p => rw [List.filterMap_cons_some (b := (kI x.number, g x.number p)) (by rw [hp]; rfl), List.filterMap_cons_some (b := (kI x.number, g x.number p)) (by rw [hp]; rfl), dropK_neg (fun q => e (kI_inj q)), ih]
def sp_drop_first (C : Addr) : Sp := fun vs H Q _ => ∃ (A : TA) (X : List Addr) (f : Nat) (t : UT) (nB c : Nat), vs = [.ref A.a] ∧ TreeAt C X H A f t ∧ WF f t nB ∧ nB ≤ 300 ∧ Ue17.children t f = [c] ∧
  ∀ H', TreeAt C X H' A c (firstT t f c) → Fr A.mut H H' → Q .non H'
theorem ok_Tree_drop_first (T : Txt K mg CT CD CE) : C8.Met P w K mg base 4 CT "drop_first" (sp_drop_first CT) [] := by
  refine T.d_Tree_drop_first.ok T.clT sc_Tree_drop_first (fun vs H Q E h => ?_) (fun f cdv A outer s H vs Q E hr h => ?_)
  · obtain ⟨A, X, f, t, nB, c, rfl, _⟩ := h
    rfl
  · obtain ⟨A, X, f, t, nB, c, rfl, TR, WFt, hB, hch, k⟩ := h
    have hu := hu_of hr
    have hlen := WFt.len
    obtain ⟨dx, tx, h1, h2, h3⟩ := TR.ins
    obtain ⟨n1, n2, n3, n4, m1, m2, m3, c1, c2, d1⟩ := TA.nes TR.ap
    obtain ⟨y, hy, ey, py⟩ := mem_children.mp (show c ∈ Ue17.children t f by rw [hch]; exact List.mem_singleton.mpr rfl)
    obtain ⟨x0, hx0, ex0, px0⟩ := WFt.ffind
    have hcf : c ≠ f := fun z => by
      have := mem_inj WFt.nd hy (find_some hx0).1 (by rw [ey, ex0, z])
      rw [this, px0] at py
      cases py
    refine ⟨_, (pss_cons (ps_set (i := 1) sc_Tree_drop_first.nd rfl (Or.inl rfl) (pe_ix ix_list (C8.pe_mt (ok_Tree_made_of T) hr (by decide) (pv 0) (pa_cons (pe_fld (pv 0) rfl) pa_nil)) pe_int (fun _ _ => rfl)))
      (pss_cons (ps_fld (pv 0) (C8.pe_mt (ok_Tree_text_of T) hr (by decide) (pv 0) (pa_cons (pv 1) pa_nil)) rfl)
      (pss_cons (ps_expr (C8.pe_mt (ok_Tree_drop T) hr (by decide) (pv 0) (pa_cons (pe_fld (pv 0) rfl) pa_nil)))
      (pss_cons (ps_expr (pe_dpop1 (pe_fld (pv 0) rfl) (pv 1) ⟨rfl, rfl, rfl, rfl⟩))
      (pss_cons (ps_expr (pe_dpop1 (pe_fld (pv 0) rfl) (pv 1) ⟨rfl, rfl, rfl, rfl⟩))
      (pss_one (ps_fld (pv 0) (pv 1) rfl))))))) , ?_⟩
    refine ⟨_, rfl, A.a, dx, _, rfl, h1, tF_no_made_of, _, rfl, A.a, CT, dx, _, _, rfl, h1, T.clT, T.nT_first, tF_first, A, X, f, t, f, rfl, TR, WFt.inc, by omega, fun r H1 nr s1 hr1 => ?_⟩
    rw [hch] at hr1
    refine ⟨r, _, 0, nV c, rfl, rfl, SqL.of hr1, rfl, ?_⟩
    have T1 := TR.same s1
    refine ⟨_, rfl, A.a, dx, _, rfl, s1 _ _ h1, tF_no_text_of, _, rfl, A, X, f, t, c, nB, rfl, T1, WFt.wt, hB, fun p H2 s2 hp npx => ?_⟩
    have T2 := T1.same s2
    have hi2 := s2 _ _ (s1 _ _ h1)
    refine ⟨_, rfl, A.a, CT, dx, _, rfl, hi2, T.clT, T.nT_first_text, (by show 9 < 1000; decide), ?_⟩
    rw [tF_put_first_text]
    generalize hH_ : upd _ A.a _ = H3; obtain ⟨g3, k3⟩ := ups hH_; clear hH_
    have npa : p ≠ A.a := ne_kind hp hi2 (by intro z; cases z)
    have T3 : TreeAt CT X H3 A f { t with base := Ue17.textAt t c } := T2.own (t' := { t with base := Ue17.textAt t c }) (Fr.ups k3 (by simp)) g3 (k3 _ _ hp npa) npx rfl rfl
    refine ⟨_, rfl, A.a, dx, _, rfl, g3, tF_no_drop, _, rfl, A.a, CT, dx, _, _, rfl, g3, T.clT, T.nT_first, tF_first, A, X, f, _, f, rfl, T3, ?_, WFt.lnd, fun H4 T4 s4 => ?_⟩
    · show (Ue17.find t f).isSome = true
      rw [hx0]; rfl
    obtain ⟨dx4, tx4, e1, e2, e3⟩ := T4.ins
    obtain ⟨ca, hc4, ho4⟩ := T4.ch
    have hyf : y ∈ t.nodes.filter fun z => z.number != f := List.mem_filter.mpr ⟨hy, by rw [ey]; simp [hcf]⟩
    have ndf : NdN (t.nodes.filter fun z => z.number != f) := nd_of_inc (WFt.inc.filter _)
    have v1 : valV (parKV (dropT { t with base := Ue17.textAt t c } f).nodes) (kI c) = some (nV f) := by
      show valV (parKV (t.nodes.filter fun z => z.number != f)) (kI c) = _
      rw [val_par _ _ ndf, ← ey, fnd_mem ndf hyf]
      show y.parent.map nV = _
      rw [py]; rfl
    have v2 : valV (chKV ca (dropT { t with base := Ue17.textAt t c } f).nodes) (kI c) = some (.ref (ca c).1) := by
      show valV (chKV ca (t.nodes.filter fun z => z.number != f)) (kI c) = _
      rw [val_ch _ _ _ ndf, ← ey, fnd_mem ndf hyf]
      show (y.parent.map fun _ => _) = _
      rw [py]; rfl
    refine ⟨_, rfl, A.a, CT, dx4, _, _, rfl, e1, T.clT, T.nT_parents, tF_parents, A.pa, rfl, .inl ⟨_, .inl T4.pa⟩, _, rfl, _, kI c, _, T4.pa, rfl, v1, ?_⟩
    generalize hH_ : upd _ A.pa _ = H5; obtain ⟨g5, k5⟩ := ups hH_; clear hH_
    refine ⟨_, rfl, A.a, CT, dx4, _, _, rfl, k5 _ _ e1 n1, T.clT, T.nT_changes, tF_changes, A.ch, rfl, .inl ⟨_, .inl (k5 _ _ hc4 m1.symm)⟩, _, rfl, _, kI c, _, k5 _ _ hc4 m1.symm, rfl, v2, ?_⟩
    generalize hH_ : upd _ A.ch _ = H6; obtain ⟨g6, k6⟩ := ups hH_; clear hH_
    have hi6 := k6 _ _ (k5 _ _ e1 n1) n2
    refine ⟨_, rfl, _, rfl, A.a, CT, dx4, _, rfl, hi6, T.clT, T.nT_first, (by show 9 < 1000; decide), ?_⟩
    rw [tF_put_first]
    generalize hH_ : upd _ A.a _ = H7; obtain ⟨g7, k7⟩ := ups hH_; clear hH_
    have s7 : Fr A.mut H4 H7 := ((Fr.ups k5 (by simp)).trans (Fr.ups k6 (by simp))).trans (Fr.ups k7 (by simp))
    have elast : (t.last.filter fun z => z.1 != f && z.2 != f) = t.last.filter fun z => z.1 != f := List.filter_congr fun z hz => by
      obtain ⟨x, hx, q1, q2⟩ := WFt.lch z hz
      have : z.2 ≠ f := fun q => by
        have := mem_inj WFt.nd hx (find_some hx0).1 (by rw [q1, ex0, q])
        rw [this, px0] at q2
        cases q2
      simp [this]
    have s07 : Fr A.mut H H7 := Fr.same (s1.trans s2) ((Fr.ups k3 (by simp)).trans (s4.trans s7))
    refine k H7 (T4.mk' (t' := firstT t f c) s7 ⟨dx4, tx4, g7, T4.keep s7 e2 rfl, e3⟩ ?_ ⟨ca, ?_, ?_, ?_⟩ ?_ ?_) s07
    · have : H7 A.pa = _ := k7 _ _ (k6 _ _ g5 m1) n1.symm
      rw [this]
      exact congrArg (fun z => some (HO.dK z)) (heir_fm (g := fun _ p => nV p) c (t.nodes.filter fun z => z.number != f)).symm
    · have : H7 A.ch = _ := k7 _ _ g6 n2.symm
      rw [this]
      exact congrArg (fun z => some (HO.dK z)) (heir_fm (g := fun m _ => V.ref (ca m).1) c (t.nodes.filter fun z => z.number != f)).symm
    · intro x hx hp
      obtain ⟨z, hz, rfl⟩ := List.mem_map.mp hx
      by_cases q : z.number = c
      · rw [if_pos q] at hp; cases hp
      · rw [if_neg q] at hp ⊢
        exact (T4.chok s7 ho4).tup z hz hp
    · intro x hx hp
      obtain ⟨z, hz, rfl⟩ := List.mem_map.mp hx
      by_cases q : z.number = c
      · rw [if_pos q] at hp; cases hp
      · rw [if_neg q] at hp ⊢
        exact (T4.chok s7 ho4).lst z hz hp
    · have : H7 A.ke = _ := k7 _ _ (k6 _ _ (k5 _ _ T4.ke m2.symm) c1.symm) n3.symm
      rw [this]
      exact congrArg (fun z => some (HO.dK z)) (heir_kep c (t.nodes.filter fun z => z.number != f)).symm
    · have : H7 A.ps = _ := k7 _ _ (k6 _ _ (k5 _ _ T4.ps m3.symm) c2.symm) n4.symm
      rw [this]
      exact congrArg (fun z => some (HO.dK (pasKV z))) elast
end
end TT
end
section
namespace TT
open Ue17
theorem upFrom_congr {t u : Tree} (h : t.nodes = u.nodes) : ∀ (k n : Nat) (l : List Node), upFrom k t n l = upFrom k u n l
  | 0, _, _ => rfl
  | k + 1, n, l => by
    unfold upFrom
    have e : find t n = find u n := by unfold find; rw [h]
    rw [e]
    cases find u n with
    | none => rfl
    | some x =>
      show (match x.parent with | none => x :: l | some p => upFrom k t p (x :: l)) = (match x.parent with | none => x :: l | some p => upFrom k u p (x :: l))
      cases x.parent with
      | none => rfl
      | some p => exact upFrom_congr h k p (x :: l)
theorem path_congr {t u : Tree} (h : t.nodes = u.nodes) (n : Nat) : path t n = path u n := by
  unfold path
  rw [h]
  exact upFrom_congr h _ _ _
theorem textAt_congr {t u : Tree} (h : t.nodes = u.nodes) (h2 : t.base = u.base) (n : Nat) : textAt t n = textAt u n := by
  unfold textAt
  rw [path_congr h, h2]
theorem lessEnds_deeds (d n : Nat) : ∀ (k : Nat) (t : Tree), lessEnds k { t with deeds := d } n = { lessEnds k t n with deeds := d }
  | 0, _ => rfl
  | k + 1, t => by
    unfold lessEnds
    have e : nextEnd { t with deeds := d } = nextEnd t := rfl
    rw [e]
    by_cases c : t.nodes.length ≤ n
    · rw [if_pos c, if_pos c]
    · rw [if_neg c, if_neg c]
      cases nextEnd t with
      | none => rfl
      | some x => exact lessEnds_deeds d n k (dropT t x.number)
theorem lessFirst_deeds (d n : Nat) : ∀ (k : Nat) (t : Tree), lessFirst k { t with deeds := d } n = { lessFirst k t n with deeds := d }
  | 0, _ => rfl
  | k + 1, t => by
    unfold lessFirst
    by_cases c : t.nodes.length ≤ n
    · rw [if_pos c, if_pos c]
    · rw [if_neg c, if_neg c]
      show (match t.nodes.find? fun x => x.parent.isNone with
        | none => ({ t with deeds := d } : Tree)
        | some x => if x.number = t.now ∨ x.kept = true then { t with deeds := d } else match children t x.number with
          | [c] => lessFirst k { firstT t x.number c with base := textAt { t with deeds := d } c, deeds := d } n
          | _ => { t with deeds := d }) = { (match t.nodes.find? fun x => x.parent.isNone with
        | none => t
        | some x => if x.number = t.now ∨ x.kept = true then t else match children t x.number with
          | [c] => lessFirst k (firstT t x.number c) n
          | _ => t) with deeds := d }
      cases t.nodes.find? fun x => x.parent.isNone with
      | none => rfl
      | some x =>
        show (if x.number = t.now ∨ x.kept = true then ({ t with deeds := d } : Tree) else match children t x.number with
          | [c] => lessFirst k { firstT t x.number c with base := textAt { t with deeds := d } c, deeds := d } n
          | _ => { t with deeds := d }) = { (if x.number = t.now ∨ x.kept = true then t else match children t x.number with
          | [c] => lessFirst k (firstT t x.number c) n
          | _ => t) with deeds := d }
        by_cases q : x.number = t.now ∨ x.kept = true
        · rw [if_pos q, if_pos q]
        · rw [if_neg q, if_neg q]
          split
          · rename_i c hc
            rw [textAt_congr (t := { t with deeds := d }) (u := t) rfl rfl]
            exact lessFirst_deeds d n k (firstT t x.number c)
          · rfl
theorem did0_forget (t : Tree) (n : Nat) : ({ did t (.forget n) with deeds := t.deeds } : Tree) = lessFirst (lessEnds t.nodes.length t n).nodes.length (lessEnds t.nodes.length t n) n := by
  have e1 := lessEnds_deeds (t.deeds + 1) n t.nodes.length t
  show ({ lessFirst (lessEnds t.nodes.length { t with deeds := t.deeds + 1 } n).nodes.length (lessEnds t.nodes.length { t with deeds := t.deeds + 1 } n) n with deeds := t.deeds } : Tree) = _
  rw [e1, lessFirst_deeds (t.deeds + 1) n]
  have hd : ∀ k (t : Tree), (lessFirst k t n).deeds = t.deeds := by
    intro k
    induction k with
    | zero => intro t; rfl
    | succ k ih =>
      intro t
      unfold lessFirst
      split
      · rfl
      · split
        · rfl
        · split
          · rfl
          · split
            · rw [ih]
            · rfl
  have hd2 : ∀ k (t : Tree), (lessEnds k t n).deeds = t.deeds := by
    intro k
    induction k with
    | zero => intro t; rfl
    | succ k ih =>
      intro t
      unfold lessEnds
      split
      · rfl
      · split
        · rfl
        · rw [ih]
  have := hd (lessEnds t.nodes.length t n).nodes.length (lessEnds t.nodes.length t n)
  rw [hd2] at this
  show ({ lessFirst (lessEnds t.nodes.length t n).nodes.length (lessEnds t.nodes.length t n) n with deeds := t.deeds } : Tree) = _
  rw [← this]
/-- one turn of either loop -/
theorem lessEnds_stop {k n : Nat} {t : Tree} (h : t.nodes.length ≤ n ∨ nextEnd t = none) : lessEnds k t n = t := by
  cases k with
  | zero => rfl
  | succ k =>
    unfold lessEnds
    rcases h with h | h
    · rw [if_pos h]
    · rw [h]
      split <;> rfl
theorem lessEnds_go {k n : Nat} {t : Tree} {x : Node} (h : ¬ t.nodes.length ≤ n) (hx : nextEnd t = some x) : lessEnds (k + 1) t n = lessEnds k (dropT t x.number) n := by
  show (if t.nodes.length ≤ n then t else match nextEnd t with | none => t | some x => lessEnds k (dropT t x.number) n) = _
  rw [if_neg h, hx]
theorem nextEnd_some {t : Tree} {x : Node} (h : nextEnd t = some x) : x ∈ t.nodes ∧ x.parent.isSome = true := by
  have h2 := List.find?_some h
  simp only [Bool.and_eq_true] at h2
  exact ⟨List.mem_of_find?_eq_some h, h2.2.1⟩
theorem WF.first_find {f n : Nat} {t : Tree} (W : WF f t n) : ∃ x, (t.nodes.find? fun x => x.parent.isNone) = some x ∧ x.number = f ∧ find t f = some x := by
  obtain ⟨x, hx, e1, e2⟩ := W.ffind
  cases h : t.nodes.find? fun x => x.parent.isNone with
  | none =>
    have := List.find?_eq_none.mp h x (find_some hx).1
    simp [e2] at this
  | some y =>
    have hy := List.mem_of_find?_eq_some h
    have hp : y.parent = none := by
      have := List.find?_some h
      simpa using this
    have : y = x := mem_inj W.nd hy (find_some hx).1 (by rw [W.uniq y hy hp, e1])
    exact ⟨y, rfl, by rw [this, e1], by rw [this]; exact hx⟩
end TT
end
section
set_option maxHeartbeats 2000000
namespace TT
open PySem PySem.Spec PyProof.Rows L2
open Ue17 (Node)
theorem lessFirst_stop {f k n nB : Nat} {t : UT} (W : WF f t nB) (h : t.nodes.length ≤ n ∨ fmg f t = false) : Ue17.lessFirst k t n = t := by
  cases k with
  | zero => rfl
  | succ k =>
    unfold Ue17.lessFirst
    obtain ⟨x, h1, h2, h3⟩ := W.first_find
    by_cases c : t.nodes.length ≤ n
    · rw [if_pos c]
    · rw [if_neg c, h1]
      have hf : fmg f t = false := h.resolve_left c
      show (if x.number = t.now ∨ x.kept = true then t else match Ue17.children t x.number with | [c] => Ue17.lessFirst k (firstT t x.number c) n | _ => t) = t
      by_cases q : x.number = t.now ∨ x.kept = true
      · rw [if_pos q]
      · rw [if_neg q, h2]
        split
        · rename_i c hc
          exfalso
          unfold fmg keptAt at hf
          rw [h3, hc, decide_eq_false (show ¬ f = t.now from fun z => q (.inl (by rw [h2, z])))] at hf
          have : x.kept = false := by cases hk : x.kept with | false => rfl | true => exact absurd (.inr hk) q
          simp [this] at hf
        · rfl
theorem lessFirst_go {f k n nB c : Nat} {t : UT} (W : WF f t nB) (h : ¬ t.nodes.length ≤ n) (hf : fmg f t = true) (hc : Ue17.children t f = [c]) : Ue17.lessFirst (k + 1) t n = Ue17.lessFirst k (firstT t f c) n := by
  obtain ⟨x, h1, h2, h3⟩ := W.first_find
  show (if t.nodes.length ≤ n then t else match t.nodes.find? fun x => x.parent.isNone with
    | none => t
    | some x => if x.number = t.now ∨ x.kept = true then t else match Ue17.children t x.number with | [c] => Ue17.lessFirst k (firstT t x.number c) n | _ => t) = _
  rw [if_neg h, h1]
  unfold fmg keptAt at hf
  rw [h3] at hf
  simp only [Bool.and_eq_true, Bool.not_eq_true', decide_eq_false_iff_not] at hf
  show (if x.number = t.now ∨ x.kept = true then t else match Ue17.children t x.number with | [c] => Ue17.lessFirst k (firstT t x.number c) n | _ => t) = _
  rw [if_neg (by rintro (z | z); exact hf.1.1 (by rw [← h2, z]); rw [hf.1.2] at z; cases z), h2, hc]
theorem fmg_one {f : Nat} {t : UT} (h : fmg f t = true) : ∃ c, Ue17.children t f = [c] := by
  unfold fmg at h
  simp only [Bool.and_eq_true, decide_eq_true_eq] at h
  exact List.length_eq_one_iff.mp h.2
section
variable {P : Program} {w : World} {K : PySem.W.Frag} {mg : Str → Option Value} {base : Heap} {CT CD CE : Addr}
def sp_forget (C : Addr) : Sp := fun vs H Q _ => ∃ (A : TA) (X : List Addr) (f : Nat) (t : UT) (n nB : Nat), vs = [.ref A.a, nV n] ∧ TreeAt C X H A f t ∧ WF f t nB ∧ nB ≤ 300 ∧
  ∀ H' f', TreeAt C X H' A f' (did0 t (.forget n)) → WF f' (did0 t (.forget n)) nB → Fr A.mut H H' → Q .non H'
theorem ok_Tree_forget (T : Txt K mg CT CD CE) : C8.Met P w K mg base 5 CT "forget" (sp_forget CT) [] := by
  refine T.d_Tree_forget.ok T.clT sc_Tree_forget (fun vs H Q E h => ?_) (fun f cdv A outer s H vs Q E hr h => ?_)
  · obtain ⟨A, X, f, t, n, nB, rfl, _⟩ := h
    rfl
  · obtain ⟨A, X, f, t, n, nB, rfl, TR, WFt, hB, k⟩ := h
    obtain ⟨dx, tx, h1, h2, h3⟩ := TR.ins
    have e0 : did0 t (.forget n) = _ := did0_forget t n
    generalize ht2 : Ue17.lessEnds t.nodes.length t n = t2 at e0
    refine ⟨_, (pss_cons (ps_set (i := 2) sc_Tree_forget.nd rfl (Or.inl rfl) (C8.pe_mt0 (ok_Tree_lowest_free_end T) hr (by decide) (pv 0)))
      (pss_cons (ps_while PassesOwn.never (PW.pt (pw_and (pt_cmpR op_gt (pe_callB call_lenD (by rfl) T.b_len PySem.boot_len (pa_cons (pe_fld (pv 0) rfl) pa_nil)) (pv 1) (nomark _)) (pw_and1 (pt_cmpR op_notN (pv 2) pe_non (nomark _)))))
        (pss_cons (ps_expr (C8.pe_mt (ok_Tree_drop T) hr (by decide) (pv 0) (pa_cons (pv 2) pa_nil)))
          (pss_one (ps_set (i := 2) sc_Tree_forget.nd rfl (Or.inl rfl) (C8.pe_mt0 (ok_Tree_lowest_free_end T) hr (by decide) (pv 0))))))
      (pss_one (ps_while PassesOwn.never (PW.pt (pw_and (pt_cmpR op_gt (pe_callB call_lenD (by rfl) T.b_len PySem.boot_len (pa_cons (pe_fld (pv 0) rfl) pa_nil)) (pv 1) (nomark _)) (pw_and1 (pt_val (C8.pe_mt0 (ok_Tree_first_may_go T) hr (by decide) (pv 0))))))
        (pss_one (ps_expr (C8.pe_mt0 (ok_Tree_drop_first T) hr (by decide) (pv 0)))))))) , ?_⟩
    refine ⟨_, rfl, A.a, dx, _, rfl, h1, tF_no_lowest_free_end, A, X, f, t, nB, rfl, TR, WFt, hB, fun H1 s1 => ?_⟩
    let W : Nat → L2.St → Hp → Prop := fun m σ H' => ∃ t1 : UT, σ = [some (.ref A.a), some (nV n), some (oV ((Ue17.nextEnd t1).map fun x => x.number))] ∧ TreeAt CT X H' A f t1 ∧ WF f t1 nB ∧ Fr A.mut H H' ∧ Ue17.lessEnds m t1 n = t2 ∧ t1.nodes.length ≤ m
    refine ⟨W, ⟨t.nodes.length, t, rfl, TR.same s1, WFt, Fr.of s1, ht2, Nat.le_refl _⟩, fun m σ H2 hW => ?_⟩
    obtain ⟨t1, rfl, T1, W1, s2, el, hm⟩ := hW
    obtain ⟨dx1, tx1, g1, g2, g3⟩ := T1.ins
    have hk1 : (kepKV t1.nodes).length = t1.nodes.length := List.length_map ..
    have after : t1.nodes.length ≤ n ∨ Ue17.nextEnd t1 = none → tWhile (tAnd (tTest (tOp (rI0 fun i j => .bl (decide (j < i))) (tCB (fun xs H Q => ∃ a kvs, xs = [V.ref a] ∧ H a = some (.dK kvs) ∧ Q (.int kvs.length) H) (tCons (tFld K (tVar 0) "kept") tNil)) (tVar 1))) (tB (tMeth CT "first_may_go" (sp_first_may_go CT) [] C8.E0 (tVar 0) tNil))) (tDrop (tMeth CT "drop_first" (sp_drop_first CT) [] C8.E0 (tVar 0) tNil)) { nx := fun _ H' => Q .non H', rt := Q } [some (.ref A.a), some (nV n), some (oV ((Ue17.nextEnd t1).map fun x => x.number))] H2 := fun stop => by
      rw [lessEnds_stop stop] at el
      subst el
      let W2 : Nat → L2.St → Hp → Prop := fun m σ H' => ∃ (f1 : Nat) (t3 : UT) (v : Option V), σ = [some (.ref A.a), some (nV n), v] ∧ TreeAt CT X H' A f1 t3 ∧ WF f1 t3 nB ∧ Fr A.mut H H' ∧ Ue17.lessFirst m t3 n = did0 t (.forget n) ∧ t3.nodes.length ≤ m
      refine ⟨W2, ⟨t1.nodes.length, f, t1, _, rfl, T1, W1, s2, e0.symm, Nat.le_refl _⟩, fun m σ H3 hW => ?_⟩
      obtain ⟨f1, t3, v, rfl, T3, W3, s3, el3, hm3⟩ := hW
      obtain ⟨dx3, tx3, q1, q2, q3⟩ := T3.ins
      have hk3 : (kepKV t3.nodes).length = t3.nodes.length := List.length_map ..
      have fin : ∀ H4, Same H3 H4 → (t3.nodes.length ≤ n ∨ fmg f1 t3 = false) → Q .non H4 := fun H4 s4 st => by
        rw [lessFirst_stop W3 st] at el3
        rw [el3] at T3 W3
        exact k H4 f1 (T3.same s4) W3 (s3.trans (Fr.of s4))
      refine ⟨_, rfl, A.a, CT, dx3, _, _, rfl, q1, T.clT, T.nT_kept, tF_kept, A.ke, _, rfl, T3.ke, _, rfl, _, _, rfl, rfl, _, rfl, itD (fun c => ?_) (fun c => ?_)⟩
      · rw [hk3] at c
        refine ⟨_, rfl, A.a, dx3, _, rfl, q1, tF_no_first_may_go, A, X, f1, t3, nB, rfl, T3, W3, hB, fun H4 s4 => ⟨_, rfl, itB (fun b => ?_) (fun b => ?_)⟩⟩
        · obtain ⟨cc, hcc⟩ := fmg_one b
          obtain ⟨m', rfl⟩ : ∃ m', m = m' + 1 := ⟨m - 1, by omega⟩
          refine ⟨fun σ' H' => ∃ m'', m'' < m' + 1 ∧ W2 m'' σ' H', fun _ _ z => z, ?_⟩
          refine ⟨_, rfl, A.a, dx3, _, rfl, s4 _ _ q1, tF_no_drop_first, A, X, f1, t3, nB, cc, rfl, T3.same s4, W3, hB, hcc, fun H5 T5 s5 => ?_⟩
          refine ⟨m', Nat.lt_succ_self _, cc, firstT t3 f1 cc, _, rfl, T5, W3.first hcc, s3.trans ((Fr.of s4).trans s5), ?_, ?_⟩
          · rw [← el3, lessFirst_go W3 (by omega) b hcc]
          · obtain ⟨x, hx, ex, _⟩ := W3.ffind
            have := filter_len W3 (find_some hx).1
            rw [ex] at this
            show ((t3.nodes.filter fun y => y.number != f1).map _).length ≤ m'
            rw [List.length_map]
            omega
        · exact fin H4 s4 (.inr b)
      · rw [hk3] at c
        exact fin H3 (Same.refl H3) (.inl (by omega))
    refine ⟨_, rfl, A.a, CT, dx1, _, _, rfl, g1, T.clT, T.nT_kept, tF_kept, A.ke, _, rfl, T1.ke, _, rfl, _, _, rfl, rfl, _, rfl, itD (fun c => ?_) (fun c => ?_)⟩
    · rw [hk1] at c
      refine ⟨_, rfl, rfl, _, rfl, itND (fun b => ?_) (fun b => ?_)⟩
      · cases hne : Ue17.nextEnd t1 with
        | none => rw [hne] at b; exact absurd rfl b
        | some x =>
          obtain ⟨hx1, hx2⟩ := nextEnd_some hne
          obtain ⟨m', rfl⟩ : ∃ m', m = m' + 1 := ⟨m - 1, by omega⟩
          refine ⟨fun σ' H' => ∃ m'', m'' < m' + 1 ∧ W m'' σ' H', fun _ _ z => z, ?_⟩
          refine ⟨_, rfl, A.a, dx1, _, rfl, g1, tF_no_drop, _, rfl, A, X, f, t1, x.number, rfl, T1, by rw [find_mem W1.nd hx1]; rfl, W1.lnd, fun H3 T3 s3 => ?_⟩
          have hxf : x.number ≠ f := fun z => by
            obtain ⟨y, hy, ey, py⟩ := W1.ffind
            have := mem_inj W1.nd hx1 (find_some hy).1 (by rw [z, ey])
            rw [this, py] at hx2
            cases hx2
          obtain ⟨dx3, tx3, q1, q2, q3⟩ := T3.ins
          refine ⟨_, rfl, A.a, dx3, _, rfl, q1, tF_no_lowest_free_end, A, X, f, _, nB, rfl, T3, W1.drop hxf, hB, fun H4 s4 => ?_⟩
          refine ⟨m', Nat.lt_succ_self _, dropT t1 x.number, rfl, T3.same s4, W1.drop hxf, s2.trans (s3.trans (Fr.of s4)), ?_, ?_⟩
          · rw [← el, lessEnds_go (by omega) hne]
          · have := filter_len W1 hx1
            show (t1.nodes.filter fun y => y.number != x.number).length ≤ m'
            omega
      · refine after (.inr ?_)
        cases hne : Ue17.nextEnd t1 with
        | none => rfl
        | some x => rw [hne] at b; cases b
    · rw [hk1] at c
      exact after (.inl (by omega))
end
end TT
end
section
namespace TT
open Ue17
def rchg (t : List Nat) (c : Change) : Nat := if fits t c = false ∨ isBytes c.in_ = false then 1 else if 80 < (changed t c).length then 5 else 0
def rmake (t : Tree) (c : Change) : Nat := if rchg (textAt t t.now) c = 0 ∧ 40 ≤ t.given then 5 else rchg (textAt t t.now) c
def rsort (t : Tree) : Deed → Nat
  | .make c => rmake t c
  | .goes n => if (find t n).isSome = true then 0 else 2
  | .keep n _ => if (find t n).isSome = true then 0 else 2
  | .forget n => if 1 ≤ n ∧ n ≤ 255 then 0 else 1
def rdeed (t : Tree) (d : Deed) : Nat := if rsort t d = 0 ∧ 65535 ≤ t.deeds then 6 else rsort t d
theorem changed_len_eq {t : List Nat} {c : Change} (h : c.at_ + c.out ≤ t.length) : (changed t c).length = t.length - c.out + c.in_.length := by
  unfold changed
  simp only [List.length_append, List.length_take, List.length_drop]
  omega
theorem rsort_may (t : Tree) (d : Deed) : rsort t d = 0 ↔ may t d = true := by
  cases d with
  | make c =>
    show rmake t c = 0 ↔ (fits (textAt t t.now) c && (isBytes c.in_ && (decide ((changed (textAt t t.now) c).length ≤ 80) && decide (t.given < 40)))) = true
    unfold rmake rchg
    simp only [Bool.and_eq_true, decide_eq_true_eq]
    cases h1 : fits (textAt t t.now) c <;> cases h2 : isBytes c.in_ <;> simp
    by_cases h3 : 80 < (changed (textAt t t.now) c).length
    · simp [h3]; omega
    · rw [if_neg h3]
      by_cases h4 : 40 ≤ t.given
      · simp [h4]; omega
      · simp [h4]; omega
  | goes n =>
    show (if (find t n).isSome = true then 0 else 2) = 0 ↔ (find t n).isSome = true
    split <;> simp_all
  | keep n k =>
    show (if (find t n).isSome = true then 0 else 2) = 0 ↔ (find t n).isSome = true
    split <;> simp_all
  | forget n =>
    show (if 1 ≤ n ∧ n ≤ 255 then 0 else 1) = 0 ↔ (decide (1 ≤ n) && decide (n < 256)) = true
    simp only [Bool.and_eq_true, decide_eq_true_eq]
    split <;> simp <;> omega
theorem rdeed_may (t : Tree) (d : Deed) : rdeed t d = 0 ↔ may t d = true ∧ t.deeds < 65535 := by
  unfold rdeed
  rw [← rsort_may]
  by_cases h : rsort t d = 0
  · by_cases h2 : 65535 ≤ t.deeds
    · simp [h, h2]
    · simp [h, h2]; omega
  · simp [h]
theorem lessFirst_dd (n : Nat) : ∀ k (t : Tree), (lessFirst k t n).deeds = t.deeds := by
  intro k
  induction k with
  | zero => intro t; rfl
  | succ k ih =>
    intro t
    unfold lessFirst
    split
    · rfl
    · split
      · rfl
      · split
        · rfl
        · split
          · rw [ih]
          · rfl
theorem lessEnds_dd (n : Nat) : ∀ k (t : Tree), (lessEnds k t n).deeds = t.deeds := by
  intro k
  induction k with
  | zero => intro t; rfl
  | succ k ih =>
    intro t
    unfold lessEnds
    split
    · rfl
    · split
      · rfl
      · rw [ih]
theorem did_deeds (t : Tree) (d : Deed) : (did t d).deeds = t.deeds + 1 := by
  cases d with
  | make c => rfl
  | goes n => rfl
  | keep n k => rfl
  | forget n =>
    show (lessFirst _ (lessEnds _ _ n) n).deeds = _
    rw [lessFirst_dd, lessEnds_dd]
theorem WF.deeds {f n : Nat} {t : Tree} (W : WF f t n) (d : Nat) : WF f { t with deeds := d } n := W.of rfl rfl rfl rfl
end TT
end
section
set_option maxHeartbeats 2000000
namespace TT
open PySem PySem.Spec PyProof.Rows L2
open Ue17 (Node)
theorem bodyD_len (d : Ue17.Deed) : 2 ≤ (Ue17.body (.deed d)).length := by cases d <;> simp [Ue17.body]
section
variable {P : Program} {w : World} {K : PySem.W.Frag} {mg : Str → Option Value} {base : Heap} {CT CD CE : Addr}
abbrev N_refusal_of_change : List Str := ["text", "place", "out", "put"]
theorem sc_refusal_of_change : FnScope N_refusal_of_change ["text", "place", "out", "put"] (defScope s_refusal_of_change) := ⟨rfl, rfl, rfl, by decide +kernel, rfl, by decide +kernel, by decide +kernel⟩
abbrev N_refusal_of_make : List Str := ["tree", "deed", "refusal"]
theorem sc_refusal_of_make : FnScope N_refusal_of_make ["tree", "deed"] (defScope s_refusal_of_make) := ⟨rfl, rfl, rfl, by decide +kernel, rfl, by decide +kernel, by decide +kernel⟩
abbrev N_refusal_of_its_sort : List Str := ["tree", "deed"]
theorem sc_refusal_of_its_sort : FnScope N_refusal_of_its_sort ["tree", "deed"] (defScope s_refusal_of_its_sort) := ⟨rfl, rfl, rfl, by decide +kernel, rfl, by decide +kernel, by decide +kernel⟩
abbrev N_refusal_of_deed : List Str := ["tree", "deed", "refusal"]
theorem sc_refusal_of_deed : FnScope N_refusal_of_deed ["tree", "deed"] (defScope s_refusal_of_deed) := ⟨rfl, rfl, rfl, by decide +kernel, rfl, by decide +kernel, by decide +kernel⟩
abbrev N_do_deed : List Str := ["tree", "deed"]
theorem sc_do_deed : FnScope N_do_deed ["tree", "deed"] (defScope s_do_deed) := ⟨rfl, rfl, rfl, by decide +kernel, rfl, by decide +kernel, by decide +kernel⟩
abbrev N_tree_made_by : List Str := ["deeds", "tree", "deed"]
theorem sc_tree_made_by : FnScope N_tree_made_by ["deeds"] (defScope s_tree_made_by) := ⟨rfl, rfl, rfl, by decide +kernel, rfl, by decide +kernel, by decide +kernel⟩
def sp_refusal_of_change : Sp := fun vs H Q _ => ∃ (a b : Addr) (t i : List Nat) (p o : Nat), vs = [.ref a, nV p, nV o, .ref b] ∧ H a = some (.lst (iv t)) ∧ H b = some (.lst (iv i)) ∧ Q (nV (rchg t ⟨p, o, i⟩)) H
theorem isBytes_max {i : List Nat} : Ue17.isBytes i = true ↔ ∀ x ∈ i, x ≤ 255 := by
  unfold Ue17.isBytes
  rw [List.all_eq_true]
  exact ⟨fun h x hx => of_decide_eq_true (h x hx), fun h x hx => decide_eq_true (h x hx)⟩
theorem ok_refusal_of_change (T : Txt K mg CT CD CE) : C8.Cal P w K mg base 1 "refusal_of_change" sp_refusal_of_change [] := by
  refine T.d_refusal_of_change.ok sc_refusal_of_change (fun vs H Q E h => ?_) (fun f cdv A outer s H vs Q E hr h => ?_)
  · obtain ⟨a, b, t, i, p, o, rfl, _⟩ := h
    rfl
  · obtain ⟨a, b, t, i, p, o, rfl, ha, hb, k⟩ := h
    refine ⟨_, (pss_cons (ps_if (PW.pt (pw_or (pt_cmpR op_gt (pe_op op_add (pv 1) (pv 2)) (pe_callB call_len_seq (by rfl) T.b_len PySem.boot_len (pa_cons (pv 0) pa_nil)) (nomark _)) (pw_or1 (pt_cmpR op_gt (pe_callBK (call_maxD rfl hr.units) (by rfl) T.b_max (by decide +kernel) (pa_cons (pv 3) pa_nil) (pk_cons pe_int pk_nil)) (C8.pe_gc (by rfl) T.c_HIGHEST_BYTE) (nomark _)))))
        (pss_one (ps_ret (C8.pe_gc (by rfl) T.c_BEYOND)))
        pss_nil)
      (pss_cons (ps_if (pt_cmpR op_gt (pe_op op_add (pe_op op_sub (pe_callB call_len_seq (by rfl) T.b_len PySem.boot_len (pa_cons (pv 0) pa_nil)) (pv 2)) (pe_callB call_len_seq (by rfl) T.b_len PySem.boot_len (pa_cons (pv 3) pa_nil))) (C8.pe_gc (by rfl) T.c_LONGEST_TEXT) (nomark _))
        (pss_one (ps_ret (C8.pe_gc (by rfl) T.c_FULL)))
        pss_nil)
      (pss_one (ps_ret (C8.pe_gc (by rfl) T.c_GRANTED))))) , ?_⟩
    refine ⟨_, rfl, _, rfl, _, _, rfl, rfl, _, rfl, a, _, rfl, .inl (SqL.of ha), _, _, rfl, rfl, _, rfl, itD (fun c => iteT ?_) (fun c => ?_)⟩
    · rw [iv_len] at c
      refine fin_i k ?_
      unfold rchg
      rw [if_pos (.inl (decide_eq_false (show ¬ p + o ≤ t.length by omega)))]
      rfl
    rw [iv_len] at c
    have hfit : p + o ≤ t.length := by omega
    have hfits : Ue17.fits t ⟨p, o, i⟩ = true := decide_eq_true hfit
    have small : Ue17.isBytes i = true → Q (nV (rchg t ⟨p, o, i⟩)) H → tSeq (tIfS (tTest (tOp (rI0 fun i j => .bl (decide (j < i))) (tOp (rI0 fun i j => .int (i + j)) (tOp (rI0 fun i j => .int (i - j)) (tCB (fun xs H Q => ∃ p ys, xs = [.ref p] ∧ (SqL K H p ys ∨ SqT K H p ys) ∧ Q (.int ys.length) H) (tCons (tVar 0) tNil)) (tVar 2)) (tCB (fun xs H Q => ∃ p ys, xs = [.ref p] ∧ (SqL K H p ys ∨ SqT K H p ys) ∧ Q (.int ys.length) H) (tCons (tVar 3) tNil))) (tC (.int 80)))) (tRet (tC (.int 5))) tNext) (tRet (tC (.int 0))) { nx := fun _ H' => Q .non H', rt := Q } [some (.ref a), some (nV p), some (nV o), some (.ref b)] H := fun hby k => by
      refine ⟨_, rfl, a, _, rfl, .inl (SqL.of ha), _, rfl, _, _, rfl, rfl, _, rfl, b, _, rfl, .inl (SqL.of hb), _, _, rfl, rfl, _, _, rfl, rfl, _, rfl, itD (fun c2 => ?_) (fun c2 => ?_)⟩
      · rw [iv_len, iv_len] at c2
        refine fin_i k ?_
        unfold rchg
        rw [if_neg (by rw [hfits, hby]; simp), if_pos (by rw [changed_len_eq hfit]; show 80 < t.length - o + i.length; omega)]
        rfl
      · rw [iv_len, iv_len] at c2
        refine fin_i k ?_
        unfold rchg
        rw [if_neg (by rw [hfits, hby]; simp), if_neg (by rw [changed_len_eq hfit]; show ¬ 80 < t.length - o + i.length; omega)]
        rfl
    refine ⟨_, rfl, b, zi i, _, rfl, rfl, SqL.of (by rw [← iv_zi]; exact hb), fun e => ?_, fun m hm hx => ?_⟩
    · have ei : i = [] := List.map_eq_nil_iff.mp e
      refine ⟨_, _, rfl, rfl, _, rfl, itD (fun c2 => absurd c2 (by decide)) (fun c2 => ?_)⟩
      exact small (by rw [ei]; rfl) k
    · obtain ⟨m', hm', rfl⟩ := List.mem_map.mp hm
      refine ⟨_, _, rfl, rfl, _, rfl, itD (fun c2 => ?_) (fun c2 => ?_)⟩
      · have c2 : (255 : Int) < (m' : Int) := c2
        refine fin_i k ?_
        unfold rchg
        have hby : Ue17.isBytes i = false := by
          cases hq : Ue17.isBytes i with
          | false => rfl
          | true => have := isBytes_max.mp hq m' hm'; omega
        rw [if_pos (.inr hby)]
        rfl
      · have c2 : ¬ (255 : Int) < (m' : Int) := c2
        exact small (isBytes_max.mpr fun x hx' => by have := hx _ (List.mem_map.mpr ⟨x, hx', rfl⟩); have : (x : Int) ≤ (m' : Int) := this; omega) k
def sp_refusal_of_make (C : Addr) : Sp := fun vs H Q _ => ∃ (A : TA) (X : List Addr) (f : Nat) (t : UT) (nB : Nat) (b : Addr) (c : Ue17.Change), vs = [.ref A.a, .ref b] ∧ TreeAt C X H A f t ∧ WF f t nB ∧ nB ≤ 300 ∧ H b = some (.lst (iv (1 :: c.at_ :: c.out :: c.in_))) ∧ pureV H (nV (rmake t c)) Q
theorem ok_refusal_of_make (T : Txt K mg CT CD CE) : C8.Cal P w K mg base 5 "refusal_of_make" (sp_refusal_of_make CT) [] := by
  refine T.d_refusal_of_make.ok sc_refusal_of_make (fun vs H Q E h => ?_) (fun f cdv A outer s H vs Q E hr h => ?_)
  · obtain ⟨A, X, f, t, nB, b, c, rfl, _⟩ := h
    rfl
  · obtain ⟨A, X, f, t, nB, b, c, rfl, TR, WFt, hB, hb, k⟩ := h
    obtain ⟨dx, tx, h1, h2, h3⟩ := TR.ins
    refine ⟨_, (pss_cons (ps_set (i := 2) sc_refusal_of_make.nd rfl (Or.inl rfl) (C8.pe_c (ok_refusal_of_change T) hr (by decide) (by rfl) (pa_cons (C8.pe_mt0 (ok_Tree_text_now T) hr (by decide) (pv 0)) (pa_cons (pe_ix ix_list (pv 1) pe_int (fun _ _ => rfl)) (pa_cons (pe_ix ix_list (pv 1) pe_int (fun _ _ => rfl)) (pa_cons (pe_slice sl_list (pv 1) (po_some pe_int) po_none) pa_nil))))))
      (pss_cons (ps_if (PW.pt (pw_and (pt_cmpR op_eq (pv 2) (C8.pe_gc (by rfl) T.c_GRANTED) (nomark _)) (pw_and1 (pt_cmpR op_ge (pe_fld (pv 0) rfl) (C8.pe_gc (by rfl) T.c_MOST_NUMBERS) (nomark _)))))
        (pss_one (ps_ret (C8.pe_gc (by rfl) T.c_FULL)))
        pss_nil)
      (pss_one (ps_ret (pv 2))))) , ?_⟩
    refine ⟨_, rfl, A.a, dx, _, rfl, h1, tF_no_text_now, A, X, f, t, nB, rfl, TR, WFt, hB, fun p H1 s1 hp npx => ?_⟩
    have hb1 := s1 _ _ hb
    refine ⟨_, rfl, b, _, _, _, rfl, rfl, SqL.of hb1, iv_at (i := 1) rfl, _, rfl, b, _, _, _, rfl, rfl, SqL.of hb1, iv_at (i := 2) rfl, _, rfl, 3, rfl, b, _, rfl, SqL.of hb1, ?_⟩
    intro q nq; generalize hH_q : upd _ q _ = H2; have s2 := snew nq hH_q; have hq := hnew hH_q; clear hH_q
    rw [show cutV (iv (1 :: c.at_ :: c.out :: c.in_)) (some 3) none = iv c.in_ from iv_cut_n (1 :: c.at_ :: c.out :: c.in_) 3] at hq
    refine ⟨p, q, _, c.in_, c.at_, c.out, rfl, s2 _ _ hp, hq, ?_⟩
    have hg : H2 A.a = _ := s2 _ _ (s1 _ _ h1)
    have er : rchg (Ue17.textAt t t.now) ⟨c.at_, c.out, c.in_⟩ = rchg (Ue17.textAt t t.now) c := rfl
    refine ⟨_, rfl, rfl, _, rfl, itI (fun e => ?_) (fun e => iteF ?_)⟩
    · refine ⟨_, rfl, A.a, CT, dx, _, _, rfl, hg, T.clT, T.nT_given, tF_given, _, _, rfl, rfl, _, rfl, itD (fun c2 => ?_) (fun c2 => ?_)⟩
      · refine fin_i (k H2 (s1.trans s2)) ?_
        unfold rmake
        rw [if_pos ⟨by omega, by omega⟩]
        rfl
      · refine ⟨_, rfl, fin_i (k H2 (s1.trans s2)) ?_⟩
        unfold rmake
        rw [if_neg (by omega)]
    · refine ⟨_, rfl, fin_i (k H2 (s1.trans s2)) ?_⟩
      unfold rmake
      rw [if_neg (by omega)]
def sp_refusal_of_its_sort (C : Addr) : Sp := fun vs H Q _ => ∃ (A : TA) (X : List Addr) (f : Nat) (t : UT) (nB : Nat) (b : Addr) (d : Ue17.Deed), vs = [.ref A.a, .ref b] ∧ TreeAt C X H A f t ∧ WF f t nB ∧ nB ≤ 300 ∧ H b = some (.lst (iv (Ue17.body (.deed d)))) ∧ pureV H (nV (rsort t d)) Q
theorem ok_refusal_of_its_sort (T : Txt K mg CT CD CE) : C8.Cal P w K mg base 6 "refusal_of_its_sort" (sp_refusal_of_its_sort CT) [] := by
  refine T.d_refusal_of_its_sort.ok sc_refusal_of_its_sort (fun vs H Q E h => ?_) (fun f cdv A outer s H vs Q E hr h => ?_)
  · obtain ⟨A, X, f, t, nB, b, d, rfl, _⟩ := h
    rfl
  · obtain ⟨A, X, f, t, nB, b, d, rfl, TR, WFt, hB, hb, k⟩ := h
    obtain ⟨dx, tx, h1, h2, h3⟩ := TR.ins
    refine ⟨_, (pss_cons (ps_if (pt_cmpR op_eq (pe_ix ix_list (pv 1) pe_int (fun _ _ => rfl)) (C8.pe_gc (by rfl) T.c_MAKE) (nomark _))
        (pss_one (ps_ret (C8.pe_c (ok_refusal_of_make T) hr (by decide) (by rfl) (pa_cons (pv 0) (pa_cons (pv 1) pa_nil)))))
        pss_nil)
      (pss_cons (ps_if (pt_cmpR op_eq (pe_ix ix_list (pv 1) pe_int (fun _ _ => rfl)) (C8.pe_gc (by rfl) T.c_FORGET) (nomark _))
        (pss_one (ps_ret (pe_ifExp (pt_chain op_le op_le pe_int (pe_ix ix_list (pv 1) pe_int (fun _ _ => rfl)) (C8.pe_gc (by rfl) T.c_HIGHEST_BYTE)) (C8.pe_gc (by rfl) T.c_GRANTED) (C8.pe_gc (by rfl) T.c_BEYOND))))
        pss_nil)
      (pss_one (ps_ret (pe_ifExp (pt_val (C8.pe_mt (ok_Tree_has T) hr (by decide) (pv 0) (pa_cons (pe_ix ix_list (pv 1) pe_int (fun _ _ => rfl)) pa_nil))) (C8.pe_gc (by rfl) T.c_GRANTED) (C8.pe_gc (by rfl) T.c_MISSING)))))) , ?_⟩
    cases d with
    | make c =>
      refine ⟨_, rfl, b, _, _, _, rfl, rfl, SqL.of hb, iv_at (i := 0) rfl, rfl, _, rfl, itI (fun e => ?_) (fun e => absurd rfl e)⟩
      exact ⟨_, rfl, _, rfl, A, X, f, t, nB, b, c, rfl, TR, WFt, hB, hb, k⟩
    | goes n =>
      refine ⟨_, rfl, b, _, _, _, rfl, rfl, SqL.of hb, iv_at (i := 0) rfl, rfl, _, rfl, itI (fun e => absurd e (by decide)) (fun e => ?_)⟩
      refine ⟨_, rfl, b, _, _, _, rfl, rfl, SqL.of hb, iv_at (i := 0) rfl, rfl, _, rfl, itI (fun e => absurd e (by decide)) (fun e => ?_)⟩
      refine ⟨_, rfl, A.a, dx, _, rfl, h1, tF_no_has, _, rfl, b, _, _, _, rfl, rfl, SqL.of hb, iv_at (i := 1) rfl, A, X, f, t, some n, rfl, TR, _, rfl, itB (fun c => ?_) (fun c => ?_)⟩
      · refine fin_i (k H (Same.refl H)) ?_
        show ((if (Ue17.find t n).isSome = true then 0 else 2 : Nat) : Int) = 0
        rw [if_pos c]; rfl
      · refine fin_i (k H (Same.refl H)) ?_
        have c : (Ue17.find t n).isSome = false := c
        show ((if (Ue17.find t n).isSome = true then 0 else 2 : Nat) : Int) = 2
        rw [if_neg (by rw [c]; decide)]; rfl
    | keep n kb =>
      refine ⟨_, rfl, b, _, _, _, rfl, rfl, SqL.of hb, iv_at (i := 0) rfl, rfl, _, rfl, itI (fun e => absurd e (by decide)) (fun e => ?_)⟩
      refine ⟨_, rfl, b, _, _, _, rfl, rfl, SqL.of hb, iv_at (i := 0) rfl, rfl, _, rfl, itI (fun e => absurd e (by decide)) (fun e => ?_)⟩
      refine ⟨_, rfl, A.a, dx, _, rfl, h1, tF_no_has, _, rfl, b, _, _, _, rfl, rfl, SqL.of hb, iv_at (i := 1) rfl, A, X, f, t, some n, rfl, TR, _, rfl, itB (fun c => ?_) (fun c => ?_)⟩
      · refine fin_i (k H (Same.refl H)) ?_
        show ((if (Ue17.find t n).isSome = true then 0 else 2 : Nat) : Int) = 0
        rw [if_pos c]; rfl
      · refine fin_i (k H (Same.refl H)) ?_
        have c : (Ue17.find t n).isSome = false := c
        show ((if (Ue17.find t n).isSome = true then 0 else 2 : Nat) : Int) = 2
        rw [if_neg (by rw [c]; decide)]; rfl
    | forget n =>
      refine ⟨_, rfl, b, _, _, _, rfl, rfl, SqL.of hb, iv_at (i := 0) rfl, rfl, _, rfl, itI (fun e => absurd e (by decide)) (fun e => ?_)⟩
      refine ⟨_, rfl, b, _, _, _, rfl, rfl, SqL.of hb, iv_at (i := 0) rfl, rfl, _, rfl, itI (fun e => ?_) (fun e => absurd rfl e)⟩
      refine ⟨_, rfl, b, _, _, _, rfl, rfl, SqL.of hb, iv_at (i := 1) rfl, _, _, rfl, rfl, _, rfl, itD (fun c => ?_) (fun c => ?_)⟩
      · refine ⟨_, _, rfl, rfl, _, rfl, itD (fun c2 => ?_) (fun c2 => ?_)⟩
        · refine fin_i (k H (Same.refl H)) ?_
          show ((if 1 ≤ n ∧ n ≤ 255 then 0 else 1 : Nat) : Int) = 0
          rw [if_pos (by omega)]; rfl
        · refine fin_i (k H (Same.refl H)) ?_
          show ((if 1 ≤ n ∧ n ≤ 255 then 0 else 1 : Nat) : Int) = 1
          rw [if_neg (by omega)]; rfl
      · refine ⟨_, rfl, iteF (fin_i (k H (Same.refl H)) ?_)⟩
        show ((if 1 ≤ n ∧ n ≤ 255 then 0 else 1 : Nat) : Int) = 1
        rw [if_neg (by omega)]; rfl
def sp_refusal_of_deed (C : Addr) : Sp := fun vs H Q _ => ∃ (A : TA) (X : List Addr) (f : Nat) (t : UT) (nB : Nat) (b : Addr) (d : Ue17.Deed), vs = [.ref A.a, .ref b] ∧ TreeAt C X H A f t ∧ WF f t nB ∧ nB ≤ 300 ∧ H b = some (.lst (iv (Ue17.body (.deed d)))) ∧ pureV H (nV (rdeed t d)) Q
theorem ok_refusal_of_deed (T : Txt K mg CT CD CE) : C8.Cal P w K mg base 7 "refusal_of_deed" (sp_refusal_of_deed CT) [] := by
  refine T.d_refusal_of_deed.ok sc_refusal_of_deed (fun vs H Q E h => ?_) (fun f cdv A outer s H vs Q E hr h => ?_)
  · obtain ⟨A, X, f, t, nB, b, d, rfl, _⟩ := h
    rfl
  · obtain ⟨A, X, f, t, nB, b, d, rfl, TR, WFt, hB, hb, k⟩ := h
    obtain ⟨dx, tx, h1, h2, h3⟩ := TR.ins
    refine ⟨_, (pss_cons (ps_set (i := 2) sc_refusal_of_deed.nd rfl (Or.inl rfl) (C8.pe_c (ok_refusal_of_its_sort T) hr (by decide) (by rfl) (pa_cons (pv 0) (pa_cons (pv 1) pa_nil))))
      (pss_cons (ps_if (PW.pt (pw_and (pt_cmpR op_eq (pv 2) (C8.pe_gc (by rfl) T.c_GRANTED) (nomark _)) (pw_and1 (pt_cmpR op_ge (pe_fld (pv 0) rfl) (C8.pe_gc (by rfl) T.c_MOST_DEEDS) (nomark _)))))
        (pss_one (ps_ret (C8.pe_gc (by rfl) T.c_NO_ROOM)))
        pss_nil)
      (pss_one (ps_ret (pv 2))))) , ?_⟩
    refine ⟨_, rfl, _, rfl, A, X, f, t, nB, b, d, rfl, TR, WFt, hB, hb, fun H1 s1 => ?_⟩
    refine ⟨_, rfl, rfl, _, rfl, itI (fun e => ?_) (fun e => iteF ?_)⟩
    · refine ⟨_, rfl, A.a, CT, dx, _, _, rfl, s1 _ _ h1, T.clT, T.nT_deeds, tF_deeds, _, _, rfl, rfl, _, rfl, itD (fun c2 => ?_) (fun c2 => ?_)⟩
      · refine fin_i (k H1 s1) ?_
        unfold rdeed
        rw [if_pos ⟨by omega, by omega⟩]
        rfl
      · refine ⟨_, rfl, fin_i (k H1 s1) ?_⟩
        unfold rdeed
        rw [if_neg (by omega)]
    · refine ⟨_, rfl, fin_i (k H1 s1) ?_⟩
      unfold rdeed
      rw [if_neg (by omega)]
end
end TT
end
section
set_option maxHeartbeats 2000000
namespace TT
open PySem PySem.Spec PyProof.Rows L2
open Ue17 (Node)
def okD : Ue17.Deed → Prop
  | .make c => c.in_.length ≤ 255
  | _ => True
theorem did_did0 (t : UT) (d : Ue17.Deed) : Ue17.did t d = { did0 t d with deeds := t.deeds + 1 } := by
  unfold did0
  rw [← did_deeds t d]
section
variable {P : Program} {w : World} {K : PySem.W.Frag} {mg : Str → Option Value} {base : Heap} {CT CD CE : Addr}
def sp_do_deed (C : Addr) : Sp := fun vs H Q _ => ∃ (A : TA) (X : List Addr) (f : Nat) (t : UT) (nB : Nat) (b : Addr) (d : Ue17.Deed), vs = [.ref A.a, .ref b] ∧ TreeAt C X H A f t ∧ WF f t nB ∧ nB ≤ 300 ∧ H b = some (.lst (iv (Ue17.body (.deed d)))) ∧ okD d ∧
  ∀ H' f', TreeAt C X H' A f' (Ue17.did t d) → WF f' (Ue17.did t d) (nB + 1) → Fr A.mut H H' → Q .non H'
theorem ok_do_deed (T : Txt K mg CT CD CE) : C8.Cal P w K mg base 6 "do_deed" (sp_do_deed CT) [] := by
  refine T.d_do_deed.ok sc_do_deed (fun vs H Q E h => ?_) (fun f cdv A outer s H vs Q E hr h => ?_)
  · obtain ⟨A, X, f, t, nB, b, d, rfl, _⟩ := h
    rfl
  · obtain ⟨A, X, f, t, nB, b, d, rfl, TR, WFt, hB, hb, hd, k⟩ := h
    obtain ⟨dx, tx, h1, h2, h3⟩ := TR.ins
    have rest : ∀ H1 f1, TreeAt CT X H1 A f1 (did0 t d) → WF f1 (did0 t d) (nB + 1) → Fr A.mut H H1 → sFld K (tVar 0) (tOp (rI0 fun i j => .int (i + j)) (tFld K (tVar 0) "deeds") (tC (.int 1))) "deeds" { nx := fun _ H' => Q .non H', rt := Q } [some (.ref A.a), some (.ref b)] H1 := fun H1 f1 T1 W1 s1 => by
      obtain ⟨dx1, tx1, g1, g2, g3⟩ := T1.ins
      refine ⟨_, rfl, A.a, CT, dx1, _, _, rfl, g1, T.clT, T.nT_deeds, tF_deeds, _, _, rfl, rfl, _, rfl, A.a, CT, dx1, _, rfl, g1, T.clT, T.nT_deeds, (by show 9 < 1000; decide), ?_⟩
      rw [tF_put_deeds]
      generalize hH_ : upd _ A.a _ = H2; obtain ⟨g4, k4⟩ := ups hH_; clear hH_
      have nta : tx1 ≠ A.a := ne_kind g2 g1 (by intro z; cases z)
      have e := did_did0 t d
      refine k H2 f1 ?_ ?_ (s1.trans (Fr.ups k4 (by simp)))
      · rw [e]
        exact T1.own (t' := { did0 t d with deeds := t.deeds + 1 }) (Fr.ups k4 (by simp)) g4 (k4 _ _ g2 nta) g3 rfl rfl
      · rw [e]
        exact W1.deeds _
    refine ⟨_, (pss_cons (ps_if (pt_cmpR op_eq (pe_ix ix_list (pv 1) pe_int (fun _ _ => rfl)) (C8.pe_gc (by rfl) T.c_MAKE) (nomark _))
        (pss_one (ps_expr (C8.pe_mt (ok_Tree_make T) hr (by decide) (pv 0) (pa_cons (pe_ix ix_list (pv 1) pe_int (fun _ _ => rfl)) (pa_cons (pe_ix ix_list (pv 1) pe_int (fun _ _ => rfl)) (pa_cons (pe_slice sl_list (pv 1) (po_some pe_int) po_none) pa_nil))))))
        (pss_one (ps_if (pt_cmpR op_eq (pe_ix ix_list (pv 1) pe_int (fun _ _ => rfl)) (C8.pe_gc (by rfl) T.c_GO) (nomark _))
            (pss_one (ps_expr (C8.pe_mt (ok_Tree_go T) hr (by decide) (pv 0) (pa_cons (pe_ix ix_list (pv 1) pe_int (fun _ _ => rfl)) pa_nil))))
            (pss_one (ps_if (pt_cmpR op_eq (pe_ix ix_list (pv 1) pe_int (fun _ _ => rfl)) (C8.pe_gc (by rfl) T.c_KEEP) (nomark _))
                (pss_one (ps_expr (C8.pe_mt (ok_Tree_keep T) hr (by decide) (pv 0) (pa_cons (pe_ix ix_list (pv 1) pe_int (fun _ _ => rfl)) (pa_cons (pe_ix ix_list (pv 1) pe_int (fun _ _ => rfl)) pa_nil)))))
                (pss_one (ps_expr (C8.pe_mt (ok_Tree_forget T) hr (by decide) (pv 0) (pa_cons (pe_ix ix_list (pv 1) pe_int (fun _ _ => rfl)) pa_nil)))))))))
      (pss_one (ps_fld (pv 0) (pe_op op_add (pe_fld (pv 0) rfl) pe_int) rfl))) , ?_⟩
    cases d with
    | make c =>
      refine ⟨_, rfl, b, _, _, _, rfl, rfl, SqL.of hb, iv_at (i := 0) rfl, rfl, _, rfl, itI (fun e => ?_) (fun e => absurd rfl e)⟩
      refine ⟨_, rfl, A.a, dx, _, rfl, h1, tF_no_make, _, rfl, b, _, _, _, rfl, rfl, SqL.of hb, iv_at (i := 1) rfl, _, rfl, b, _, _, _, rfl, rfl, SqL.of hb, iv_at (i := 2) rfl, _, rfl, 3, rfl, b, _, rfl, SqL.of hb, ?_⟩
      intro q nq; generalize hH_q : upd _ q _ = H2; have s2 := snew nq hH_q; have hq := hnew hH_q; clear hH_q
      rw [show cutV (iv (Ue17.body (.deed (.make c)))) (some 3) none = iv c.in_ from iv_cut_n (1 :: c.at_ :: c.out :: c.in_) 3] at hq
      refine ⟨A, X, f, t, c.at_, c.out, q, c.in_, nB, rfl, TR.same s2, WFt, by omega, hq, TR.fresh nq, fun H3 T3 s3 => ?_⟩
      exact rest H3 f T3 ((WFt.make c hd).deeds _) (Fr.same s2 s3)
    | goes n =>
      refine ⟨_, rfl, b, _, _, _, rfl, rfl, SqL.of hb, iv_at (i := 0) rfl, rfl, _, rfl, itI (fun e => absurd e (by decide)) (fun e => ?_)⟩
      refine ⟨_, rfl, b, _, _, _, rfl, rfl, SqL.of hb, iv_at (i := 0) rfl, rfl, _, rfl, itI (fun e => ?_) (fun e => absurd rfl e)⟩
      refine ⟨_, rfl, A.a, dx, _, rfl, h1, tF_no_go, _, rfl, b, _, _, _, rfl, rfl, SqL.of hb, iv_at (i := 1) rfl, A, X, f, t, n, nB, rfl, TR, WFt, by omega, fun H3 T3 s3 => ?_⟩
      exact rest H3 f T3 (((WFt.goes n).deeds _).mono (Nat.le_succ _)) s3
    | keep n kb =>
      refine ⟨_, rfl, b, _, _, _, rfl, rfl, SqL.of hb, iv_at (i := 0) rfl, rfl, _, rfl, itI (fun e => absurd e (by decide)) (fun e => ?_)⟩
      refine ⟨_, rfl, b, _, _, _, rfl, rfl, SqL.of hb, iv_at (i := 0) rfl, rfl, _, rfl, itI (fun e => absurd e (by decide)) (fun e => ?_)⟩
      refine ⟨_, rfl, b, _, _, _, rfl, rfl, SqL.of hb, iv_at (i := 0) rfl, rfl, _, rfl, itI (fun e => ?_) (fun e => absurd rfl e)⟩
      refine ⟨_, rfl, A.a, dx, _, rfl, h1, tF_no_keep, _, rfl, b, _, _, _, rfl, rfl, SqL.of hb, iv_at (i := 1) rfl, _, rfl, b, _, _, _, rfl, rfl, SqL.of hb, iv_at (i := 2) rfl, A, X, f, t, n, kb, rfl, TR, by have := WFt.len; omega, fun H3 T3 s3 => ?_⟩
      exact rest H3 f T3 (((WFt.keep n kb).deeds _).mono (Nat.le_succ _)) s3
    | forget n =>
      refine ⟨_, rfl, b, _, _, _, rfl, rfl, SqL.of hb, iv_at (i := 0) rfl, rfl, _, rfl, itI (fun e => absurd e (by decide)) (fun e => ?_)⟩
      refine ⟨_, rfl, b, _, _, _, rfl, rfl, SqL.of hb, iv_at (i := 0) rfl, rfl, _, rfl, itI (fun e => absurd e (by decide)) (fun e => ?_)⟩
      refine ⟨_, rfl, b, _, _, _, rfl, rfl, SqL.of hb, iv_at (i := 0) rfl, rfl, _, rfl, itI (fun e => absurd e (by decide)) (fun e => ?_)⟩
      refine ⟨_, rfl, A.a, dx, _, rfl, h1, tF_no_forget, _, rfl, b, _, _, _, rfl, rfl, SqL.of hb, iv_at (i := 1) rfl, A, X, f, t, n, nB, rfl, TR, WFt, hB, fun H3 f3 T3 W3 s3 => ?_⟩
      exact rest H3 f3 T3 (W3.mono (Nat.le_succ _)) s3
/-- a new tree, none of its own was there -/
def newT (C : Addr) (X : List Addr) (H : Hp) (t : UT) (nB : Nat) (Q : VK) : Prop := ∀ (A : TA) (f : Nat) (H' : Hp), Same H H' → TreeAt C X H' A f t → WF f t nB → (∀ b ∈ A.mut, H b = none) → Q (.ref A.a) H'
/-- Tree(f, text) made -/
theorem make_tree {X : List Addr} {H : Hp} {b x dx : Addr} {f : Nat} {tx : List Nat} {R : VK} {E : XK} (nx : H x = none) (ndx : H dx = none) (hb : H b = some (.lst (iv tx))) (hbx : b ∉ X) (hX : ∀ x ∈ X, ∃ l, H x = some (.lst l))
    (k : ∀ (A : TA) (H' : Hp), A.a = x → Same H H' → TreeAt CT X H' A f (freshT f tx) → (∀ b ∈ A.mut, H b = none) → R .non H') :
    sp_tree_init CT [.ref x, nV f, .ref b] (upd (upd H dx (.own x)) x (.ins CT dx [])) R E := by
  have s0 : Same H (upd (upd H dx (.own x)) x (.ins CT dx [])) := same_upd (same_upd (Same.refl H) ndx) nx
  refine ⟨x, dx, b, X, f, tx, rfl, upd_same, s0 _ _ hb, hbx, fun y hy => by obtain ⟨l, hl⟩ := hX y hy; exact ⟨l, s0 _ _ hl⟩, fun H' pa ch ke ps T' fr n1 n2 n3 n4 => ?_⟩
  refine k ⟨x, pa, ch, ke, ps⟩ H' rfl (fun y o e => fr y o (s0 _ _ e) (ne_of_none e nx)) T' fun y hy => ?_
  simp only [TA.mut, List.mem_cons, List.not_mem_nil, or_false] at hy
  rcases hy with rfl | rfl | rfl | rfl | rfl
  · exact nx
  · exact s0.free n1
  · exact s0.free n2
  · exact s0.free n3
  · exact s0.free n4
theorem Same.ofFr {F : List Addr} {H H1 H2 : Hp} (s : Same H H1) (s2 : Fr F H1 H2) (n : ∀ b ∈ F, H b = none) : Same H H2 := fun b o e => s2 b o (s b o e) fun m => by rw [n b m] at e; cases e
def sp_tree_made_by (C : Addr) : Sp := fun vs H Q _ => ∃ (a : Addr) (ps : List Addr) (ds : List Ue17.Deed) (X : List Addr), vs = [.ref a] ∧ H a = some (.lst (rv ps)) ∧ ListsAt H ps (ds.map fun d => Ue17.body (.deed d)) ∧ (∀ d ∈ ds, okD d) ∧ ds.length ≤ 60 ∧ (∀ x ∈ X, ∃ l, H x = some (.lst l)) ∧
  newT C X H (ds.foldl Ue17.did Ue17.first) (ds.length + 2) Q
theorem ok_tree_made_by (T : Txt K mg CT CD CE) : C8.Cal P w K mg base 7 "tree_made_by" (sp_tree_made_by CT) [] := by
  refine T.d_tree_made_by.ok sc_tree_made_by (fun vs H Q E h => ?_) (fun f cdv A outer s H vs Q E hr h => ?_)
  · obtain ⟨a, ps, ds, X, rfl, _⟩ := h
    rfl
  · obtain ⟨a, ps, ds, X, rfl, ha, LA, hok, hlen, hX, k⟩ := h
    refine ⟨_, (pss_cons (ps_set (i := 1) sc_tree_made_by.nd rfl (Or.inl rfl) (C8.pe_mk (ok_Tree___init__ T) hr (by decide) (by rfl) (pa_cons pe_int (pa_cons (pe_lst pa_nil) pa_nil))))
      (pss_cons (ps_for PassesOwn.never rfl (pi_list (pv 0)) (pg_name (i := 2) sc_tree_made_by.nd rfl (Or.inl rfl))
        (pss_one (ps_expr (C8.pe_c (ok_do_deed T) hr (by decide) (by rfl) (pa_cons (pv 1) (pa_cons (pv 2) pa_nil))))))
      (pss_one (ps_ret (pv 1))))) , ?_⟩
    refine ⟨sz 0 (by decide), ?_⟩
    intro e ne; generalize hH_e : upd _ e _ = H1; have s1 := snew ne hH_e; have he := hnew hH_e; clear hH_e
    have hX1 : ∀ x ∈ X, ∃ l, H1 x = some (.lst l) := fun x hx => by obtain ⟨l, hl⟩ := hX x hx; exact ⟨l, s1 _ _ hl⟩
    have nex : e ∉ X := fun m => by obtain ⟨l, hl⟩ := hX e m; rw [hl] at ne; cases ne
    intro x dx nx ndx nexx
    refine make_tree (f := 0) (tx := []) nx ndx he nex hX1 fun A H2 eA s2 T2 n2 => ⟨rfl, ?_⟩
    subst eA
    refine ⟨_, rfl, a, rfl, ⟨_, SqL.of (s2 _ _ (s1 _ _ ha))⟩, for_list (K := K) (a := a) (xs := rv ps) (fun i σ H' => ∃ v2 f, σ = [some (.ref a), some (.ref A.a), v2] ∧ Fr A.mut H2 H' ∧ TreeAt CT X H' A f ((ds.take i).foldl Ue17.did Ue17.first) ∧ WF f ((ds.take i).foldl Ue17.did Ue17.first) (i + 2))
      ⟨none, 0, rfl, Fr.refl _ _, T2, freshT_wf 0 [] (by decide)⟩ (fun i σ H' _ pv => by obtain ⟨v2, f, _, sv, _⟩ := pv; exact SqL.of (T2.keep sv (s2 _ _ (s1 _ _ ha)) rfl)) (fun i y0 σ H' hy0 pv => ?_) (fun σ H' pv => ?_)⟩
    · obtain ⟨v2, f, rfl, sv, TV, WV⟩ := pv
      obtain ⟨p, hp, rfl⟩ := rv_get' hy0
      have hi := (List.getElem?_eq_some_iff.mp hp).1
      have hll := LA.len
      rw [List.length_map] at hll
      have hd : ds[i]? = some (ds[i]'(by omega)) := List.getElem?_eq_getElem (by omega)
      have hb := LA.at_ i p (Ue17.body (.deed (ds[i]'(by omega)))) hp (by rw [List.getElem?_map, hd]; rfl)
      have hb' := T2.keep sv (s2 _ _ (s1 _ _ hb)) rfl
      refine ⟨_, rfl, _, rfl, A, X, f, _, i + 2, p, ds[i]'(by omega), rfl, TV, WV, by omega, hb', hok _ (List.getElem_mem ..), fun H3 f3 T3 W3 s3 => ?_⟩
      refine ⟨_, f3, rfl, sv.trans s3, ?_, ?_⟩
      · rw [take_snoc hd, List.foldl_append]; exact T3
      · rw [take_snoc hd, List.foldl_append]; exact W3
    · obtain ⟨v2, f, rfl, sv, TV, WV⟩ := pv
      have hll := LA.len
      rw [List.length_map] at hll
      rw [rv_len, hll, List.take_length] at TV WV
      exact ⟨_, rfl, k A f H' (Same.ofFr (s1.trans s2) sv fun b hb => s1.free (n2 b hb)) TV WV fun b hb => s1.free (n2 b hb)⟩
end
end TT
end
section
set_option maxHeartbeats 2000000
namespace TT
open PySem PySem.Spec PyProof.Rows L2
open Ue17 (Node)
/-- what a copy asks of a tree -/
structure Cp (f : Nat) (t : UT) : Prop where
  wf : WF f t 41
  hd : ∃ x r, t.nodes = x :: r ∧ x.parent = none
  bs : t.base.length ≤ 80
  inl : ∀ x ∈ t.nodes, x.change.in_.length ≤ 80
theorem Cp.hd' {f : Nat} {t : UT} (C : Cp f t) : ∃ x r, t.nodes = x :: r ∧ x.parent = none ∧ x.number = f ∧ parN t.nodes = r ∧ ∀ y ∈ r, y.parent.isSome = true := by
  obtain ⟨x, r, e, p⟩ := C.hd
  have hx : x.number = f := C.wf.uniq x (by rw [e]; exact List.mem_cons_self) p
  have hr : ∀ y ∈ r, y.parent.isSome = true := fun y hy => by
    cases hp : y.parent with
    | some q => rfl
    | none =>
      have h1 := C.wf.uniq y (by rw [e]; exact List.mem_cons_of_mem _ hy) hp
      have h2 := C.wf.inc
      rw [e] at h2
      have := (List.pairwise_cons.mp h2).1 y hy
      omega
  refine ⟨x, r, e, p, hx, ?_, hr⟩
  unfold parN
  rw [e, List.filter_cons, if_neg (by rw [p]; decide)]
  exact List.filter_eq_self.mpr hr
theorem flatMap_len2 {α : Type} {g : α → List Nat} (h : ∀ x, (g x).length = 2) : ∀ l : List α, (l.flatMap g).length = 2 * l.length
  | [] => rfl
  | x :: l => by
    rw [List.flatMap_cons, List.length_append, flatMap_len2 h l, h x, List.length_cons]
    omega
section
variable {P : Program} {w : World} {K : PySem.W.Frag} {mg : Str → Option Value} {base : Heap} {CT CD CE : Addr}
abbrev N_first_body : List Str := ["tree"]
theorem sc_first_body : FnScope N_first_body ["tree"] (defScope s_first_body) := ⟨rfl, rfl, rfl, by decide +kernel, rfl, by decide +kernel, by decide +kernel⟩
abbrev N_other_body : List Str := ["tree", "state", "change"]
theorem sc_other_body : FnScope N_other_body ["tree", "state"] (defScope s_other_body) := ⟨rfl, rfl, rfl, by decide +kernel, rfl, by decide +kernel, by decide +kernel⟩
abbrev N_end_body : List Str := ["tree", "body", "state"]
theorem sc_end_body : FnScope N_end_body ["tree"] (defScope s_end_body) := ⟨rfl, rfl, rfl, by decide +kernel, rfl, by decide +kernel, by decide +kernel⟩
abbrev N_copy_of : List Str := ["tree", "written", "state"]
theorem sc_copy_of : FnScope N_copy_of ["tree"] (defScope s_copy_of) := ⟨rfl, rfl, rfl, by decide +kernel, rfl, by decide +kernel, by decide +kernel⟩
def sp_first_body (C : Addr) : Sp := fun vs H Q _ => ∃ (A : TA) (X : List Addr) (f : Nat) (t : UT) (x : Node), vs = [.ref A.a] ∧ TreeAt C X H A f t ∧ t.base.length ≤ 255 ∧ Ue17.find t f = some x ∧ newL H (iv (5 :: f :: Ue17.bit x.kept :: t.base)) Q
theorem ok_first_body (T : Txt K mg CT CD CE) : C8.Cal P w K mg base 1 "first_body" (sp_first_body CT) [] := by
  refine T.d_first_body.ok sc_first_body (fun vs H Q E h => ?_) (fun f cdv A outer s H vs Q E hr h => ?_)
  · obtain ⟨A, X, f, t, x, rfl, _⟩ := h
    rfl
  · obtain ⟨A, X, f, t, x, rfl, TR, hb, hx, k⟩ := h
    have hu := hu_of hr
    obtain ⟨dx, tx, h1, h2, h3⟩ := TR.ins
    have hv : valV (kepKV t.nodes) (kI f) = some (nV (Ue17.bit x.kept)) := by rw [val_kep, fnd_find, hx]; rfl
    refine ⟨_, (pss_one (ps_ret (pe_op op_cat (pe_lst (pa_cons (C8.pe_gc (by rfl) T.c_COPIED_FIRST) (pa_cons (pe_fld (pv 0) rfl) (pa_cons (pe_dget (by exact hu) (pe_fld (pv 0) rfl) (pe_fld (pv 0) rfl) (fun _ _ => rfl)) pa_nil)))) (pe_fld (pv 0) rfl)))) , ?_⟩
    refine ⟨_, rfl, A.a, CT, dx, _, _, rfl, h1, T.clT, T.nT_first, tF_first, _, rfl, A.a, CT, dx, _, _, rfl, h1, T.clT, T.nT_kept, tF_kept, _, rfl, A.a, CT, dx, _, _, rfl, h1, T.clT, T.nT_first, tF_first, A.ke, _, rfl, dget_of TR.ke hv, sz 3 (by decide), ?_⟩
    intro p np; generalize hH_p : upd _ p _ = H1; have s1 := snew np hH_p; have hp := hnew hH_p; clear hH_p
    refine ⟨_, rfl, A.a, CT, dx, _, _, rfl, s1 _ _ h1, T.clT, T.nT_first_text, tF_first_text, p, tx, _, _, rfl, rfl, hp, s1 _ _ h2, sz _ (by rw [iv_len]; show 3 + t.base.length ≤ _; omega), ?_⟩
    intro q nq; generalize hH_q : upd _ q _ = H2; have s2 := snew nq hH_q; have hq := hnew hH_q; clear hH_q
    exact k q H2 (s1.free nq) (s1.trans s2) hq
def sp_other_body (C : Addr) : Sp := fun vs H Q _ => ∃ (A : TA) (X : List Addr) (f : Nat) (t : UT) (x : Node) (p : Nat), vs = [.ref A.a, nV x.number] ∧ TreeAt C X H A f t ∧ NdN t.nodes ∧ x ∈ t.nodes ∧ x.parent = some p ∧ x.change.in_.length ≤ 255 ∧
  newL H (iv (6 :: x.number :: p :: Ue17.bit x.kept :: x.change.at_ :: x.change.out :: x.change.in_)) Q
theorem ok_other_body (T : Txt K mg CT CD CE) : C8.Cal P w K mg base 1 "other_body" (sp_other_body CT) [] := by
  refine T.d_other_body.ok sc_other_body (fun vs H Q E h => ?_) (fun f cdv A outer s H vs Q E hr h => ?_)
  · obtain ⟨A, X, f, t, x, p, rfl, _⟩ := h
    rfl
  · obtain ⟨A, X, f, t, x, p, rfl, TR, nd, hx, hp, hl, k⟩ := h
    have hu := hu_of hr
    obtain ⟨dx, tx, h1, h2, h3⟩ := TR.ins
    obtain ⟨ca, hc, ho⟩ := TR.ch
    have hps : x.parent.isSome = true := by rw [hp]; rfl
    have htup := ho.tup x hx hps
    have hlst := (ho.lst x hx hps).1
    have v1 : valV (kepKV t.nodes) (kI x.number) = some (nV (Ue17.bit x.kept)) := by rw [val_kep, fnd_mem nd hx]; rfl
    have v2 : valV (parKV t.nodes) (kI x.number) = some (nV p) := by
      rw [val_par _ _ nd, fnd_mem nd hx]
      show x.parent.map nV = _
      rw [hp]; rfl
    have v3 : valV (chKV ca t.nodes) (kI x.number) = some (.ref (ca x.number).1) := by
      rw [val_ch _ _ _ nd, fnd_mem nd hx]
      show (x.parent.map fun _ => _) = _
      rw [hp]; rfl
    refine ⟨_, (pss_cons (ps_set (i := 2) sc_other_body.nd rfl (Or.inl rfl) (pe_dget (by exact hu) (pe_fld (pv 0) rfl) (pv 1) (fun _ _ => rfl)))
      (pss_one (ps_ret (pe_op op_cat (pe_lst (pa_cons (C8.pe_gc (by rfl) T.c_COPIED_OTHER) (pa_cons (pv 1) (pa_cons (pe_dget (by exact hu) (pe_fld (pv 0) rfl) (pv 1) (fun _ _ => rfl)) (pa_cons (pe_dget (by exact hu) (pe_fld (pv 0) rfl) (pv 1) (fun _ _ => rfl)) (pa_cons (pe_ix ix_tup (pv 2) pe_int (fun _ _ => rfl)) (pa_cons (pe_ix ix_tup (pv 2) pe_int (fun _ _ => rfl)) pa_nil))))))) (pe_ix ix_tup (pv 2) pe_int (fun _ _ => rfl)))))) , ?_⟩
    refine ⟨_, rfl, A.a, CT, dx, _, _, rfl, h1, T.clT, T.nT_changes, tF_changes, _, rfl, A.ch, _, rfl, dget_of hc v3, ?_⟩
    refine ⟨_, rfl, _, rfl, A.a, CT, dx, _, _, rfl, h1, T.clT, T.nT_parents, tF_parents, _, rfl, A.pa, _, rfl, dget_of TR.pa v2, _, rfl, A.a, CT, dx, _, _, rfl, h1, T.clT, T.nT_kept, tF_kept, _, rfl, A.ke, _, rfl, dget_of TR.ke v1, _, rfl, _, _, 0, _, rfl, rfl, SqT.of htup, rfl, _, rfl, _, _, 1, _, rfl, rfl, SqT.of htup, rfl, sz 6 (by decide), ?_⟩
    intro r nr; generalize hH_r : upd _ r _ = H1; have s1 := snew nr hH_r; have hr1 := hnew hH_r; clear hH_r
    refine ⟨_, rfl, _, _, 2, _, rfl, rfl, SqT.of (s1 _ _ htup), rfl, r, _, _, _, rfl, rfl, hr1, s1 _ _ hlst, sz _ (by rw [iv_len]; show 6 + x.change.in_.length ≤ _; omega), ?_⟩
    intro q nq; generalize hH_q : upd _ q _ = H2; have s2 := snew nq hH_q; have hq := hnew hH_q; clear hH_q
    exact k q H2 (s1.free nq) (s1.trans s2) hq
theorem rev_get {α : Type} {l : List α} {i : Nat} (h : i < l.length) : l.reverse[l.length - 1 - i]? = l[i]? := by
  rw [List.getElem?_reverse (by omega)]
  congr 1
  omega
def endB (t : UT) : List Nat := Ue17.body (.rest t.now t.given t.deeds t.last)
def sp_end_body (C : Addr) : Sp := fun vs H Q _ => ∃ (A : TA) (X : List Addr) (f : Nat) (t : UT), vs = [.ref A.a] ∧ TreeAt C X H A f t ∧ (t.last.map fun y => y.1).Nodup ∧ t.last.length ≤ 1000 ∧ newL H (iv (endB t)) Q
theorem ok_end_body (T : Txt K mg CT CD CE) : C8.Cal P w K mg base 1 "end_body" (sp_end_body CT) [] := by
  refine T.d_end_body.ok sc_end_body (fun vs H Q E h => ?_) (fun f cdv A outer s H vs Q E hr h => ?_)
  · obtain ⟨A, X, f, t, rfl, _⟩ := h
    rfl
  · obtain ⟨A, X, f, t, rfl, TR, hnd, hl, k⟩ := h
    have hu := hu_of hr
    obtain ⟨dx, tx, h1, h2, h3⟩ := TR.ins
    refine ⟨_, (pss_cons (ps_set (i := 1) sc_end_body.nd rfl (Or.inl rfl) (pe_lst (pa_cons (C8.pe_gc (by rfl) T.c_COPIED_END) (pa_cons (pe_fld (pv 0) rfl) (pa_cons (pe_fld (pv 0) rfl) (pa_cons (pe_op op_mod (pe_fld (pv 0) rfl) pe_int) (pa_cons (pe_op op_fdiv (pe_fld (pv 0) rfl) pe_int) pa_nil)))))))
      (pss_cons (ps_for PassesOwn.never rfl (pi_reversed (by rfl) T.b_reversed (pa_cons (pe_callTy (call_list_dK rfl) (by rfl) T.b_list (by decide +kernel) (pa_cons (pe_fld (pv 0) rfl) pa_nil)) pa_nil)) (pg_name (i := 2) sc_end_body.nd rfl (Or.inl rfl))
        (pss_one (ps_set (i := 1) sc_end_body.nd rfl (Or.inl rfl) (pe_op op_cat (pv 1) (pe_lst (pa_cons (pv 2) (pa_cons (pe_dget (by exact hu) (pe_fld (pv 0) rfl) (pv 2) (fun _ _ => rfl)) pa_nil)))))))
      (pss_one (ps_ret (pv 1))))) , ?_⟩
    refine ⟨_, rfl, A.a, CT, dx, _, _, rfl, h1, T.clT, T.nT_now, tF_now, _, rfl, A.a, CT, dx, _, _, rfl, h1, T.clT, T.nT_given, tF_given, _, rfl, A.a, CT, dx, _, _, rfl, h1, T.clT, T.nT_deeds, tF_deeds, _, _, rfl, rfl, (by show (0 : Int) < 256; decide), _, rfl, A.a, CT, dx, _, _, rfl, h1, T.clT, T.nT_deeds, tF_deeds, _, _, rfl, rfl, ⟨by decide, by decide⟩, sz 5 (by decide), ?_⟩
    intro p np; generalize hH_p : upd _ p _ = H1; have s1 := snew np hH_p; have hp := hnew hH_p; clear hH_p
    refine ⟨_, rfl, A.a, CT, dx, _, _, rfl, s1 _ _ h1, T.clT, T.nT_passed, tF_passed, A.ps, _, rfl, s1 _ _ TR.ps, ?_⟩
    intro q nq; generalize hH_q : upd _ q _ = H2; have s2 := snew nq hH_q; have hq := hnew hH_q; clear hH_q
    have ekeys : ((pasKV t.last).map fun kv => kV kv.1) = iv (t.last.reverse.map fun y => y.1) := by
      unfold pasKV iv
      rw [List.map_map, List.map_map]
      rfl
    rw [ekeys] at hq
    have hxl : (iv (t.last.reverse.map fun y => y.1)).length = t.last.length := by rw [iv_len, List.length_map, List.length_reverse]
    let hdB : List Nat := [7, t.now, t.given, t.deeds % 256, t.deeds / 256]
    have hp' : H1 p = some (.lst (iv hdB)) := hp
    refine ⟨q, _, rfl, SqL.of hq, for_it (walk_rev (K := K) (a := q) (xs := iv (t.last.reverse.map fun (y : Nat × Nat) => y.1))) (fun i σ H' => ∃ (bp : Addr) (v2 : Option V), σ = [some (.ref A.a), some (.ref bp), v2] ∧ Same H2 H' ∧ H' bp = some (.lst (iv (hdB ++ (t.last.take i).flatMap fun y => [y.1, y.2]))) ∧ H bp = none)
      ⟨p, none, rfl, Same.refl H2, by rw [s2 _ _ hp']; simp, np⟩ (fun i σ H' _ pv => by obtain ⟨bp, v2, _, sv, _⟩ := pv; exact SqL.of (sv _ _ hq)) (fun i y0 σ H' H'' hi pv hy => ?_) (fun σ H' pv => ?_)⟩
    · obtain ⟨bp, v2, rfl, sv, hb, nbp⟩ := pv
      obtain ⟨rfl, hy⟩ := hy
      rw [hxl] at hi hy
      obtain ⟨m, hm, rfl⟩ := iv_get' hy
      obtain ⟨y, hy2, rfl⟩ := map_get' hm
      rw [rev_get hi] at hy2
      have hym := List.mem_of_getElem? hy2
      have TV := TR.same ((s1.trans s2).trans sv)
      have hiA := sv _ _ (s2 _ _ (s1 _ _ h1))
      have hv : valV (pasKV t.last) (kI y.1) = some (nV y.2) := by
        rw [val_pas hnd]
        cases hf : t.last.find? fun x => x.1 == y.1 with
        | none =>
          have := List.find?_eq_none.mp hf y hym
          simp at this
        | some z =>
          have hz := List.mem_of_find?_eq_some hf
          have ez : z.1 = y.1 := eq_of_beq (List.find?_some (p := fun x : Nat × Nat => x.1 == y.1) hf)
          have : z = y := by
            obtain ⟨j, hj⟩ := List.mem_iff_getElem?.mp hz
            have := nd_ix hnd (i := j) (j := i) (x := y.1) (by rw [List.getElem?_map, hj]; exact congrArg some ez) (by rw [List.getElem?_map, hy2]; rfl)
            rw [this, hy2] at hj
            exact (Option.some.inj hj).symm
          rw [this]
          rfl
      have hbl : (iv (hdB ++ (t.last.take i).flatMap fun y => [y.1, y.2])).length ≤ 3000 := by
        rw [iv_len, List.length_append, flatMap_len2 (fun _ => rfl), List.length_take]
        show 5 + _ ≤ _
        omega
      refine ⟨_, rfl, _, rfl, _, rfl, A.a, CT, dx, _, _, rfl, hiA, T.clT, T.nT_passed, tF_passed, _, rfl, A.ps, _, rfl, dget_of TV.ps hv, sz 2 (by decide), ?_⟩
      intro u nu; generalize hH_u : upd _ u _ = H3; have s3 := snew nu hH_u; have hu3 := hnew hH_u; clear hH_u
      refine ⟨bp, u, _, _, rfl, rfl, s3 _ _ hb, hu3, sz _ (by show _ + 2 ≤ _; omega), ?_⟩
      intro z nz; generalize hH_z : upd _ z _ = H4; have s4 := snew nz hH_z; have hz := hnew hH_z; clear hH_z
      refine ⟨z, _, rfl, (sv.trans s3).trans s4, ?_, ((((s1.trans s2).trans sv).trans s3)).free nz⟩
      rw [hz, take_snoc hy2, List.flatMap_append, ← List.append_assoc, iv_append _ (List.flatMap _ [y])]
      rfl
    · obtain ⟨bp, v2, rfl, sv, hb, nbp⟩ := pv
      rw [hxl, List.take_length] at hb
      exact ⟨_, rfl, k bp H' nbp ((s1.trans s2).trans sv) hb⟩
def oB (y : Node) : List Nat := 6 :: y.number :: y.parent.getD 0 :: Ue17.bit y.kept :: y.change.at_ :: y.change.out :: y.change.in_
theorem copyBytes_of {f : Nat} {t : UT} (C : Cp f t) {x : Node} {r : List Node} (e : t.nodes = x :: r) (px : x.parent = none) (hr : ∀ y ∈ r, y.parent.isSome = true) : Ue17.copyBytes t = recB (5 :: x.number :: Ue17.bit x.kept :: t.base) ++ (r.flatMap fun y => recB (oB y)) ++ recB (endB t) := by
  have hb : ∀ q : Ue17.Rec, Ue17.bytesOf q = recB (Ue17.body q) := fun _ => rfl
  unfold Ue17.copyBytes Ue17.copyOf
  rw [e, List.flatMap_append, List.map_cons, List.flatMap_cons, px]
  show (Ue17.bytesOf (.base x.number x.kept t.base) ++ _) ++ (Ue17.bytesOf (.rest t.now t.given t.deeds t.last) ++ []) = _
  rw [List.append_nil, hb, hb]
  congr 2
  rw [List.flatMap_map]
  have : ∀ l : List Node, (∀ y ∈ l, y.parent.isSome = true) → (l.flatMap fun x => Ue17.bytesOf (match x.parent with | none => .base x.number x.kept t.base | some p => .node x.number p x.kept x.change)) = l.flatMap fun y => recB (oB y) := by
    intro l
    induction l with
    | nil => intro _; rfl
    | cons y l ih =>
      intro h
      rw [List.flatMap_cons, List.flatMap_cons, ih fun z hz => h z (List.mem_cons_of_mem _ hz)]
      obtain ⟨p, hp⟩ := Option.isSome_iff_exists.mp (h y List.mem_cons_self)
      congr 1
      rw [hp, hb]
      unfold oB
      rw [hp]
      rfl
  exact this r hr
theorem fm_le {l : List Node} (h : ∀ y ∈ l, y.change.in_.length ≤ 80) : (l.flatMap fun y => recB (oB y)).length ≤ 90 * l.length := by
  induction l with
  | nil => simp
  | cons y l ih =>
    have := ih fun z hz => h z (List.mem_cons_of_mem _ hz)
    have h1 := h y List.mem_cons_self
    rw [List.flatMap_cons, List.length_append, recB_len, List.length_cons]
    have : (oB y).length = 6 + y.change.in_.length := by simp [oB]; omega
    omega
theorem endB_len (t : UT) : (endB t).length = 5 + 2 * t.last.length := by
  show (7 :: t.now :: t.given :: (t.deeds % 256) :: (t.deeds / 256) :: t.last.flatMap fun x => [x.1, x.2]).length = _
  simp only [List.length_cons]
  rw [flatMap_len2 (fun _ => rfl)]
  omega
def sp_copy_of (C : Addr) : Sp := fun vs H Q _ => ∃ (A : TA) (X : List Addr) (f : Nat) (t : UT), vs = [.ref A.a] ∧ TreeAt C X H A f t ∧ Cp f t ∧ newL H (iv (Ue17.copyBytes t)) Q
theorem ok_copy_of (T : Txt K mg CT CD CE) : C8.Cal P w K mg base 2 "copy_of" (sp_copy_of CT) [] := by
  refine T.d_copy_of.ok sc_copy_of (fun vs H Q E h => ?_) (fun f cdv A outer s H vs Q E hr h => ?_)
  · obtain ⟨A, X, f, t, rfl, _⟩ := h
    rfl
  · obtain ⟨A, X, f, t, rfl, TR, CP, k⟩ := h
    have hu := hu_of hr
    obtain ⟨dx, tx, h1, h2, h3⟩ := TR.ins
    obtain ⟨x, r, e, px, nx, ep, hr'⟩ := CP.hd'
    have hlen := CP.wf.len
    have hll := CP.wf.last_len
    have hrl : r.length + 1 = t.nodes.length := by rw [e]; rfl
    have hfx : Ue17.find t f = some x := by rw [← nx]; exact find_mem CP.wf.nd (by rw [e]; exact List.mem_cons_self)
    have ecb := copyBytes_of CP e px hr'
    have hbs := CP.bs
    have hil : ∀ y ∈ r, y.change.in_.length ≤ 80 := fun y hy => CP.inl y (by rw [e]; exact List.mem_cons_of_mem _ hy)
    refine ⟨_, (pss_cons (ps_set (i := 1) sc_copy_of.nd rfl (Or.inl rfl) (C8.pe_c (ok_record T) hr (by decide) (by rfl) (pa_cons (C8.pe_c (ok_first_body T) hr (by decide) (by rfl) (pa_cons (pv 0) pa_nil)) pa_nil)))
      (pss_cons (ps_for PassesOwn.never rfl (pi_list (pe_callB (cr_srtD rfl) (by rfl) T.b_sorted (by decide +kernel) (pa_cons (pe_fld (pv 0) rfl) pa_nil))) (pg_name (i := 2) sc_copy_of.nd rfl (Or.inl rfl))
        (pss_one (ps_set (i := 1) sc_copy_of.nd rfl (Or.inl rfl) (pe_op op_cat (pv 1) (C8.pe_c (ok_record T) hr (by decide) (by rfl) (pa_cons (C8.pe_c (ok_other_body T) hr (by decide) (by rfl) (pa_cons (pv 0) (pa_cons (pv 2) pa_nil))) pa_nil))))))
      (pss_one (ps_ret (pe_op op_cat (pv 1) (C8.pe_c (ok_record T) hr (by decide) (by rfl) (pa_cons (C8.pe_c (ok_end_body T) hr (by decide) (by rfl) (pa_cons (pv 0) pa_nil)) pa_nil))))))) , ?_⟩
    refine ⟨_, rfl, A, X, f, t, x, rfl, TR, by omega, hfx, fun p H1 np s1 hp => ?_⟩
    refine ⟨p, _, rfl, hp, by show (5 :: f :: Ue17.bit x.kept :: t.base).length ≤ 255; simp only [List.length_cons]; omega, fun q H2 nq s2 hq => ?_⟩
    rw [← nx] at hq
    generalize hB0 : 5 :: x.number :: Ue17.bit x.kept :: t.base = B0 at ecb hq
    have hB0l : B0.length ≤ 83 := by rw [← hB0]; simp only [List.length_cons]; omega
    have T2 := TR.same (s1.trans s2)
    have h12 := s2 _ _ (s1 _ _ h1)
    refine ⟨_, rfl, A.a, CT, dx, _, _, rfl, h12, T.clT, T.nT_parents, tF_parents, A.pa, _, zi ((parN t.nodes).map fun x => x.number), rfl, T2.pa, keys_par _, by rw [List.length_map, List.length_map, ep]; omega, fun ys u hys hs => ?_⟩
    intro nu; generalize hH_p : upd _ u _ = H3; have s3 := snew nu hH_p; have hu3 := hnew hH_p; clear hH_p
    rw [perm_sorted hys hs (rise_zi (rise_parN CP.wf.inc)), ← iv_zi, ep] at hu3
    refine ⟨u, rfl, ⟨_, SqL.of hu3⟩, for_list (K := K) (a := u) (xs := iv (r.map fun x => x.number)) (fun i σ H' => ∃ (bp : Addr) (v2 : Option V), σ = [some (.ref A.a), some (.ref bp), v2] ∧ Same H3 H' ∧ H' bp = some (.lst (iv (recB B0 ++ (r.take i).flatMap fun y => recB (oB y)))))
      ⟨q, none, rfl, Same.refl H3, by rw [s3 _ _ hq]; simp⟩ (fun i σ H' _ pv => by obtain ⟨bp, v2, _, sv, _⟩ := pv; exact SqL.of (sv _ _ hu3)) (fun i y0 σ H' hy0 pv => ?_) (fun σ H' pv => ?_)⟩
    · obtain ⟨bp, v2, rfl, sv, hb⟩ := pv
      obtain ⟨m, hm, rfl⟩ := iv_get' hy0
      obtain ⟨y, hy, rfl⟩ := map_get' hm
      have hyr := List.mem_of_getElem? hy
      have hyn : y ∈ t.nodes := by rw [e]; exact List.mem_cons_of_mem _ hyr
      obtain ⟨pp, hpp⟩ := Option.isSome_iff_exists.mp (hr' y hyr)
      have eo : 6 :: y.number :: pp :: Ue17.bit y.kept :: y.change.at_ :: y.change.out :: y.change.in_ = oB y := by unfold oB; rw [hpp]; rfl
      have hol : (oB y).length = 6 + y.change.in_.length := by simp [oB]; omega
      have hyl := hil y hyr
      have TV := T2.same (s3.trans sv)
      refine ⟨_, rfl, _, rfl, _, rfl, A, X, f, t, y, pp, rfl, TV, CP.wf.nd, hyn, hpp, by omega, fun a1 H4 na1 s4 ha1 => ?_⟩
      rw [eo] at ha1
      refine ⟨a1, _, rfl, ha1, by omega, fun a2 H5 na2 s5 ha2 => ?_⟩
      have hfl := fm_le (l := r.take i) fun z hz => hil z (List.mem_of_mem_take hz)
      rw [List.length_take] at hfl
      have hi := (List.getElem?_eq_some_iff.mp hy).1
      refine ⟨bp, a2, _, _, rfl, rfl, s5 _ _ (s4 _ _ hb), ha2, sz _ (by rw [iv_len, iv_len, List.length_append, recB_len, recB_len]; omega), ?_⟩
      intro a3 na3; generalize hH_a3 : upd _ a3 _ = H6; have s6 := snew na3 hH_a3; have ha3 := hnew hH_a3; clear hH_a3
      refine ⟨a3, _, rfl, ((sv.trans s4).trans s5).trans s6, ?_⟩
      rw [ha3, take_snoc hy, List.flatMap_append, ← List.append_assoc, iv_append _ (List.flatMap _ [y])]
      simp
    · obtain ⟨bp, v2, rfl, sv, hb⟩ := pv
      rw [iv_len, List.length_map, List.take_length] at hb
      have TV := T2.same (s3.trans sv)
      refine ⟨_, rfl, _, rfl, A, X, f, t, rfl, TV, CP.wf.lnd, by omega, fun a1 H4 na1 s4 ha1 => ?_⟩
      refine ⟨a1, _, rfl, ha1, by rw [endB_len]; omega, fun a2 H5 na2 s5 ha2 => ?_⟩
      have hfl := fm_le hil
      refine ⟨bp, a2, _, _, rfl, rfl, s5 _ _ (s4 _ _ hb), ha2, sz _ (by rw [iv_len, iv_len, List.length_append, recB_len, recB_len, endB_len]; omega), ?_⟩
      intro a3 na3; generalize hH_a3 : upd _ a3 _ = H6; have s6 := snew na3 hH_a3; have ha3 := hnew hH_a3; clear hH_a3
      refine k a3 H6 (((((s1.trans s2).trans s3).trans sv).trans (s4.trans s5)).free na3) (((((s1.trans s2).trans s3).trans sv).trans (s4.trans s5)).trans s6) ?_
      rw [ha3, ecb, iv_append (recB B0 ++ _) (recB (endB t))]
end
end TT
end
section
namespace TT
open Ue17
/-- each is made of one with a lower number that's there -/
structure RP (t : Tree) : Prop where
  inc : t.nodes.Pairwise fun x y => x.number < y.number
  par : ∀ x ∈ t.nodes, ∀ p, x.parent = some p → p < x.number ∧ ∃ y ∈ t.nodes, y.number = p
theorem RP.nd {t : Tree} (R : RP t) : (t.nodes.map fun x => x.number).Nodup := nd_of_inc R.inc
theorem upFrom_app (t : Tree) : ∀ (k n : Nat) (l m : List Node), upFrom k t n (l ++ m) = upFrom k t n l ++ m
  | 0, _, _, _ => rfl
  | k + 1, n, l, m => by
    unfold upFrom
    cases find t n with
    | none => rfl
    | some x =>
      show (match x.parent with | none => x :: (l ++ m) | some p => upFrom k t p (x :: (l ++ m))) = (match x.parent with | none => x :: l | some p => upFrom k t p (x :: l)) ++ m
      cases x.parent with
      | none => rfl
      | some p => exact upFrom_app t k p (x :: l) m
def rank (t : Tree) (n : Nat) : Nat := (t.nodes.filter fun x => decide (x.number ≤ n)).length
theorem filter_lt {ns : List Node} {p n : Nat} {x : Node} (hx : x ∈ ns) (h1 : p < x.number) (h2 : x.number ≤ n) : (ns.filter fun y => decide (y.number ≤ p)).length < (ns.filter fun y => decide (y.number ≤ n)).length := by
  have hle : ∀ l : List Node, (l.filter fun y => decide (y.number ≤ p)).length ≤ (l.filter fun y => decide (y.number ≤ n)).length := by
    intro l
    induction l with
    | nil => simp
    | cons z l ih =>
      rw [List.filter_cons, List.filter_cons]
      by_cases a : z.number ≤ p
      · rw [if_pos (decide_eq_true a), if_pos (decide_eq_true (show z.number ≤ n by omega))]
        simp only [List.length_cons]
        omega
      · rw [if_neg (by simp; omega)]
        split
        · simp only [List.length_cons]; omega
        · exact ih
  induction ns with
  | nil => cases hx
  | cons y ns ih =>
    rw [List.filter_cons, List.filter_cons]
    rcases List.mem_cons.mp hx with q | q
    · rw [← q, if_neg (by simp; omega), if_pos (decide_eq_true h2)]
      have := hle ns
      simp only [List.length_cons]
      omega
    · have := ih q
      by_cases a : y.number ≤ p
      · rw [if_pos (decide_eq_true a), if_pos (decide_eq_true (show y.number ≤ n by omega))]
        simp only [List.length_cons]
        omega
      · rw [if_neg (by simp; omega)]
        split
        · simp only [List.length_cons]; omega
        · exact this
theorem RP.fuel {t : Tree} (R : RP t) : ∀ (k n : Nat), rank t n ≤ k → upFrom k t n [] = upFrom (k + 1) t n []
  | 0, n, h => by
    have : find t n = none := by
      cases hf : find t n with
      | none => rfl
      | some x =>
        obtain ⟨h1, h2⟩ := find_some hf
        have : x ∈ t.nodes.filter fun y => decide (y.number ≤ n) := List.mem_filter.mpr ⟨h1, decide_eq_true (by omega)⟩
        have := List.length_pos_of_mem this
        unfold rank at h
        omega
    show [] = upFrom 1 t n []
    unfold upFrom
    rw [this]
  | k + 1, n, h => by
    unfold upFrom
    cases hf : find t n with
    | none => rfl
    | some x =>
      obtain ⟨h1, h2⟩ := find_some hf
      show (match x.parent with | none => [x] | some p => upFrom k t p [x]) = (match x.parent with | none => [x] | some p => upFrom (k + 1) t p [x])
      cases hp : x.parent with
      | none => rfl
      | some p =>
        have hlt := (R.par x h1 p hp).1
        have hr : rank t p < rank t n := filter_lt h1 hlt (by omega)
        have := R.fuel k p (by omega)
        show upFrom k t p ([] ++ [x]) = upFrom (k + 1) t p ([] ++ [x])
        rw [upFrom_app, upFrom_app, this]
theorem rank_le (t : Tree) (n : Nat) : rank t n ≤ t.nodes.length := List.length_filter_le ..
theorem RP.path_some {t : Tree} (R : RP t) {x : Node} {p : Nat} (hx : x ∈ t.nodes) (hp : x.parent = some p) : path t x.number = path t p ++ [x] := by
  unfold path
  have hf := find_mem R.nd hx
  have hlt := (R.par x hx p hp).1
  have hr : rank t p < rank t x.number := filter_lt hx hlt (Nat.le_refl _)
  have h2 := rank_le t x.number
  rw [← R.fuel t.nodes.length p (by omega), ← upFrom_app]
  show upFrom (t.nodes.length + 1) t x.number [] = upFrom t.nodes.length t p ([] ++ [x])
  conv => lhs; unfold upFrom
  rw [hf]
  show (match x.parent with | none => [x] | some p => upFrom t.nodes.length t p [x]) = _
  rw [hp]
  rfl
theorem RP.path_none {t : Tree} (R : RP t) {x : Node} (hx : x ∈ t.nodes) (hp : x.parent = none) : path t x.number = [x] := by
  unfold path upFrom
  rw [find_mem R.nd hx]
  show (match x.parent with | none => [x] | some p => _) = _
  rw [hp]
theorem path_ne {t : Tree} {x : Node} (nd : (t.nodes.map fun x => x.number).Nodup) (hx : x ∈ t.nodes) : path t x.number ≠ [] := by
  have : ∀ k n (l : List Node), l ≠ [] → upFrom k t n l ≠ [] := by
    intro k
    induction k with
    | zero => intro n l h; exact h
    | succ k ih =>
      intro n l h
      unfold upFrom
      cases find t n with
      | none => exact h
      | some y =>
        show (match y.parent with | none => y :: l | some p => upFrom k t p (y :: l)) ≠ []
        cases y.parent with
        | none => simp
        | some p => exact ih p (y :: l) (by simp)
  unfold path upFrom
  rw [find_mem nd hx]
  show (match x.parent with | none => [x] | some p => upFrom t.nodes.length t p [x]) ≠ []
  cases x.parent with
  | none => simp
  | some p => exact this _ p [x] (by simp)
theorem RP.text_some {t : Tree} (R : RP t) {x : Node} {p : Nat} (hx : x ∈ t.nodes) (hp : x.parent = some p) : textAt t x.number = changed (textAt t p) x.change := by
  obtain ⟨_, y, hy, ey⟩ := R.par x hx p hp
  have hne : path t p ≠ [] := by rw [← ey]; exact path_ne R.nd hy
  unfold textAt
  rw [R.path_some hx hp, List.drop_append_of_le_length (by have := List.length_pos_iff.mpr hne; omega), List.foldl_append]
  rfl
theorem RP.text_none {t : Tree} (R : RP t) {x : Node} (hx : x ∈ t.nodes) (hp : x.parent = none) : textAt t x.number = t.base := by
  unfold textAt
  rw [R.path_none hx hp]
  rfl
theorem RP.unique {u : Tree} (R : RP u) (T : Nat → Bytes) (h : ∀ x ∈ u.nodes, (x.parent = none → T x.number = u.base) ∧ ∀ p, x.parent = some p → T x.number = changed (T p) x.change) : ∀ (n : Nat) (x : Node), x ∈ u.nodes → x.number = n → textAt u n = T n := by
  intro n
  induction n using Nat.strongRecOn with
  | ind n ih =>
    intro x hx e
    subst e
    cases hp : x.parent with
    | none => rw [R.text_none hx hp, (h x hx).1 hp]
    | some p =>
      obtain ⟨h1, y, hy, ey⟩ := R.par x hx p hp
      rw [R.text_some hx hp, (h x hx).2 p hp, ih p h1 y hy ey]
/-- one more state behind: the texts stay -/
theorem RP.snoc {t : Tree} (R : RP t) {n p : Nat} {c : Change} {k : Bool} (h1 : ∀ x ∈ t.nodes, x.number < n) (h2 : ∃ y ∈ t.nodes, y.number = p) (u : Tree) (hu : u.nodes = t.nodes ++ [⟨n, some p, c, k⟩]) : RP u := by
  obtain ⟨y, hy, ey⟩ := h2
  refine ⟨?_, ?_⟩
  · rw [hu]
    refine List.pairwise_append.mpr ⟨R.inc, List.pairwise_singleton .., fun x hx z hz => ?_⟩
    rw [List.mem_singleton.mp hz]
    exact h1 x hx
  · intro x hx q hq
    rw [hu] at hx ⊢
    rcases List.mem_append.mp hx with z | z
    · obtain ⟨a, b, hb, eb⟩ := R.par x z q hq
      exact ⟨a, b, List.mem_append.mpr (.inl hb), eb⟩
    · rw [List.mem_singleton.mp z] at hq ⊢
      have : p = q := Option.some.inj hq
      subst this
      exact ⟨by rw [← ey]; exact h1 y hy, y, List.mem_append.mpr (.inl hy), ey⟩
theorem RP.snoc_text {t : Tree} (R : RP t) {n p : Nat} {c : Change} {k : Bool} (h1 : ∀ x ∈ t.nodes, x.number < n) (h2 : ∃ y ∈ t.nodes, y.number = p) (u : Tree) (hu : u.nodes = t.nodes ++ [⟨n, some p, c, k⟩]) (hb : u.base = t.base) : ∀ x ∈ t.nodes, textAt u x.number = textAt t x.number := fun x hx => by
  have RU := R.snoc h1 h2 u hu
  have key : ∀ (m : Nat) (x : Node), x ∈ t.nodes → x.number = m → textAt u m = textAt t m := by
    intro m
    induction m using Nat.strongRecOn with
    | ind m ih =>
      intro x hx e
      subst e
      have hxu : x ∈ u.nodes := by rw [hu]; exact List.mem_append.mpr (.inl hx)
      cases hp : x.parent with
      | none => rw [R.text_none hx hp, RU.text_none hxu hp, hb]
      | some q =>
        obtain ⟨a, y, hy, ey⟩ := R.par x hx q hp
        rw [R.text_some hx hp, RU.text_some hxu hp, ih q a y hy ey]
  exact key x.number x hx rfl
theorem RP.congr {t u : Tree} (R : RP t) (h : u.nodes = t.nodes) : RP u := ⟨by rw [h]; exact R.inc, by rw [h]; exact R.par⟩
end TT
end
section
namespace TT
open Ue17
structure RT (f : Nat) (t : Tree) : Prop where
  wf : WF f t 41
  par : ∀ x ∈ t.nodes, ∀ p, x.parent = some p → p < x.number ∧ ∃ y ∈ t.nodes, y.number = p
  now : ∃ y ∈ t.nodes, y.number = t.now
  gv : t.given ≤ 40
  bs : t.base.length ≤ 80
  tx : ∀ x ∈ t.nodes, (textAt t x.number).length ≤ 80
  tb : ∀ x ∈ t.nodes, ∀ b ∈ textAt t x.number, b ≤ 255
  bb : ∀ b ∈ t.base, b ≤ 255
  cb : ∀ x ∈ t.nodes, x.change.at_ ≤ 80 ∧ x.change.out ≤ 80 ∧ x.change.in_.length ≤ 80 ∧ ∀ b ∈ x.change.in_, b ≤ 255
  dd : t.deeds ≤ 65535
theorem RT.rp {f : Nat} {t : Tree} (R : RT f t) : RP t := ⟨R.wf.inc, R.par⟩
theorem wf41 {f n : Nat} {t : Tree} (W : WF f t n) (g : t.given ≤ 40) (b : t.base.length ≤ 80) : WF f t 41 := by
  refine ⟨W.inc, W.fst, W.uniq, W.lt, W.lnd, W.lch, W.chl, ?_⟩
  have := nodup_le (m := List.range 40) W.nd fun x hx => by
    obtain ⟨y, hy, rfl⟩ := List.mem_map.mp hx
    have := W.lt y hy
    exact List.mem_range.mpr (by omega)
  rw [List.length_map, List.length_range] at this
  omega
theorem RT.hd {f : Nat} {t : Tree} (R : RT f t) : ∃ x r, t.nodes = x :: r ∧ x.parent = none := by
  cases h : t.nodes with
  | nil =>
    obtain ⟨x, hx, _⟩ := R.wf.fst
    rw [h] at hx
    cases hx
  | cons x r =>
    refine ⟨x, r, rfl, ?_⟩
    cases hp : x.parent with
    | none => rfl
    | some p =>
      obtain ⟨h1, y, hy, ey⟩ := R.par x (by rw [h]; exact List.mem_cons_self) p hp
      have h2 := R.wf.inc
      rw [h] at h2 hy
      rcases List.mem_cons.mp hy with q | q
      · rw [q] at ey; omega
      · have := (List.pairwise_cons.mp h2).1 y q
        omega
theorem changed_bytes {w : List Nat} {c : Change} (h1 : ∀ b ∈ w, b ≤ 255) (h2 : ∀ b ∈ c.in_, b ≤ 255) : ∀ b ∈ changed w c, b ≤ 255 := fun b hb => by
  unfold changed at hb
  rcases List.mem_append.mp hb with q | q
  · exact h1 b (List.mem_of_mem_take q)
  · rcases List.mem_append.mp q with q | q
    · exact h2 b q
    · exact h1 b (List.mem_of_mem_drop q)
theorem RT.now_text {f : Nat} {t : Tree} (R : RT f t) : (textAt t t.now).length ≤ 80 ∧ ∀ b ∈ textAt t t.now, b ≤ 255 := by
  obtain ⟨y, hy, e⟩ := R.now
  rw [← e]
  exact ⟨R.tx y hy, R.tb y hy⟩
/-- same nodes, same base: what else changes is small -/
theorem RT.like {f : Nat} {t u : Tree} (R : RT f t) (W : WF f u 41) (h1 : u.nodes = t.nodes) (h2 : u.base = t.base) (hn : ∃ y ∈ t.nodes, y.number = u.now) (hg : u.given ≤ 40) (hd : u.deeds ≤ 65535) : RT f u := by
  refine ⟨W, by rw [h1]; exact R.par, by rw [h1]; exact hn, hg, by rw [h2]; exact R.bs, ?_, ?_, by rw [h2]; exact R.bb, by rw [h1]; exact R.cb, hd⟩
  · intro x hx
    rw [h1] at hx
    rw [textAt_congr h1 h2]
    exact R.tx x hx
  · intro x hx
    rw [h1] at hx
    rw [textAt_congr h1 h2]
    exact R.tb x hx
theorem RT.make {f : Nat} {t : Tree} (R : RT f t) {c : Change} (hm : may t (.make c) = true) (hd : t.deeds < 65535) : RT f (did t (.make c)) := by
  have hm : (fits (textAt t t.now) c && (isBytes c.in_ && (decide ((changed (textAt t t.now) c).length ≤ 80) && decide (t.given < 40)))) = true := hm
  simp only [Bool.and_eq_true, decide_eq_true_eq] at hm
  obtain ⟨m1, m2, m3, m4⟩ := hm
  have m1 : c.at_ + c.out ≤ (textAt t t.now).length := of_decide_eq_true m1
  have hby : ∀ b ∈ c.in_, b ≤ 255 := fun b hb => by
    have := List.all_eq_true.mp m2 b hb
    exact of_decide_eq_true this
  obtain ⟨n1, n2⟩ := R.now_text
  have hcl := changed_len_eq m1
  have hin : c.in_.length ≤ 80 := by omega
  have W := R.wf.make c (by omega)
  have hlt : ∀ x ∈ t.nodes, x.number < t.given := R.wf.lt
  have RU : RP (did t (.make c)) := R.rp.snoc (k := false) (c := c) hlt R.now (did t (.make c)) rfl
  have htx := R.rp.snoc_text (k := false) (c := c) hlt R.now (did t (.make c)) rfl rfl
  have hnew : textAt (did t (.make c)) t.given = changed (textAt t t.now) c := by
    have hx : (⟨t.given, some t.now, c, false⟩ : Node) ∈ (did t (.make c)).nodes := List.mem_append.mpr (.inr (List.mem_singleton.mpr rfl))
    have := RU.text_some hx (p := t.now) rfl
    refine this.trans ?_
    obtain ⟨y, hy, e⟩ := R.now
    rw [← e, htx y hy]
  refine ⟨wf41 W (show t.given + 1 ≤ 40 by omega) R.bs, RU.par, ⟨_, List.mem_append.mpr (.inr (List.mem_singleton.mpr rfl)), rfl⟩, show t.given + 1 ≤ 40 by omega, R.bs, ?_, ?_, R.bb, ?_, by rw [did_deeds]; omega⟩
  · intro x hx
    rcases List.mem_append.mp hx with q | q
    · rw [htx x q]; exact R.tx x q
    · rw [List.mem_singleton.mp q]
      show (textAt (did t (.make c)) t.given).length ≤ 80
      rw [hnew]; exact m3
  · intro x hx
    rcases List.mem_append.mp hx with q | q
    · rw [htx x q]; exact R.tb x q
    · rw [List.mem_singleton.mp q]
      show ∀ b ∈ textAt (did t (.make c)) t.given, b ≤ 255
      rw [hnew]
      exact changed_bytes n2 hby
  · intro x hx
    rcases List.mem_append.mp hx with q | q
    · exact R.cb x q
    · rw [List.mem_singleton.mp q]
      exact ⟨show c.at_ ≤ 80 by omega, show c.out ≤ 80 by omega, hin, hby⟩
theorem RT.goes {f : Nat} {t : Tree} (R : RT f t) {n : Nat} (hm : (find t n).isSome = true) (hd : t.deeds < 65535) : RT f (did t (.goes n)) := by
  obtain ⟨x, hx⟩ := Option.isSome_iff_exists.mp hm
  obtain ⟨a, b⟩ := find_some hx
  exact R.like (R.wf.goes n) rfl rfl ⟨x, a, b⟩ R.gv (by rw [did_deeds]; omega)
theorem RT.keep {f : Nat} {t : Tree} (R : RT f t) (n : Nat) (k : Bool) (hd : t.deeds < 65535) : RT f (did t (.keep n k)) := by
  let g : Node → Node := fun x => if x.number = n then { x with kept := k } else x
  have gn : ∀ x, (g x).number = x.number ∧ (g x).parent = x.parent ∧ (g x).change = x.change := fun x => by
    by_cases e : x.number = n
    · simp [g, e]
    · simp [g, e]
  have hno : (did t (.keep n k)).nodes = t.nodes.map g := rfl
  have hpar : ∀ x ∈ (did t (.keep n k)).nodes, ∀ p, x.parent = some p → p < x.number ∧ ∃ y ∈ (did t (.keep n k)).nodes, y.number = p := by
    intro x hx p hp
    rw [hno] at hx ⊢
    obtain ⟨y, hy, rfl⟩ := List.mem_map.mp hx
    rw [(gn y).2.1] at hp
    obtain ⟨a, z, hz, ez⟩ := R.par y hy p hp
    exact ⟨by rw [(gn y).1]; exact a, g z, List.mem_map.mpr ⟨z, hz, rfl⟩, (gn z).1.trans ez⟩
  have W := R.wf.keep n k
  have RU : RP (did t (.keep n k)) := ⟨W.inc, hpar⟩
  have htx : ∀ x ∈ t.nodes, textAt (did t (.keep n k)) x.number = textAt t x.number := fun x hx =>
    RU.unique (textAt t) (fun y hy => by
      rw [hno] at hy
      obtain ⟨z, hz, rfl⟩ := List.mem_map.mp hy
      rw [(gn z).1, (gn z).2.1, (gn z).2.2]
      exact ⟨fun hp => R.rp.text_none hz hp, fun p hp => R.rp.text_some hz hp⟩) x.number (g x) (by rw [hno]; exact List.mem_map.mpr ⟨x, hx, rfl⟩) (gn x).1
  refine ⟨W, hpar, ?_, R.gv, R.bs, ?_, ?_, R.bb, ?_, by rw [did_deeds]; omega⟩
  · obtain ⟨y, hy, e⟩ := R.now
    exact ⟨g y, by rw [hno]; exact List.mem_map.mpr ⟨y, hy, rfl⟩, (gn y).1.trans e⟩
  · intro x hx
    rw [hno] at hx
    obtain ⟨y, hy, rfl⟩ := List.mem_map.mp hx
    rw [(gn y).1, htx y hy]; exact R.tx y hy
  · intro x hx
    rw [hno] at hx
    obtain ⟨y, hy, rfl⟩ := List.mem_map.mp hx
    rw [(gn y).1, htx y hy]; exact R.tb y hy
  · intro x hx
    rw [hno] at hx
    obtain ⟨y, hy, rfl⟩ := List.mem_map.mp hx
    rw [(gn y).2.2]; exact R.cb y hy
theorem RT.drop {f : Nat} {t : Tree} (R : RT f t) {m : Nat} (hf : m ≠ f) (hn : m ≠ t.now) (hc : children t m = []) : RT f (dropT t m) := by
  have sub : ∀ x ∈ (dropT t m).nodes, x ∈ t.nodes ∧ x.number ≠ m := fun x hx => by
    obtain ⟨a, b⟩ := List.mem_filter.mp hx
    exact ⟨a, by simpa using b⟩
  have back : ∀ x ∈ t.nodes, x.number ≠ m → x ∈ (dropT t m).nodes := fun x hx e => List.mem_filter.mpr ⟨hx, by simpa using e⟩
  have hpar : ∀ x ∈ (dropT t m).nodes, ∀ p, x.parent = some p → p < x.number ∧ ∃ y ∈ (dropT t m).nodes, y.number = p := by
    intro x hx p hp
    obtain ⟨a, b⟩ := sub x hx
    obtain ⟨c, z, hz, ez⟩ := R.par x a p hp
    refine ⟨c, z, back z hz fun q => ?_, ez⟩
    have : x.number ∈ children t m := List.mem_map.mpr ⟨x, List.mem_filter.mpr ⟨a, by rw [hp, ← ez, q]; exact beq_self_eq_true _⟩, rfl⟩
    rw [hc] at this
    cases this
  have W := R.wf.drop hf
  have RU : RP (dropT t m) := ⟨W.inc, hpar⟩
  have htx : ∀ x ∈ (dropT t m).nodes, textAt (dropT t m) x.number = textAt t x.number := fun x hx =>
    RU.unique (textAt t) (fun y hy => ⟨fun hp => R.rp.text_none (sub y hy).1 hp, fun p hp => R.rp.text_some (sub y hy).1 hp⟩) x.number x hx rfl
  refine ⟨W, hpar, ?_, R.gv, R.bs, fun x hx => by rw [htx x hx]; exact R.tx x (sub x hx).1, fun x hx => by rw [htx x hx]; exact R.tb x (sub x hx).1, R.bb, fun x hx => R.cb x (sub x hx).1, R.dd⟩
  obtain ⟨y, hy, e⟩ := R.now
  exact ⟨y, back y hy (by rw [e]; exact fun q => hn q.symm), e⟩
theorem RT.first {f : Nat} {t : Tree} (R : RT f t) {c : Nat} (hc : children t f = [c]) (hn : f ≠ t.now) : RT c (firstT t f c) := by
  have W := R.wf.first hc
  have hcm : ∃ y ∈ t.nodes, y.number = c ∧ y.parent = some f := by
    have : c ∈ children t f := by rw [hc]; exact List.mem_singleton.mpr rfl
    obtain ⟨y, hy, e⟩ := List.mem_map.mp this
    obtain ⟨a, b⟩ := List.mem_filter.mp hy
    exact ⟨y, a, e, eq_of_beq b⟩
  obtain ⟨yc, hyc, ec, pc⟩ := hcm
  have only : ∀ z ∈ t.nodes, z.parent = some f → z.number = c := fun z hz hp => by
    have : z.number ∈ children t f := List.mem_map.mpr ⟨z, List.mem_filter.mpr ⟨hz, by rw [hp]; exact beq_self_eq_true _⟩, rfl⟩
    rw [hc] at this
    exact List.mem_singleton.mp this
  let g : Node → Node := fun y => if y.number = c then { y with parent := none, change := NOTHING } else y
  have gn : ∀ z, (g z).number = z.number := fun z => by
    show (if z.number = c then _ else _ : Node).number = _
    split <;> rfl
  have gp : ∀ z, z.number ≠ c → g z = z := fun z q => if_neg q
  have gc : ∀ z, z.number = c → (g z).parent = none ∧ (g z).change = NOTHING := fun z q => by
    show (if z.number = c then _ else _ : Node).parent = none ∧ (if z.number = c then _ else _ : Node).change = NOTHING
    rw [if_pos q]
    exact ⟨rfl, rfl⟩
  have hno : (firstT t f c).nodes = (t.nodes.filter fun y => y.number != f).map g := rfl
  have sub : ∀ x ∈ (firstT t f c).nodes, ∃ y ∈ t.nodes, y.number ≠ f ∧ x = g y := fun x hx => by
    rw [hno] at hx
    obtain ⟨y, hy, rfl⟩ := List.mem_map.mp hx
    obtain ⟨a, b⟩ := List.mem_filter.mp hy
    exact ⟨y, a, by simpa using b, rfl⟩
  have back : ∀ x ∈ t.nodes, x.number ≠ f → g x ∈ (firstT t f c).nodes := fun x hx e => List.mem_map.mpr ⟨x, List.mem_filter.mpr ⟨hx, by simpa using e⟩, rfl⟩
  have hpar : ∀ x ∈ (firstT t f c).nodes, ∀ p, x.parent = some p → p < x.number ∧ ∃ y ∈ (firstT t f c).nodes, y.number = p := by
    intro x hx p hp
    obtain ⟨y, hy, hyf, rfl⟩ := sub x hx
    by_cases q : y.number = c
    · rw [(gc y q).1] at hp; cases hp
    · rw [gp y q] at hp ⊢
      obtain ⟨a, z, hz, ez⟩ := R.par y hy p hp
      have hzf : z.number ≠ f := fun e => q (only y hy (by rw [hp, ← ez, e]))
      exact ⟨a, g z, back z hz hzf, (gn z).trans ez⟩
  have RU : RP (firstT t f c) := ⟨W.inc, hpar⟩
  have htx : ∀ y ∈ t.nodes, y.number ≠ f → textAt (firstT t f c) y.number = textAt t y.number := fun y hy hyf =>
    RU.unique (textAt t) (fun x hx => by
      obtain ⟨z, hz, hzf, rfl⟩ := sub x hx
      rw [gn]
      by_cases q : z.number = c
      · refine ⟨fun _ => ?_, fun p hp => ?_⟩
        · rw [q]; rfl
        · rw [(gc z q).1] at hp; cases hp
      · rw [gp z q]
        refine ⟨fun hp => ?_, fun p hp => R.rp.text_some hz hp⟩
        exact absurd (R.wf.uniq z hz hp) hzf) y.number (g y) (back y hy hyf) (gn y)
  have htc := R.tx yc hyc
  rw [ec] at htc
  have htb := R.tb yc hyc
  rw [ec] at htb
  refine ⟨W, hpar, ?_, R.gv, htc, ?_, ?_, htb, ?_, R.dd⟩
  · obtain ⟨y, hy, e⟩ := R.now
    exact ⟨g y, back y hy (by rw [e]; exact fun q => hn q.symm), (gn y).trans e⟩
  · intro x hx
    obtain ⟨y, hy, hyf, rfl⟩ := sub x hx
    rw [gn, htx y hy hyf]; exact R.tx y hy
  · intro x hx
    obtain ⟨y, hy, hyf, rfl⟩ := sub x hx
    rw [gn, htx y hy hyf]; exact R.tb y hy
  · intro x hx
    obtain ⟨y, hy, hyf, rfl⟩ := sub x hx
    by_cases q : y.number = c
    · rw [(gc y q).2]
      exact ⟨by decide, by decide, by decide, fun b hb => by cases hb⟩
    · rw [gp y q]; exact R.cb y hy
theorem RT.lessEnds {f : Nat} (n : Nat) : ∀ (k : Nat) {t : Tree}, RT f t → RT f (lessEnds k t n)
  | 0, _, R => R
  | k + 1, t, R => by
    unfold Ue17.lessEnds
    split
    · exact R
    · cases h : nextEnd t with
      | none => exact R
      | some x =>
        have h2 := List.find?_some h
        simp only [Bool.and_eq_true, bne_iff_ne, ne_eq] at h2
        obtain ⟨hx1, hx2⟩ := nextEnd_some h
        refine RT.lessEnds n k (t := dropT t x.number) (R.drop (fun z => ?_) h2.2.2.1 ?_)
        · obtain ⟨y, hy, ey, py⟩ := R.wf.ffind
          have := mem_inj R.wf.nd hx1 (find_some hy).1 (by rw [z, ey])
          rw [this, py] at hx2
          cases hx2
        · cases hc : children t x.number with
          | nil => rfl
          | cons a l => rw [hc] at h2; cases h2.1
theorem RT.lessFirst (n : Nat) : ∀ (k : Nat) {f : Nat} {t : Tree}, RT f t → ∃ f', RT f' (lessFirst k t n)
  | 0, f, _, R => ⟨f, R⟩
  | k + 1, f, t, R => by
    unfold Ue17.lessFirst
    split
    · exact ⟨f, R⟩
    · obtain ⟨x, h1, h2, h3⟩ := R.wf.first_find
      rw [h1]
      show ∃ f', RT f' (if x.number = t.now ∨ x.kept = true then t else match children t x.number with | [c] => Ue17.lessFirst k (firstT t x.number c) n | _ => t)
      split
      · exact ⟨f, R⟩
      · rename_i q
        split
        · rename_i c hc
          rw [h2] at hc ⊢
          exact RT.lessFirst n k (R.first hc fun z => q (.inl (by rw [h2, z])))
        · exact ⟨f, R⟩
theorem RT.deeds {f : Nat} {t : Tree} (R : RT f t) {d : Nat} (h : d ≤ 65535) : RT f { t with deeds := d } := R.like (R.wf.deeds d) rfl rfl R.now R.gv h
theorem RT.did {f : Nat} {t : Tree} (R : RT f t) {d : Deed} (hm : may t d = true) (hd : t.deeds < 65535) : ∃ f', RT f' (did t d) := by
  cases d with
  | make c => exact ⟨f, R.make hm hd⟩
  | goes n => exact ⟨f, R.goes hm hd⟩
  | keep n k => exact ⟨f, R.keep n k hd⟩
  | forget n =>
    have R1 : RT f { t with deeds := t.deeds + 1 } := R.deeds (by omega)
    exact RT.lessFirst n _ (R1.lessEnds n _)
theorem RT.init : RT 0 Ue17.first := by
  refine ⟨⟨?_, ⟨_, List.mem_singleton.mpr rfl, rfl, rfl⟩, fun x hx _ => by rw [List.mem_singleton.mp hx], fun x hx => by rw [List.mem_singleton.mp hx]; decide, List.Pairwise.nil, fun y hy => (by cases hy), fun x hx => by rw [List.mem_singleton.mp hx]; decide, by decide⟩, ?_, ⟨_, List.mem_singleton.mpr rfl, rfl⟩, by decide, by decide, ?_, ?_, fun b hb => (by cases hb), ?_, by decide⟩
  · exact List.pairwise_singleton ..
  · intro x hx p hp; rw [List.mem_singleton.mp hx] at hp; cases hp
  · intro x hx; rw [List.mem_singleton.mp hx]; decide
  · intro x hx b hb; rw [List.mem_singleton.mp hx] at hb; revert hb; decide +revert
  · intro x hx; rw [List.mem_singleton.mp hx]; exact ⟨by decide, by decide, by decide, fun b hb => (by cases hb)⟩
end TT
end
section
namespace TT
open Ue17
def sortNo (r : Rec) : Nat := (body r).headD 0
theorem sortNo_base {r : Rec} (h : sortNo r = 5) : ∃ n k w, r = .base n k w := by
  cases r with
  | deed d => cases d <;> cases h
  | base n k t => exact ⟨n, k, t, rfl⟩
  | node n p k c => cases h
  | rest a b d l => cases h
theorem sortNo_node {r : Rec} (h : sortNo r = 6) : ∃ n p k c, r = .node n p k c := by
  cases r with
  | deed d => cases d <;> cases h
  | base n k t => cases h
  | node n p k c => exact ⟨n, p, k, c, rfl⟩
  | rest a b d l => cases h
theorem sortNo_rest {r : Rec} (h : sortNo r = 7) : ∃ a g d l, r = .rest a g d l := by
  cases r with
  | deed d => cases d <;> cases h
  | base n k t => cases h
  | node n p k c => cases h
  | rest a b d l => exact ⟨a, b, d, l, rfl⟩
def toRec (x : Node) : Rec := .node x.number (x.parent.getD 0) x.kept x.change
def cutN (rs : List Rec) : Nat := if 7 ∈ rs.map sortNo then (if (rs.map sortNo).take ((rs.map sortNo).idxOf 7) = 5 :: List.replicate ((rs.map sortNo).idxOf 7 - 1) 6 then (rs.map sortNo).idxOf 7 + 1 else 0) else 0
/-- a copy's look: one 5, some 6, a 7 -/
inductive Look : List Rec → Prop
  | mk (n : Nat) (k : Bool) (w : Bytes) (ns : List Node) (a g d : Nat) (l : List (Nat × Nat)) (r : List Rec) : (∀ x ∈ ns, x.parent.isSome = true) → Look (.base n k w :: (ns.map toRec ++ .rest a g d l :: r))
theorem idx_split : ∀ (l : List Nat), 7 ∈ l → ∃ r, l = l.take (l.idxOf 7) ++ 7 :: r ∧ 7 ∉ l.take (l.idxOf 7)
  | [], h => by cases h
  | x :: l, h => by
    by_cases e : x = 7
    · subst e
      refine ⟨l, ?_, ?_⟩
      · rw [List.idxOf_cons]; simp
      · rw [List.idxOf_cons]; simp
    · have h' : 7 ∈ l := by
        rcases List.mem_cons.mp h with q | q
        · exact absurd q.symm e
        · exact q
      obtain ⟨r, e1, e2⟩ := idx_split l h'
      have ei : (x :: l).idxOf 7 = l.idxOf 7 + 1 := by
        rw [List.idxOf_cons, show (x == 7) = false from beq_eq_false_iff_ne.mpr e]
        rfl
      refine ⟨r, ?_, ?_⟩
      · rw [ei]
        show x :: l = x :: (l.take (l.idxOf 7) ++ 7 :: r)
        rw [← e1]
      · rw [ei]
        show 7 ∉ x :: l.take (l.idxOf 7)
        intro m
        rcases List.mem_cons.mp m with q | q
        · exact e q.symm
        · exact e2 q
theorem nodes_of : ∀ (l : List Rec) (k : Nat), l.map sortNo = List.replicate k 6 → ∃ ns : List Node, ns.length = k ∧ l = ns.map toRec ∧ ∀ x ∈ ns, x.parent.isSome = true
  | [], k, h => by
    cases k with
    | zero => exact ⟨[], rfl, rfl, fun x hx => by cases hx⟩
    | succ k => cases h
  | r :: l, k, h => by
    cases k with
    | zero => cases h
    | succ k =>
      have h : sortNo r :: l.map sortNo = 6 :: List.replicate k 6 := h
      injection h with h1 h2
      obtain ⟨n, p, kk, c, rfl⟩ := sortNo_node h1
      obtain ⟨ns, e1, e2, e3⟩ := nodes_of l k h2
      refine ⟨⟨n, some p, c, kk⟩ :: ns, by simp [e1], by rw [e2]; rfl, fun x hx => ?_⟩
      rcases List.mem_cons.mp hx with q | q
      · rw [q]; rfl
      · exact e3 x q
theorem cutN_look {rs : List Rec} (h : cutN rs ≠ 0) : ∃ (n : Nat) (k : Bool) (w : Bytes) (ns : List Node) (a g d : Nat) (l : List (Nat × Nat)) (r : List Rec), rs = .base n k w :: (ns.map toRec ++ .rest a g d l :: r) ∧ (∀ x ∈ ns, x.parent.isSome = true) ∧ cutN rs = ns.length + 2 := by
  unfold cutN at h ⊢
  split at h
  · rename_i h7
    rw [if_pos h7]
    split at h
    · rename_i h5
      rw [if_pos h5]
      obtain ⟨r0, e1, e2⟩ := idx_split _ h7
      generalize hi : (rs.map sortNo).idxOf 7 = i at *
      rw [h5] at e1
      cases rs with
      | nil => cases h7
      | cons a rs =>
        have e1 : sortNo a :: rs.map sortNo = 5 :: (List.replicate (i - 1) 6 ++ 7 :: r0) := e1
        injection e1 with a1 a2
        obtain ⟨n, k, w, rfl⟩ := sortNo_base a1
        have hlen : (5 :: List.replicate (i - 1) 6).length = i := by
          rw [← h5, List.length_take]
          have := List.idxOf_lt_length_of_mem h7
          rw [hi] at this
          omega
        have hi1 : i = i - 1 + 1 := by
          rw [List.length_cons, List.length_replicate] at hlen
          omega
        have sp : rs = rs.take (i - 1) ++ rs.drop (i - 1) := (List.take_append_drop ..).symm
        have b1 : (rs.take (i - 1)).map sortNo = List.replicate (i - 1) 6 := by
          rw [List.map_take, a2, List.take_append_of_le_length (by simp)]
          rw [List.take_of_length_le (by simp)]
        have b2 : (rs.drop (i - 1)).map sortNo = 7 :: r0 := by
          rw [List.map_drop, a2, List.drop_append_of_le_length (by simp), List.drop_of_length_le (by simp)]
          rfl
        obtain ⟨ns, n1, n2, n3⟩ := nodes_of _ _ b1
        cases hd : rs.drop (i - 1) with
        | nil => rw [hd] at b2; cases b2
        | cons q qs =>
          rw [hd] at b2
          have b2 : sortNo q :: qs.map sortNo = 7 :: r0 := b2
          injection b2 with c1 c2
          obtain ⟨a, g, d, l, rfl⟩ := sortNo_rest c1
          refine ⟨n, k, w, ns, a, g, d, l, qs, ?_, n3, by omega⟩
          rw [sp, n2, hd]
    · exact absurd rfl h
  · exact absurd rfl h
theorem treeFrom_nolook : ∀ (rs : List Rec) (l : List Node) (w : Bytes), treeFrom l (some w) rs ≠ none → ∃ (ns : List Node) (a g d : Nat) (m : List (Nat × Nat)) (r : List Rec), rs = ns.map toRec ++ .rest a g d m :: r ∧ ∀ x ∈ ns, x.parent.isSome = true
  | [], l, w, h => by unfold treeFrom at h; exact absurd rfl h
  | .deed _ :: _, l, w, h => by unfold treeFrom at h; exact absurd rfl h
  | .base n k t :: r, l, w, h => by
    unfold treeFrom at h
    rw [if_pos (.inl rfl)] at h
    exact absurd rfl h
  | .node n p k c :: r, l, w, h => by
    unfold treeFrom at h
    split at h
    · exact absurd rfl h
    · obtain ⟨ns, a, g, d, m, r', e, hn⟩ := treeFrom_nolook r _ _ h
      refine ⟨⟨n, some p, c, k⟩ :: ns, a, g, d, m, r', by rw [e]; rfl, fun x hx => ?_⟩
      rcases List.mem_cons.mp hx with q | q
      · rw [q]; rfl
      · exact hn x q
  | .rest a g d m :: r, l, w, h => ⟨[], a, g, d, m, r, rfl, fun x hx => by cases hx⟩
theorem sortNo_toRec (x : Node) : sortNo (toRec x) = 6 := rfl
theorem idx_repl (r : List Nat) : ∀ k : Nat, (List.replicate k 6 ++ 7 :: r).idxOf 7 = k
  | 0 => by show (7 :: r).idxOf 7 = 0; rw [List.idxOf_cons]; rfl
  | k + 1 => by
    show (6 :: (List.replicate k 6 ++ 7 :: r)).idxOf 7 = k + 1
    rw [List.idxOf_cons, idx_repl r k]
    rfl
theorem cutN_of (n : Nat) (k : Bool) (w : Bytes) (ns : List Node) (a g d : Nat) (l : List (Nat × Nat)) (r : List Rec) : cutN (.base n k w :: (ns.map toRec ++ .rest a g d l :: r)) = ns.length + 2 := by
  have hs : (Rec.base n k w :: (ns.map toRec ++ .rest a g d l :: r)).map sortNo = 5 :: (List.replicate ns.length 6 ++ 7 :: r.map sortNo) := by
    rw [List.map_cons, List.map_append, List.map_map, List.map_cons]
    have : ns.map (sortNo ∘ toRec) = List.replicate ns.length 6 := by
      induction ns with
      | nil => rfl
      | cons x ns ih => rw [List.map_cons, ih]; rfl
    rw [this]
    rfl
  have hi : (5 :: (List.replicate ns.length 6 ++ 7 :: r.map sortNo)).idxOf 7 = ns.length + 1 := by
    rw [List.idxOf_cons]
    show (match (5 == 7) with | true => 0 | false => _) = _
    have : (List.replicate ns.length 6 ++ 7 :: r.map sortNo).idxOf 7 = ns.length := by
      exact idx_repl _ _
    simp [this]
  unfold cutN
  rw [hs, hi, if_pos (by simp), if_pos]
  show 5 :: (List.replicate ns.length 6 ++ 7 :: r.map sortNo).take ns.length = 5 :: List.replicate ns.length 6
  rw [List.take_append_of_le_length (by simp), List.take_of_length_le (by simp)]
theorem treeFrom_cut0 {rs : List Rec} (h : cutN rs = 0) : treeFrom [] none rs = none := by
  cases hq : treeFrom [] none rs with
  | none => rfl
  | some z =>
    exfalso
    match rs, hq with
    | [], hq => unfold treeFrom at hq; cases hq
    | .deed _ :: _, hq => unfold treeFrom at hq; cases hq
    | .node n p k c :: r, hq =>
      unfold treeFrom at hq
      rw [if_pos (.inl rfl)] at hq
      cases hq
    | .rest a g d m :: r, hq => unfold treeFrom at hq; cases hq
    | .base n k t :: r, hq =>
      unfold treeFrom at hq
      rw [if_neg (by simp)] at hq
      obtain ⟨ns, a, g, d, m, r', e, hn⟩ := treeFrom_nolook r [⟨n, none, NOTHING, k⟩] t (by rw [hq]; simp)
      rw [e, cutN_of] at h
      cases h
/-! the look is right: what's checked -/
def chk (l : List Node) : List Node → Bool
  | [] => true
  | x :: ns => ((l.any fun y => y.number == x.parent.getD 0) && l.all fun y => decide (y.number < x.number)) && chk (l ++ [x]) ns
theorem treeFrom_chk {w : Bytes} {a g d : Nat} {m : List (Nat × Nat)} {r : List Rec} : ∀ (ns : List Node) (l : List Node), (∀ x ∈ ns, x.parent.isSome = true) →
    treeFrom l (some w) (ns.map toRec ++ .rest a g d m :: r) = if chk l ns = true then (if ((l ++ ns).any fun x => x.number == a) = false ∨ right ⟨w, l ++ ns, a, m, g, d⟩ = false then none else some (⟨w, l ++ ns, a, m, g, d⟩, r)) else none
  | [], l, _ => by
    show treeFrom l (some w) (.rest a g d m :: r) = _
    unfold treeFrom
    rw [List.append_nil]
    rfl
  | x :: ns, l, h => by
    obtain ⟨p, hp⟩ := Option.isSome_iff_exists.mp (h x List.mem_cons_self)
    show treeFrom l (some w) (.node x.number (x.parent.getD 0) x.kept x.change :: (ns.map toRec ++ .rest a g d m :: r)) = _
    unfold treeFrom
    have hx : (⟨x.number, some (x.parent.getD 0), x.change, x.kept⟩ : Node) = x := by
      cases x
      simp at hp
      subst hp
      rfl
    rw [hx, treeFrom_chk ns (l ++ [x]) fun y hy => h y (List.mem_cons_of_mem _ hy)]
    rw [List.append_assoc, List.singleton_append]
    show _ = if (((l.any fun y => y.number == x.parent.getD 0) && l.all fun y => decide (y.number < x.number)) && chk (l ++ [x]) ns) = true then _ else none
    have e : (l.any fun y => decide (x.number ≤ y.number)) = !(l.all fun y => decide (y.number < x.number)) := by
      rw [List.not_all_eq_any_not]
      congr 1
      funext y
      by_cases q : x.number ≤ y.number
      · rw [decide_eq_true q, decide_eq_false (by omega)]; rfl
      · rw [decide_eq_false q, decide_eq_true (by omega)]; rfl
    rw [e]
    cases h1 : l.any fun y => y.number == x.parent.getD 0 <;> cases h2 : l.all fun y => decide (y.number < x.number) <;> simp
def good (t : Tree) (x : Node) : Bool := match x.parent with
  | none => true
  | some p => fits (textAt t p) x.change && decide ((changed (textAt t p) x.change).length ≤ 80)
def pchk (t : Tree) : List Node → Bool
  | [] => true
  | x :: ns => (((t.nodes.all fun y => decide (y.number < x.number)) && (find t (x.parent.getD 0)).isSome) && decide (rchg (textAt t (x.parent.getD 0)) x.change = 0)) && pchk { t with nodes := t.nodes ++ [x] } ns
theorem any_find (t : Tree) (p : Nat) : (t.nodes.any fun y => y.number == p) = (find t p).isSome := by
  unfold find
  rw [Bool.eq_iff_iff]
  rw [List.find?_isSome, List.any_eq_true]
theorem find_ex {t : Tree} {p : Nat} : (find t p).isSome = true ↔ ∃ y ∈ t.nodes, y.number = p := by
  rw [← any_find, List.any_eq_true]
  exact ⟨fun ⟨y, hy, e⟩ => ⟨y, hy, eq_of_beq e⟩, fun ⟨y, hy, e⟩ => ⟨y, hy, by rw [e]; exact beq_self_eq_true _⟩⟩
theorem ext_text : ∀ (ns : List Node) {t : Tree}, RP t → (∀ x ∈ ns, x.parent.isSome = true) → chk t.nodes ns = true → RP { t with nodes := t.nodes ++ ns } ∧ ∀ y ∈ t.nodes, textAt { t with nodes := t.nodes ++ ns } y.number = textAt t y.number
  | [], t, R, _, _ => ⟨R.congr (List.append_nil _), fun y _ => textAt_congr (t := { t with nodes := t.nodes ++ [] }) (u := t) (List.append_nil _) rfl _⟩
  | x :: ns, t, R, hn, h => by
    obtain ⟨p, hp⟩ := Option.isSome_iff_exists.mp (hn x List.mem_cons_self)
    have h : (((t.nodes.any fun y => y.number == x.parent.getD 0) && t.nodes.all fun y => decide (y.number < x.number)) && chk (t.nodes ++ [x]) ns) = true := h
    simp only [Bool.and_eq_true] at h
    obtain ⟨⟨h1, h2⟩, h3⟩ := h
    rw [hp] at h1
    have h1' : ∃ y ∈ t.nodes, y.number = p := by
      obtain ⟨y, hy, e⟩ := List.any_eq_true.mp h1
      exact ⟨y, hy, eq_of_beq e⟩
    have h2' : ∀ y ∈ t.nodes, y.number < x.number := fun y hy => of_decide_eq_true (List.all_eq_true.mp h2 y hy)
    have hx : x = ⟨x.number, some p, x.change, x.kept⟩ := by cases x; simp at hp; subst hp; rfl
    have R1 : RP { t with nodes := t.nodes ++ [x] } := R.snoc (c := x.change) (k := x.kept) h2' h1' _ (by rw [← hx])
    have T1 := R.snoc_text (c := x.change) (k := x.kept) h2' h1' { t with nodes := t.nodes ++ [x] } (by rw [← hx]) rfl
    obtain ⟨R2, T2⟩ := ext_text ns (t := { t with nodes := t.nodes ++ [x] }) R1 (fun y hy => hn y (List.mem_cons_of_mem _ hy)) h3
    have e : t.nodes ++ [x] ++ ns = t.nodes ++ x :: ns := by rw [List.append_assoc]; rfl
    refine ⟨R2.congr e.symm, fun y hy => ?_⟩
    rw [← T1 y hy, ← T2 y (List.mem_append.mpr (.inl hy))]
    exact textAt_congr (t := { t with nodes := t.nodes ++ x :: ns }) (u := { t with nodes := t.nodes ++ [x] ++ ns }) e.symm rfl _
theorem rchg_zero {w : List Nat} {c : Change} (hb : isBytes c.in_ = true) : rchg w c = 0 ↔ (fits w c && decide ((changed w c).length ≤ 80)) = true := by
  unfold rchg
  rw [hb]
  cases hf : fits w c with
  | false => simp
  | true =>
    by_cases h : 80 < (changed w c).length
    · rw [if_neg (by simp), if_pos h]; simp; omega
    · rw [if_neg (by simp), if_neg h]; simp; omega
theorem good_some {t : Tree} {x : Node} {p : Nat} (hp : x.parent = some p) : good t x = (fits (textAt t p) x.change && decide ((changed (textAt t p) x.change).length ≤ 80)) := by
  unfold good
  rw [hp]
theorem good_none {t : Tree} {x : Node} (hp : x.parent = none) : good t x = true := by
  unfold good
  rw [hp]
theorem pchk_chk : ∀ (ns : List Node) {t : Tree}, RP t → (∀ x ∈ ns, x.parent.isSome = true) → (∀ x ∈ ns, isBytes x.change.in_ = true) → (∀ x ∈ t.nodes, good t x = true) →
    (pchk t ns = true ↔ chk t.nodes ns = true ∧ ∀ x ∈ t.nodes ++ ns, good { t with nodes := t.nodes ++ ns } x = true)
  | [], t, R, _, _, hg => by
    refine ⟨fun _ => ⟨rfl, fun x hx => ?_⟩, fun _ => rfl⟩
    rw [List.append_nil] at hx
    have := hg x hx
    cases hp : x.parent with
    | none => exact good_none hp
    | some p =>
      rw [good_some hp] at this ⊢
      rw [textAt_congr (t := { t with nodes := t.nodes ++ [] }) (u := t) (List.append_nil _) rfl]
      exact this
  | x :: ns, t, R, hn, hb, hg => by
    obtain ⟨p, hp⟩ := Option.isSome_iff_exists.mp (hn x List.mem_cons_self)
    have epc : pchk t (x :: ns) = ((((t.nodes.all fun y => decide (y.number < x.number)) && (find t p).isSome) && decide (rchg (textAt t p) x.change = 0)) && pchk { t with nodes := t.nodes ++ [x] } ns) := by
      show ((((t.nodes.all fun y => decide (y.number < x.number)) && (find t (x.parent.getD 0)).isSome) && decide (rchg (textAt t (x.parent.getD 0)) x.change = 0)) && pchk { t with nodes := t.nodes ++ [x] } ns) = _
      rw [hp]; rfl
    have ech : chk t.nodes (x :: ns) = (((t.nodes.any fun y => y.number == p) && t.nodes.all fun y => decide (y.number < x.number)) && chk (t.nodes ++ [x]) ns) := by
      show (((t.nodes.any fun y => y.number == x.parent.getD 0) && t.nodes.all fun y => decide (y.number < x.number)) && chk (t.nodes ++ [x]) ns) = _
      rw [hp]; rfl
    have eap : t.nodes ++ [x] ++ ns = t.nodes ++ x :: ns := by rw [List.append_assoc]; rfl
    rw [epc, ech, any_find]
    cases hA : t.nodes.all fun y => decide (y.number < x.number) with
    | false => simp
    | true =>
    cases hB : (find t p).isSome with
    | false => simp
    | true =>
    simp only [Bool.true_and, Bool.and_eq_true, decide_eq_true_eq]
    have h1' := find_ex.mp hB
    have h2' : ∀ y ∈ t.nodes, y.number < x.number := fun y hy => of_decide_eq_true (List.all_eq_true.mp hA y hy)
    have hx : x = ⟨x.number, some p, x.change, x.kept⟩ := by cases x; simp at hp; subst hp; rfl
    have R1 : RP { t with nodes := t.nodes ++ [x] } := R.snoc (c := x.change) (k := x.kept) h2' h1' _ (by rw [← hx])
    have T1 := R.snoc_text (c := x.change) (k := x.kept) h2' h1' { t with nodes := t.nodes ++ [x] } (by rw [← hx]) rfl
    have hbx := hb x List.mem_cons_self
    obtain ⟨y, hy, ey⟩ := h1'
    have gx : good { t with nodes := t.nodes ++ [x] } x = true ↔ rchg (textAt t p) x.change = 0 := by
      rw [rchg_zero hbx]
      rw [good_some hp, ← ey, T1 y hy]
    constructor
    · rintro ⟨hC, hP⟩
      have hg1 : ∀ z ∈ t.nodes ++ [x], good { t with nodes := t.nodes ++ [x] } z = true := fun z hz => by
        rcases List.mem_append.mp hz with q | q
        · have := hg z q
          cases hpz : z.parent with
          | none => exact good_none hpz
          | some pz =>
            rw [good_some hpz] at this ⊢
            obtain ⟨_, u, hu, eu⟩ := R.par z q pz hpz
            rw [← eu, T1 u hu, eu]
            exact this
        · rw [List.mem_singleton.mp q]; exact gx.mpr hC
      have ih := (pchk_chk ns (t := { t with nodes := t.nodes ++ [x] }) R1 (fun z hz => hn z (List.mem_cons_of_mem _ hz)) (fun z hz => hb z (List.mem_cons_of_mem _ hz)) hg1).mp hP
      refine ⟨ih.1, fun z hz => ?_⟩
      have := ih.2 z (by rw [eap]; exact hz)
      rw [show ({ t with nodes := t.nodes ++ x :: ns } : Tree) = { t with nodes := t.nodes ++ [x] ++ ns } by rw [eap]]
      exact this
    · rintro ⟨hc, hall⟩
      obtain ⟨R2, T2⟩ := ext_text ns (t := { t with nodes := t.nodes ++ [x] }) R1 (fun z hz => hn z (List.mem_cons_of_mem _ hz)) hc
      have hxg := hall x (List.mem_append.mpr (.inr List.mem_cons_self))
      have hC : rchg (textAt t p) x.change = 0 := by
        apply gx.mp
        rw [good_some hp] at hxg ⊢
        have : textAt { t with nodes := t.nodes ++ x :: ns } p = textAt { t with nodes := t.nodes ++ [x] } p := by
          rw [← ey, ← T2 y (List.mem_append.mpr (.inl hy))]
          exact textAt_congr (t := { t with nodes := t.nodes ++ x :: ns }) (u := { t with nodes := t.nodes ++ [x] ++ ns }) eap.symm rfl _
        rw [← this]
        exact hxg
      have hg1 : ∀ z ∈ t.nodes ++ [x], good { t with nodes := t.nodes ++ [x] } z = true := fun z hz => by
        rcases List.mem_append.mp hz with q | q
        · have := hg z q
          cases hpz : z.parent with
          | none => exact good_none hpz
          | some pz =>
            rw [good_some hpz] at this ⊢
            obtain ⟨_, u, hu, eu⟩ := R.par z q pz hpz
            rw [← eu, T1 u hu, eu]
            exact this
        · rw [List.mem_singleton.mp q]; exact gx.mpr hC
      refine ⟨hC, (pchk_chk ns (t := { t with nodes := t.nodes ++ [x] }) R1 (fun z hz => hn z (List.mem_cons_of_mem _ hz)) (fun z hz => hb z (List.mem_cons_of_mem _ hz)) hg1).mpr ⟨hc, fun z hz => ?_⟩⟩
      have hz' : z ∈ t.nodes ++ x :: ns := by rw [← eap]; exact hz
      have := hall z hz'
      rw [show ({ t with nodes := t.nodes ++ x :: ns } : Tree) = { t with nodes := t.nodes ++ [x] ++ ns } by rw [eap]] at this
      exact this
end TT
end
section
namespace TT
open Ue17
theorem eraseDups_le : ∀ (n : Nat) (l : List Nat), l.length ≤ n → l.eraseDups.length ≤ l.length
  | 0, l, h => by
    cases l with
    | nil => simp
    | cons a l => simp at h
  | n + 1, l, h => by
    cases l with
    | nil => simp
    | cons a l =>
      rw [List.eraseDups_cons, List.length_cons, List.length_cons]
      have h1 : (l.filter fun b => !b == a).length ≤ l.length := List.length_filter_le ..
      simp only [List.length_cons] at h
      have := eraseDups_le n (l.filter fun b => !b == a) (by omega)
      omega
theorem eraseDups_nodup : ∀ (l : List Nat), (l.eraseDups.length = l.length) ↔ l.Nodup
  | [] => by simp
  | a :: l => by
    rw [List.eraseDups_cons, List.length_cons, List.length_cons, List.nodup_cons]
    have h1 : (l.filter fun b => !b == a).length ≤ l.length := List.length_filter_le ..
    have h2 := eraseDups_le _ (l.filter fun b => !b == a) (Nat.le_refl _)
    constructor
    · intro h
      have e : l.filter (fun b => !b == a) = l := List.length_filter_eq_length_iff.mp (by omega) |> List.filter_eq_self.mpr
      rw [e] at h
      refine ⟨fun m => ?_, (eraseDups_nodup l).mp (by omega)⟩
      have := List.filter_eq_self.mp e a m
      simp at this
    · rintro ⟨n1, n2⟩
      have e : l.filter (fun b => !b == a) = l := List.filter_eq_self.mpr fun b hb => by
        simp
        intro q
        exact n1 (by rw [← q]; exact hb)
      rw [e, (eraseDups_nodup l).mpr n2]
def efit (t : Tree) (a g : Nat) (m : List (Nat × Nat)) : Bool := ((find t a).isSome && ((t.nodes.all fun x => decide (x.number < g)) && decide (g ≤ 40))) && (decide ((m.map fun y => y.1).Nodup) && m.all fun y => decide (par t y.2 = some y.1))
theorem contains_par {t : Tree} (nd : (t.nodes.map fun x => x.number).Nodup) (y : Nat × Nat) : (children t y.1).contains y.2 = decide (par t y.2 = some y.1) := by
  rw [Bool.eq_iff_iff, List.contains_iff_mem, decide_eq_true_eq]
  unfold children par
  rw [List.mem_map]
  constructor
  · rintro ⟨x, hx, e⟩
    obtain ⟨a, b⟩ := List.mem_filter.mp hx
    rw [← e, find_mem nd a]
    exact eq_of_beq b
  · intro h
    cases hf : find t y.2 with
    | none => rw [hf] at h; cases h
    | some x =>
      rw [hf] at h
      obtain ⟨a, b⟩ := find_some hf
      have h : x.parent = some y.1 := h
      exact ⟨x, List.mem_filter.mpr ⟨a, by rw [h]; exact beq_self_eq_true _⟩, b⟩
theorem right_eq {w : Bytes} {l : List Node} {a g d : Nat} {m : List (Nat × Nat)} (nd : (l.map fun x => x.number).Nodup) :
    (((l.any fun x => x.number == a) = false ∨ right ⟨w, l, a, m, g, d⟩ = false) ↔ ¬ (w.length ≤ 80 ∧ (∀ x ∈ l, good ⟨w, l, a, m, g, d⟩ x = true) ∧ efit ⟨w, l, a, m, g, d⟩ a g m = true)) := by
  have e0 : (l.any fun x => x.number == a) = (find ⟨w, l, a, m, g, d⟩ a).isSome := any_find ⟨w, l, a, m, g, d⟩ a
  have e1 : right ⟨w, l, a, m, g, d⟩ = (decide (w.length ≤ 80) && ((l.all fun x => good ⟨w, l, a, m, g, d⟩ x) && ((l.all fun x => decide (x.number < g)) && (decide (g ≤ 40) && ((m.all fun y => decide (par ⟨w, l, a, m, g, d⟩ y.2 = some y.1)) && decide ((m.map fun y => y.1).Nodup)))))) := by
    show (decide (w.length ≤ 80) && (_ && ((l.all fun x => decide (x.number < g)) && (decide (g ≤ 40) && ((m.all fun x => (children ⟨w, l, a, m, g, d⟩ x.1).contains x.2) && decide ((m.map fun x => x.1).eraseDups.length = m.length)))))) = _
    congr 1
    congr 1
    congr 1
    congr 1
    congr 1
    · congr 1
      funext y
      exact contains_par (t := ⟨w, l, a, m, g, d⟩) nd y
    · refine decide_eq_decide.mpr ?_
      have := eraseDups_nodup (m.map fun y => y.1)
      rw [List.length_map] at this
      exact this
  rw [e0, e1]
  unfold efit
  have e2 : (∀ x ∈ l, good ⟨w, l, a, m, g, d⟩ x = true) ↔ (l.all fun x => good ⟨w, l, a, m, g, d⟩ x) = true := List.all_eq_true.symm
  rw [e2]
  show _ ↔ ¬ (w.length ≤ 80 ∧ (l.all fun x => good ⟨w, l, a, m, g, d⟩ x) = true ∧ (((find ⟨w, l, a, m, g, d⟩ a).isSome && ((l.all fun x => decide (x.number < g)) && decide (g ≤ 40))) && (decide ((m.map fun y => y.1).Nodup) && m.all fun y => decide (par ⟨w, l, a, m, g, d⟩ y.2 = some y.1))) = true)
  generalize (find ⟨w, l, a, m, g, d⟩ a).isSome = b1
  generalize (l.all fun x => good ⟨w, l, a, m, g, d⟩ x) = b2
  generalize (l.all fun x => decide (x.number < g)) = b3
  generalize (m.all fun y => decide (par ⟨w, l, a, m, g, d⟩ y.2 = some y.1)) = b4
  generalize decide ((m.map fun y => y.1).Nodup) = b5
  by_cases c1 : w.length ≤ 80 <;> by_cases c2 : g ≤ 40 <;> cases b1 <;> cases b2 <;> cases b3 <;> cases b4 <;> cases b5 <;> simp [c1, c2]
/-- the first state alone -/
def oneT (n : Nat) (k : Bool) (w : Bytes) : Tree := ⟨w, [⟨n, none, NOTHING, k⟩], n, [], n + 1, 0⟩
theorem oneT_rp (n : Nat) (k : Bool) (w : Bytes) : RP (oneT n k w) := ⟨List.pairwise_singleton .., fun x hx p hp => by rw [List.mem_singleton.mp hx] at hp; cases hp⟩
theorem good_congr {t u : Tree} (h1 : t.nodes = u.nodes) (h2 : t.base = u.base) (x : Node) : good t x = good u x := by
  cases hp : x.parent with
  | none => rw [good_none hp, good_none hp]
  | some p => rw [good_some hp, good_some hp, textAt_congr h1 h2]
theorem efit_congr {t u : Tree} (h : t.nodes = u.nodes) (a g : Nat) (m : List (Nat × Nat)) : efit t a g m = efit u a g m := by
  unfold efit par find
  rw [h]
theorem treeFrom_py {n a g d : Nat} {k : Bool} {w : Bytes} {ns : List Node} {l : List (Nat × Nat)} {r : List Rec} (hn : ∀ x ∈ ns, x.parent.isSome = true) (hb : ∀ x ∈ ns, isBytes x.change.in_ = true) :
    treeFrom [] none (.base n k w :: (ns.map toRec ++ .rest a g d l :: r)) = if w.length ≤ 80 ∧ pchk (oneT n k w) ns = true ∧ efit ⟨w, ⟨n, none, NOTHING, k⟩ :: ns, a, l, g, d⟩ a g l = true then some (⟨w, ⟨n, none, NOTHING, k⟩ :: ns, a, l, g, d⟩, r) else none := by
  have h0 : treeFrom [] none (.base n k w :: (ns.map toRec ++ .rest a g d l :: r)) = treeFrom [⟨n, none, NOTHING, k⟩] (some w) (ns.map toRec ++ .rest a g d l :: r) := by
    conv => lhs; unfold treeFrom
    rw [if_neg (by simp)]
  rw [h0, treeFrom_chk ns _ hn]
  have hp := pchk_chk ns (oneT_rp n k w) hn hb fun x hx => by rw [List.mem_singleton.mp hx]; rfl
  have hp : pchk (oneT n k w) ns = true ↔ chk [⟨n, none, NOTHING, k⟩] ns = true ∧ ∀ x ∈ [(⟨n, none, NOTHING, k⟩ : Node)] ++ ns, good { oneT n k w with nodes := [⟨n, none, NOTHING, k⟩] ++ ns } x = true := hp
  by_cases hc : chk [⟨n, none, NOTHING, k⟩] ns = true
  · rw [if_pos hc]
    obtain ⟨R2, _⟩ := ext_text ns (oneT_rp n k w) hn hc
    have nd : (([(⟨n, none, NOTHING, k⟩ : Node)] ++ ns).map fun x => x.number).Nodup := R2.nd
    have hr := right_eq (w := w) (a := a) (g := g) (d := d) (m := l) nd
    have hgood : (∀ x ∈ [(⟨n, none, NOTHING, k⟩ : Node)] ++ ns, good { oneT n k w with nodes := [⟨n, none, NOTHING, k⟩] ++ ns } x = true) ↔ (∀ x ∈ [(⟨n, none, NOTHING, k⟩ : Node)] ++ ns, good ⟨w, [⟨n, none, NOTHING, k⟩] ++ ns, a, l, g, d⟩ x = true) :=
      forall_congr' fun x => imp_congr_right fun _ => by rw [good_congr (t := { oneT n k w with nodes := [⟨n, none, NOTHING, k⟩] ++ ns }) (u := ⟨w, [⟨n, none, NOTHING, k⟩] ++ ns, a, l, g, d⟩) rfl rfl x]
    by_cases hcond : w.length ≤ 80 ∧ pchk (oneT n k w) ns = true ∧ efit ⟨w, ⟨n, none, NOTHING, k⟩ :: ns, a, l, g, d⟩ a g l = true
    · rw [if_pos hcond, if_neg]
      · rfl
      · rw [hr]
        intro z
        exact z ⟨hcond.1, hgood.mp (hp.mp hcond.2.1).2, hcond.2.2⟩
    · rw [if_neg hcond, if_pos]
      rw [hr]
      rintro ⟨z1, z2, z3⟩
      exact hcond ⟨z1, hp.mpr ⟨hc, hgood.mpr z2⟩, z3⟩
  · rw [if_neg hc, if_neg]
    rintro ⟨_, z, _⟩
    exact hc (hp.mp z).1
theorem tree_RT {n a g d : Nat} {k : Bool} {w : Bytes} {ns : List Node} {l : List (Nat × Nat)} (hn : ∀ x ∈ ns, x.parent.isSome = true) (hb : ∀ x ∈ ns, isBytes x.change.in_ = true) (hw : ∀ b ∈ w, b ≤ 255) (hd : d ≤ 65535)
    (h1 : w.length ≤ 80) (h2 : pchk (oneT n k w) ns = true) (h3 : efit ⟨w, ⟨n, none, NOTHING, k⟩ :: ns, a, l, g, d⟩ a g l = true) : RT n ⟨w, ⟨n, none, NOTHING, k⟩ :: ns, a, l, g, d⟩ := by
  have hp := (pchk_chk ns (oneT_rp n k w) hn hb fun x hx => by rw [List.mem_singleton.mp hx]; rfl).mp h2
  obtain ⟨R2, _⟩ := ext_text ns (oneT_rp n k w) hn hp.1
  generalize ht : (⟨w, ⟨n, none, NOTHING, k⟩ :: ns, a, l, g, d⟩ : Tree) = t at *
  have en : t.nodes = ⟨n, none, NOTHING, k⟩ :: ns := by rw [← ht]
  have eb : t.base = w := by rw [← ht]
  have R : RP t := R2.congr en
  have hg : ∀ x ∈ t.nodes, good t x = true := fun x hx => by
    rw [good_congr (t := t) (u := { oneT n k w with nodes := (oneT n k w).nodes ++ ns }) en eb x]
    exact hp.2 x (by rw [en] at hx; exact hx)
  unfold efit at h3
  simp only [Bool.and_eq_true, decide_eq_true_eq, List.all_eq_true] at h3
  obtain ⟨⟨e1, e2, e3⟩, e4, e5⟩ := h3
  have eg : t.given = g := by rw [← ht]
  have el : t.last = l := by rw [← ht]
  have ea : t.now = a := by rw [← ht]
  have ed : t.deeds = d := by rw [← ht]
  have htx : ∀ (m : Nat) (x : Node), x ∈ t.nodes → x.number = m → (textAt t m).length ≤ 80 ∧ ∀ b ∈ textAt t m, b ≤ 255 := by
    intro m
    induction m using Nat.strongRecOn with
    | ind m ih =>
      intro x hx e
      subst e
      cases hpx : x.parent with
      | none => rw [R.text_none hx hpx, eb]; exact ⟨h1, hw⟩
      | some p =>
        obtain ⟨c1, y, hy, ey⟩ := R.par x hx p hpx
        have hgx := hg x hx
        rw [good_some hpx, Bool.and_eq_true, decide_eq_true_eq] at hgx
        rw [R.text_some hx hpx]
        have hxn : x ∈ ns := by
          rw [en] at hx
          rcases List.mem_cons.mp hx with q | q
          · rw [q] at hpx; cases hpx
          · exact q
        refine ⟨hgx.2, changed_bytes (ih p c1 y hy ey).2 fun b hb' => ?_⟩
        exact of_decide_eq_true (List.all_eq_true.mp (hb x hxn) b hb')
  have hcb : ∀ x ∈ t.nodes, x.change.at_ ≤ 80 ∧ x.change.out ≤ 80 ∧ x.change.in_.length ≤ 80 ∧ ∀ b ∈ x.change.in_, b ≤ 255 := fun x hx => by
    cases hpx : x.parent with
    | none =>
      have hx0 := hx
      rw [en] at hx
      rcases List.mem_cons.mp hx with q | q
      · rw [q]; exact ⟨Nat.zero_le _, Nat.zero_le _, Nat.zero_le _, fun b hb => (by cases hb)⟩
      · have := hn x q
        rw [hpx] at this
        cases this
    | some p =>
      obtain ⟨c1, y, hy, ey⟩ := R.par x hx p hpx
      have hgx := hg x hx
      rw [good_some hpx, Bool.and_eq_true, decide_eq_true_eq] at hgx
      have hf : x.change.at_ + x.change.out ≤ (textAt t p).length := of_decide_eq_true hgx.1
      have hpt := (htx p y hy ey).1
      have hcl := changed_len_eq hf
      have hxn : x ∈ ns := by
        rw [en] at hx
        rcases List.mem_cons.mp hx with q | q
        · rw [q] at hpx; cases hpx
        · exact q
      exact ⟨by omega, by omega, by omega, fun b hb' => of_decide_eq_true (List.all_eq_true.mp (hb x hxn) b hb')⟩
  have W : WF n t (w.length + t.nodes.length) := by
    refine ⟨R.inc, ⟨⟨n, none, NOTHING, k⟩, by rw [en]; exact List.mem_cons_self, rfl, rfl⟩, fun x hx hpx => ?_, fun x hx => ?_, by rw [el]; exact e4, fun y hy => ?_, fun x hx => by have := (hcb x hx).2.2.1; omega, by rw [eb]; omega⟩
    · rw [en] at hx
      rcases List.mem_cons.mp hx with q | q
      · rw [q]
      · have := hn x q
        rw [hpx] at this
        cases this
    · rw [eg]
      exact e2 x hx
    · rw [el] at hy
      have := e5 y hy
      unfold par at this
      cases hf : find t y.2 with
      | none => rw [hf] at this; cases this
      | some x =>
        rw [hf] at this
        obtain ⟨c1, c2⟩ := find_some hf
        exact ⟨x, c1, c2, this⟩
  refine ⟨wf41 W (by rw [eg]; exact e3) (by rw [eb]; exact h1), R.par, ?_, by rw [eg]; exact e3, by rw [eb]; exact h1, fun x hx => (htx _ x hx rfl).1, fun x hx => (htx _ x hx rfl).2, by rw [eb]; exact hw, hcb, by rw [ed]; exact hd⟩
  rw [ea]
  exact find_ex.mp e1
/-! bodies are their records' -/
theorem bitOf_bit {k : Nat} {b : Bool} (h : bitOf k = some b) : k = bit b := by
  unfold bitOf at h
  split at h
  · cases h; subst_vars; rfl
  · split at h
    · cases h; subst_vars; rfl
    · cases h
theorem pairsOf_flat : ∀ (l : List Nat) (m : List (Nat × Nat)), pairsOf l = some m → l = m.flatMap fun x => [x.1, x.2]
  | [], m, h => by cases h; rfl
  | [_], m, h => by cases h
  | a :: b :: l, m, h => by
    have h : (pairsOf l).map (fun m => (a, b) :: m) = some m := h
    cases hq : pairsOf l with
    | none => rw [hq] at h; cases h
    | some q =>
      rw [hq] at h
      cases h
      rw [List.flatMap_cons, ← pairsOf_flat l q hq]
      rfl
theorem body_rec {b : List Nat} {r : Rec} (h : recOf b = some r) (hb : ∀ x ∈ b, x ≤ 255) : b = body r := by
  unfold recOf at h
  split at h
  · cases h; rfl
  · cases h; rfl
  · rename_i n k
    cases hk : bitOf k with
    | none => rw [hk] at h; cases h
    | some kb => rw [hk] at h; cases h; rw [bitOf_bit hk]; rfl
  · cases h; rfl
  · rename_i n k t
    cases hk : bitOf k with
    | none => rw [hk] at h; cases h
    | some kb => rw [hk] at h; cases h; rw [bitOf_bit hk]; rfl
  · rename_i n p k a b w
    cases hk : bitOf k with
    | none => rw [hk] at h; cases h
    | some kb => rw [hk] at h; cases h; rw [bitOf_bit hk]; rfl
  · rename_i a g x y l
    cases hk : pairsOf l with
    | none => rw [hk] at h; cases h
    | some m =>
      rw [hk] at h
      cases h
      have hx : x ≤ 255 := hb x (by simp)
      show _ = 7 :: a :: g :: ((x + 256 * y) % 256) :: ((x + 256 * y) / 256) :: m.flatMap fun z => [z.1, z.2]
      rw [← pairsOf_flat l m hk, show (x + 256 * y) % 256 = x by omega, show (x + 256 * y) / 256 = y by omega]
  · cases h
theorem bodies_are {w : List Nat} (hb : ∀ x ∈ w, x ≤ 255) : bodies w = (records w).map body := by
  have h := bodies_rec hb
  have hm : ∀ b ∈ bodies w, ∀ x ∈ b, x ≤ 255 := fun b hb' x hx => hb x ((bodiesF_mem _ _ b hb').2.2 x hx)
  revert hm
  generalize bodies w = bs at h
  generalize records w = rs at h
  intro hm
  induction bs generalizing rs with
  | nil => cases rs with
    | nil => rfl
    | cons r rs => cases h
  | cons b bs ih =>
    cases rs with
    | nil => cases h
    | cons r rs =>
      have h : recOf b :: bs.map recOf = some r :: rs.map some := h
      injection h with h1 h2
      rw [List.map_cons, ← ih rs h2 fun c hc => hm c (List.mem_cons_of_mem _ hc), ← body_rec h1 (hm b List.mem_cons_self)]
theorem records_bytes {w : List Nat} (hb : ∀ x ∈ w, x ≤ 255) : ∀ r ∈ records w, ∀ x ∈ body r, x ≤ 255 := fun r hr x hx => by
  have : body r ∈ bodies w := by rw [bodies_are hb]; exact List.mem_map.mpr ⟨r, hr, rfl⟩
  exact hb x ((bodiesF_mem _ _ _ this).2.2 x hx)
theorem records_len (w : List Nat) (hb : ∀ x ∈ w, x ≤ 255) : (records w).length ≤ w.length := by
  have h := bodiesF_len (w := w) (w.length + 1) 0 (Nat.zero_le _)
  have e : bodies w = (records w).map body := bodies_are hb
  have : (bodies w).length = (records w).length := by rw [e, List.length_map]
  unfold bodies at this
  omega
end TT
end
section
set_option maxHeartbeats 2000000
namespace TT
open PySem PySem.Spec PyProof.Rows L2
open Ue17 (Node Rec)
theorem canLay_dz (l : List Nat) : PyData.canLay0 (.list (dz l)) = true := SeqAt.canLay_of_shaped (shaped_dz l)
theorem depth_dz (l : List Nat) : (PyData.list (dz l)).depth ≤ 1 := by
  have h := PySem.W.ke_depthAll (zi l)
  rw [List.map_map] at h
  show PyData.depthAll (dz l) + 1 ≤ 1
  have : PyData.depthAll (dz l) = 0 := h
  omega
theorem canLays : ∀ bs : List (List Nat), PyData.canLayAll0 (bs.map fun b => PyData.list (dz b)) = true
  | [] => rfl
  | b :: bs => by
    have h1 := canLay_dz b
    have h2 := canLays bs
    simp only [List.map_cons, PyData.canLayAll0, h1, h2, Bool.and_self]
theorem depths : ∀ bs : List (List Nat), PyData.depthAll (bs.map fun b => PyData.list (dz b)) ≤ 1
  | [] => by simp [PyData.depthAll]
  | b :: bs => by
    have h1 := depth_dz b
    have h2 := depths bs
    simp only [List.map_cons, PyData.depthAll]
    omega
theorem shaped_dzs (bs : List (List Nat)) : SeqAt.shaped (.list (bs.map fun b => PyData.list (dz b))) = true := by
  unfold SeqAt.shaped
  have h1 := canLays bs
  have h2 := depths bs
  rw [Bool.and_eq_true]
  refine ⟨?_, decide_eq_true ?_⟩
  · simp only [PyData.canLay0]; exact h1
  · simp only [PyData.depth]; omega
theorem dpAll_lists {K : PySem.W.Frag} {H : Hp} : ∀ {ps : List Addr} {bs : List (List Nat)}, ListsAt H ps bs → DpAll K H (rv ps) (bs.map fun b => PyData.list (dz b))
  | [], [], _ => .nil
  | [], b :: bs, L => absurd L.len (by simp)
  | p :: ps, [], L => absurd L.len (by simp)
  | p :: ps, b :: bs, L => .cons (dp_iv (SqL.of (L.at_ 0 p b rfl rfl))) (dpAll_lists ⟨by have := L.len; simpa using this, fun i q c h1 h2 => L.at_ (i + 1) q c h1 h2⟩)
def rEqE (K : PySem.W.Frag) : R2 := fun x y H Q => ∃ (a b : Addr) (ps : List Addr) (bs : List (List Nat)), x = .ref a ∧ y = .ref b ∧ SqL K H a (rv ps) ∧ ListsAt H ps bs ∧ SqL K H b [] ∧ Q (.bl (decide (ps = []))) H
section
variable {X : Cx}
theorem op_eqE (hu : X.A.units + 64 < cLine) : OpR X (compareOp .Eq) (rEqE X.K) := by
  intro pins st σ H x y v u Q J rx ry h
  obtain ⟨a, b, ps, bs, rfl, rfl, h1, h2, h3, q⟩ := h
  refine op_eqD hu pins st σ H _ _ v u Q J rx ry ⟨.list (bs.map fun b => PyData.list (dz b)), .list [], .lst h1 (dpAll_lists h2), .lst h3 .nil, shaped_dzs bs, rfl, ?_⟩
  have : PyData.eqv (.list (bs.map fun b => PyData.list (dz b))) (.list []) = decide (ps = []) := by
    have hl := h2.len
    cases ps with
    | nil =>
      cases bs with
      | nil => rfl
      | cons _ _ => simp at hl
    | cons _ _ =>
      cases bs with
      | nil => simp at hl
      | cons _ _ => rfl
  rw [this]
  exact q
end
structure PairsAt (H : Hp) (ps : List Addr) (m : List (Nat × Nat)) : Prop where
  len : ps.length = m.length
  at_ : ∀ (i : Nat) (p : Addr) (y : Nat × Nat), ps[i]? = some p → m[i]? = some y → H p = some (.tup [nV y.1, nV y.2])
theorem PairsAt.same {H H' : Hp} {ps : List Addr} {m : List (Nat × Nat)} (L : PairsAt H ps m) (s : Same H H') : PairsAt H' ps m := ⟨L.len, fun i p b h1 h2 => s _ _ (L.at_ i p b h1 h2)⟩
theorem flat_get0 : ∀ (m : List (Nat × Nat)) (i : Nat) {y : Nat × Nat}, m[i]? = some y → (m.flatMap fun x => [x.1, x.2])[2 * i]? = some y.1 ∧ (m.flatMap fun x => [x.1, x.2])[2 * i + 1]? = some y.2
  | [], i, y, h => by simp at h
  | x :: m, 0, y, h => by
    have : x = y := Option.some.inj h
    subst this
    exact ⟨rfl, rfl⟩
  | x :: m, i + 1, y, h => by
    have := flat_get0 m i (y := y) h
    rw [show 2 * (i + 1) = 2 * i + 1 + 1 by omega]
    exact this
section
variable {P : Program} {w : World} {K : PySem.W.Frag} {mg : Str → Option Value} {base : Heap} {CT CD CE : Addr}
abbrev N_pairs_of : List Str := ["body", "k"]
theorem sc_pairs_of : FnScope N_pairs_of ["body"] (defScope s_pairs_of) := ⟨rfl, rfl, rfl, by decide +kernel, rfl, by decide +kernel, by decide +kernel⟩
abbrev N_pairs_fit : List Str := ["tree", "pairs", "states", "made", "pair", "state", "child"]
theorem sc_pairs_fit : FnScope N_pairs_fit ["tree", "pairs"] (defScope s_pairs_fit) := ⟨rfl, rfl, rfl, by decide +kernel, rfl, by decide +kernel, by decide +kernel⟩
abbrev N_end_fits : List Str := ["tree", "body", "given_fits"]
theorem sc_end_fits : FnScope N_end_fits ["tree", "body"] (defScope s_end_fits) := ⟨rfl, rfl, rfl, by decide +kernel, rfl, by decide +kernel, by decide +kernel⟩
abbrev N_take_end : List Str := ["tree", "body", "state", "child"]
theorem sc_take_end : FnScope N_take_end ["tree", "body"] (defScope s_take_end) := ⟨rfl, rfl, rfl, by decide +kernel, rfl, by decide +kernel, by decide +kernel⟩
abbrev N_other_fits : List Str := ["tree", "body"]
theorem sc_other_fits : FnScope N_other_fits ["tree", "body"] (defScope s_other_fits) := ⟨rfl, rfl, rfl, by decide +kernel, rfl, by decide +kernel, by decide +kernel⟩
abbrev N_tree_of_first : List Str := ["body", "tree"]
theorem sc_tree_of_first : FnScope N_tree_of_first ["body"] (defScope s_tree_of_first) := ⟨rfl, rfl, rfl, by decide +kernel, rfl, by decide +kernel, by decide +kernel⟩
abbrev N_bodies_of_copy : List Str := ["bodies", "sorts", "end", "body"]
theorem sc_bodies_of_copy : FnScope N_bodies_of_copy ["bodies"] (defScope s_bodies_of_copy) := ⟨rfl, rfl, rfl, by decide +kernel, rfl, by decide +kernel, by decide +kernel⟩
abbrev N_tree_copied : List Str := ["bodies", "copied", "tree", "body"]
theorem sc_tree_copied : FnScope N_tree_copied ["bodies"] (defScope s_tree_copied) := ⟨rfl, rfl, rfl, by decide +kernel, rfl, by decide +kernel, by decide +kernel⟩
abbrev restB (a g x y : Nat) (m : List (Nat × Nat)) : List Nat := 7 :: a :: g :: x :: y :: m.flatMap fun z => [z.1, z.2]
def sp_pairs_of : Sp := fun vs H Q _ => ∃ (b : Addr) (a g x y : Nat) (m : List (Nat × Nat)), vs = [.ref b] ∧ H b = some (.lst (iv (restB a g x y m))) ∧ m.length ≤ 200 ∧
  ∀ (q : Addr) (ps : List Addr) (H' : Hp), Same H H' → H' q = some (.lst (rv ps)) → PairsAt H' ps m → Q (.ref q) H'
theorem ok_pairs_of (T : Txt K mg CT CD CE) : C8.Cal P w K mg base 1 "pairs_of" sp_pairs_of [] := by
  refine T.d_pairs_of.ok sc_pairs_of (fun vs H Q E h => ?_) (fun f cdv A outer s H vs Q E hr h => ?_)
  · obtain ⟨b, a, g, x, y, m, rfl, _⟩ := h
    rfl
  · obtain ⟨b, a, g, x, y, m, rfl, hb, hm, k⟩ := h
    have hlen : (iv (restB a g x y m)).length = 5 + 2 * m.length := by
      rw [iv_len]
      simp only [List.length_cons]
      rw [flatMap_len2 (fun _ => rfl)]
      omega
    refine ⟨_, (pss_one (ps_ret (pe_lc (own := [("k", 1)]) (g := gName 1) (tt := tYes) (te := tTup (tCons (tOp (rIxL K) (tVar 0) (tVar 1)) (tCons (tOp (rIxL K) (tVar 0) (tOp (rI0 fun i j => .int (i + j)) (tVar 1) (tC (.int 1)))) tNil))) rfl sc_pairs_of.nd (pi_range3 (by rfl) T.b_range (pa_cons pe_int (pa_cons (pe_callB call_len_seq (by rfl) T.b_len PySem.boot_len (pa_cons (pv 0) pa_nil)) (pa_cons pe_int pa_nil)))) (blkOk_by (N := N_pairs_of) (sc := defScope s_pairs_of) (by decide +kernel)) (fun _ _ _ _ _ => (pg_name (i := 1) sc_pairs_of.nd rfl (Or.inl rfl))) (fun _ _ _ _ _ => pts_nil) (fun _ _ _ _ _ => (pe_tup (pa_cons (pe_ix ix_list (pv 0) (pv 1) (fun _ _ => rfl)) (pa_cons (pe_ix ix_list (pv 0) (pe_op op_add (pv 1) pe_int) (fun _ _ => rfl)) pa_nil))))))) , ?_⟩
    refine ⟨_, rfl, b, _, rfl, .inl (SqL.of hb), 5, _, 2, m.length, rfl, ?_, fun D nD => lc_it (walk_rangeC (lo := 5) (c := 2) (n := m.length)) (fun i H' => Same H H' ∧ ∃ ps, H' D = some (.lst (rv ps)) ∧ PairsAt H' ps (m.take i) ∧ D ∉ ps) ⟨same_upd (Same.refl H) nD, [], upd_same, ⟨rfl, fun i p y h => by simp at h⟩, by simp⟩ (fun _ _ _ _ => True.intro) (fun i v H' H'' hi pv hy => ?_) (fun H' pv => ?_)⟩
    · rw [hlen]
      have hsz : Builtin.Range.rangeSize 5 ((5 + 2 * m.length : Nat) : Int) 2 = (m.length : Int) := by
        unfold Builtin.Range.rangeSize
        rw [if_pos (by decide)]
        split <;> omega
      refine ⟨by decide, by decide, ?_, hsz⟩
      unfold Builtin.Range.small
      rw [hsz]
      simp [Builtin.Range.rangeFitsLong]
      omega
    · obtain ⟨sv, ps, hD, PA, nDp⟩ := pv
      obtain ⟨rfl, rfl⟩ := hy
      have hyi : m[i]? = some (m[i]'hi) := List.getElem?_eq_getElem hi
      obtain ⟨g1, g2⟩ := flat_get0 m i hyi
      have hb' := sv _ _ hb
      have a1 : atI (iv (restB a g x y m)) ((5 : Int) + (i : Nat) * 2) = some (nV (m[i]'hi).1) := by
        rw [show (5 : Int) + (i : Nat) * 2 = ((2 * i + 5 : Nat) : Int) by omega]
        exact iv_at g1
      have a2 : atI (iv (restB a g x y m)) ((5 : Int) + (i : Nat) * 2 + 1) = some (nV (m[i]'hi).2) := by
        rw [show (5 : Int) + (i : Nat) * 2 + 1 = ((2 * i + 1 + 5 : Nat) : Int) by omega]
        exact iv_at g2
      refine ⟨rfl, ?_⟩
      refine ⟨_, rfl, _, rfl, b, _, _, _, rfl, rfl, SqL.of hb', a1, _, rfl, _, rfl, _, _, rfl, rfl, b, _, _, _, rfl, rfl, SqL.of hb', a2, sz 2 (by decide), ?_⟩
      intro u nu; generalize hH_u : upd _ u _ = H2; have s2 := snew nu hH_u; have hu2 := hnew hH_u; clear hH_u
      have hpl := PA.len
      rw [List.length_take] at hpl
      have nuD : u ≠ D := fun z => by rw [z, hD] at nu; cases nu
      refine ⟨_, s2 _ _ hD, szl _ (by rw [rv_len]; omega), same_upd (sv.trans s2) nD, ps ++ [u], by rw [upd_same, rv_append]; rfl, ⟨by rw [List.length_append, take_snoc hyi, List.length_append, PA.len]; rfl, fun j p z h1 h2 => ?_⟩, by simp [nDp]; exact fun z => nuD z.symm⟩
      rw [take_snoc hyi] at h2
      by_cases hj : j < ps.length
      · rw [List.getElem?_append_left hj] at h1
        rw [List.getElem?_append_left (by rw [← PA.len]; exact hj)] at h2
        have hpD : p ≠ D := fun e => nDp (by rw [← e]; exact List.mem_of_getElem? h1)
        rw [upd_ne hpD]
        exact s2 _ _ (PA.at_ j p z h1 h2)
      · rw [List.getElem?_append_right (by omega)] at h1
        rw [List.getElem?_append_right (by rw [← PA.len]; omega)] at h2
        have ej : j - ps.length = 0 := by
          have := (List.getElem?_eq_some_iff.mp h1).1
          simp at this
          omega
        rw [ej] at h1
        rw [← PA.len, ej] at h2
        obtain rfl : u = p := Option.some.inj h1
        obtain rfl : m[i] = z := Option.some.inj h2
        rw [upd_ne nuD]
        exact hu2
    · obtain ⟨sv, ps, hD, PA, _⟩ := pv
      rw [List.take_length] at PA
      exact k D ps H' sv hD PA
end
end TT
end
section
set_option maxHeartbeats 2000000
namespace TT
open PySem PySem.Spec PyProof.Rows L2
open Ue17 (Node Rec)
theorem firstMet_nd (ns : List Int) : ∀ i, i ≤ ns.length → ((firstMet (fun i => ns.getD i 0) i).length = i ↔ (ns.take i).Nodup)
  | 0, _ => by simp [firstMet_zero]
  | i + 1, h => by
    have hi : i < ns.length := by omega
    have ih := firstMet_nd ns i (by omega)
    have hle := firstMet_length_le (fun i => ns.getD i 0) i
    have hany := firstMet_any (fun i => ns.getD i 0) i (ns.getD i 0)
    have e1 : ((List.range i).map fun i => ns.getD i 0) = ns.take i := by
      refine List.ext_getElem? fun j => ?_
      rw [List.getElem?_map, List.getElem?_take]
      by_cases hj : j < i
      · rw [List.getElem?_range hj, if_pos hj]
        show some (ns.getD j 0) = _
        rw [List.getD_eq_getElem?_getD, List.getElem?_eq_getElem (by omega)]
        rfl
      · rw [if_neg hj, List.getElem?_eq_none (by simp; omega)]
        rfl
    rw [e1] at hany
    have e2 : ns.take (i + 1) = ns.take i ++ [ns.getD i 0] := by
      rw [List.take_add_one, List.getElem?_eq_getElem hi, List.getD_eq_getElem?_getD, List.getElem?_eq_getElem hi]
      rfl
    rw [firstMet_succ, e2]
    show (if (firstMet (fun i => ns.getD i 0) i).any (· == ns.getD i 0) then firstMet (fun i => ns.getD i 0) i else firstMet (fun i => ns.getD i 0) i ++ [ns.getD i 0]).length = i + 1 ↔ _
    rw [hany]
    cases hb : (ns.take i).any (· == ns.getD i 0) with
    | true =>
      rw [if_pos rfl]
      constructor
      · intro q; omega
      · intro q
        exfalso
        obtain ⟨y, hy, e⟩ := List.any_eq_true.mp hb
        have := (List.nodup_append.mp q).2.2 y hy (ns.getD i 0) (List.mem_singleton.mpr rfl)
        exact this (eq_of_beq e)
    | false =>
      rw [if_neg (by decide), List.length_append]
      constructor
      · intro q
        have q : (firstMet (fun i => ns.getD i 0) i).length + 1 = i + 1 := q
        refine List.nodup_append.mpr ⟨ih.mp (by omega), by simp, fun a ha b hb' e => ?_⟩
        rw [List.mem_singleton.mp hb'] at e
        have : (ns.take i).any (· == ns.getD i 0) = true := List.any_eq_true.mpr ⟨a, ha, by rw [e]; exact beq_self_eq_true _⟩
        rw [hb] at this
        cases this
      · intro q
        have := ih.mpr (List.nodup_append.mp q).1
        show (firstMet (fun i => ns.getD i 0) i).length + 1 = i + 1
        omega
theorem firstMet_nodup' (l : List Nat) : (firstMet (fun i => (zi l).getD i 0) (zi l).length).length = (zi l).length ↔ l.Nodup := by
  rw [firstMet_nd _ _ (Nat.le_refl _), List.take_length]
  constructor
  · intro h
    exact (List.pairwise_map.mp h).imp fun {a b} q e => q (by rw [e])
  · intro h
    exact List.pairwise_map.mpr (h.imp fun {a b} q e => q (Int.ofNat.inj e))
section
variable {P : Program} {w : World} {K : PySem.W.Frag} {mg : Str → Option Value} {base : Heap} {CT CD CE : Addr}
def pfit (t : UT) (m : List (Nat × Nat)) : Bool := decide ((m.map fun y => y.1).Nodup) && m.all fun y => decide (par t y.2 = some y.1)
def sp_pairs_fit (C : Addr) : Sp := fun vs H Q _ => ∃ (A : TA) (X : List Addr) (f : Nat) (t : UT) (q : Addr) (ps : List Addr) (m : List (Nat × Nat)), vs = [.ref A.a, .ref q] ∧ TreeAt C X H A f t ∧ NdN t.nodes ∧ H q = some (.lst (rv ps)) ∧ PairsAt H ps m ∧ m.length ≤ 200 ∧ pureV H (.bl (pfit t m)) Q
theorem ok_pairs_fit (T : Txt K mg CT CD CE) : C8.Cal P w K mg base 1 "pairs_fit" (sp_pairs_fit CT) [] := by
  refine T.d_pairs_fit.ok sc_pairs_fit (fun vs H Q E h => ?_) (fun f cdv A outer s H vs Q E hr h => ?_)
  · obtain ⟨A, X, f, t, q, ps, m, rfl, _⟩ := h
    rfl
  · obtain ⟨A, X, f, t, q, ps, m, rfl, TR, nd, hq, PA, hm, k⟩ := h
    have hu := hu_of hr
    obtain ⟨dx, tx, h1, h2, h3⟩ := TR.ins
    have hpl := PA.len
    refine ⟨_, (pss_cons (ps_setLc (i := 2) (own := [("pair", 4)]) (g := gName 4) (tt := tYes) (te := tOp (rIxT K) (tVar 4) (tC (.int 0))) rfl sc_pairs_fit.nd rfl rfl (sw_true rfl rfl rfl (by decide +kernel)) (pi_list (pv 1)) (blkOk_by (N := N_pairs_fit) (sc := defScope s_pairs_fit) (by decide +kernel)) (fun _ _ _ _ _ => (pg_name (i := 4) sc_pairs_fit.nd rfl (Or.inl rfl))) (fun _ _ _ _ _ => pts_nil) (fun _ _ _ _ _ => (pe_ix ix_tup (pv 4) pe_int (fun _ _ => rfl))))
      (pss_cons (ps_setLc (i := 3) (own := [("state", 5), ("child", 6)]) (g := gTup K 2 (gCons (gName 5) (gCons (gName 6) gNil))) (tt := tYes) (te := tOp rEq (tDGet1 (tFld K (tVar 0) "parents") (tVar 6)) (tVar 5)) rfl sc_pairs_fit.nd rfl rfl (sw_true rfl rfl rfl (by decide +kernel)) (pi_list (pv 1)) (blkOk_by (N := N_pairs_fit) (sc := defScope s_pairs_fit) (by decide +kernel)) (fun _ _ _ _ _ => (pg_tup rfl (pgs_cons (pg_name (i := 5) sc_pairs_fit.nd rfl (Or.inl rfl)) (pgs_cons (pg_name (i := 6) sc_pairs_fit.nd rfl (Or.inl rfl)) pgs_nil)))) (fun _ _ _ _ _ => pts_nil) (fun _ _ _ _ _ => (pe_cmpR op_eq (pe_dget1 (by exact hu) (pe_fld (pv 0) rfl) (pv 6) ⟨rfl, rfl, rfl, rfl⟩) (pv 5) (nomark _))))
      (pss_one (ps_ret (pe_and (pe_cmpR op_eq (pe_lenSetA (by rfl) T.b_len (by rfl) T.b_set (pv 2)) (pe_callB call_len_seq (by rfl) T.b_len PySem.boot_len (pa_cons (pv 2) pa_nil)) (nomark _)) (pe_one (pe_callB (cr_all rfl) (by rfl) T.b_all (by decide +kernel) (pa_cons (pv 3) pa_nil)))))))) , ?_⟩
    refine ⟨_, rfl, q, rfl, ⟨_, SqL.of hq⟩, fun D nD => lc_list (K := K) (a := q) (xs := rv ps) (fun i H' => Same H H' ∧ H' D = some (.lst (iv ((m.map fun y => y.1).take i)))) ⟨same_upd (Same.refl H) nD, upd_same⟩ (fun i H' _ pv => SqL.of (pv.1 _ _ hq)) (fun i x H' hx pv => ?_) (fun H1 pv => ?_)⟩
    · obtain ⟨sv, hD⟩ := pv
      obtain ⟨p, hp, rfl⟩ := rv_get' hx
      have hi := (List.getElem?_eq_some_iff.mp hp).1
      have hyi : m[i]? = some (m[i]'(by omega)) := List.getElem?_eq_getElem (by omega)
      have ht := sv _ _ (PA.at_ i p _ hp hyi)
      refine ⟨rfl, ?_⟩
      refine ⟨_, rfl, _, _, 0, _, rfl, rfl, SqT.of ht, rfl, _, hD, szl _ (by rw [iv_len, List.length_take, List.length_map]; omega), same_upd sv nD, ?_⟩
      rw [upd_same, take_snoc (l := m.map fun y => y.1) (i := i) (x := (m[i]'(by omega)).1) (by rw [List.getElem?_map, hyi]; rfl), iv_append]
      rfl
    · obtain ⟨s1, hD⟩ := pv
      rw [rv_len, hpl, List.take_of_length_le (by rw [List.length_map]; exact Nat.le_refl _)] at hD
      have T1 := TR.same s1
      have PA1 := PA.same s1
      have hq1 := s1 _ _ hq
      have h11 := s1 _ _ h1
      refine ⟨_, rfl, q, rfl, ⟨_, SqL.of hq1⟩, fun D2 nD2 => lc_list (K := K) (a := q) (xs := rv ps) (fun i H' => Same H1 H' ∧ H' D2 = some (.lst (((m.take i).map fun y => decide (par t y.2 = some y.1)).map V.bl))) ⟨same_upd (Same.refl H1) nD2, upd_same⟩ (fun i H' _ pv => SqL.of (pv.1 _ _ hq1)) (fun i x H' hx pv => ?_) (fun H2 pv => ?_)⟩
      · obtain ⟨sv, hD2⟩ := pv
        obtain ⟨p, hp, rfl⟩ := rv_get' hx
        have hi := (List.getElem?_eq_some_iff.mp hp).1
        have hyi : m[i]? = some (m[i]'(by omega)) := List.getElem?_eq_getElem (by omega)
        have ht := sv _ _ (PA1.at_ i p _ hp hyi)
        have TV := T1.same sv
        refine ⟨_, _, rfl, SqT.of ht, rfl, _, _, rfl, _, _, rfl, rfl, rfl, ?_⟩
        refine ⟨_, rfl, A.a, CT, dx, _, _, rfl, sv _ _ h11, T.clT, T.nT_parents, tF_parents, A.pa, rfl, .inl ⟨_, .inl TV.pa⟩, _, rfl, _, dget_of TV.pa (val_par _ _ nd), _, rfl, ?_, _, hD2, szl _ (by rw [List.length_map, List.length_map, List.length_take]; omega), same_upd sv nD2, ?_⟩
        · show scal (((par t (m[i]'(by omega)).2).map nV).getD .non) (nV (m[i]'(by omega)).1) = true
          cases par t (m[i]'(by omega)).2 <;> rfl
        · rw [upd_same, take_snoc hyi, List.map_append, List.map_append]
          show some (HO.lst (_ ++ [V.bl (decide (((par t (m[i]'(by omega)).2).map nV).getD .non = nV (m[i]'(by omega)).1))])) = _
          have : decide (((par t (m[i]'(by omega)).2).map nV).getD .non = nV (m[i]'(by omega)).1) = decide (par t (m[i]'(by omega)).2 = some (m[i]'(by omega)).1) := by
            refine decide_eq_decide.mpr ?_
            cases par t (m[i]'(by omega)).2 with
            | none => exact ⟨fun z => (by cases z), fun z => (by cases z)⟩
            | some p' => exact ⟨fun z => (by have := V.int.inj z; congr 1; omega), fun z => (by rw [Option.some.inj z]; rfl)⟩
          rw [this]
          rfl
      · obtain ⟨s2, hD2⟩ := pv
        rw [rv_len, hpl, List.take_length] at hD2
        have hD' := s2 _ _ hD
        rw [iv_zi] at hD'
        have hzl : ((zi (m.map fun y => y.1)).map V.int).length = (zi (m.map fun y => y.1)).length := List.length_map ..
        refine ⟨_, rfl, D, zi (m.map fun y => y.1), rfl, SqL.of hD', by rw [List.length_map, List.length_map]; omega, _, rfl, D, _, rfl, .inl (SqL.of hD'), rfl, _, rfl, itI (fun e => ?_) (fun e => ?_)⟩
        · refine ⟨_, rfl, D2, _, rfl, SqL.of hD2, fin_b (k H2 (s1.trans s2)) ?_⟩
          unfold pfit
          rw [decide_eq_true ((firstMet_nodup' _).mp (by rw [hzl] at e; omega)), Bool.true_and, List.all_map]
          rfl
        · refine fin_b (k H2 (s1.trans s2)) ?_
          unfold pfit
          rw [decide_eq_false (fun z => e (by rw [(firstMet_nodup' _).mpr z, hzl]))]
          rfl
def sp_take_end (C : Addr) : Sp := fun vs H Q _ => ∃ (A : TA) (X : List Addr) (f : Nat) (t : UT) (b : Addr) (a g x y : Nat) (m : List (Nat × Nat)), vs = [.ref A.a, .ref b] ∧ TreeAt C X H A f t ∧ t.last = [] ∧ H b = some (.lst (iv (restB a g x y m))) ∧ m.length ≤ 200 ∧ (m.map fun y => y.1).Nodup ∧
  ∀ H', TreeAt C X H' A f { t with now := a, given := g, deeds := x + 256 * y, last := m } → Fr A.mut H H' → Q .non H'
theorem set_all : ∀ (m : List (Nat × Nat)), (m.map fun y => y.1).Nodup → m.reverse.foldl (fun l z => Ue17.setLast l z.1 z.2) [] = m := by
  intro m
  induction m with
  | nil => intro _; rfl
  | cons z m ih =>
    intro h
    have h : (z.1 :: m.map fun y => y.1).Nodup := h
    obtain ⟨h1, h2⟩ := List.nodup_cons.mp h
    rw [List.reverse_cons, List.foldl_append, ih h2]
    show (z.1, z.2) :: m.filter (fun x => x.1 != z.1) = z :: m
    rw [List.filter_eq_self.mpr fun x hx => by simp; exact fun e => h1 (by rw [← e]; exact List.mem_map.mpr ⟨x, hx, rfl⟩)]
theorem setLast_len (l : List (Nat × Nat)) (a b : Nat) : (Ue17.setLast l a b).length ≤ l.length + 1 := by
  show (l.filter _).length + 1 ≤ _
  have := List.length_filter_le (fun x : Nat × Nat => x.1 != a) l
  omega
theorem foldl_set_len : ∀ (z : List (Nat × Nat)) (l : List (Nat × Nat)), (z.foldl (fun l z => Ue17.setLast l z.1 z.2) l).length ≤ l.length + z.length
  | [], l => by simp
  | y :: z, l => by
    have h1 := foldl_set_len z (Ue17.setLast l y.1 y.2)
    have h2 := setLast_len l y.1 y.2
    simp only [List.foldl_cons, List.length_cons]
    omega
theorem ok_take_end (T : Txt K mg CT CD CE) : C8.Cal P w K mg base 2 "take_end" (sp_take_end CT) [] := by
  refine T.d_take_end.ok sc_take_end (fun vs H Q E h => ?_) (fun f cdv A outer s H vs Q E hr h => ?_)
  · obtain ⟨A, X, f, t, b, a, g, x, y, m, rfl, _⟩ := h
    rfl
  · obtain ⟨A, X, f, t, b, a, g, x, y, m, rfl, TR, hl0, hb, hm, hnd, k⟩ := h
    obtain ⟨dx, tx, h1, h2, h3⟩ := TR.ins
    have nba : b ≠ A.a := ne_kind hb h1 (by intro z; cases z)
    have nta : tx ≠ A.a := ne_kind h2 h1 (by intro z; cases z)
    refine ⟨_, (pss_cons (ps_fld (pv 0) (pe_ix ix_list (pv 1) pe_int (fun _ _ => rfl)) rfl)
      (pss_cons (ps_fld (pv 0) (pe_ix ix_list (pv 1) pe_int (fun _ _ => rfl)) rfl)
      (pss_cons (ps_fld (pv 0) (pe_op op_add (pe_ix ix_list (pv 1) pe_int (fun _ _ => rfl)) (pe_op op_mul pe_int (pe_ix ix_list (pv 1) pe_int (fun _ _ => rfl)))) rfl)
      (pss_one (ps_for PassesOwn.never rfl (pi_reversed (by rfl) T.b_reversed (pa_cons (C8.pe_c (ok_pairs_of T) hr (by decide) (by rfl) (pa_cons (pv 1) pa_nil)) pa_nil)) (pg_tup rfl (pgs_cons (pg_name (i := 2) sc_take_end.nd rfl (Or.inl rfl)) (pgs_cons (pg_name (i := 3) sc_take_end.nd rfl (Or.inl rfl)) pgs_nil)))
        (pss_one (ps_expr (C8.pe_mt (ok_Tree_remember T) hr (by decide) (pv 0) (pa_cons (pv 2) (pa_cons (pv 3) pa_nil)))))))))) , ?_⟩
    refine ⟨_, rfl, b, _, _, _, rfl, rfl, SqL.of hb, iv_at (i := 1) rfl, _, rfl, A.a, CT, dx, _, rfl, h1, T.clT, T.nT_now, (by show 9 < 1000; decide), ?_⟩
    rw [tF_put_now]
    generalize hH_ : upd _ A.a _ = H1; obtain ⟨g1, k1⟩ := ups hH_; clear hH_
    have hb1 := k1 _ _ hb nba
    refine ⟨_, rfl, b, _, _, _, rfl, rfl, SqL.of hb1, iv_at (i := 2) rfl, _, rfl, A.a, CT, dx, _, rfl, g1, T.clT, T.nT_given, (by show 9 < 1000; decide), ?_⟩
    rw [tF_put_given]
    generalize hH_ : upd _ A.a _ = H2; obtain ⟨g2, k2⟩ := ups hH_; clear hH_
    have hb2 := k2 _ _ hb1 nba
    refine ⟨_, rfl, b, _, _, _, rfl, rfl, SqL.of hb2, iv_at (i := 3) rfl, _, rfl, b, _, _, _, rfl, rfl, SqL.of hb2, iv_at (i := 4) rfl, _, _, rfl, rfl, .inl ⟨by decide, by decide⟩, _, _, rfl, rfl, _, rfl, A.a, CT, dx, _, rfl, g2, T.clT, T.nT_deeds, (by show 9 < 1000; decide), ?_⟩
    rw [tF_put_deeds]
    generalize hH_ : upd _ A.a _ = H3; obtain ⟨g3, k3⟩ := ups hH_; clear hH_
    have hb3 := k3 _ _ hb2 nba
    have s3 : Fr [A.a] H H3 := ((Fr.ups k1 (by simp)).trans (Fr.ups k2 (by simp))).trans (Fr.ups k3 (by simp))
    have T3 : TreeAt CT X H3 A f { t with now := a, given := g, deeds := x + 256 * y } := TR.own (t' := { t with now := a, given := g, deeds := x + 256 * y }) s3 g3 (k3 _ _ (k2 _ _ (k1 _ _ h2 nta) nta) nta) h3 rfl rfl
    refine ⟨_, rfl, b, a, g, x, y, m, rfl, hb3, hm, fun q ps H4 s4 hq PA => ?_⟩
    have hpl := PA.len
    have hrl : (rv ps).length = m.length := by rw [rv_len, hpl]
    refine ⟨q, _, rfl, SqL.of hq, for_it (walk_rev (K := K) (a := q) (xs := rv ps)) (fun i σ H' => ∃ (v2 v3 : Option V), σ = [some (.ref A.a), some (.ref b), v2, v3] ∧ Fr A.mut H4 H' ∧ TreeAt CT X H' A f { t with now := a, given := g, deeds := x + 256 * y, last := (m.reverse.take i).foldl (fun l z => Ue17.setLast l z.1 z.2) [] })
      ⟨none, none, rfl, Fr.refl _ _, by have := T3.same s4; rw [← hl0]; exact this⟩ (fun i σ H' _ pv => by obtain ⟨v2, v3, _, sv, _⟩ := pv; exact SqL.of ((T3.same s4).keep sv hq rfl)) (fun i y0 σ H' H'' hi pv hy => ?_) (fun σ H' pv => ?_)⟩
    · obtain ⟨v2, v3, rfl, sv, TV⟩ := pv
      obtain ⟨rfl, hy⟩ := hy
      rw [hrl] at hi hy
      obtain ⟨p, hp, rfl⟩ := rv_get' hy
      have hj : m.length - 1 - i < m.length := by omega
      have hmj : m[m.length - 1 - i]? = some (m[m.length - 1 - i]'hj) := List.getElem?_eq_getElem hj
      have ht := (T3.same s4).keep sv (PA.at_ _ p _ hp hmj) rfl
      have hrev : m.reverse[i]? = some (m[m.length - 1 - i]'hj) := by rw [List.getElem?_reverse hi, hmj]
      obtain ⟨dx', tx', e1, _, _⟩ := TV.ins
      have hfl := foldl_set_len (m.reverse.take i) []
      rw [List.length_take, List.length_reverse] at hfl
      refine ⟨_, _, rfl, SqT.of ht, rfl, _, _, rfl, _, _, rfl, rfl, ?_⟩
      refine ⟨_, rfl, A.a, dx', _, rfl, e1, tF_no_remember, _, rfl, _, rfl, A, X, f, _, _, _, rfl, TV, by show (List.foldl (fun (l : List (Nat × Nat)) (z : Nat × Nat) => Ue17.setLast l z.1 z.2) [] _).length ≤ 1000; simp only [List.length_nil] at hfl; omega, fun H5 T5 s5 => ?_⟩
      refine ⟨_, _, rfl, sv.trans s5, ?_⟩
      rw [take_snoc hrev, List.foldl_append]
      exact T5
    · obtain ⟨v2, v3, rfl, sv, TV⟩ := pv
      rw [hrl, List.take_of_length_le (by rw [List.length_reverse]; exact Nat.le_refl _), set_all m hnd] at TV
      exact k H' TV ((s3.mono fun b hb => by rw [List.mem_singleton.mp hb]; simp).trans ((Fr.of s4).trans sv))
def sp_tree_of_first (C : Addr) : Sp := fun vs H Q _ => ∃ (b : Addr) (X : List Addr) (n : Nat) (kb : Bool) (tx : List Nat), vs = [.ref b] ∧ H b = some (.lst (iv (5 :: n :: Ue17.bit kb :: tx))) ∧ (∀ x ∈ X, ∃ l, H x = some (.lst l)) ∧
  ∀ (A : TA) (H' : Hp), Same H H' → TreeAt C X H' A n (oneT n kb tx) → (∀ b ∈ A.mut, H b = none) → Q (.ref A.a) H'
theorem ok_tree_of_first (T : Txt K mg CT CD CE) : C8.Cal P w K mg base 3 "tree_of_first" (sp_tree_of_first CT) [] := by
  refine T.d_tree_of_first.ok sc_tree_of_first (fun vs H Q E h => ?_) (fun f cdv A outer s H vs Q E hr h => ?_)
  · obtain ⟨b, X, n, kb, tx, rfl, _⟩ := h
    rfl
  · obtain ⟨b, X, n, kb, tx, rfl, hb, hX, k⟩ := h
    refine ⟨_, (pss_cons (ps_set (i := 1) sc_tree_of_first.nd rfl (Or.inl rfl) (C8.pe_mk (ok_Tree___init__ T) hr (by decide) (by rfl) (pa_cons (pe_ix ix_list (pv 0) pe_int (fun _ _ => rfl)) (pa_cons (pe_slice sl_list (pv 0) (po_some pe_int) po_none) pa_nil))))
      (pss_cons (ps_expr (C8.pe_mt (ok_Tree_keep T) hr (by decide) (pv 1) (pa_cons (pe_ix ix_list (pv 0) pe_int (fun _ _ => rfl)) (pa_cons (pe_ix ix_list (pv 0) pe_int (fun _ _ => rfl)) pa_nil))))
      (pss_one (ps_ret (pv 1))))) , ?_⟩
    refine ⟨_, rfl, b, _, _, _, rfl, rfl, SqL.of hb, iv_at (i := 1) rfl, _, rfl, 3, rfl, b, _, rfl, SqL.of hb, ?_⟩
    intro e ne; generalize hH_e : upd _ e _ = H1; have s1 := snew ne hH_e; have he := hnew hH_e; clear hH_e
    rw [show cutV (iv (5 :: n :: Ue17.bit kb :: tx)) (some 3) none = iv tx from iv_cut_n (5 :: n :: Ue17.bit kb :: tx) 3] at he
    have hX1 : ∀ x ∈ X, ∃ l, H1 x = some (.lst l) := fun x hx => by obtain ⟨l, hl⟩ := hX x hx; exact ⟨l, s1 _ _ hl⟩
    have nex : e ∉ X := fun m => by obtain ⟨l, hl⟩ := hX e m; rw [hl] at ne; cases ne
    intro x dx nx ndx nexx
    refine make_tree (f := n) (tx := tx) nx ndx he nex hX1 fun A H2 eA s2 T2 n2 => ⟨rfl, ?_⟩
    subst eA
    obtain ⟨dx2, tx2, h1, h2, h3⟩ := T2.ins
    have hb2 := s2 _ _ (s1 _ _ hb)
    refine ⟨_, rfl, A.a, dx2, _, rfl, h1, tF_no_keep, _, rfl, b, _, _, _, rfl, rfl, SqL.of hb2, iv_at (i := 1) rfl, _, rfl, b, _, _, _, rfl, rfl, SqL.of hb2, iv_at (i := 2) rfl, A, X, n, _, n, kb, rfl, T2, by show 1 ≤ 1000; decide, fun H3 T3 s3 => ?_⟩
    have e3 : did0 (freshT n tx) (.keep n kb) = oneT n kb tx := by
      show ({ freshT n tx with nodes := [if n = n then (⟨n, none, Ue17.NOTHING, kb⟩ : Node) else ⟨n, none, Ue17.NOTHING, false⟩] } : UT) = _
      rw [if_pos rfl]
      rfl
    rw [e3] at T3
    exact ⟨_, rfl, k A H3 (Same.ofFr (s1.trans s2) s3 fun b hb => s1.free (n2 b hb)) T3 fun b hb => s1.free (n2 b hb)⟩
end
end TT
end
section
set_option maxHeartbeats 2000000
namespace TT
open PySem PySem.Spec PyProof.Rows L2
open Ue17 (Node Rec)
section
variable {P : Program} {w : World} {K : PySem.W.Frag} {mg : Str → Option Value} {base : Heap} {CT CD CE : Addr}
def ofit (t : UT) (n p : Nat) (c : Ue17.Change) : Bool := ((t.nodes.all fun y => decide (y.number < n)) && (Ue17.find t p).isSome) && decide (rchg (Ue17.textAt t p) c = 0)
theorem max_all {t : UT} {m : Nat} (hm : m ∈ t.nodes.map fun x => x.number) (hx : ∀ y ∈ t.nodes.map (fun x => x.number), y ≤ m) (n : Nat) : (t.nodes.all fun y => decide (y.number < n)) = decide (m < n) := by
  rw [Bool.eq_iff_iff, List.all_eq_true, decide_eq_true_eq]
  constructor
  · intro h
    obtain ⟨x, hx', rfl⟩ := List.mem_map.mp hm
    exact of_decide_eq_true (h x hx')
  · intro h x hx'
    have := hx x.number (List.mem_map.mpr ⟨x, hx', rfl⟩)
    exact decide_eq_true (by omega)
theorem zi_max {l : List Nat} {m : Int} (hm : m ∈ zi l) (hx : ∀ y ∈ zi l, y ≤ m) : ∃ k : Nat, m = (k : Int) ∧ k ∈ l ∧ ∀ y ∈ l, y ≤ k := by
  obtain ⟨k, hk, rfl⟩ := List.mem_map.mp hm
  exact ⟨k, rfl, hk, fun y hy => Int.ofNat_le.mp (hx _ (List.mem_map.mpr ⟨y, hy, rfl⟩))⟩
def sp_other_fits (C : Addr) : Sp := fun vs H Q _ => ∃ (A : TA) (X : List Addr) (f : Nat) (t : UT) (nB : Nat) (b : Addr) (n p k : Nat) (c : Ue17.Change), vs = [.ref A.a, .ref b] ∧ TreeAt C X H A f t ∧ WT t nB ∧ nB ≤ 300 ∧ (t.nodes.Pairwise fun x y => x.number < y.number) ∧ t.nodes ≠ [] ∧
  H b = some (.lst (iv (6 :: n :: p :: k :: c.at_ :: c.out :: c.in_))) ∧ pureV H (.bl (ofit t n p c)) Q
theorem ok_other_fits (T : Txt K mg CT CD CE) : C8.Cal P w K mg base 4 "other_fits" (sp_other_fits CT) [] := by
  refine T.d_other_fits.ok sc_other_fits (fun vs H Q E h => ?_) (fun f cdv A outer s H vs Q E hr h => ?_)
  · obtain ⟨A, X, f, t, nB, b, n, p, k, c, rfl, _⟩ := h
    rfl
  · obtain ⟨A, X, f, t, nB, b, n, p, kk, c, rfl, TR, WTt, hB, hinc, hne, hb, k⟩ := h
    obtain ⟨dx, tx, h1, h2, h3⟩ := TR.ins
    have hlen := WTt.len
    refine ⟨_, (pss_cons (ps_if (PW.pt (pw_or (pt_cmpR op_le (pe_ix ix_list (pv 1) pe_int (fun _ _ => rfl)) (pe_callB (cr_max rfl) (by rfl) T.b_max (by decide +kernel) (pa_cons (C8.pe_mt0 (ok_Tree_numbers T) hr (by decide) (pv 0)) pa_nil)) (nomark _)) (pw_or1 (pt_not (pt_val (C8.pe_mt (ok_Tree_has T) hr (by decide) (pv 0) (pa_cons (pe_ix ix_list (pv 1) pe_int (fun _ _ => rfl)) pa_nil)))))))
        (pss_one (ps_ret pe_bl))
        pss_nil)
      (pss_one (ps_ret (pe_cmpR op_eq (C8.pe_c (ok_refusal_of_change T) hr (by decide) (by rfl) (pa_cons (C8.pe_mt (ok_Tree_text_of T) hr (by decide) (pv 0) (pa_cons (pe_ix ix_list (pv 1) pe_int (fun _ _ => rfl)) pa_nil)) (pa_cons (pe_ix ix_list (pv 1) pe_int (fun _ _ => rfl)) (pa_cons (pe_ix ix_list (pv 1) pe_int (fun _ _ => rfl)) (pa_cons (pe_slice sl_list (pv 1) (po_some pe_int) po_none) pa_nil))))) (C8.pe_gc (by rfl) T.c_GRANTED) (nomark _))))) , ?_⟩
    refine ⟨_, rfl, b, _, _, _, rfl, rfl, SqL.of hb, iv_at (i := 1) rfl, _, rfl, A.a, dx, _, rfl, h1, tF_no_numbers, A, X, f, t, rfl, TR, hinc, by omega, fun q H1 nq s1 hq => ?_⟩
    rw [iv_zi] at hq
    have T1 := TR.same s1
    have hb1 := s1 _ _ hb
    have h11 := s1 _ _ h1
    refine ⟨q, zi (t.nodes.map fun x => x.number), rfl, SqL.of hq, by rw [List.length_map, List.length_map]; exact List.length_pos_iff.mpr hne, fun m hm hx => ?_⟩
    obtain ⟨m, rfl, hm, hx⟩ := zi_max hm hx
    have ea := max_all hm hx n
    refine ⟨_, _, rfl, rfl, _, rfl, itD (fun e => iteT ?_) (fun e => ?_)⟩
    · refine fin_b (k H1 s1) ?_
      unfold ofit
      rw [ea, decide_eq_false (show ¬ m < n by omega)]
      rfl
    · refine ⟨_, rfl, A.a, dx, _, rfl, h11, tF_no_has, _, rfl, b, _, _, _, rfl, rfl, SqL.of hb1, iv_at (i := 2) rfl, A, X, f, t, some p, rfl, T1, _, rfl, itNB (fun e2 => ?_) (fun e2 => ?_)⟩
      · refine fin_b (k H1 s1) ?_
        have e2 : (Ue17.find t p).isSome = false := e2
        unfold ofit
        rw [e2, Bool.and_false, Bool.false_and]
      · have e2 : (Ue17.find t p).isSome = true := e2
        refine ⟨_, rfl, A.a, dx, _, rfl, h11, tF_no_text_of, _, rfl, b, _, _, _, rfl, rfl, SqL.of hb1, iv_at (i := 2) rfl, A, X, f, t, p, nB, rfl, T1, WTt, hB, fun u H2 s2 hu2 nux => ?_⟩
        have hb2 := s2 _ _ hb1
        refine ⟨_, rfl, b, _, _, _, rfl, rfl, SqL.of hb2, iv_at (i := 4) rfl, _, rfl, b, _, _, _, rfl, rfl, SqL.of hb2, iv_at (i := 5) rfl, _, rfl, 6, rfl, b, _, rfl, SqL.of hb2, ?_⟩
        intro v nv; generalize hH_v : upd _ v _ = H3; have s3 := snew nv hH_v; have hv := hnew hH_v; clear hH_v
        rw [show cutV (iv (6 :: n :: p :: kk :: c.at_ :: c.out :: c.in_)) (some 6) none = iv c.in_ from iv_cut_n (6 :: n :: p :: kk :: c.at_ :: c.out :: c.in_) 6] at hv
        refine ⟨u, v, _, c.in_, c.at_, c.out, rfl, s3 _ _ hu2, hv, rfl, fin_b (k H3 ((s1.trans s2).trans s3)) ?_⟩
        unfold ofit
        rw [ea, decide_eq_true (show m < n by omega), e2, Bool.true_and, Bool.true_and]
        show decide (rchg (Ue17.textAt t p) c = 0) = decide (V.int ((rchg (Ue17.textAt t p) c : Nat) : Int) = V.int 0)
        exact dec_int (by omega)
def sp_end_fits (C : Addr) : Sp := fun vs H Q _ => ∃ (A : TA) (X : List Addr) (f : Nat) (t : UT) (b : Addr) (a g x y : Nat) (m : List (Nat × Nat)), vs = [.ref A.a, .ref b] ∧ TreeAt C X H A f t ∧ t.nodes.length ≤ 1000 ∧ (t.nodes.Pairwise fun x y => x.number < y.number) ∧ t.nodes ≠ [] ∧
  H b = some (.lst (iv (restB a g x y m))) ∧ m.length ≤ 200 ∧ pureV H (.bl (efit t a g m)) Q
theorem ok_end_fits (T : Txt K mg CT CD CE) : C8.Cal P w K mg base 2 "end_fits" (sp_end_fits CT) [] := by
  refine T.d_end_fits.ok sc_end_fits (fun vs H Q E h => ?_) (fun f cdv A outer s H vs Q E hr h => ?_)
  · obtain ⟨A, X, f, t, b, a, g, x, y, m, rfl, _⟩ := h
    rfl
  · obtain ⟨A, X, f, t, b, a, g, x, y, m, rfl, TR, hlen, hinc, hne, hb, hml, k⟩ := h
    obtain ⟨dx, tx, h1, h2, h3⟩ := TR.ins
    refine ⟨_, (pss_cons (ps_set (i := 2) sc_end_fits.nd rfl (Or.inl rfl) (pe_chain op_lt op_le (pe_callB (cr_max rfl) (by rfl) T.b_max (by decide +kernel) (pa_cons (C8.pe_mt0 (ok_Tree_numbers T) hr (by decide) (pv 0)) pa_nil)) (pe_ix ix_list (pv 1) pe_int (fun _ _ => rfl)) (C8.pe_gc (by rfl) T.c_MOST_NUMBERS)))
      (pss_one (ps_ret (pe_and (C8.pe_mt (ok_Tree_has T) hr (by decide) (pv 0) (pa_cons (pe_ix ix_list (pv 1) pe_int (fun _ _ => rfl)) pa_nil)) (pe_and (pv 2) (pe_one (C8.pe_c (ok_pairs_fit T) hr (by decide) (by rfl) (pa_cons (pv 0) (pa_cons (C8.pe_c (ok_pairs_of T) hr (by decide) (by rfl) (pa_cons (pv 1) pa_nil)) pa_nil))))))))) , ?_⟩
    refine ⟨_, rfl, A.a, dx, _, rfl, h1, tF_no_numbers, A, X, f, t, rfl, TR, hinc, by omega, fun q H1 nq s1 hq => ?_⟩
    rw [iv_zi] at hq
    have T1 := TR.same s1
    have hb1 := s1 _ _ hb
    have h11 := s1 _ _ h1
    refine ⟨q, zi (t.nodes.map fun x => x.number), rfl, SqL.of hq, by rw [List.length_map, List.length_map]; exact List.length_pos_iff.mpr hne, fun mx hm hx => ?_⟩
    obtain ⟨mx, rfl, hm, hx⟩ := zi_max hm hx
    have ea := max_all hm hx g
    have rest : ∀ gf : Bool, gf = ((t.nodes.all fun x => decide (x.number < g)) && decide (g ≤ 40)) → tRet (tAndV (tMeth CT "has" (sp_has CT) [] C8.E0 (tVar 0) (tCons (tOp (rIxL K) (tVar 1) (tC (.int 1))) tNil)) (tAndV (tVar 2) (tCall (sp_pairs_fit CT) [] C8.E0 (tCons (tVar 0) (tCons (tCall sp_pairs_of [] C8.E0 (tCons (tVar 1) tNil)) tNil))))) { nx := fun _ H' => Q .non H', rt := Q } [some (.ref A.a), some (.ref b), some (.bl gf)] H1 := fun gf hg => by
      refine ⟨_, rfl, A.a, dx, _, rfl, h11, tF_no_has, _, rfl, b, _, _, _, rfl, rfl, SqL.of hb1, iv_at (i := 1) rfl, A, X, f, t, some a, rfl, T1, _, rfl, itB (fun c => ?_) (fun c => ?_)⟩
      · have c : (Ue17.find t a).isSome = true := c
        refine ⟨_, rfl, _, rfl, itB (fun c2 => ?_) (fun c2 => ?_)⟩
        · refine ⟨_, rfl, _, rfl, b, a, g, x, y, m, rfl, hb1, hml, fun u ps H2 s2 hu PA => ?_⟩
          refine ⟨A, X, f, t, u, ps, m, rfl, T1.same s2, nd_of_inc hinc, hu, PA, hml, fun H3 s3 => fin_b (k H3 ((s1.trans s2).trans s3)) ?_⟩
          unfold efit pfit
          rw [c, ← hg, c2, Bool.true_and, Bool.true_and]
        · refine fin_b (k H1 s1) ?_
          unfold efit
          rw [← hg, c2, Bool.and_false, Bool.false_and]
      · have c : (Ue17.find t a).isSome = false := c
        refine fin_b (k H1 s1) ?_
        unfold efit
        rw [c, Bool.false_and, Bool.false_and]
    refine ⟨_, rfl, b, _, _, _, rfl, rfl, SqL.of hb1, iv_at (i := 2) rfl, _, _, rfl, rfl, _, rfl, itD (fun e => ?_) (fun e => ?_)⟩
    · refine ⟨_, _, rfl, rfl, rest _ ?_⟩
      rw [ea, decide_eq_true (show mx < g by omega), Bool.true_and]
      exact dec_eq (by omega)
    · refine rest _ ?_
      rw [ea, decide_eq_false (show ¬ mx < g by omega)]
      rfl
/-! which bodies are a copy's -/
theorem body_ne (r : Rec) : ∃ x l, Ue17.body r = x :: l ∧ x = sortNo r := by
  cases r with
  | deed d => cases d <;> exact ⟨_, _, rfl, rfl⟩
  | base n k t => exact ⟨_, _, rfl, rfl⟩
  | node n p k c => exact ⟨_, _, rfl, rfl⟩
  | rest a b d l => exact ⟨_, _, rfl, rfl⟩
theorem inV_iv (n : Nat) : ∀ l : List Nat, inV (nV n) (iv l) = decide (n ∈ l)
  | [] => rfl
  | x :: l => by
    have ih := inV_iv n l
    show (eqV (nV x) (nV n) || inV (nV n) (iv l)) = _
    rw [ih]
    show (((x : Int) == (n : Int)) || _) = _
    by_cases e : x = n
    · subst e
      simp
    · rw [show ((x : Int) == (n : Int)) = false from beq_eq_false_iff_ne.mpr (by omega), Bool.false_or]
      exact dec_eq ⟨fun h => List.mem_cons_of_mem _ h, fun h => by
        rcases List.mem_cons.mp h with q | q
        · exact absurd q.symm e
        · exact q⟩
theorem flat_iv (l : List Nat) : (iv l).all flatV = true := List.all_eq_true.mpr fun x hx => by
  obtain ⟨n, _, rfl⟩ := List.mem_map.mp hx
  rfl
theorem idx_facts : ∀ (l : List Nat), 7 ∈ l → l[l.idxOf 7]? = some 7 ∧ ∀ m z, m < l.idxOf 7 → l[m]? = some z → z ≠ 7 := fun l h => by
  obtain ⟨r, e1, e2⟩ := idx_split l h
  have hlt := List.idxOf_lt_length_of_mem h
  generalize l.idxOf 7 = j at *
  have hjl : (l.take j).length = j := by rw [List.length_take]; omega
  refine ⟨?_, fun m z hm hz e => e2 ?_⟩
  · have h2 := congrArg (fun z => z[j]?) e1
    have h3 : (l.take j ++ 7 :: r)[j]? = some 7 := by
      rw [List.getElem?_append_right (by rw [hjl]; exact Nat.le_refl _), hjl, Nat.sub_self]
      rfl
    exact h2.trans h3
  · rw [← e]
    refine List.mem_of_getElem? (i := m) ?_
    rw [List.getElem?_take, if_pos hm]
    exact hz
theorem rep_iv (n : Nat) : ∀ k : Nat, (List.replicate k [nV n]).flatten = iv (List.replicate k n)
  | 0 => rfl
  | k + 1 => by
    rw [List.replicate_succ, List.flatten_cons, rep_iv n k]
    rfl
def sp_bodies_of_copy : Sp := fun vs H Q _ => ∃ (a : Addr) (ps : List Addr) (rs : List Rec), vs = [.ref a] ∧ H a = some (.lst (rv ps)) ∧ ListsAt H ps (rs.map Ue17.body) ∧ rs.length ≤ 40000 ∧ newL H (rv (ps.take (cutN rs))) Q
theorem ok_bodies_of_copy (T : Txt K mg CT CD CE) : C8.Cal P w K mg base 1 "bodies_of_copy" sp_bodies_of_copy [] := by
  refine T.d_bodies_of_copy.ok sc_bodies_of_copy (fun vs H Q E h => ?_) (fun f cdv A outer s H vs Q E hr h => ?_)
  · obtain ⟨a, ps, rs, rfl, _⟩ := h
    rfl
  · obtain ⟨a, ps, rs, rfl, ha, LA, hlen, k⟩ := h
    have hpl := LA.len
    rw [List.length_map] at hpl
    refine ⟨_, (pss_cons (ps_setLc (i := 1) (own := [("body", 3)]) (g := gName 3) (tt := tYes) (te := tOp (rIxL K) (tVar 3) (tC (.int 0))) rfl sc_bodies_of_copy.nd rfl rfl (sw_true rfl rfl rfl (by decide +kernel)) (pi_list (pv 0)) (blkOk_by (N := N_bodies_of_copy) (sc := defScope s_bodies_of_copy) (by decide +kernel)) (fun _ _ _ _ _ => (pg_name (i := 3) sc_bodies_of_copy.nd rfl (Or.inl rfl))) (fun _ _ _ _ _ => pts_nil) (fun _ _ _ _ _ => (pe_ix ix_list (pv 3) pe_int (fun _ _ => rfl))))
      (pss_cons (ps_if (pt_cmpR op_notIn_seq (C8.pe_gc (by rfl) T.c_COPIED_END) (pv 1) (by rfl))
        (pss_one (ps_ret (pe_lst pa_nil)))
        pss_nil)
      (pss_cons (ps_set (i := 2) sc_bodies_of_copy.nd rfl (Or.inl rfl) (pe_bm PySem.F.plainAttrs_list PySem.F.slot_list_index PySem.F.type_list_index mt_index (pv 1) (pa_cons (C8.pe_gc (by rfl) T.c_COPIED_END) pa_nil)))
      (pss_cons (ps_if (pt_cmpR (op_neN hr.units) (pe_slice sl_list (pv 1) po_none (po_some (pv 2))) (pe_op op_cat (pe_lst (pa_cons (C8.pe_gc (by rfl) T.c_COPIED_FIRST) pa_nil)) (pe_op op_rep (pe_lst (pa_cons (C8.pe_gc (by rfl) T.c_COPIED_OTHER) pa_nil)) (pe_op op_sub (pv 2) pe_int))) (nomark _))
        (pss_one (ps_ret (pe_lst pa_nil)))
        pss_nil)
      (pss_one (ps_ret (pe_slice sl_list (pv 0) po_none (po_some (pe_op op_add (pv 2) pe_int))))))))) , ?_⟩
    refine ⟨_, rfl, a, rfl, ⟨_, SqL.of ha⟩, fun D nD => lc_list (K := K) (a := a) (xs := rv ps) (fun i H' => Same H H' ∧ H' D = some (.lst (iv ((rs.map sortNo).take i)))) ⟨same_upd (Same.refl H) nD, upd_same⟩ (fun i H' _ pv => SqL.of (pv.1 _ _ ha)) (fun i x H' hx pv => ?_) (fun H1 pv => ?_)⟩
    · obtain ⟨sv, hD⟩ := pv
      obtain ⟨p, hp, rfl⟩ := rv_get' hx
      have hi := (List.getElem?_eq_some_iff.mp hp).1
      have hri : rs[i]? = some (rs[i]'(by omega)) := List.getElem?_eq_getElem (by omega)
      have hb := sv _ _ (LA.at_ i p _ hp (by rw [List.getElem?_map, hri]; rfl))
      obtain ⟨y, l, eb, ey⟩ := body_ne (rs[i]'(by omega))
      rw [eb] at hb
      refine ⟨rfl, ?_⟩
      refine ⟨_, rfl, p, _, _, _, rfl, rfl, SqL.of hb, iv_at (i := 0) rfl, _, hD, szl _ (by rw [iv_len, List.length_take, List.length_map]; omega), same_upd sv nD, ?_⟩
      rw [upd_same, take_snoc (l := rs.map sortNo) (i := i) (x := sortNo (rs[i]'(by omega))) (by rw [List.getElem?_map, hri]; rfl), iv_append, ← ey]
      rfl
    · obtain ⟨s1, hD⟩ := pv
      rw [rv_len, hpl, List.take_of_length_le (by rw [List.length_map]; exact Nat.le_refl _)] at hD
      have none_ : ∀ H2, Same H1 H2 → cutN rs = 0 → ∀ p H3, H2 p = none → Same H2 H3 → H3 p = some (.lst []) → Q (.ref p) H3 := fun H2 s2 hc p H3 np s3 hp => by
        rw [hc] at k
        exact k p H3 ((s1.trans s2).free np) ((s1.trans s2).trans s3) hp
      refine ⟨_, rfl, D, _, rfl, .inl (SqL.of hD), rfl, flat_iv _, _, rfl, ?_⟩
      show if (!inV (nV 7) (iv (rs.map sortNo))) = true then _ else _
      rw [inV_iv]
      refine itND (fun e => ?_) (fun e => ?_)
      · refine ⟨sz 0 (by decide), ?_⟩
        intro p np; generalize hH_p : upd _ p _ = H2; have s2 := snew np hH_p; have hp := hnew hH_p; clear hH_p
        exact none_ H1 (Same.refl H1) (by unfold cutN; rw [if_neg e]) p H2 np s2 hp
      · obtain ⟨i1, i2⟩ := idx_facts _ e
        have hil := List.idxOf_lt_length_of_mem e
        rw [List.length_map] at hil
        generalize hj : (rs.map sortNo).idxOf 7 = j at i1 i2 hil
        refine ⟨_, rfl, .inl ⟨rfl, _, SqL.of hD⟩, D, _, _, j, _, rfl, rfl, SqL.of hD, rfl, flat_iv _, iv_get i1, rfl, fun m z hm hz => ?_, ?_⟩
        · obtain ⟨y, hy, rfl⟩ := iv_get' hz
          exact beq_eq_false_iff_ne.mpr fun q => i2 m y hm hy (by omega)
        refine ⟨_, rfl, _, rfl, _, rfl, D, _, rfl, SqL.of hD, ?_⟩
        intro p np; generalize hH_p : upd _ p _ = H2; have s2 := snew np hH_p; have hp := hnew hH_p; clear hH_p
        rw [iv_cut_to] at hp
        refine ⟨sz 1 (by decide), ?_⟩
        intro q nq; generalize hH_q : upd _ q _ = H3; have s3 := snew nq hH_q; have hq := hnew hH_q; clear hH_q
        refine ⟨sz 1 (by decide), ?_⟩
        intro u nu; generalize hH_u : upd _ u _ = H4; have s4 := snew nu hH_u; have hu4 := hnew hH_u; clear hH_u
        refine ⟨_, rfl, _, _, rfl, rfl, u, _, _, rfl, rfl, hu4, by omega, by omega, sz _ (by show 1 * ((j : Int) - 1).toNat ≤ _; omega), ?_⟩
        intro v nv; generalize hH_v : upd _ v _ = H5; have s5 := snew nv hH_v; have hv := hnew hH_v; clear hH_v
        have hv' : H5 v = some (.lst (iv (List.replicate (j - 1) 6))) := by
          rw [hv, show ((j : Int) - 1).toNat = j - 1 by omega]
          exact congrArg (fun z => some (HO.lst z)) (rep_iv 6 (j - 1))
        refine ⟨q, v, _, _, rfl, rfl, s5 _ _ (s4 _ _ hq), hv', sz _ (by rw [iv_len, List.length_replicate]; show 1 + (j - 1) ≤ _; omega), ?_⟩
        intro x nx; generalize hH_x : upd _ x _ = H6; have s6 := snew nx hH_x; have hx := hnew hH_x; clear hH_x
        have s26 : Same H2 H6 := ((s3.trans s4).trans s5).trans s6
        refine ⟨p, x, (rs.map sortNo).take j, 5 :: List.replicate (j - 1) 6, rfl, rfl, SqL.of (s26 _ _ hp), SqL.of hx, _, rfl, itND (fun c => ?_) (fun c => ?_)⟩
        · refine ⟨sz 0 (by decide), ?_⟩
          intro y ny; generalize hH_y : upd _ y _ = H7; have s7 := snew ny hH_y; have hy := hnew hH_y; clear hH_y
          exact none_ H6 (s2.trans s26) (by unfold cutN; rw [if_pos e, hj, if_neg c]) y H7 ny s7 hy
        · have hc : cutN rs = j + 1 := by unfold cutN; rw [if_pos e, hj, if_pos c]
          have sA := s1.trans (s2.trans s26)
          refine ⟨_, rfl, _, rfl, _, _, rfl, rfl, _, rfl, a, _, rfl, SqL.of (sA _ _ ha), ?_⟩
          intro y ny; generalize hH_y : upd _ y _ = H7; have s7 := snew ny hH_y; have hy := hnew hH_y; clear hH_y
          rw [hc] at k
          refine k y H7 (sA.free ny) (sA.trans s7) ?_
          rw [hy]
          have := cut_to (rv ps) (j + 1)
          rw [show ((j + 1 : Nat) : Int) = (j : Int) + 1 by omega] at this
          rw [this]
          exact congrArg (fun z => some (HO.lst z)) (List.map_take ..).symm
end
end TT
end
section
set_option maxHeartbeats 2000000
namespace TT
open PySem PySem.Spec PyProof.Rows L2
open Ue17 (Node Rec)
theorem cut_mid (l : List V) (h : 2 ≤ l.length) : cutV l (some 1) (some (-1)) = (l.drop 1).take (l.length - 2) := by
  unfold cutV
  have e1 : HT.sIx l.length 0 (some 1) = 1 := by
    show (if (1 : Int) < 0 then ((1 : Int) + (l.length : Int)).toNat else min (1 : Int).toNat l.length) = 1
    rw [if_neg (by decide)]
    show min 1 l.length = 1
    omega
  have e2 : HT.sIx l.length l.length (some (-1)) = l.length - 1 := by
    show (if (-1 : Int) < 0 then ((-1 : Int) + (l.length : Int)).toNat else min (-1 : Int).toNat l.length) = l.length - 1
    rw [if_pos (by decide)]
    omega
  rw [e1, e2, show l.length - 1 - 1 = l.length - 2 by omega]
theorem atI_last' {l : List V} {v : V} (h : l[l.length - 1]? = some v) : atI l (-1) = some v := by
  have hl : 0 < l.length := by
    cases l with
    | nil => simp at h
    | cons _ _ => simp
  unfold atI ixN
  rw [if_neg (by decide), if_pos (by omega)]
  show l[((-1 : Int) + (l.length : Int)).toNat]? = some v
  rw [show ((-1 : Int) + (l.length : Int)).toNat = l.length - 1 by omega]
  exact h
theorem node_body {x : Node} {p : Nat} (hp : x.parent = some p) : Ue17.body (toRec x) = 6 :: x.number :: p :: Ue17.bit x.kept :: x.change.at_ :: x.change.out :: x.change.in_ := by
  unfold toRec
  rw [hp]
  rfl
theorem pchk_cons {t : UT} {x : Node} {p : Nat} {ns : List Node} (hp : x.parent = some p) : pchk t (x :: ns) = (ofit t x.number p x.change && pchk { t with nodes := t.nodes ++ [x] } ns) := by
  show ((((t.nodes.all fun y => decide (y.number < x.number)) && (Ue17.find t (x.parent.getD 0)).isSome) && decide (rchg (Ue17.textAt t (x.parent.getD 0)) x.change = 0)) && _) = _
  rw [hp]
  rfl
section
variable {P : Program} {w : World} {K : PySem.W.Frag} {mg : Str → Option Value} {base : Heap} {CT CD CE : Addr}
def sp_tree_copied (C : Addr) : Sp := fun vs H Q _ => ∃ (a : Addr) (X : List Addr) (ps : List Addr) (rs : List Rec), vs = [.ref a] ∧ H a = some (.lst (rv ps)) ∧ ListsAt H ps (rs.map Ue17.body) ∧ rs.length ≤ 40000 ∧ (∀ r ∈ rs, (∀ b ∈ Ue17.body r, b ≤ 255) ∧ (Ue17.body r).length ≤ 255) ∧ (∀ x ∈ X, ∃ l, H x = some (.lst l)) ∧
  (Ue17.treeFrom [] none rs = none → pureV H .non Q) ∧
  ∀ t r, Ue17.treeFrom [] none rs = some (t, r) → r = rs.drop (t.nodes.length + 1) → ∀ (A : TA) (f : Nat) (H' : Hp), Same H H' → TreeAt C X H' A f t → RT f t → (∀ b ∈ A.mut, H b = none) → Q (.ref A.a) H'
theorem ok_tree_copied (T : Txt K mg CT CD CE) : C8.Cal P w K mg base 5 "tree_copied" (sp_tree_copied CT) [] := by
  refine T.d_tree_copied.ok sc_tree_copied (fun vs H Q E h => ?_) (fun f cdv A outer s H vs Q E hr h => ?_)
  · obtain ⟨a, X, ps, rs, rfl, _⟩ := h
    rfl
  · obtain ⟨a, X, ps, rs, rfl, ha, LA, hlen, hby, hX, k0, k1⟩ := h
    have hpl := LA.len
    rw [List.length_map] at hpl
    refine ⟨_, (pss_cons (ps_set (i := 1) sc_tree_copied.nd rfl (Or.inl rfl) (C8.pe_c (ok_bodies_of_copy T) hr (by decide) (by rfl) (pa_cons (pv 0) pa_nil)))
      (pss_cons (ps_if (pt_cmpR (op_eqE hr.units) (pv 1) (pe_lst pa_nil) (nomark _))
        (pss_one (ps_ret pe_non))
        pss_nil)
      (pss_cons (ps_set (i := 2) sc_tree_copied.nd rfl (Or.inl rfl) (C8.pe_c (ok_tree_of_first T) hr (by decide) (by rfl) (pa_cons (pe_ix ix_list (pv 1) pe_int (fun _ _ => rfl)) pa_nil)))
      (pss_cons (ps_if (pt_cmpR op_gt (pe_callB call_len_seq (by rfl) T.b_len PySem.boot_len (pa_cons (pe_fld (pv 2) rfl) pa_nil)) (C8.pe_gc (by rfl) T.c_LONGEST_TEXT) (nomark _))
        (pss_one (ps_ret pe_non))
        pss_nil)
      (pss_cons (ps_for PassesOwn.never rfl (pi_list (pe_slice sl_list (pv 1) (po_some pe_int) (po_some (pe_un un_neg pe_int)))) (pg_name (i := 3) sc_tree_copied.nd rfl (Or.inl rfl))
        (pss_cons (ps_if (pt_not (pt_val (C8.pe_c (ok_other_fits T) hr (by decide) (by rfl) (pa_cons (pv 2) (pa_cons (pv 3) pa_nil)))))
            (pss_one (ps_ret pe_non))
            pss_nil)
          (pss_one (ps_expr (C8.pe_mt (ok_Tree_put_state T) hr (by decide) (pv 2) (pa_cons (pe_ix ix_list (pv 3) pe_int (fun _ _ => rfl)) (pa_cons (pe_ix ix_list (pv 3) pe_int (fun _ _ => rfl)) (pa_cons (pe_ix ix_list (pv 3) pe_int (fun _ _ => rfl)) (pa_cons (pe_tup (pa_cons (pe_ix ix_list (pv 3) pe_int (fun _ _ => rfl)) (pa_cons (pe_ix ix_list (pv 3) pe_int (fun _ _ => rfl)) (pa_cons (pe_slice sl_list (pv 3) (po_some pe_int) po_none) pa_nil)))) pa_nil)))))))))
      (pss_cons (ps_if (pt_not (pt_val (C8.pe_c (ok_end_fits T) hr (by decide) (by rfl) (pa_cons (pv 2) (pa_cons (pe_ix ix_list (pv 1) (pe_un un_neg pe_int) (fun _ _ => rfl)) pa_nil)))))
        (pss_one (ps_ret pe_non))
        pss_nil)
      (pss_cons (ps_expr (C8.pe_c (ok_take_end T) hr (by decide) (by rfl) (pa_cons (pv 2) (pa_cons (pe_ix ix_list (pv 1) (pe_un un_neg pe_int) (fun _ _ => rfl)) pa_nil))))
      (pss_one (ps_ret (pv 2)))))))))) , ?_⟩
    refine ⟨_, rfl, a, ps, rs, rfl, ha, LA, hlen, fun q H1 nq s1 hq => ?_⟩
    refine ⟨_, rfl, sz 0 (by decide), ?_⟩
    intro e ne; generalize hH_e : upd _ e _ = H2; have s2 := snew ne hH_e; have he := hnew hH_e; clear hH_e
    have LA1 : ListsAt H2 (ps.take (cutN rs)) ((rs.map Ue17.body).take (cutN rs)) := ⟨by rw [List.length_take, List.length_take, LA.len], fun i p b h1 h2 => by
      rw [List.getElem?_take] at h1 h2
      by_cases hi : i < cutN rs
      · rw [if_pos hi] at h1 h2
        exact s2 _ _ (s1 _ _ (LA.at_ i p b h1 h2))
      · rw [if_neg hi] at h1
        cases h1⟩
    refine ⟨q, e, ps.take (cutN rs), _, rfl, rfl, SqL.of (s2 _ _ hq), LA1, SqL.of he, _, rfl, itD (fun c => ?_) (fun c => ?_)⟩
    · refine k0 ?_ H2 (s1.trans s2)
      by_cases hc : cutN rs = 0
      · exact treeFrom_cut0 hc
      · obtain ⟨n, k, w, ns, a', g, d, l, r, e1, e2, e3⟩ := cutN_look hc
        exfalso
        have := congrArg List.length c
        rw [List.length_take, hpl] at this
        have hl : rs.length = ns.length + 2 + r.length := by rw [e1]; simp; omega
        simp only [List.length_nil] at this
        omega
    · have hc : cutN rs ≠ 0 := fun z => c (by rw [z]; rfl)
      obtain ⟨n, kb, w, ns, a', g, d, l, r, e1, e2, e3⟩ := cutN_look hc
      have hl : rs.length = ns.length + 2 + r.length := by rw [e1]; simp; omega
      rw [e3] at LA1 hq
      generalize hcp : ps.take (ns.length + 2) = cp at LA1 hq
      have hcl : cp.length = ns.length + 2 := by rw [← hcp, List.length_take]; omega
      have hq2 := s2 _ _ hq
      have hrs : ∀ i, i < ns.length + 2 → ∃ p, cp[i]? = some p ∧ ∀ rc, rs[i]? = some rc → H2 p = some (.lst (iv (Ue17.body rc))) := fun i hi => by
        refine ⟨cp[i]'(by omega), List.getElem?_eq_getElem (by omega), fun rc hrc => LA1.at_ i _ _ (List.getElem?_eq_getElem (by omega)) ?_⟩
        rw [List.getElem?_take, if_pos hi, List.getElem?_map, hrc]
        rfl
      obtain ⟨p0, hp0, hb0⟩ := hrs 0 (by omega)
      have hb0 := hb0 (.base n kb w) (by rw [e1]; rfl)
      have hmem : ∀ rc ∈ rs, (∀ b ∈ Ue17.body rc, b ≤ 255) ∧ (Ue17.body rc).length ≤ 255 := hby
      have m0 := hmem (.base n kb w) (by rw [e1]; exact List.mem_cons_self)
      have mN : ∀ x ∈ ns, (∀ b ∈ Ue17.body (toRec x), b ≤ 255) ∧ (Ue17.body (toRec x)).length ≤ 255 := fun x hx => hmem _ (by rw [e1]; exact List.mem_cons_of_mem _ (List.mem_append.mpr (.inl (List.mem_map.mpr ⟨x, hx, rfl⟩))))
      have mE := hmem (.rest a' g d l) (by rw [e1]; exact List.mem_cons_of_mem _ (List.mem_append.mpr (.inr List.mem_cons_self)))
      have hwb : ∀ b ∈ w, b ≤ 255 := fun b hb => m0.1 b (by show b ∈ 5 :: n :: Ue17.bit kb :: w; simp [hb])
      have hib : ∀ x ∈ ns, Ue17.isBytes x.change.in_ = true := fun x hx => isBytes_max.mpr fun b hb => by
        obtain ⟨p, hp⟩ := Option.isSome_iff_exists.mp (e2 x hx)
        have := (mN x hx).1 b
        rw [node_body hp] at this
        exact this (by simp [hb])
      have hpy := treeFrom_py (n := n) (a := a') (g := g) (d := d) (k := kb) (w := w) (l := l) (r := r) e2 hib
      rw [← e1] at hpy
      have hX2 : ∀ x ∈ X, ∃ l, H2 x = some (.lst l) := fun x hx => by obtain ⟨l, hl⟩ := hX x hx; exact ⟨l, s2 _ _ (s1 _ _ hl)⟩
      refine ⟨_, rfl, q, _, 0, _, rfl, rfl, SqL.of hq2, atI_nat (j := 0) (by rw [List.getElem?_map, hp0]; rfl), p0, X, n, kb, w, rfl, hb0, hX2, fun A H3 s3 T3 fr3 => ?_⟩
      obtain ⟨dx, tx, g1, g2, g3⟩ := T3.ins
      have fr0 : ∀ b ∈ A.mut, H b = none := fun b hb => (s1.trans s2).free (fr3 b hb)
      refine ⟨_, rfl, A.a, CT, dx, _, _, rfl, g1, T.clT, T.nT_first_text, tF_first_text, tx, _, rfl, .inl (SqL.of g2), _, _, rfl, rfl, _, rfl, itD (fun c2 => ?_) (fun c2 => ?_)⟩
      · refine k0 ?_ H3 ((s1.trans s2).trans s3)
        rw [iv_len] at c2
        have c2 : (80 : Int) < (w.length : Int) := c2
        rw [hpy, if_neg (by rintro ⟨z, _⟩; omega)]
      · rw [iv_len] at c2
        have hw80 : w.length ≤ 80 := by have c2 : ¬ (80 : Int) < (w.length : Int) := c2; omega
        have hq3 := s3 _ _ hq2
        refine ⟨_, rfl, 1, rfl, 1, rfl, -1, rfl, q, _, rfl, SqL.of hq3, ?_⟩
        intro u nu; generalize hH_u : upd _ u _ = H4; have s4 := snew nu hH_u; have hu4 := hnew hH_u; clear hH_u
        rw [cut_mid _ (by rw [rv_len]; omega), rv_len, hcl] at hu4
        have eul : (((rv cp).drop 1).take (ns.length + 2 - 2)) = rv ((cp.drop 1).take ns.length) := by
          show ((List.map V.ref cp).drop 1).take (ns.length + 2 - 2) = List.map V.ref ((cp.drop 1).take ns.length)
          rw [List.map_take, List.map_drop]
          rfl
        rw [eul] at hu4
        have hxl : (rv ((cp.drop 1).take ns.length)).length = ns.length := by rw [rv_len, List.length_take, List.length_drop]; omega
        let tI : Nat → UT := fun i => { oneT n kb w with nodes := (oneT n kb w).nodes ++ ns.take i }
        have T4 := T3.same s4
        have num255 : ∀ x ∈ ns, x.number ≤ 255 := fun x hx => by
          obtain ⟨p, hp⟩ := Option.isSome_iff_exists.mp (e2 x hx)
          have := (mN x hx).1 x.number
          rw [node_body hp] at this
          exact this (by simp)
        have n255 : n ≤ 255 := m0.1 n (by show n ∈ 5 :: n :: Ue17.bit kb :: w; simp)
        have chN : ∀ x ∈ ns, x.change.in_.length ≤ 255 := fun x hx => by
          obtain ⟨p, hp⟩ := Option.isSome_iff_exists.mp (e2 x hx)
          have := (mN x hx).2
          rw [node_body hp] at this
          simp only [List.length_cons] at this
          omega
        have cnt : ∀ i, ((tI i).nodes.Pairwise fun x y => x.number < y.number) → (tI i).nodes.length ≤ 256 := fun i hp => by
          have := nodup_le (m := List.range 256) (nd_of_inc hp) fun z hz => by
            obtain ⟨y, hy, rfl⟩ := List.mem_map.mp hz
            refine List.mem_range.mpr ?_
            rcases List.mem_append.mp hy with q | q
            · rw [List.mem_singleton.mp q]; show n < 256; omega
            · have := num255 y (List.mem_of_mem_take q); omega
          simpa using this
        have wt : ∀ i, ((tI i).nodes.Pairwise fun x y => x.number < y.number) → WT (tI i) 257 := fun i hp => by
          refine ⟨nd_of_inc hp, fun x hx => ?_, ?_⟩
          · rcases List.mem_append.mp hx with q | q
            · rw [List.mem_singleton.mp q]; exact Nat.zero_le _
            · exact chN x (List.mem_of_mem_take q)
          · have := cnt i hp
            show w.length + 255 * (tI i).nodes.length ≤ 255 * 257
            omega
        refine ⟨u, rfl, ⟨_, SqL.of hu4⟩, for_list (K := K) (a := u) (xs := rv ((cp.drop 1).take ns.length)) (fun i σ H' => ∃ v3, σ = [some (.ref a), some (.ref q), some (.ref A.a), v3] ∧ Fr A.mut H4 H' ∧ TreeAt CT X H' A n (tI i) ∧ ((tI i).nodes.Pairwise fun x y => x.number < y.number) ∧ pchk (oneT n kb w) ns = pchk (tI i) (ns.drop i))
          ⟨none, rfl, Fr.refl _ _, by have : tI 0 = oneT n kb w := rfl; rw [this]; exact T4, List.pairwise_singleton .., rfl⟩ (fun i σ H' _ pv => by obtain ⟨v3, _, sv, _⟩ := pv; exact SqL.of (T4.keep sv hu4 rfl)) (fun i y0 σ H' hy0 pv => ?_) (fun σ H' pv => ?_)⟩
        · obtain ⟨v3, rfl, sv, TV, hinc, hpc⟩ := pv
          obtain ⟨pb, hpb, rfl⟩ := rv_get' hy0
          have hi : i < ns.length := by
            have := (List.getElem?_eq_some_iff.mp hpb).1
            rw [List.length_take, List.length_drop] at this
            omega
          have hxi : ns[i]? = some (ns[i]'hi) := List.getElem?_eq_getElem hi
          generalize hxd : ns[i]'hi = x at hxi
          have hxm : x ∈ ns := List.mem_of_getElem? hxi
          obtain ⟨p, hp⟩ := Option.isSome_iff_exists.mp (e2 x hxm)
          have hbx : H2 pb = some (.lst (iv (Ue17.body (toRec x)))) := by
            obtain ⟨p', hp', hb'⟩ := hrs (i + 1) (by omega)
            have : p' = pb := by
              rw [List.getElem?_take, if_pos hi, List.getElem?_drop, Nat.add_comm 1 i, hp'] at hpb
              exact Option.some.inj hpb
            subst this
            refine hb' (toRec x) ?_
            rw [e1, List.getElem?_cons_succ, List.getElem?_append_left (by rw [List.length_map]; exact hi), List.getElem?_map, hxi]
            rfl
          rw [node_body hp] at hbx
          have hbv := T4.keep sv (s4 _ _ (s3 _ _ hbx)) rfl
          have edr : ns.drop i = x :: ns.drop (i + 1) := by rw [← hxd, ← List.drop_eq_getElem_cons hi]
          rw [edr, pchk_cons hp] at hpc
          have hWT := wt i hinc
          refine ⟨_, rfl, _, rfl, A, X, n, tI i, 257, pb, x.number, p, Ue17.bit x.kept, x.change, rfl, TV, hWT, by decide, hinc, by show (oneT n kb w).nodes ++ _ ≠ []; simp [oneT], hbv, fun H5 s5 => ⟨_, rfl, itNB (fun cf => ?_) (fun cf => ?_)⟩⟩
          · refine k0 ?_ H5 (Same.ofFr ((s1.trans s2).trans (s3.trans s4)) (sv.trans (Fr.of s5)) fr0)
            rw [cf, Bool.false_and] at hpc
            rw [hpy, if_neg (by rintro ⟨_, z, _⟩; rw [hpc] at z; cases z)]
          · have hbv5 := s5 _ _ hbv
            have TV5 := TV.same s5
            obtain ⟨dx5, tx5, q1, q2, q3⟩ := TV5.ins
            rw [cf, Bool.true_and] at hpc
            have hof := cf
            unfold ofit at hof
            simp only [Bool.and_eq_true, List.all_eq_true, decide_eq_true_eq] at hof
            refine ⟨_, rfl, A.a, dx5, _, rfl, q1, tF_no_put_state, _, rfl, pb, _, _, _, rfl, rfl, SqL.of hbv5, iv_at (i := 1) rfl, _, rfl, pb, _, _, _, rfl, rfl, SqL.of hbv5, iv_at (i := 2) rfl, _, rfl, pb, _, _, _, rfl, rfl, SqL.of hbv5, iv_at (i := 3) rfl, _, rfl, pb, _, _, _, rfl, rfl, SqL.of hbv5, iv_at (i := 4) rfl, _, rfl, pb, _, _, _, rfl, rfl, SqL.of hbv5, iv_at (i := 5) rfl, _, rfl, 6, rfl, pb, _, rfl, SqL.of hbv5, ?_⟩
            intro y1 ny1; generalize hH_y1 : upd _ y1 _ = H6; have s6 := snew ny1 hH_y1; have hy1 := hnew hH_y1; clear hH_y1
            rw [show cutV (iv (6 :: x.number :: p :: Ue17.bit x.kept :: x.change.at_ :: x.change.out :: x.change.in_)) (some 6) none = iv x.change.in_ from iv_cut_n (6 :: x.number :: p :: Ue17.bit x.kept :: x.change.at_ :: x.change.out :: x.change.in_) 6] at hy1
            refine ⟨sz 3 (by decide), ?_⟩
            intro y2 ny2; generalize hH_y2 : upd _ y2 _ = H7; have s7 := snew ny2 hH_y2; have hy2 := hnew hH_y2; clear hH_y2
            have hcn := cnt i hinc
            refine ⟨A, X, n, tI i, x.number, p, x.kept, y2, y1, x.change, rfl, TV5.same (s6.trans s7), fun z hz => by have := hof.1.1 z hz; omega, by omega, hy2, s7 _ _ hy1, TV5.fresh ny1, fun H8 T8 s8 => ?_⟩
            have exx : (⟨x.number, some p, x.change, x.kept⟩ : Node) = x := by cases x; simp at hp; subst hp; rfl
            have etI : ({ tI i with nodes := (tI i).nodes ++ [⟨x.number, some p, x.change, x.kept⟩] } : UT) = tI (i + 1) := by
              rw [exx]
              show ({ oneT n kb w with nodes := ((oneT n kb w).nodes ++ ns.take i) ++ [x] } : UT) = { oneT n kb w with nodes := (oneT n kb w).nodes ++ ns.take (i + 1) }
              rw [take_snoc hxi, List.append_assoc]
            rw [etI] at T8
            refine ⟨_, rfl, sv.trans ((Fr.of s5).trans (Fr.same (s6.trans s7) s8)), T8, ?_, ?_⟩
            · rw [← etI]
              refine List.pairwise_append.mpr ⟨hinc, List.pairwise_singleton .., fun z hz z' hz' => ?_⟩
              rw [List.mem_singleton.mp hz']
              exact hof.1.1 z hz
            · rw [hpc, ← etI, exx]
        · obtain ⟨v3, rfl, sv, TV, hinc, hpc⟩ := pv
          rw [hxl] at TV hinc hpc
          have hpc : pchk (oneT n kb w) ns = true := by rw [hpc, List.drop_length]; rfl
          have etn : (tI ns.length).nodes = ⟨n, none, Ue17.NOTHING, kb⟩ :: ns := by
            show [(⟨n, none, Ue17.NOTHING, kb⟩ : Node)] ++ ns.take ns.length = _
            rw [List.take_length]
            rfl
          obtain ⟨pe, hpe, hbe⟩ := hrs (ns.length + 1) (by omega)
          have hbe := hbe (.rest a' g d l) (by rw [e1, List.getElem?_cons_succ, List.getElem?_append_right (by rw [List.length_map]; exact Nat.le_refl _), List.length_map, Nat.sub_self]; rfl)
          have hbe : H2 pe = some (.lst (iv (restB a' g (d % 256) (d / 256) l))) := hbe
          have hqv := T4.keep sv (s4 _ _ hq3) rfl
          have hbv := T4.keep sv (s4 _ _ (s3 _ _ hbe)) rfl
          have hlast : atI (rv cp) (-1) = some (.ref pe) := atI_last' (by rw [rv_len, hcl, List.getElem?_map, show ns.length + 2 - 1 = ns.length + 1 by omega, hpe]; rfl)
          have hll : l.length ≤ 200 := by
            have := mE.2
            have h5 : (Ue17.body (.rest a' g d l)).length = 5 + 2 * l.length := by
              show (7 :: a' :: g :: (d % 256) :: (d / 256) :: l.flatMap fun x => [x.1, x.2]).length = _
              simp only [List.length_cons]
              rw [flatMap_len2 (fun _ => rfl)]
              omega
            omega
          have hcn := cnt _ hinc
          have hef : efit (tI ns.length) a' g l = efit ⟨w, ⟨n, none, Ue17.NOTHING, kb⟩ :: ns, a', l, g, d⟩ a' g l := efit_congr etn a' g l
          have hd : d ≤ 65535 := by
            have := mE.1 (d / 256) (by show d / 256 ∈ 7 :: a' :: g :: (d % 256) :: (d / 256) :: _; simp)
            omega
          refine ⟨_, rfl, _, rfl, _, rfl, q, _, _, _, rfl, rfl, SqL.of hqv, hlast, A, X, n, tI ns.length, pe, a', g, d % 256, d / 256, l, rfl, TV, by omega, hinc, by rw [etn]; simp, hbv, hll, fun H5 s5 => ⟨_, rfl, itNB (fun cf => ?_) (fun cf => ?_)⟩⟩
          · refine k0 ?_ H5 (Same.ofFr ((s1.trans s2).trans (s3.trans s4)) (sv.trans (Fr.of s5)) fr0)
            rw [hef] at cf
            rw [hpy, if_neg (by rintro ⟨_, _, z⟩; rw [cf] at z; cases z)]
          · rw [hef] at cf
            have hnd : (l.map fun y => y.1).Nodup := by
              have := cf
              unfold efit at this
              simp only [Bool.and_eq_true, decide_eq_true_eq] at this
              exact this.2.1
            refine ⟨_, rfl, _, rfl, _, rfl, q, _, _, _, rfl, rfl, SqL.of (s5 _ _ hqv), hlast, A, X, n, tI ns.length, pe, a', g, d % 256, d / 256, l, rfl, TV.same s5, rfl, s5 _ _ hbv, hll, hnd, fun H6 T6 s6 => ?_⟩
            have etf : ({ tI ns.length with now := a', given := g, deeds := d % 256 + 256 * (d / 256), last := l } : UT) = ⟨w, ⟨n, none, Ue17.NOTHING, kb⟩ :: ns, a', l, g, d⟩ := by
              show (⟨w, (tI ns.length).nodes, a', l, g, d % 256 + 256 * (d / 256)⟩ : UT) = _
              rw [etn, show d % 256 + 256 * (d / 256) = d by omega]
            rw [etf] at T6
            refine ⟨_, rfl, k1 _ r ?_ ?_ A n H6 (Same.ofFr ((s1.trans s2).trans (s3.trans s4)) ((sv.trans (Fr.of s5)).trans s6) fr0) T6 (tree_RT e2 hib hwb hd hw80 hpc cf) fr0⟩
            · rw [hpy, if_pos ⟨hw80, hpc, cf⟩]
            · show r = rs.drop (ns.length + 1 + 1)
              rw [e1]
              show r = ((ns.map toRec) ++ .rest a' g d l :: r).drop (ns.length + 1)
              rw [List.drop_append, List.drop_of_length_le (by rw [List.length_map]; omega), List.length_map, show ns.length + 1 - ns.length = 1 by omega]
              rfl
end
end TT
end
section
namespace TT
open Ue17
theorem bodiesF_255 {w : List Nat} (hb : ∀ x ∈ w, x ≤ 255) : ∀ f p b, b ∈ bodiesF f w p → b.length ≤ 255
  | 0, _, _, h => by cases h
  | f + 1, p, b, h => by
    unfold bodiesF at h
    cases hq : bodyAt w p with
    | none => rw [hq] at h; cases h
    | some c =>
      rw [hq] at h
      rcases List.mem_cons.mp h with q | q
      · subst q
        obtain ⟨h1, h2, _, _, h5⟩ := bodyAt_fits hq
        rw [h5]
        unfold slot
        rw [List.length_take]
        have : w.getD p 0 ≤ 255 := by
          rw [List.getD_eq_getElem?_getD]
          cases hg : w[p]? with
          | none => exact Nat.zero_le _
          | some x => exact hb x (List.mem_of_getElem? hg)
        omega
      · exact bodiesF_255 hb f _ b q
theorem records_255 {w : List Nat} (hb : ∀ x ∈ w, x ≤ 255) : ∀ r ∈ records w, (body r).length ≤ 255 := fun r hr => by
  have : body r ∈ bodies w := by rw [bodies_are hb]; exact List.mem_map.mpr ⟨r, hr, rfl⟩
  exact bodiesF_255 hb _ _ _ this
theorem WF.f_eq {f g n m : Nat} {t : Tree} (W : WF f t n) (V : WF g t m) : f = g := by
  obtain ⟨x, hx, e1, e2⟩ := W.fst
  rw [← e1]
  exact V.uniq x hx e2
theorem RT.did' {f g n : Nat} {t : Tree} (R : RT f t) {d : Deed} (hm : may t d = true) (hd : t.deeds < 65535) (V : WF g (Ue17.did t d) n) : RT g (Ue17.did t d) := by
  obtain ⟨f', R'⟩ := R.did hm hd
  rw [← R'.wf.f_eq V]
  exact R'
theorem fileRead_none {w : List Nat} (h : (w.drop 2).take 1 ≠ [255]) : fileRead w = none := by
  match w, h with
  | [], _ => rfl
  | [_], _ => rfl
  | [_, _], _ => rfl
  | a :: b :: c :: v, h =>
    unfold fileRead
    split
    · rename_i q
      injection q with q1 q2
      injection q2 with q3 q4
      injection q4 with q5 q6
      subst q5
      exact absurd rfl h
    · rfl
theorem fileRead_some {w : List Nat} (h : (w.drop 2).take 1 = [255]) : ∃ a b v, w = a :: b :: 255 :: v ∧ fileRead w = (treeFrom [] none (records v)).map fun x => (a + 256 * b, allDone x.1 x.2) := by
  match w, h with
  | [], h => cases h
  | [_], h => cases h
  | [_, _], h => cases h
  | a :: b :: c :: v, h =>
    have h : [c] = [255] := h
    injection h with h1
    subst h1
    exact ⟨a, b, v, rfl, rfl⟩
theorem may_in {t : Tree} {c : Change} (h : may t (.make c) = true) (ht : (textAt t t.now).length ≤ 80) : c.in_.length ≤ 255 := by
  have hm : (fits (textAt t t.now) c && (isBytes c.in_ && (decide ((changed (textAt t t.now) c).length ≤ 80) && decide (t.given < 40)))) = true := h
  simp only [Bool.and_eq_true, decide_eq_true_eq] at hm
  have m1 : c.at_ + c.out ≤ (textAt t t.now).length := of_decide_eq_true hm.1
  have := changed_len_eq m1
  omega
end TT
end
section
set_option maxHeartbeats 2000000
namespace TT
open PySem PySem.Spec PyProof.Rows L2
open Ue17 (Node Rec)
theorem RT.cp {f : Nat} {t : UT} (R : RT f t) : Cp f t := ⟨R.wf, R.hd, R.bs, fun x hx => (R.cb x hx).2.2.1⟩
section
variable {P : Program} {w : World} {K : PySem.W.Frag} {mg : Str → Option Value} {base : Heap} {CT CD CE : Addr}
abbrev N_head : List Str := ["number"]
theorem sc_head : FnScope N_head ["number"] (defScope s_head) := ⟨rfl, rfl, rfl, by decide +kernel, rfl, by decide +kernel, by decide +kernel⟩
abbrev N_number_of : List Str := ["written"]
theorem sc_number_of : FnScope N_number_of ["written"] (defScope s_number_of) := ⟨rfl, rfl, rfl, by decide +kernel, rfl, by decide +kernel, by decide +kernel⟩
abbrev N_number_behind : List Str := ["number"]
theorem sc_number_behind : FnScope N_number_behind ["number"] (defScope s_number_behind) := ⟨rfl, rfl, rfl, by decide +kernel, rfl, by decide +kernel, by decide +kernel⟩
abbrev N_new_file : List Str := ["number", "tree"]
theorem sc_new_file : FnScope N_new_file ["number", "tree"] (defScope s_new_file) := ⟨rfl, rfl, rfl, by decide +kernel, rfl, by decide +kernel, by decide +kernel⟩
abbrev N_tree_said : List Str := ["written", "bodies", "tree", "body"]
theorem sc_tree_said : FnScope N_tree_said ["written"] (defScope s_tree_said) := ⟨rfl, rfl, rfl, by decide +kernel, rfl, by decide +kernel, by decide +kernel⟩
abbrev N_found_file : List Str := ["files", "found", "which", "written"]
theorem sc_found_file : FnScope N_found_file ["files"] (defScope s_found_file) := ⟨rfl, rfl, rfl, by decide +kernel, rfl, by decide +kernel, by decide +kernel⟩
def sp_head : Sp := fun vs H Q _ => ∃ n : Nat, vs = [nV n] ∧ newL H (iv (Ue17.head n)) Q
theorem ok_head (T : Txt K mg CT CD CE) : C8.Cal P w K mg base 1 "head" sp_head [] := by
  refine T.d_head.ok sc_head (fun vs H Q E h => ?_) (fun f cdv A outer s H vs Q E hr h => ?_)
  · obtain ⟨n, rfl, _⟩ := h
    rfl
  · obtain ⟨n, rfl, k⟩ := h
    refine ⟨_, (pss_one (ps_ret (pe_lst (pa_cons (pe_op op_mod (pv 0) pe_int) (pa_cons (pe_op op_fdiv (pv 0) pe_int) (pa_cons pe_int pa_nil)))))) , ?_⟩
    refine ⟨_, rfl, _, _, rfl, rfl, (by show (0 : Int) < 256; decide), _, rfl, _, _, rfl, rfl, ⟨by decide, by decide⟩, sz 3 (by decide), ?_⟩
    intro p np; generalize hH_p : upd _ p _ = H1; have s1 := snew np hH_p; have hp := hnew hH_p; clear hH_p
    exact k p H1 np s1 hp
def sp_number_of : Sp := fun vs H Q _ => ∃ (a : Addr) (x y : Nat) (l : List Nat), vs = [.ref a] ∧ H a = some (.lst (iv (x :: y :: l))) ∧ Q (nV (x + 256 * y)) H
theorem ok_number_of (T : Txt K mg CT CD CE) : C8.Cal P w K mg base 1 "number_of" sp_number_of [] := by
  refine T.d_number_of.ok sc_number_of (fun vs H Q E h => ?_) (fun f cdv A outer s H vs Q E hr h => ?_)
  · obtain ⟨a, x, y, l, rfl, _⟩ := h
    rfl
  · obtain ⟨a, x, y, l, rfl, ha, k⟩ := h
    refine ⟨_, (pss_one (ps_ret (pe_op op_add (pe_ix ix_list (pv 0) pe_int (fun _ _ => rfl)) (pe_op op_mul pe_int (pe_ix ix_list (pv 0) pe_int (fun _ _ => rfl)))))) , ?_⟩
    exact ⟨_, rfl, a, _, _, _, rfl, rfl, SqL.of ha, iv_at (i := 0) rfl, _, rfl, a, _, _, _, rfl, rfl, SqL.of ha, iv_at (i := 1) rfl, _, _, rfl, rfl, .inl ⟨by decide, by decide⟩, _, _, rfl, rfl, k⟩
def sp_number_behind : Sp := fun vs H Q _ => ∃ n : Nat, vs = [nV n] ∧ Q (nV (Ue17.more n)) H
theorem ok_number_behind (T : Txt K mg CT CD CE) : C8.Cal P w K mg base 1 "number_behind" sp_number_behind [] := by
  refine T.d_number_behind.ok sc_number_behind (fun vs H Q E h => ?_) (fun f cdv A outer s H vs Q E hr h => ?_)
  · obtain ⟨n, rfl, _⟩ := h
    rfl
  · obtain ⟨n, rfl, k⟩ := h
    refine ⟨_, (pss_one (ps_ret (pe_op op_mod (pe_op op_add (pv 0) pe_int) pe_int))) , ?_⟩
    exact ⟨_, rfl, _, _, rfl, rfl, _, _, rfl, rfl, (by show (0 : Int) < 65536; decide), k⟩
theorem copy_len {f : Nat} {t : UT} (C : Cp f t) : (Ue17.copyBytes t).length ≤ 4000 := by
  obtain ⟨x, r, e, px, nx, ep, hr'⟩ := C.hd'
  rw [copyBytes_of C e px hr', List.length_append, List.length_append, recB_len, recB_len, endB_len]
  have h1 := fm_le (l := r) fun y hy => C.inl y (by rw [e]; exact List.mem_cons_of_mem _ hy)
  have h2 := C.wf.len
  have h3 := C.wf.last_len
  have h4 := C.bs
  have h5 : r.length + 1 = t.nodes.length := by rw [e]; rfl
  simp only [List.length_cons]
  omega
def sp_new_file (C : Addr) : Sp := fun vs H Q _ => ∃ (n : Nat) (A : TA) (X : List Addr) (f : Nat) (t : UT), vs = [nV n, .ref A.a] ∧ TreeAt C X H A f t ∧ Cp f t ∧ newL H (iv (Ue17.head n ++ Ue17.copyBytes t)) Q
theorem ok_new_file (T : Txt K mg CT CD CE) : C8.Cal P w K mg base 3 "new_file" (sp_new_file CT) [] := by
  refine T.d_new_file.ok sc_new_file (fun vs H Q E h => ?_) (fun f cdv A outer s H vs Q E hr h => ?_)
  · obtain ⟨n, A, X, f, t, rfl, _⟩ := h
    rfl
  · obtain ⟨n, A, X, f, t, rfl, TR, CP, k⟩ := h
    refine ⟨_, (pss_one (ps_ret (pe_op op_cat (C8.pe_c (ok_head T) hr (by decide) (by rfl) (pa_cons (pv 0) pa_nil)) (C8.pe_c (ok_copy_of T) hr (by decide) (by rfl) (pa_cons (pv 1) pa_nil))))) , ?_⟩
    refine ⟨_, rfl, n, rfl, fun p H1 np s1 hp => ?_⟩
    refine ⟨_, rfl, A, X, f, t, rfl, TR.same s1, CP, fun q H2 nq s2 hq => ?_⟩
    have hcl := copy_len CP
    refine ⟨p, q, _, _, rfl, rfl, s2 _ _ hp, hq, sz _ (by rw [iv_len, iv_len]; show 3 + _ ≤ _; omega), ?_⟩
    intro u nu; generalize hH_u : upd _ u _ = H3; have s3 := snew nu hH_u; have hu := hnew hH_u; clear hH_u
    refine k u H3 ((s1.trans s2).free nu) ((s1.trans s2).trans s3) ?_
    rw [hu, iv_append]
def sp_tree_said (C : Addr) : Sp := fun vs H Q _ => ∃ (a : Addr) (X : List Addr) (w : List Nat), vs = [.ref a] ∧ H a = some (.lst (iv w)) ∧ (∀ x ∈ w, x ≤ 255) ∧ w.length ≤ 40000 ∧ (∀ x ∈ X, ∃ l, H x = some (.lst l)) ∧
  (Ue17.fileRead w = none → pureV H .non Q) ∧
  ∀ n t, Ue17.fileRead w = some (n, t) → ∀ (A : TA) (f : Nat) (H' : Hp), Same H H' → TreeAt C X H' A f t → RT f t → (∀ b ∈ A.mut, H b = none) → Q (.ref A.a) H'
theorem allDone_stop {t : UT} {rc : Rec} {l : List Rec} (h : ∀ d, rc = .deed d → ¬ (Ue17.may t d = true ∧ t.deeds < 65535)) : Ue17.allDone t (rc :: l) = t := by
  cases rc with
  | deed d =>
    unfold Ue17.allDone
    rw [if_neg (h d rfl)]
  | base n k t => rfl
  | node n p k c => rfl
  | rest a b d l => rfl
theorem ok_tree_said (T : Txt K mg CT CD CE) : C8.Cal P w K mg base 8 "tree_said" (sp_tree_said CT) [] := by
  refine T.d_tree_said.ok sc_tree_said (fun vs H Q E h => ?_) (fun f cdv A outer s H vs Q E hr h => ?_)
  · obtain ⟨a, X, w, rfl, _⟩ := h
    rfl
  · obtain ⟨a, X, w, rfl, ha, hby, hwl, hX, k0, k1⟩ := h
    refine ⟨_, (pss_cons (ps_if (pt_cmpR (op_neN hr.units) (pe_slice sl_list (pv 0) (po_some (pe_op op_sub (C8.pe_gc (by rfl) T.c_HEAD_SIZE) pe_int)) (po_some (C8.pe_gc (by rfl) T.c_HEAD_SIZE))) (pe_lst (pa_cons pe_int pa_nil)) (nomark _))
        (pss_one (ps_ret pe_non))
        pss_nil)
      (pss_cons (ps_set (i := 1) sc_tree_said.nd rfl (Or.inl rfl) (C8.pe_c (ok_read T) hr (by decide) (by rfl) (pa_cons (pe_slice sl_list (pv 0) (po_some (C8.pe_gc (by rfl) T.c_HEAD_SIZE)) po_none) pa_nil)))
      (pss_cons (ps_set (i := 2) sc_tree_said.nd rfl (Or.inl rfl) (C8.pe_c (ok_tree_copied T) hr (by decide) (by rfl) (pa_cons (pv 1) pa_nil)))
      (pss_cons (ps_if (pt_cmpR op_isN (pv 2) pe_non (nomark _))
        (pss_one (ps_ret pe_non))
        pss_nil)
      (pss_cons (ps_for PassesOwn.never rfl (pi_list (pe_slice sl_list (pv 1) (po_some (pe_op op_add (pe_callB call_lenD (by rfl) T.b_len PySem.boot_len (pa_cons (pe_fld (pv 2) rfl) pa_nil)) pe_int)) po_none)) (pg_name (i := 3) sc_tree_said.nd rfl (Or.inl rfl))
        (pss_cons (ps_if (PW.pt (pw_or (pt_cmpR op_gt (pe_ix ix_list (pv 3) pe_int (fun _ _ => rfl)) (C8.pe_gc (by rfl) T.c_FORGET) (nomark _)) (pw_or1 (pt_cmpR op_ne (C8.pe_c (ok_refusal_of_deed T) hr (by decide) (by rfl) (pa_cons (pv 2) (pa_cons (pv 3) pa_nil))) (C8.pe_gc (by rfl) T.c_GRANTED) (nomark _)))))
            (pss_one (ps_ret (pv 2)))
            pss_nil)
          (pss_one (ps_expr (C8.pe_c (ok_do_deed T) hr (by decide) (by rfl) (pa_cons (pv 2) (pa_cons (pv 3) pa_nil)))))))
      (pss_one (ps_ret (pv 2)))))))) , ?_⟩
    refine ⟨_, rfl, _, _, rfl, rfl, 2, rfl, 3, rfl, a, _, rfl, SqL.of ha, ?_⟩
    intro p np; generalize hH_p : upd _ p _ = H1; have s1 := snew np hH_p; have hp := hnew hH_p; clear hH_p
    rw [show cutV (iv w) (some 2) (some 3) = iv ((w.drop 2).take 1) from iv_cut_nn w 2 3] at hp
    refine ⟨sz 1 (by decide), ?_⟩
    intro q nq; generalize hH_q : upd _ q _ = H2; have s2 := snew nq hH_q; have hq := hnew hH_q; clear hH_q
    refine ⟨p, q, (w.drop 2).take 1, [255], rfl, rfl, SqL.of (s2 _ _ hp), SqL.of hq, _, rfl, itND (fun c => ?_) (fun c => ?_)⟩
    · exact k0 (fileRead_none c) H2 (s1.trans s2)
    obtain ⟨n0, n1, v, ew, hfr⟩ := fileRead_some c
    refine ⟨_, rfl, 3, rfl, a, _, rfl, SqL.of (s2 _ _ (s1 _ _ ha)), ?_⟩
    intro u nu; generalize hH_u : upd _ u _ = H3; have s3 := snew nu hH_u; have hu := hnew hH_u; clear hH_u
    rw [show cutV (iv w) (some 3) none = iv (w.drop 3) from iv_cut_n w 3, show w.drop 3 = v by rw [ew]; rfl] at hu
    have hvb : ∀ x ∈ v, x ≤ 255 := fun x hx => hby x (by rw [ew]; simp [hx])
    have hvl : v.length ≤ 40000 := by rw [ew] at hwl; simp only [List.length_cons] at hwl; omega
    refine ⟨u, v, rfl, hu, hvb, hvl, fun bq ps H4 nbq s4 hbq LA frp => ?_⟩
    rw [bodies_are hvb] at LA
    have hrl := records_len v hvb
    generalize hrs : Ue17.records v = rs at LA hrl hfr
    have hrb : ∀ r ∈ rs, (∀ b ∈ Ue17.body r, b ≤ 255) ∧ (Ue17.body r).length ≤ 255 := fun r hr => by rw [← hrs] at hr; exact ⟨records_bytes hvb r hr, records_255 hvb r hr⟩
    have s04 : Same H H4 := ((s1.trans s2).trans s3).trans s4
    have hX4 : ∀ x ∈ X, ∃ l, H4 x = some (.lst l) := fun x hx => by obtain ⟨l, hl⟩ := hX x hx; exact ⟨l, s04 _ _ hl⟩
    refine ⟨_, rfl, bq, X, ps, rs, rfl, hbq, LA, by omega, hrb, hX4, fun hnone H5 s5 => ?_, fun t r hsome hr A f H5 s5 T5 R5 fr5 => ?_⟩
    · refine ⟨_, rfl, rfl, _, rfl, iteT ?_⟩
      exact k0 (by rw [hfr, hnone]; rfl) H5 (s04.trans s5)
    · refine ⟨_, rfl, rfl, _, rfl, iteF ?_⟩
      have hfr1 : Ue17.fileRead w = some (n0 + 256 * n1, Ue17.allDone t r) := by rw [hfr, hsome]; rfl
      have fr0 : ∀ b ∈ A.mut, H b = none := fun b hb => s04.free (fr5 b hb)
      obtain ⟨dx, tx, g1, g2, g3⟩ := T5.ins
      have hbq5 := s5 _ _ hbq
      have hkl : (kepKV t.nodes).length = t.nodes.length := List.length_map ..
      refine ⟨_, rfl, _, rfl, A.a, CT, dx, _, _, rfl, g1, T.clT, T.nT_kept, tF_kept, A.ke, _, rfl, T5.ke, _, _, rfl, rfl, _, rfl, bq, _, rfl, SqL.of hbq5, ?_⟩
      intro z nz; generalize hH_z : upd _ z _ = H6; have s6 := snew nz hH_z; have hz := hnew hH_z; clear hH_z
      have ecut : cutV (rv ps) (some (((kepKV t.nodes).length : Int) + 1)) none = rv (ps.drop (t.nodes.length + 1)) := by
        have := cut_n (rv ps) (t.nodes.length + 1)
        rw [show ((t.nodes.length + 1 : Nat) : Int) = ((kepKV t.nodes).length : Int) + 1 by rw [hkl]; omega] at this
        rw [this]
        exact (List.map_drop ..).symm
      rw [ecut] at hz
      have T6 := T5.same s6
      have LAr : ListsAt H6 (ps.drop (t.nodes.length + 1)) (r.map Ue17.body) := ⟨by rw [hr, List.map_drop, List.length_drop, List.length_drop, LA.len], fun i p b h1 h2 => by
        rw [hr, List.map_drop, List.getElem?_drop] at h2
        rw [List.getElem?_drop] at h1
        exact s6 _ _ (s5 _ _ (LA.at_ _ p b h1 h2))⟩
      have hrrl := LAr.len
      rw [List.length_map] at hrrl
      have s06 : Same H H6 := (s04.trans s5).trans s6
      refine ⟨z, rfl, ⟨_, SqL.of hz⟩, for_list (K := K) (a := z) (xs := rv (ps.drop (t.nodes.length + 1))) (fun i σ H' => ∃ (v3 : Option V) (f' : Nat) (t' : UT), σ = [some (.ref a), some (.ref bq), some (.ref A.a), v3] ∧ Fr A.mut H6 H' ∧ TreeAt CT X H' A f' t' ∧ RT f' t' ∧ Ue17.allDone t' (r.drop i) = Ue17.allDone t r)
        ⟨none, f, t, rfl, Fr.refl _ _, T6, R5, rfl⟩ (fun i σ H' _ pv => by obtain ⟨v3, f', t', _, sv, _⟩ := pv; exact SqL.of (T6.keep sv hz rfl)) (fun i y0 σ H' hy0 pv => ?_) (fun σ H' pv => ?_)⟩
      · obtain ⟨v3, f', t', rfl, sv, TV, RV, ead⟩ := pv
        obtain ⟨pb, hpb, rfl⟩ := rv_get' hy0
        have hi := (List.getElem?_eq_some_iff.mp hpb).1
        have hri : r[i]? = some (r[i]'(by omega)) := List.getElem?_eq_getElem (by omega)
        generalize hrc : r[i]'(by omega) = rc at hri
        have edr : r.drop i = rc :: r.drop (i + 1) := by rw [← hrc, ← List.drop_eq_getElem_cons]
        have hb := T6.keep sv (LAr.at_ i pb (Ue17.body rc) hpb (by rw [List.getElem?_map, hri]; rfl)) rfl
        obtain ⟨y, l, eb, ey⟩ := body_ne rc
        have hb0 := hb
        rw [eb] at hb0
        have stop : ∀ H7, Same H' H7 → (∀ d, rc = .deed d → ¬ (Ue17.may t' d = true ∧ t'.deeds < 65535)) → Q (.ref A.a) H7 := fun H7 s7 hst => by
          rw [edr, allDone_stop hst] at ead
          rw [ead] at TV RV
          exact k1 _ _ hfr1 A f' H7 (Same.ofFr s06 (sv.trans (Fr.of s7)) fr0) (TV.same s7) RV fr0
        refine ⟨_, rfl, pb, _, _, _, rfl, rfl, SqL.of hb0, iv_at (i := 0) rfl, _, _, rfl, rfl, _, rfl, itD (fun c1 => iteT ?_) (fun c1 => ?_)⟩
        · refine ⟨_, rfl, stop H' (Same.refl H') fun d hd => ?_⟩
          subst hd
          exfalso
          rw [ey] at c1
          have c1 : (4 : Int) < (sortNo (.deed d) : Int) := c1
          cases d <;> simp [sortNo, Ue17.body] at c1
        · have hdeed : ∃ d, rc = .deed d := by
            rw [ey] at c1
            have c1 : ¬ (4 : Int) < (sortNo rc : Int) := c1
            cases rc with
            | deed d => exact ⟨d, rfl⟩
            | base n k t => simp [sortNo, Ue17.body] at c1
            | node n p k c => simp [sortNo, Ue17.body] at c1
            | rest a b d l => simp [sortNo, Ue17.body] at c1
          obtain ⟨d, rfl⟩ := hdeed
          refine ⟨_, rfl, _, rfl, A, X, f', t', 41, pb, d, rfl, TV, RV.wf, by decide, hb, fun H7 s7 => ?_⟩
          refine ⟨rfl, _, rfl, itNI (fun c2 => ?_) (fun c2 => ?_)⟩
          · refine ⟨_, rfl, stop H7 s7 fun d' hd' hm => ?_⟩
            cases hd'
            exact c2 (by rw [(rdeed_may t' d).mpr hm]; rfl)
          · have hm := (rdeed_may t' d).mp (by omega)
            have hok : okD d := by
              cases d with
              | make c => exact may_in hm.1 RV.now_text.1
              | goes n => exact True.intro
              | keep n k => exact True.intro
              | forget n => exact True.intro
            refine ⟨_, rfl, _, rfl, A, X, f', t', 41, pb, d, rfl, TV.same s7, RV.wf, by decide, s7 _ _ hb, hok, fun H8 f8 T8 W8 s8 => ?_⟩
            refine ⟨_, f8, Ue17.did t' d, rfl, sv.trans ((Fr.of s7).trans s8), T8, RV.did' hm.1 hm.2 W8, ?_⟩
            rw [← ead, edr]
            conv => rhs; unfold Ue17.allDone
            rw [if_pos hm]
      · obtain ⟨v3, f', t', rfl, sv, TV, RV, ead⟩ := pv
        rw [rv_len, hrrl, List.drop_length] at ead
        have ead : t' = Ue17.allDone t r := ead
        rw [ead] at TV RV
        exact ⟨_, rfl, k1 _ _ hfr1 A f' H' (Same.ofFr s06 sv fr0) TV RV fr0⟩
end
end TT
end
section
namespace TT
open Ue17
theorem put_eq {w t : List Nat} {p : Nat} (h : t ≠ []) : Ue17.put w p t = w.take p ++ List.replicate (p - w.length) 0 ++ t ++ w.drop (p + t.length) := by
  unfold Ue17.put
  have : t.isEmpty = false := by cases t with | nil => exact absurd rfl h | cons _ _ => rfl
  rw [if_neg (by rw [this]; decide)]
  have e : (w ++ List.replicate (p - w.length) 0).take p = w.take p ++ List.replicate (p - w.length) 0 := by
    rw [List.take_append]
    congr 1
    rw [List.take_of_length_le (by simp)]
  rw [e]
  simp
theorem put_nil (w : List Nat) (p : Nat) : Ue17.put w p [] = w := by
  unfold Ue17.put
  exact if_pos rfl
theorem put_len {w t : List Nat} {p n : Nat} (h1 : w.length ≤ n) (h2 : p + t.length ≤ n) : (Ue17.put w p t).length ≤ n := by
  by_cases h : t = []
  · rw [h, put_nil]; exact h1
  · rw [put_eq h]
    simp only [List.length_append, List.length_take, List.length_replicate, List.length_drop]
    omega
theorem put_bytes {w t : List Nat} {p : Nat} (h1 : ∀ x ∈ w, x ≤ 255) (h2 : ∀ x ∈ t, x ≤ 255) : ∀ x ∈ Ue17.put w p t, x ≤ 255 := fun x hx => by
  by_cases h : t = []
  · rw [h, put_nil] at hx; exact h1 x hx
  · rw [put_eq h] at hx
    simp only [List.mem_append] at hx
    rcases hx with ((q | q) | q) | q
    · exact h1 x (List.mem_of_mem_take q)
    · have := (List.mem_replicate.mp q).2; omega
    · exact h2 x q
    · exact h1 x (List.mem_of_mem_drop q)
/-- files and writes of a fair size, of bytes -/
structure Fz (F : Files) : Prop where
  la : F.a.length ≤ 5000
  lb : F.b.length ≤ 5000
  ba : ∀ x ∈ F.a, x ≤ 255
  bb : ∀ x ∈ F.b, x ≤ 255
  lc : ∀ x ∈ F.cache, x.2.1 + x.2.2.length ≤ 5000
  bc : ∀ x ∈ F.cache, ∀ y ∈ x.2.2, y ≤ 255
  ne : ∀ x ∈ F.cache, x.2.2 ≠ []
theorem Fz.written {F : Files} (Z : Fz F) {x : Write} (h1 : x.2.1 + x.2.2.length ≤ 5000) (h2 : ∀ y ∈ x.2.2, y ≤ 255) : Fz (written F x) := by
  unfold Ue17.written
  split
  · exact ⟨Z.la, put_len Z.lb h1, Z.ba, put_bytes Z.bb h2, Z.lc, Z.bc, Z.ne⟩
  · exact ⟨put_len Z.la h1, Z.lb, put_bytes Z.ba h2, Z.bb, Z.lc, Z.bc, Z.ne⟩
theorem written_cache (F : Files) (x : Write) : (written F x).cache = F.cache := by
  unfold written
  split <;> rfl
theorem Fz.writtens : ∀ (l : List Write) {F : Files}, Fz F → (∀ x ∈ l, x.2.1 + x.2.2.length ≤ 5000 ∧ ∀ y ∈ x.2.2, y ≤ 255) → Fz (l.foldl Ue17.written F)
  | [], _, Z, _ => Z
  | x :: l, F, Z, h => Fz.writtens l (F := Ue17.written F x) (Z.written (h x List.mem_cons_self).1 (h x List.mem_cons_self).2) fun y hy => h y (List.mem_cons_of_mem _ hy)
theorem Fz.nocache {F : Files} (Z : Fz F) : Fz { F with cache := [] } := ⟨Z.la, Z.lb, Z.ba, Z.bb, fun x hx => (by cases hx), fun x hx => (by cases hx), fun x hx => (by cases hx)⟩
theorem Fz.seen {F : Files} (Z : Fz F) : Fz (Ue17.seen F) := (Z.writtens F.cache fun x hx => ⟨Z.lc x hx, Z.bc x hx⟩).nocache
def cutW (x : Write) (m : Nat) : Write := (x.1, x.2.1, x.2.2.take m)
def partW (F : Files) (y : Write × Nat) : Files := if 0 < y.2 then written F (cutW y.1 y.2) else F
theorem written_empty (F : Files) (b : Bool) (p : Nat) : written F (b, p, []) = F := by
  unfold written
  split
  · rw [put_nil]
  · rw [put_nil]
theorem gone_fold (l : List Nat) : ∀ (c : List Write) (i : Nat) (F : Files), ((c.zipIdx i).map fun x => (x.1.1, x.1.2.1, x.1.2.2.take (l.getD x.2 0))).foldl written F = (c.zip (l.drop i)).foldl partW F
  | [], i, F => rfl
  | x :: c, i, F => by
    have ih := gone_fold l c (i + 1)
    rw [List.zipIdx_cons, List.map_cons, List.foldl_cons, ih]
    by_cases hi : i < l.length
    · have e : l.drop i = l[i] :: l.drop (i + 1) := List.drop_eq_getElem_cons hi
      have g : l.getD i 0 = l[i] := by rw [List.getD_eq_getElem?_getD, List.getElem?_eq_getElem hi]; rfl
      rw [e, List.zip_cons_cons, List.foldl_cons]
      congr 1
      show written F (x.1, x.2.1, x.2.2.take (l.getD i 0)) = partW F (x, l[i])
      unfold partW
      rw [g]
      split
      · rfl
      · rename_i h
        have h : ¬ 0 < l[i] := h
        rw [show l[i] = 0 by omega, List.take_zero, written_empty]
    · have e1 : l.drop i = [] := List.drop_eq_nil_of_le (by omega)
      have e2 : l.drop (i + 1) = [] := List.drop_eq_nil_of_le (by omega)
      have g : l.getD i 0 = 0 := by rw [List.getD_eq_getElem?_getD, List.getElem?_eq_none (by omega)]; rfl
      rw [e1, e2, List.zip_nil_right, List.zip_nil_right]
      show written F (x.1, x.2.1, x.2.2.take (l.getD i 0)) = F
      rw [g, List.take_zero, written_empty]
theorem gone_eq (F : Files) (l : List Nat) : gone F l = { (F.cache.zip l).foldl partW F with cache := [] } := by
  unfold gone
  have := gone_fold l F.cache 0 F
  rw [List.drop_zero] at this
  rw [← this]
theorem Fz.part {F : Files} (Z : Fz F) {y : Write × Nat} (h1 : y.1.2.1 + y.1.2.2.length ≤ 5000) (h2 : ∀ z ∈ y.1.2.2, z ≤ 255) : Fz (partW F y) := by
  unfold partW
  split
  · refine Z.written ?_ fun z hz => h2 z (List.mem_of_mem_take hz)
    show y.1.2.1 + (y.1.2.2.take y.2).length ≤ 5000
    rw [List.length_take]
    omega
  · exact Z
theorem Fz.parts : ∀ (l : List (Write × Nat)) {F : Files}, Fz F → (∀ y ∈ l, y.1.2.1 + y.1.2.2.length ≤ 5000 ∧ ∀ z ∈ y.1.2.2, z ≤ 255) → Fz (l.foldl partW F)
  | [], _, Z, _ => Z
  | x :: l, F, Z, h => Fz.parts l (F := partW F x) (Z.part (h x List.mem_cons_self).1 (h x List.mem_cons_self).2) fun y hy => h y (List.mem_cons_of_mem _ hy)
theorem zip_fst {α β : Type} {l : List α} {m : List β} {y : α × β} (h : y ∈ l.zip m) : y.1 ∈ l := (List.of_mem_zip (a := y.1) (b := y.2) h).1
theorem Fz.gone {F : Files} (Z : Fz F) (l : List Nat) : Fz (Ue17.gone F l) := by
  rw [gone_eq]
  exact (Z.parts _ fun y hy => ⟨Z.lc _ (zip_fst hy), Z.bc _ (zip_fst hy)⟩).nocache
end TT
end
section
set_option maxHeartbeats 2000000
namespace TT
open PySem PySem.Spec PyProof.Rows L2
open Ue17 (Write Files)
structure WrAt (X : List Addr) (H : Hp) (ws : List Addr) (c : List Write) : Prop where
  len : ws.length = c.length
  at_ : ∀ (i : Nat) (p : Addr) (x : Write), ws[i]? = some p → c[i]? = some x → ∃ q, H p = some (.tup [nV (Ue17.bit x.1), nV x.2.1, .ref q]) ∧ H q = some (.lst (iv x.2.2)) ∧ q ∉ X
structure DiskAt (C : Addr) (X : List Addr) (H : Hp) (dk fl wr : Addr) (F : Files) : Prop where
  ins : ∃ dx, H dk = some (.ins C dx (dF (.ref fl) (.ref wr)))
  fls : ∃ f0 f1, H fl = some (.lst [.ref f0, .ref f1]) ∧ H f0 = some (.lst (iv F.a)) ∧ H f1 = some (.lst (iv F.b)) ∧ f0 ∉ X ∧ f1 ∉ X
  wrs : ∃ ws, H wr = some (.lst (rv ws)) ∧ WrAt X H ws F.cache
  ff : fl ∈ X
  fw : wr ∈ X
  ne : fl ≠ wr
  xl : ∀ b ∈ X, ∃ l, H b = some (.lst l)
theorem WrAt.keep {X : List Addr} {H H' : Hp} {ws : List Addr} {c : List Write} (W : WrAt X H ws c) (h : ∀ b o, H b = some o → mutK o = false → b ∉ X → H' b = some o) (hx : ∀ b ∈ X, ∃ l, H b = some (.lst l)) : WrAt X H' ws c :=
  ⟨W.len, fun i p x h1 h2 => by
    obtain ⟨q, e1, e2, e3⟩ := W.at_ i p x h1 h2
    refine ⟨q, h _ _ e1 rfl fun m => ?_, h _ _ e2 rfl e3, e3⟩
    obtain ⟨l, hl⟩ := hx p m
    rw [e1] at hl
    cases hl⟩
/-- what changed is none of the disk's -/
theorem DiskAt.fr {C : Addr} {X F : List Addr} {H H' : Hp} {dk fl wr : Addr} {G : Files} (D : DiskAt C X H dk fl wr G) (s : Fr F H H') (hF : ∀ b ∈ F, b ≠ dk ∧ b ≠ fl ∧ b ≠ wr ∧ (b ∈ X ∨ ∀ o, H b = some o → mutK o = true)) (xl : ∀ b ∈ X, ∃ l, H' b = some (.lst l)) : DiskAt C X H' dk fl wr G := by
  have hk : ∀ b o, H b = some o → mutK o = false → b ∉ X → H' b = some o := fun b o e m n => s b o e fun q => by
    rcases (hF b q).2.2.2 with z | z
    · exact n z
    · rw [z o e] at m; cases m
  obtain ⟨dx, h1⟩ := D.ins
  obtain ⟨f0, f1, h2, h3, h4, h5, h6⟩ := D.fls
  obtain ⟨ws, h7, h8⟩ := D.wrs
  exact ⟨⟨dx, s _ _ h1 fun q => (hF _ q).1 rfl⟩, ⟨f0, f1, s _ _ h2 (fun q => (hF _ q).2.1 rfl), hk _ _ h3 rfl h5, hk _ _ h4 rfl h6, h5, h6⟩, ⟨ws, s _ _ h7 (fun q => (hF _ q).2.2.1 rfl), h8.keep hk D.xl⟩, D.ff, D.fw, D.ne, xl⟩
theorem DiskAt.same {C : Addr} {X : List Addr} {H H' : Hp} {dk fl wr : Addr} {G : Files} (D : DiskAt C X H dk fl wr G) (s : Same H H') : DiskAt C X H' dk fl wr G :=
  D.fr (F := []) (Fr.of s) (fun b hb => by cases hb) fun b hb => by obtain ⟨l, hl⟩ := D.xl b hb; exact ⟨l, s _ _ hl⟩
theorem DiskAt.notX {C : Addr} {X : List Addr} {H : Hp} {dk fl wr : Addr} {G : Files} (D : DiskAt C X H dk fl wr G) : dk ∉ X := fun m => by
  obtain ⟨l, hl⟩ := D.xl dk m
  obtain ⟨dx, h⟩ := D.ins
  rw [h] at hl
  cases hl
section
variable {P : Program} {w : World} {K : PySem.W.Frag} {mg : Str → Option Value} {base : Heap} {CT CD CE : Addr}
abbrev N_Disk___init__ : List Str := ["self"]
theorem sc_Disk___init__ : FnScope N_Disk___init__ ["self"] (defScope s_Disk___init__) := ⟨rfl, rfl, rfl, by decide +kernel, rfl, by decide +kernel, by decide +kernel⟩
abbrev N_Disk_send : List Str := ["self", "which", "place", "put"]
theorem sc_Disk_send : FnScope N_Disk_send ["self", "which", "place", "put"] (defScope s_Disk_send) := ⟨rfl, rfl, rfl, by decide +kernel, rfl, by decide +kernel, by decide +kernel⟩
abbrev N_Disk_arrive : List Str := ["self", "which", "place", "put"]
theorem sc_Disk_arrive : FnScope N_Disk_arrive ["self"] (defScope s_Disk_arrive) := ⟨rfl, rfl, rfl, by decide +kernel, rfl, by decide +kernel, by decide +kernel⟩
abbrev N_Disk_arrive_in_part : List Str := ["self", "many_of_each", "write", "many"]
theorem sc_Disk_arrive_in_part : FnScope N_Disk_arrive_in_part ["self", "many_of_each"] (defScope s_Disk_arrive_in_part) := ⟨rfl, rfl, rfl, by decide +kernel, rfl, by decide +kernel, by decide +kernel⟩
abbrev N_Disk_store : List Str := ["self", "which", "place", "put", "old", "between"]
theorem sc_Disk_store : FnScope N_Disk_store ["self", "which", "place", "put"] (defScope s_Disk_store) := ⟨rfl, rfl, rfl, by decide +kernel, rfl, by decide +kernel, by decide +kernel⟩
abbrev N_Disk_wipe : List Str := ["self", "which"]
theorem sc_Disk_wipe : FnScope N_Disk_wipe ["self", "which"] (defScope s_Disk_wipe) := ⟨rfl, rfl, rfl, by decide +kernel, rfl, by decide +kernel, by decide +kernel⟩
def fileV (F : Files) (b : Bool) : List Nat := Ue17.fileOf F b
theorem DiskAt.file {C : Addr} {X : List Addr} {H : Hp} {dk fl wr : Addr} {G : Files} (D : DiskAt C X H dk fl wr G) (b : Bool) : ∃ f0 f1 fb, H fl = some (.lst [.ref f0, .ref f1]) ∧ ([.ref f0, .ref f1] : List V)[Ue17.bit b]? = some (.ref fb) ∧ H fb = some (.lst (iv (Ue17.fileOf G b))) ∧ fb ∉ X := by
  obtain ⟨f0, f1, h2, h3, h4, h5, h6⟩ := D.fls
  cases b with
  | false => exact ⟨f0, f1, f0, h2, rfl, h3, h5⟩
  | true => exact ⟨f0, f1, f1, h2, rfl, h4, h6⟩
def setFile (F : Files) (b : Bool) (w : List Nat) : Files := if b = true then { F with b := w } else { F with a := w }
/-- a file's list is another one -/
theorem DiskAt.setF {C : Addr} {X : List Addr} {H H1 : Hp} {dk fl wr : Addr} {G : Files} (D : DiskAt C X H dk fl wr G) {b : Bool} {f0 f1 u : Addr} {w : List Nat} (h : H fl = some (.lst [.ref f0, .ref f1])) (hu : H u = some (.lst (iv w))) (nu : u ∉ X) (h1 : H1 fl = some (.lst (([.ref f0, .ref f1] : List V).set (Ue17.bit b) (.ref u)))) (k : ∀ b o, H b = some o → b ≠ fl → H1 b = some o) : DiskAt C X H1 dk fl wr (setFile G b w) := by
  obtain ⟨dx, e1⟩ := D.ins
  obtain ⟨g0, g1, e2, e3, e4, e5, e6⟩ := D.fls
  obtain ⟨ws, e7, e8⟩ := D.wrs
  rw [h] at e2
  have e2 : f0 = g0 ∧ f1 = g1 := by
    injection e2 with e2
    injection e2 with e2
    injection e2 with a1 a2
    injection a2 with a3 a4
    exact ⟨V.ref.inj a1, V.ref.inj a3⟩
  obtain ⟨rfl, rfl⟩ := e2
  have nf : ∀ {z : Addr}, z ∉ X → z ≠ fl := fun n q => n (by rw [q]; exact D.ff)
  have ndk : dk ≠ fl := fun q => D.notX (by rw [q]; exact D.ff)
  have hW : WrAt X H1 ws G.cache := e8.keep (fun z o q _ n => k z o q (nf n)) D.xl
  have xl1 : ∀ z ∈ X, ∃ l, H1 z = some (.lst l) := fun z hz => by
    by_cases q : z = fl
    · rw [q]; exact ⟨_, h1⟩
    · obtain ⟨l, hl⟩ := D.xl z hz
      exact ⟨l, k z _ hl q⟩
  cases b with
  | false => exact ⟨⟨dx, k _ _ e1 ndk⟩, ⟨u, f1, h1, k _ _ hu (nf nu), k _ _ e4 (nf e6), nu, e6⟩, ⟨ws, k _ _ e7 D.ne.symm, hW⟩, D.ff, D.fw, D.ne, xl1⟩
  | true => exact ⟨⟨dx, k _ _ e1 ndk⟩, ⟨f0, u, h1, k _ _ e3 (nf e5), k _ _ hu (nf nu), e5, nu⟩, ⟨ws, k _ _ e7 D.ne.symm, hW⟩, D.ff, D.fw, D.ne, xl1⟩
theorem DiskAt.fresh {C : Addr} {X : List Addr} {H : Hp} {dk fl wr : Addr} {G : Files} (D : DiskAt C X H dk fl wr G) {p : Addr} (h : H p = none) : p ∉ X := fun m => by
  obtain ⟨l, hl⟩ := D.xl p m
  rw [hl] at h
  cases h
theorem ix_bit (b : Bool) (x y : V) : ixN ([x, y] : List V).length ((Ue17.bit b : Nat) : Int) = some (Ue17.bit b) := by cases b <;> rfl
def sp_wipe (C : Addr) : Sp := fun vs H Q _ => ∃ (X : List Addr) (dk fl wr : Addr) (F : Files) (b : Bool), vs = [.ref dk, nV (Ue17.bit b)] ∧ DiskAt C X H dk fl wr F ∧ ∀ H', DiskAt C X H' dk fl wr (Ue17.wiped F b) → Fr [fl] H H' → Q .non H'
theorem ok_Disk_wipe (T : Txt K mg CT CD CE) : C8.Met P w K mg base 1 CD "wipe" (sp_wipe CD) [] := by
  refine T.d_Disk_wipe.ok T.clD sc_Disk_wipe (fun vs H Q E h => ?_) (fun f cdv A outer s H vs Q E hr h => ?_)
  · obtain ⟨X, dk, fl, wr, F, b, rfl, _⟩ := h
    rfl
  · obtain ⟨X, dk, fl, wr, F, b, rfl, D, k⟩ := h
    refine ⟨_, (pss_one (ps_asg (pe_lst pa_nil) (pg_sub (pe_fld (pv 0) rfl) (pv 1) set_list))) , ?_⟩
    refine ⟨sz 0 (by decide), ?_⟩
    intro u nu; generalize hH_u : upd _ u _ = H1; have s1 := snew nu hH_u; have hu := hnew hH_u; clear hH_u
    have D1 := D.same s1
    obtain ⟨dx, h1⟩ := D1.ins
    obtain ⟨f0, f1, h2, _⟩ := D1.fls
    refine ⟨_, rfl, dk, CD, dx, _, _, rfl, h1, T.clD, T.nD_files, dF_files, _, rfl, fl, _, _, _, rfl, rfl, h2, ix_bit b _ _, ?_⟩
    generalize hH_ : upd _ fl _ = H2; obtain ⟨g2, k2⟩ := ups hH_; clear hH_
    refine k H2 ?_ (Fr.same s1 (Fr.ups k2 (by simp)))
    have := D1.setF (b := b) (w := []) h2 hu (D.fresh nu) g2 k2
    cases b <;> exact this
def sp_store (C : Addr) : Sp := fun vs H Q _ => ∃ (X : List Addr) (dk fl wr : Addr) (F : Files) (b : Bool) (p : Nat) (c : Addr) (t : List Nat), vs = [.ref dk, nV (Ue17.bit b), nV p, .ref c] ∧ DiskAt C X H dk fl wr F ∧ H c = some (.lst (iv t)) ∧ c ∉ X ∧ t ≠ [] ∧ (Ue17.fileOf F b).length ≤ 20000 ∧ p + t.length ≤ 20000 ∧
  ∀ H', DiskAt C X H' dk fl wr (Ue17.written F (b, p, t)) → Fr [fl] H H' → Q .non H'
theorem ok_Disk_store (T : Txt K mg CT CD CE) : C8.Met P w K mg base 1 CD "store" (sp_store CD) [] := by
  refine T.d_Disk_store.ok T.clD sc_Disk_store (fun vs H Q E h => ?_) (fun f cdv A outer s H vs Q E hr h => ?_)
  · obtain ⟨X, dk, fl, wr, F, b, p, c, t, rfl, _⟩ := h
    rfl
  · obtain ⟨X, dk, fl, wr, F, b, p, c, t, rfl, D, hc, ncx, hne, hl1, hl2, k⟩ := h
    obtain ⟨dx, h1⟩ := D.ins
    obtain ⟨f0, f1, fb, h2, h3, h4, h5⟩ := D.file b
    generalize hold : Ue17.fileOf F b = old at h4 hl1
    refine ⟨_, (pss_cons (ps_set (i := 4) sc_Disk_store.nd rfl (Or.inl rfl) (pe_ix ix_list (pe_fld (pv 0) rfl) (pv 1) (fun _ _ => rfl)))
      (pss_cons (ps_set (i := 5) sc_Disk_store.nd rfl (Or.inl rfl) (pe_op op_rep (pe_lst (pa_cons pe_int pa_nil)) (pe_op op_sub (pv 2) (pe_callB call_len_seq (by rfl) T.b_len PySem.boot_len (pa_cons (pv 4) pa_nil)))))
      (pss_one (ps_asg (pe_op op_cat (pe_op op_cat (pe_op op_cat (pe_slice sl_list (pv 4) po_none (po_some (pv 2))) (pv 5)) (pv 3)) (pe_slice sl_list (pv 4) (po_some (pe_op op_add (pv 2) (pe_callB call_len_seq (by rfl) T.b_len PySem.boot_len (pa_cons (pv 3) pa_nil)))) po_none)) (pg_sub (pe_fld (pv 0) rfl) (pv 1) set_list))))) , ?_⟩
    refine ⟨_, rfl, dk, CD, dx, _, _, rfl, h1, T.clD, T.nD_files, dF_files, _, rfl, fl, _, _, _, rfl, rfl, SqL.of h2, atI_nat h3, ?_⟩
    refine ⟨sz 1 (by decide), ?_⟩
    intro z nz; generalize hH_z : upd _ z _ = H1; have s1 := snew nz hH_z; have hz := hnew hH_z; clear hH_z
    refine ⟨_, rfl, _, rfl, fb, _, rfl, .inl (SqL.of (s1 _ _ h4)), _, _, rfl, rfl, z, _, _, rfl, rfl, hz, by rw [iv_len]; omega, by rw [iv_len]; omega, sz _ (by rw [iv_len]; show 1 * ((p : Int) - (old.length : Int)).toNat ≤ _; omega), ?_⟩
    intro bt nbt; generalize hH_bt : upd _ bt _ = H2; have s2 := snew nbt hH_bt; have hbt := hnew hH_bt; clear hH_bt
    have hbt : H2 bt = some (.lst (iv (List.replicate (p - old.length) 0))) := by
      rw [hbt, iv_len, show ((p : Int) - (old.length : Int)).toNat = p - old.length by omega]
      exact congrArg (fun z => some (HO.lst z)) (rep_iv 0 (p - old.length))
    have h4' := s2 _ _ (s1 _ _ h4)
    refine ⟨_, rfl, _, rfl, _, rfl, fb, _, rfl, SqL.of h4', ?_⟩
    intro u1 nu1; generalize hH_u1 : upd _ u1 _ = H3; have s3 := snew nu1 hH_u1; have hu1 := hnew hH_u1; clear hH_u1
    rw [iv_cut_to] at hu1
    refine ⟨_, rfl, u1, bt, _, _, rfl, rfl, hu1, s3 _ _ hbt, sz _ (by rw [iv_len, iv_len, List.length_take, List.length_replicate]; omega), ?_⟩
    intro u2 nu2; generalize hH_u2 : upd _ u2 _ = H4; have s4 := snew nu2 hH_u2; have hu2 := hnew hH_u2; clear hH_u2
    have hc4 := s4 _ _ (s3 _ _ (s2 _ _ (s1 _ _ hc)))
    refine ⟨_, rfl, u2, c, _, _, rfl, rfl, hu2, hc4, sz _ (by rw [List.length_append, iv_len, iv_len, iv_len, List.length_take, List.length_replicate]; omega), ?_⟩
    intro u3 nu3; generalize hH_u3 : upd _ u3 _ = H5; have s5 := snew nu3 hH_u3; have hu3 := hnew hH_u3; clear hH_u3
    have h4'' := s5 _ _ (s4 _ _ (s3 _ _ h4'))
    refine ⟨_, rfl, _, rfl, _, rfl, c, _, rfl, .inl (SqL.of (s5 _ _ hc4)), _, _, rfl, rfl, _, rfl, fb, _, rfl, SqL.of h4'', ?_⟩
    intro u4 nu4; generalize hH_u4 : upd _ u4 _ = H6; have s6 := snew nu4 hH_u4; have hu4 := hnew hH_u4; clear hH_u4
    rw [show cutV (iv old) (some ((p : Int) + ((iv t).length : Int))) none = iv (old.drop (p + t.length)) by
      have := iv_cut_n old (p + t.length)
      rw [show ((p + t.length : Nat) : Int) = (p : Int) + ((iv t).length : Int) by rw [iv_len]; omega] at this
      exact this] at hu4
    refine ⟨u3, u4, _, _, rfl, rfl, s6 _ _ hu3, hu4, sz _ (by rw [List.length_append, List.length_append, iv_len, iv_len, iv_len, iv_len, List.length_take, List.length_replicate, List.length_drop]; omega), ?_⟩
    intro u5 nu5; generalize hH_u5 : upd _ u5 _ = H7; have s7 := snew nu5 hH_u5; have hu5 := hnew hH_u5; clear hH_u5
    have s07 : Same H H7 := ((((((s1.trans s2).trans s3).trans s4).trans s5).trans s6).trans s7)
    have D7 := D.same s07
    have e5 : iv (Ue17.put old p t) = iv (old.take p) ++ iv (List.replicate (p - old.length) 0) ++ iv t ++ iv (old.drop (p + t.length)) := by
      rw [put_eq hne, iv_append, iv_append, iv_append]
    have hu5 : H7 u5 = some (.lst (iv (Ue17.put old p t))) := by rw [hu5]; exact congrArg (fun z => some (HO.lst z)) e5.symm
    have nux : u5 ∉ X := (D.same (((((s1.trans s2).trans s3).trans s4).trans s5).trans s6)).fresh nu5
    obtain ⟨dx7, h17⟩ := D7.ins
    refine ⟨_, rfl, dk, CD, dx, _, _, rfl, s07 _ _ h1, T.clD, T.nD_files, dF_files, _, rfl, fl, _, _, _, rfl, rfl, s07 _ _ h2, ix_bit b _ _, ?_⟩
    generalize hH_ : upd _ fl _ = H8; obtain ⟨g8, k8⟩ := ups hH_; clear hH_
    refine k H8 ?_ (Fr.same s07 (Fr.ups k8 (by simp)))
    have := D7.setF (b := b) (s07 _ _ h2) hu5 nux g8 k8
    rw [← hold] at this
    cases b <;> exact this
def sp_send (C : Addr) : Sp := fun vs H Q _ => ∃ (X : List Addr) (dk fl wr : Addr) (F : Files) (b : Bool) (p : Nat) (c : Addr) (t : List Nat), vs = [.ref dk, nV (Ue17.bit b), nV p, .ref c] ∧ DiskAt C X H dk fl wr F ∧ H c = some (.lst (iv t)) ∧ c ∉ X ∧ F.cache.length ≤ 1000 ∧
  ∀ H', DiskAt C X H' dk fl wr { F with cache := F.cache ++ [(b, p, t)] } → Fr [wr] H H' → Q .non H'
theorem ok_Disk_send (T : Txt K mg CT CD CE) : C8.Met P w K mg base 1 CD "send" (sp_send CD) [] := by
  refine T.d_Disk_send.ok T.clD sc_Disk_send (fun vs H Q E h => ?_) (fun f cdv A outer s H vs Q E hr h => ?_)
  · obtain ⟨X, dk, fl, wr, F, b, p, c, t, rfl, _⟩ := h
    rfl
  · obtain ⟨X, dk, fl, wr, F, b, p, c, t, rfl, D, hc, ncx, hcl, k⟩ := h
    obtain ⟨dx, h1⟩ := D.ins
    obtain ⟨ws, h7, h8⟩ := D.wrs
    have hwl := h8.len
    refine ⟨_, (pss_one (ps_expr (pe_bm PySem.F.plainAttrs_list PySem.F.slot_list_append PySem.F.type_list_append mt_append (pe_fld (pv 0) rfl) (pa_cons (pe_tup (pa_cons (pv 1) (pa_cons (pv 2) (pa_cons (pv 3) pa_nil)))) pa_nil)))) , ?_⟩
    refine ⟨_, rfl, dk, CD, dx, _, _, rfl, h1, T.clD, T.nD_writes, dF_writes, .inl ⟨rfl, _, SqL.of h7⟩, _, rfl, _, rfl, _, rfl, sz 3 (by decide), ?_⟩
    intro u nu; generalize hH_u : upd _ u _ = H1; have s1 := snew nu hH_u; have hu := hnew hH_u; clear hH_u
    have D1 := D.same s1
    have h71 := s1 _ _ h7
    refine ⟨wr, _, _, rfl, rfl, h71, szl _ (by rw [rv_len]; omega), ?_⟩
    generalize hH_ : upd _ wr _ = H2; obtain ⟨g2, k2⟩ := ups hH_; clear hH_
    obtain ⟨dx1, e1⟩ := D1.ins
    obtain ⟨f0, f1, e2, e3, e4, e5, e6⟩ := D1.fls
    have nw : ∀ {z : Addr}, z ∉ X → z ≠ wr := fun n q => n (by rw [q]; exact D.fw)
    have ndk : dk ≠ wr := fun q => D.notX (by rw [q]; exact D.fw)
    have W2 : WrAt X H2 ws F.cache := ⟨h8.len, fun i p x q1 q2 => by
      obtain ⟨q, z1, z2, z3⟩ := h8.at_ i p x q1 q2
      have np : p ≠ wr := ne_of (s1 _ _ z1) h71 (by intro z; cases z)
      exact ⟨q, k2 _ _ (s1 _ _ z1) np, k2 _ _ (s1 _ _ z2) (nw z3), z3⟩⟩
    have nuw : u ≠ wr := ne_of hu h71 (by intro z; cases z)
    refine k H2 ⟨⟨dx1, k2 _ _ e1 ndk⟩, ⟨f0, f1, k2 _ _ e2 D.ne, k2 _ _ e3 (nw e5), k2 _ _ e4 (nw e6), e5, e6⟩, ⟨ws ++ [u], by rw [g2, rv_append]; rfl, ⟨by rw [List.length_append, List.length_append, hwl]; rfl, fun i p' x q1 q2 => ?_⟩⟩, D.ff, D.fw, D.ne, fun z hz => ?_⟩ (Fr.same s1 (Fr.ups k2 (by simp)))
    · by_cases hi : i < ws.length
      · rw [List.getElem?_append_left hi] at q1
        rw [List.getElem?_append_left (by omega)] at q2
        exact W2.at_ i p' x q1 q2
      · rw [List.getElem?_append_right (by omega)] at q1
        rw [List.getElem?_append_right (by omega)] at q2
        have e0 : i - ws.length = 0 := by
          have := (List.getElem?_eq_some_iff.mp q1).1
          simp at this
          omega
        rw [e0] at q1
        rw [← hwl, e0] at q2
        obtain rfl : u = p' := Option.some.inj q1
        obtain rfl : (b, p, t) = x := Option.some.inj q2
        exact ⟨c, k2 _ _ hu nuw, k2 _ _ (s1 _ _ hc) (nw ncx), ncx⟩
    · by_cases q : z = wr
      · rw [q]; exact ⟨_, g2⟩
      · obtain ⟨l, hl⟩ := D1.xl z hz
        exact ⟨l, k2 _ _ hl q⟩
/-- the writes are another list, a new one -/
theorem DiskAt.newW {C : Addr} {X : List Addr} {H H0 H1 : Hp} {dk fl wr p : Addr} {G : Files} (D0 : DiskAt C X H0 dk fl wr G) (hp0 : H0 p = none) (s : Same H0 H) (hp : H p = some (.lst [])) {dx : Addr} (h1 : H1 dk = some (.ins C dx (dF (.ref fl) (.ref p)))) (k : ∀ b o, H b = some o → b ≠ dk → H1 b = some o) : DiskAt C (p :: X) H1 dk fl p { G with cache := [] } := by
  obtain ⟨dx0, e1⟩ := D0.ins
  obtain ⟨f0, f1, e2, e3, e4, e5, e6⟩ := D0.fls
  have nk : ∀ {z : Addr} {o : HO}, H0 z = some o → mutK o = false → z ≠ dk := fun q m => ne_kind q e1 (by rw [m]; intro w; cases w)
  have nx : ∀ {z : Addr} {o : HO}, H0 z = some o → z ∉ X → z ∉ p :: X := fun q n m => by
    rcases List.mem_cons.mp m with w | w
    · rw [w, hp0] at q; cases q
    · exact n w
  have npk : p ≠ dk := fun q => by rw [q, e1] at hp0; cases hp0
  refine ⟨⟨dx, h1⟩, ⟨f0, f1, k _ _ (s _ _ e2) (nk e2 rfl), k _ _ (s _ _ e3) (nk e3 rfl), k _ _ (s _ _ e4) (nk e4 rfl), nx e3 e5, nx e4 e6⟩, ⟨[], k _ _ hp npk, ⟨rfl, fun i q x h => by simp at h⟩⟩, List.mem_cons_of_mem _ D0.ff, List.mem_cons_self, fun q => (by rw [← q, e2] at hp0; cases hp0), fun z hz => ?_⟩
  rcases List.mem_cons.mp hz with rfl | hz
  · exact ⟨_, k _ _ hp npk⟩
  · obtain ⟨l, hl⟩ := D0.xl z hz
    exact ⟨l, k _ _ (s _ _ hl) (nk hl rfl)⟩
def sp_arrive (C : Addr) : Sp := fun vs H Q _ => ∃ (X : List Addr) (dk fl wr : Addr) (F : Files), vs = [.ref dk] ∧ DiskAt C X H dk fl wr F ∧ Fz F ∧ ∀ (H' : Hp) (wr' : Addr), DiskAt C (wr' :: X) H' dk fl wr' (Ue17.seen F) → Fr [dk, fl] H H' → H wr' = none → Q .non H'
theorem fileOf_len {F : Files} (Z : Fz F) (b : Bool) : (Ue17.fileOf F b).length ≤ 5000 := by
  cases b
  · exact Z.la
  · exact Z.lb
theorem ok_Disk_arrive (T : Txt K mg CT CD CE) : C8.Met P w K mg base 2 CD "arrive" (sp_arrive CD) [] := by
  refine T.d_Disk_arrive.ok T.clD sc_Disk_arrive (fun vs H Q E h => ?_) (fun f cdv A outer s H vs Q E hr h => ?_)
  · obtain ⟨X, dk, fl, wr, F, rfl, _⟩ := h
    rfl
  · obtain ⟨X, dk, fl, wr, F, rfl, D, Z, k⟩ := h
    obtain ⟨dx, h1⟩ := D.ins
    obtain ⟨ws, h7, h8⟩ := D.wrs
    have hwl := h8.len
    have nfd : wr ≠ fl := D.ne.symm
    refine ⟨_, (pss_cons (ps_for PassesOwn.never rfl (pi_list (pe_fld (pv 0) rfl)) (pg_tup rfl (pgs_cons (pg_name (i := 1) sc_Disk_arrive.nd rfl (Or.inl rfl)) (pgs_cons (pg_name (i := 2) sc_Disk_arrive.nd rfl (Or.inl rfl)) (pgs_cons (pg_name (i := 3) sc_Disk_arrive.nd rfl (Or.inl rfl)) pgs_nil))))
        (pss_one (ps_expr (C8.pe_mt (ok_Disk_store T) hr (by decide) (pv 0) (pa_cons (pv 1) (pa_cons (pv 2) (pa_cons (pv 3) pa_nil)))))))
      (pss_one (ps_fld (pv 0) (pe_lst pa_nil) rfl))) , ?_⟩
    have hwc : ∀ l G, (List.foldl Ue17.written G l).cache = G.cache := by
      intro l
      induction l with
      | nil => intro G; rfl
      | cons x l ih => intro G; rw [List.foldl_cons, ih, written_cache]
    refine ⟨_, rfl, dk, CD, dx, _, _, rfl, h1, T.clD, T.nD_writes, dF_writes, wr, rfl, ⟨_, SqL.of h7⟩, for_list (K := K) (a := wr) (xs := rv ws) (fun i σ H' => ∃ v1 v2 v3, σ = [some (.ref dk), v1, v2, v3] ∧ Fr [fl] H H' ∧ DiskAt CD X H' dk fl wr ((F.cache.take i).foldl Ue17.written F))
      ⟨none, none, none, rfl, Fr.refl _ _, D⟩ (fun i σ H' _ pv => by obtain ⟨v1, v2, v3, _, sv, _⟩ := pv; exact SqL.of (sv _ _ h7 (by simp [nfd]))) (fun i y0 σ H' hy0 pv => ?_) (fun σ H' pv => ?_)⟩
    · obtain ⟨v1, v2, v3, rfl, sv, DV⟩ := pv
      obtain ⟨p, hp, rfl⟩ := rv_get' hy0
      have hi := (List.getElem?_eq_some_iff.mp hp).1
      have hci : F.cache[i]? = some (F.cache[i]'(by omega)) := List.getElem?_eq_getElem (by omega)
      generalize hx : F.cache[i]'(by omega) = x at hci
      have hxm := List.mem_of_getElem? hci
      obtain ⟨q, z1, z2, z3⟩ := h8.at_ i p x hp hci
      have npf : p ≠ fl := fun e => by obtain ⟨l, hl⟩ := D.xl fl D.ff; rw [← e, z1] at hl; cases hl
      have nqf : q ≠ fl := fun e => z3 (by rw [e]; exact D.ff)
      have z1' := sv _ _ z1 (by simp [npf])
      have z2' := sv _ _ z2 (by simp [nqf])
      have ZV : Fz ((F.cache.take i).foldl Ue17.written F) := Z.writtens _ fun y hy => ⟨Z.lc y (List.mem_of_mem_take hy), Z.bc y (List.mem_of_mem_take hy)⟩
      obtain ⟨dx', e1⟩ := DV.ins
      have hfl := fileOf_len ZV x.1
      have hxl := Z.lc x hxm
      refine ⟨p, _, rfl, SqT.of z1', rfl, _, _, rfl, _, _, rfl, _, _, rfl, rfl, ?_⟩
      refine ⟨_, rfl, dk, dx', _, rfl, e1, dF_no_store, _, rfl, _, rfl, _, rfl, X, dk, fl, wr, _, x.1, x.2.1, q, x.2.2, rfl, DV, z2', z3, Z.ne x hxm, by omega, by omega, fun H2 D2 s2 => ?_⟩
      refine ⟨_, _, _, rfl, sv.trans s2, ?_⟩
      rw [take_snoc hci, List.foldl_append]
      exact D2
    · obtain ⟨v1, v2, v3, rfl, sv, DV⟩ := pv
      rw [rv_len, hwl, List.take_length] at DV
      refine ⟨sz 0 (by decide), ?_⟩
      intro p np; generalize hH_p : upd _ p _ = H2; have s2 := snew np hH_p; have hp := hnew hH_p; clear hH_p
      obtain ⟨dx', e1⟩ := DV.ins
      refine ⟨_, rfl, dk, CD, dx', _, rfl, s2 _ _ e1, T.clD, T.nD_writes, (by show 2 < 1000; decide), ?_⟩
      rw [dF_put_writes]
      generalize hH_ : upd _ dk _ = H3; obtain ⟨g3, k3⟩ := ups hH_; clear hH_
      have D3 := DV.newW np s2 hp g3 k3
      have hpH : H p = none := by
        cases hq : H p with
        | none => rfl
        | some o =>
          by_cases e : p = fl
          · rw [e] at np; obtain ⟨l, hl⟩ := DV.xl fl DV.ff; rw [hl] at np; cases np
          · rw [sv p o hq (by simp [e])] at np; cases np
      exact k H3 p D3 ((sv.mono fun b hb => by rw [List.mem_singleton.mp hb]; simp).trans ((Fr.of s2).trans (Fr.ups k3 (by simp)))) hpH
def sp_arrive_in_part (C : Addr) : Sp := fun vs H Q _ => ∃ (X : List Addr) (dk fl wr : Addr) (F : Files) (m : Addr) (l : List Nat), vs = [.ref dk, .ref m] ∧ DiskAt C X H dk fl wr F ∧ Fz F ∧ H m = some (.lst (iv l)) ∧ m ∉ X ∧ ∀ (H' : Hp) (wr' : Addr), DiskAt C (wr' :: X) H' dk fl wr' (Ue17.gone F l) → Fr [dk, fl] H H' → H wr' = none → Q .non H'
theorem ok_Disk_arrive_in_part (T : Txt K mg CT CD CE) : C8.Met P w K mg base 2 CD "arrive_in_part" (sp_arrive_in_part CD) [] := by
  refine T.d_Disk_arrive_in_part.ok T.clD sc_Disk_arrive_in_part (fun vs H Q E h => ?_) (fun f cdv A outer s H vs Q E hr h => ?_)
  · obtain ⟨X, dk, fl, wr, F, m, l, rfl, _⟩ := h
    rfl
  · obtain ⟨X, dk, fl, wr, F, m, l, rfl, D, Z, hm, nmx, k⟩ := h
    obtain ⟨dx, h1⟩ := D.ins
    obtain ⟨ws, h7, h8⟩ := D.wrs
    have hwl := h8.len
    have nfd : wr ≠ fl := D.ne.symm
    have nmf : m ≠ fl := fun e => nmx (by rw [e]; exact D.ff)
    refine ⟨_, (pss_cons (ps_for PassesOwn.never rfl (pi_zip (by rfl) T.b_zip (pa_cons (pe_fld (pv 0) rfl) (pa_cons (pv 1) pa_nil))) (pg_tup rfl (pgs_cons (pg_name (i := 2) sc_Disk_arrive_in_part.nd rfl (Or.inl rfl)) (pgs_cons (pg_name (i := 3) sc_Disk_arrive_in_part.nd rfl (Or.inl rfl)) pgs_nil)))
        (pss_one (ps_if (pt_cmpR op_gt (pv 3) pe_int (nomark _))
            (pss_one (ps_expr (C8.pe_mt (ok_Disk_store T) hr (by decide) (pv 0) (pa_cons (pe_ix ix_tup (pv 2) pe_int (fun _ _ => rfl)) (pa_cons (pe_ix ix_tup (pv 2) pe_int (fun _ _ => rfl)) (pa_cons (pe_slice sl_list (pe_ix ix_tup (pv 2) pe_int (fun _ _ => rfl)) po_none (po_some (pv 3))) pa_nil))))))
            pss_nil)))
      (pss_one (ps_fld (pv 0) (pe_lst pa_nil) rfl))) , ?_⟩
    have hn : min F.cache.length l.length = min (rv ws).length (iv l).length := by rw [rv_len, iv_len, hwl]
    refine ⟨_, rfl, dk, CD, dx, _, _, rfl, h1, T.clD, T.nD_writes, dF_writes, _, rfl, wr, m, _, _, rfl, SqL.of h7, SqL.of hm, for_it (walk_zip (K := K) (a := wr) (b := m) (xs := rv ws) (ys := iv l) hn) (fun i σ H' => ∃ v2 v3, σ = [some (.ref dk), some (.ref m), v2, v3] ∧ Fr [fl] H H' ∧ DiskAt CD X H' dk fl wr (((F.cache.zip l).take i).foldl partW F))
      ⟨none, none, rfl, Fr.refl _ _, D⟩ (fun i σ H' _ pv => by obtain ⟨v2, v3, _, sv, _⟩ := pv; exact ⟨SqL.of (sv _ _ h7 (by simp [nfd])), SqL.of (sv _ _ hm (by simp [nmf]))⟩) (fun i y0 σ H' H'' hi pv hy => ?_) (fun σ H' pv => ?_)⟩
    · obtain ⟨v2, v3, rfl, sv, DV⟩ := pv
      obtain ⟨tp, x0, y1, rfl, ntp, rfl, hx0, hy1⟩ := hy
      obtain ⟨p, hp, rfl⟩ := rv_get' hx0
      obtain ⟨a, ha, rfl⟩ := iv_get' hy1
      have hci : F.cache[i]? = some (F.cache[i]'(by omega)) := List.getElem?_eq_getElem (by omega)
      generalize hx : F.cache[i]'(by omega) = x at hci
      have hxm := List.mem_of_getElem? hci
      have hzi : (F.cache.zip l)[i]? = some (x, a) := by rw [List.getElem?_zip_eq_some]; exact ⟨hci, ha⟩
      obtain ⟨q, z1, z2, z3⟩ := h8.at_ i p x hp hci
      have npf : p ≠ fl := fun e => by obtain ⟨l, hl⟩ := D.xl fl D.ff; rw [← e, z1] at hl; cases hl
      have nqf : q ≠ fl := fun e => z3 (by rw [e]; exact D.ff)
      generalize hHt : upd H' tp _ = Ht
      have st : Same H' Ht := snew ntp hHt
      have ht := hnew hHt
      have z1' := st _ _ (sv _ _ z1 (by simp [npf]))
      have z2' := st _ _ (sv _ _ z2 (by simp [nqf]))
      have DT := DV.same st
      have ZV : Fz (((F.cache.zip l).take i).foldl partW F) := Z.parts _ fun y hy => ⟨Z.lc _ (zip_fst (List.mem_of_mem_take hy)), Z.bc _ (zip_fst (List.mem_of_mem_take hy))⟩
      obtain ⟨dx', e1⟩ := DT.ins
      have hfl := fileOf_len ZV x.1
      have hxl := Z.lc x hxm
      refine ⟨tp, _, rfl, SqT.of ht, rfl, _, _, rfl, _, _, rfl, rfl, ?_⟩
      have next : ∀ H2, Fr [fl] H H2 → DiskAt CD X H2 dk fl wr (partW (((F.cache.zip l).take i).foldl partW F) (x, a)) → ∃ v2 v3, ([some (V.ref dk), some (.ref m), some (.ref p), some (nV a)] : L2.St) = [some (.ref dk), some (.ref m), v2, v3] ∧ Fr [fl] H H2 ∧ DiskAt CD X H2 dk fl wr (((F.cache.zip l).take (i + 1)).foldl partW F) := fun H2 s2 D2 =>
        ⟨_, _, rfl, s2, by rw [take_snoc hzi, List.foldl_append]; exact D2⟩
      refine ⟨_, rfl, _, _, rfl, rfl, _, rfl, itD (fun c => ?_) (fun c => ?_)⟩
      · have c : (0 : Int) < (a : Int) := c
        refine ⟨_, rfl, dk, dx', _, rfl, e1, dF_no_store, _, rfl, _, _, 0, _, rfl, rfl, SqT.of z1', rfl, _, rfl, _, _, 1, _, rfl, rfl, SqT.of z1', rfl, _, rfl, _, _, 2, _, rfl, rfl, SqT.of z1', rfl, _, rfl, _, rfl, q, _, rfl, SqL.of z2', ?_⟩
        intro u nu; generalize hH_u : upd _ u _ = H2; have s2 := snew nu hH_u; have hu := hnew hH_u; clear hH_u
        rw [iv_cut_to] at hu
        have hne : x.2.2.take a ≠ [] := fun e => by
          have h0 := Z.ne x hxm
          have := congrArg List.length e
          rw [List.length_take, List.length_nil] at this
          have := List.length_pos_iff.mpr h0
          omega
        refine ⟨X, dk, fl, wr, _, x.1, x.2.1, u, x.2.2.take a, rfl, DT.same s2, hu, DT.fresh nu, hne, by omega, by rw [List.length_take]; omega, fun H3 D3 s3 => ?_⟩
        refine next H3 (sv.trans ((Fr.of st).trans (Fr.same s2 s3))) ?_
        unfold partW
        rw [if_pos (by show 0 < a; omega)]
        exact D3
      · have c : ¬ (0 : Int) < (a : Int) := c
        refine next Ht (sv.trans (Fr.of st)) ?_
        unfold partW
        rw [if_neg (by show ¬ 0 < a; omega)]
        exact DT
    · obtain ⟨v2, v3, rfl, sv, DV⟩ := pv
      rw [List.take_of_length_le (by rw [List.length_zip]; exact Nat.le_refl _)] at DV
      refine ⟨sz 0 (by decide), ?_⟩
      intro p np; generalize hH_p : upd _ p _ = H2; have s2 := snew np hH_p; have hp := hnew hH_p; clear hH_p
      obtain ⟨dx', e1⟩ := DV.ins
      refine ⟨_, rfl, dk, CD, dx', _, rfl, s2 _ _ e1, T.clD, T.nD_writes, (by show 2 < 1000; decide), ?_⟩
      rw [dF_put_writes]
      generalize hH_ : upd _ dk _ = H3; obtain ⟨g3, k3⟩ := ups hH_; clear hH_
      have D3 := DV.newW np s2 hp g3 k3
      rw [← gone_eq] at D3
      have hpH : H p = none := by
        cases hq : H p with
        | none => rfl
        | some o =>
          by_cases e : p = fl
          · rw [e] at np; obtain ⟨l, hl⟩ := DV.xl fl DV.ff; rw [hl] at np; cases np
          · rw [sv p o hq (by simp [e])] at np; cases np
      exact k H3 p D3 ((sv.mono fun b hb => by rw [List.mem_singleton.mp hb]; simp).trans ((Fr.of s2).trans (Fr.ups k3 (by simp)))) hpH
def sp_disk_init (C : Addr) : Sp := fun vs H Q _ => ∃ (p dx : Addr) (X : List Addr), vs = [.ref p] ∧ H p = some (.ins C dx []) ∧ (∀ x ∈ X, ∃ l, H x = some (.lst l)) ∧ ∀ (H' : Hp) (fl wr : Addr), DiskAt C (fl :: wr :: X) H' p fl wr ⟨[], [], []⟩ → (∀ b o, H b = some o → b ≠ p → H' b = some o) → H fl = none → H wr = none → Q .non H'
theorem ok_Disk___init__ (T : Txt K mg CT CD CE) : C8.Mak P w K mg base 1 "Disk" CD (sp_disk_init CD) [] := by
  refine T.m_Disk.ok sc_Disk___init__ (fun vs H Q E h => ?_) (fun f cdv A outer s H vs Q E hr h => ?_)
  · obtain ⟨p, dx, X, rfl, _⟩ := h
    rfl
  · obtain ⟨p, dx, X, rfl, hp, hX, k⟩ := h
    refine ⟨_, (pss_cons (ps_fld (pv 0) (pe_lst (pa_cons (pe_lst pa_nil) (pa_cons (pe_lst pa_nil) pa_nil))) rfl)
      (pss_one (ps_fld (pv 0) (pe_lst pa_nil) rfl))) , ?_⟩
    refine ⟨sz 0 (by decide), ?_⟩
    intro f0 nf0; generalize hH_f0 : upd _ f0 _ = H1; have s1 := snew nf0 hH_f0; have h0 := hnew hH_f0; clear hH_f0
    refine ⟨sz 0 (by decide), ?_⟩
    intro f1 nf1; generalize hH_f1 : upd _ f1 _ = H2; have s2 := snew nf1 hH_f1; have hf1 := hnew hH_f1; clear hH_f1
    refine ⟨sz 2 (by decide), ?_⟩
    intro fl nfl; generalize hH_fl : upd _ fl _ = H3; have s3 := snew nfl hH_fl; have hfl := hnew hH_fl; clear hH_fl
    have s03 := (s1.trans s2).trans s3
    refine ⟨_, rfl, p, CD, dx, _, rfl, s03 _ _ hp, T.clD, T.nD_files, (by show 0 < 1000; decide), ?_⟩
    rw [dF_new_files]
    generalize hH_ : upd _ p _ = H4; obtain ⟨g4, k4⟩ := ups hH_; clear hH_
    refine ⟨sz 0 (by decide), ?_⟩
    intro wr nwr; generalize hH_wr : upd _ wr _ = H5; have s5 := snew nwr hH_wr; have hwr := hnew hH_wr; clear hH_wr
    refine ⟨_, rfl, p, CD, dx, _, rfl, s5 _ _ g4, T.clD, T.nD_writes, (by show 1 < 1000; decide), ?_⟩
    rw [dF_new_writes]
    generalize hH_ : upd _ p _ = H6; obtain ⟨g6, k6⟩ := ups hH_; clear hH_
    have np : ∀ {z : Addr} {o : HO}, H z = none → z ≠ p := fun q e => by rw [e, hp] at q; cases q
    have npf0 : f0 ≠ p := fun e => by rw [e, hp] at nf0; cases nf0
    have npf1 : f1 ≠ p := fun e => by rw [e, s1 _ _ hp] at nf1; cases nf1
    have npfl : fl ≠ p := fun e => by rw [e, (s1.trans s2) _ _ hp] at nfl; cases nfl
    have npwr : wr ≠ p := fun e => by rw [e, g4] at nwr; cases nwr
    have up : ∀ {z : Addr} {o : HO}, H3 z = some o → z ≠ p → H6 z = some o := fun q e => k6 _ _ (s5 _ _ (k4 _ _ q e)) e
    have a0 := (s2.trans s3) _ _ h0
    have a1 := s3 _ _ hf1
    have n1 : f0 ≠ fl := fun e => by rw [← e, s2 _ _ h0] at nfl; cases nfl
    have n2 : f1 ≠ fl := fun e => by rw [← e, hf1] at nfl; cases nfl
    have w0 : f0 ≠ wr := fun e => by rw [← e, k4 _ _ a0 npf0] at nwr; cases nwr
    have w1 : f1 ≠ wr := fun e => by rw [← e, k4 _ _ a1 npf1] at nwr; cases nwr
    have w2 : fl ≠ wr := fun e => by rw [← e, k4 _ _ hfl npfl] at nwr; cases nwr
    have hall : ∀ b o, H b = some o → b ≠ p → H6 b = some o := fun b o e n => up (s03 _ _ e) n
    have hwrH : H wr = none := by
      cases q : H wr with
      | none => rfl
      | some o => rw [k4 _ _ (s03 _ _ q) npwr] at nwr; cases nwr
    refine k H6 fl wr ⟨⟨dx, g6⟩, ⟨f0, f1, up hfl npfl, up a0 npf0, up a1 npf1, (fun m => by rcases List.mem_cons.mp m with q | m; exact n1 q; rcases List.mem_cons.mp m with q | m; exact w0 q; obtain ⟨l, hl⟩ := hX _ m; rw [hl] at nf0; cases nf0), (fun m => by rcases List.mem_cons.mp m with q | m; exact n2 q; rcases List.mem_cons.mp m with q | m; exact w1 q; obtain ⟨l, hl⟩ := hX _ m; rw [s1 _ _ hl] at nf1; cases nf1)⟩, ⟨[], k6 _ _ hwr npwr, ⟨rfl, fun i q x h => by simp at h⟩⟩, by simp, by simp, w2, fun z hz => ?_⟩ hall ((s1.trans s2).free nfl) hwrH
    simp only [List.mem_cons] at hz
    rcases hz with rfl | rfl | hz
    · exact ⟨_, up hfl npfl⟩
    · exact ⟨_, k6 _ _ hwr npwr⟩
    · obtain ⟨l, hl⟩ := hX z hz
      exact ⟨l, hall z _ hl (ne_of hl hp (by intro q; cases q))⟩
/-! which file is found -/
def foundV (o : Option (Bool × Nat × UT)) : V := match o with
  | none => .non
  | some x => nV (Ue17.bit x.1)
def sp_found_file : Sp := fun vs H Q _ => ∃ (fl f0 f1 : Addr) (a b : List Nat), vs = [.ref fl] ∧ H fl = some (.lst [.ref f0, .ref f1]) ∧ H f0 = some (.lst (iv a)) ∧ H f1 = some (.lst (iv b)) ∧ (∀ x ∈ a, x ≤ 255) ∧ (∀ x ∈ b, x ≤ 255) ∧ a.length ≤ 5000 ∧ b.length ≤ 5000 ∧
  pureV H (foundV (Ue17.found ⟨a, b, []⟩)) Q
theorem read_num {w : List Nat} {x : Nat × UT} (h : Ue17.fileRead w = some x) : ∃ p q l, w = p :: q :: l ∧ x.1 = p + 256 * q := by
  by_cases c : (w.drop 2).take 1 = [255]
  · obtain ⟨p, q, v, e, hf⟩ := fileRead_some c
    rw [hf] at h
    cases ht : Ue17.treeFrom [] none (Ue17.records v) with
    | none => rw [ht] at h; cases h
    | some z =>
      rw [ht] at h
      exact ⟨p, q, 255 :: v, e, by rw [← Option.some.inj h]⟩
  · rw [fileRead_none c] at h; cases h
theorem ok_found_file (T : Txt K mg CT CD CE) : C8.Cal P w K mg base 9 "found_file" sp_found_file [] := by
  refine T.d_found_file.ok sc_found_file (fun vs H Q E h => ?_) (fun f cdv A outer s H vs Q E hr h => ?_)
  · obtain ⟨fl, f0, f1, a, b, rfl, _⟩ := h
    rfl
  · obtain ⟨fl, f0, f1, a, b, rfl, hfl, h0, h1, ha, hb, hla, hlb, k⟩ := h
    refine ⟨_, (pss_cons (ps_set (i := 1) sc_found_file.nd rfl (Or.inl rfl) pe_non)
      (pss_cons (ps_for PassesOwn.never rfl (pi_enum (by rfl) T.b_enumerate (pa_cons (pv 0) pa_nil)) (pg_tup rfl (pgs_cons (pg_name (i := 2) sc_found_file.nd rfl (Or.inl rfl)) (pgs_cons (pg_name (i := 3) sc_found_file.nd rfl (Or.inl rfl)) pgs_nil)))
        (pss_one (ps_if (pt_cmpR op_notN (C8.pe_c (ok_tree_said T) hr (by decide) (by rfl) (pa_cons (pv 3) pa_nil)) pe_non (nomark _))
            (pss_one (ps_if (PW.pt (pw_or (pt_cmpR op_isN (pv 1) pe_non (nomark _)) (pw_or1 (pt_cmpR op_gt (C8.pe_c (ok_number_of T) hr (by decide) (by rfl) (pa_cons (pv 3) pa_nil)) (C8.pe_c (ok_number_of T) hr (by decide) (by rfl) (pa_cons (pe_ix ix_list (pv 0) (pv 1) (fun _ _ => rfl)) pa_nil)) (nomark _)))))
                (pss_one (ps_set (i := 1) sc_found_file.nd rfl (Or.inl rfl) (pv 2)))
                pss_nil))
            pss_nil)))
      (pss_one (ps_ret (pv 1))))) , ?_⟩
    let st : Nat → Option Nat := fun i => if i = 0 then none else if i = 1 then (if (Ue17.fileRead a).isSome then some 0 else none) else (match Ue17.found ⟨a, b, []⟩ with | none => none | some x => some (Ue17.bit x.1))
    refine ⟨_, rfl, fl, _, rfl, SqL.of hfl, for_it (walk_enum (K := K) (a := fl) (xs := [.ref f0, .ref f1])) (fun i σ H' => ∃ v2 v3, σ = [some (.ref fl), some (oV (st i)), v2, v3] ∧ Same H H') ⟨none, none, rfl, Same.refl H⟩ (fun i σ H' _ pv => by obtain ⟨v2, v3, _, sv⟩ := pv; exact SqL.of (sv _ _ hfl)) (fun i y0 σ H' H'' hi pv hy => ?_) (fun σ H' pv => ?_)⟩
    · obtain ⟨v2, v3, rfl, sv⟩ := pv
      obtain ⟨tp, x0, y1, rfl, ntp, rfl, hx0, hy1⟩ := hy
      obtain rfl : V.int (i : Nat) = x0 := Option.some.inj hx0
      generalize hHt : upd H' tp _ = Ht
      have s1 : Same H Ht := sv.trans (snew ntp hHt)
      have ht := hnew hHt
      refine ⟨tp, _, rfl, SqT.of ht, rfl, _, _, rfl, _, _, rfl, rfl, ?_⟩
      match i, hi, hy1 with
      | 0, _, hy1 =>
        obtain rfl : V.ref f0 = y1 := Option.some.inj hy1
        refine ⟨_, rfl, f0, [], a, rfl, s1 _ _ h0, ha, by omega, fun x hx => (by cases hx), fun e H2 s2 => ?_, fun n t e A f H2 s2 T2 R2 fr2 => ?_⟩
        · refine ⟨rfl, _, rfl, iteF ⟨some (.int 0), some (.ref f0), ?_, s1.trans s2⟩⟩
          show ([some (V.ref fl), some .non, some (.int 0), some (.ref f0)] : L2.St) = [some (.ref fl), some (oV (if (Ue17.fileRead a).isSome then some 0 else none)), some (.int 0), some (.ref f0)]
          rw [e]
          rfl
        · refine ⟨rfl, _, rfl, iteT ⟨_, rfl, rfl, _, rfl, iteT (iteT ⟨_, rfl, some (.int 0), some (.ref f0), ?_, s1.trans s2⟩)⟩⟩
          show ([some (V.ref fl), some (.int 0), some (.int 0), some (.ref f0)] : L2.St) = [some (.ref fl), some (oV (if (Ue17.fileRead a).isSome then some 0 else none)), some (.int 0), some (.ref f0)]
          rw [e]
          rfl
      | 1, _, hy1 =>
        obtain rfl : V.ref f1 = y1 := Option.some.inj hy1
        have hst1 : st 1 = if (Ue17.fileRead a).isSome then some 0 else none := rfl
        have hst2 : st 2 = match Ue17.found ⟨a, b, []⟩ with | none => none | some x => some (Ue17.bit x.1) := rfl
        have ef : Ue17.found ⟨a, b, []⟩ = match Ue17.fileRead a, Ue17.fileRead b with
          | none, none => none
          | some x, none => some (false, x)
          | none, some y => some (true, y)
          | some x, some y => if x.1 < y.1 then some (true, y) else some (false, x) := rfl
        refine ⟨_, rfl, f1, [], b, rfl, s1 _ _ h1, hb, by omega, fun x hx => (by cases hx), fun e H2 s2 => ?_, fun n t e A f H2 s2 T2 R2 fr2 => ?_⟩
        · refine ⟨rfl, _, rfl, iteF ⟨some (.int 1), some (.ref f1), ?_, s1.trans s2⟩⟩
          show ([some (V.ref fl), some (oV (st 1)), some (.int 1), some (.ref f1)] : L2.St) = [some (.ref fl), some (oV (st 2)), some (.int 1), some (.ref f1)]
          have : st 1 = st 2 := by
            rw [hst1, hst2, ef, e]
            cases Ue17.fileRead a <;> rfl
          rw [this]
        · refine ⟨rfl, _, rfl, iteT ?_⟩
          cases ea : Ue17.fileRead a with
          | none =>
            have e1 : st 1 = none := by rw [hst1, ea]; rfl
            rw [e1]
            refine ⟨_, rfl, rfl, _, rfl, iteT (iteT ⟨_, rfl, some (.int 1), some (.ref f1), ?_, s1.trans s2⟩)⟩
            show ([some (V.ref fl), some (.int 1), some (.int 1), some (.ref f1)] : L2.St) = [some (.ref fl), some (oV (st 2)), some (.int 1), some (.ref f1)]
            have : st 2 = some 1 := by rw [hst2, ef, ea, e]; rfl
            rw [this]
            rfl
          | some xa =>
            have e1 : st 1 = some 0 := by rw [hst1, ea]; rfl
            rw [e1]
            obtain ⟨p1, q1, l1, ew1, en1⟩ := read_num ea
            obtain ⟨p2, q2, l2, ew2, en2⟩ := read_num e
            refine ⟨_, rfl, rfl, _, rfl, iteF ?_⟩
            have hb2 := s2 _ _ (s1 _ _ h1)
            rw [ew2] at hb2
            have ha2 := s2 _ _ (s1 _ _ h0)
            rw [ew1] at ha2
            refine ⟨_, rfl, f1, p2, q2, l2, rfl, hb2, _, rfl, _, rfl, fl, _, 0, _, rfl, rfl, SqL.of (s2 _ _ (s1 _ _ hfl)), rfl, f0, p1, q1, l1, rfl, ha2, _, _, rfl, rfl, _, rfl, itD (fun c => ?_) (fun c => ?_)⟩
            · refine ⟨_, rfl, some (.int 1), some (.ref f1), ?_, s1.trans s2⟩
              show ([some (V.ref fl), some (.int 1), some (.int 1), some (.ref f1)] : L2.St) = [some (.ref fl), some (oV (st 2)), some (.int 1), some (.ref f1)]
              have : st 2 = some 1 := by
                rw [hst2, ef, ea, e]
                show (match (if xa.1 < (n, t).1 then some (true, (n, t)) else some (false, xa)) with | none => none | some x => some (Ue17.bit x.1)) = _
                rw [if_pos (by omega)]
                rfl
              rw [this]
              rfl
            · refine ⟨some (.int 1), some (.ref f1), ?_, s1.trans s2⟩
              show ([some (V.ref fl), some (.int 0), some (.int 1), some (.ref f1)] : L2.St) = [some (.ref fl), some (oV (st 2)), some (.int 1), some (.ref f1)]
              have : st 2 = some 0 := by
                rw [hst2, ef, ea, e]
                show (match (if xa.1 < (n, t).1 then some (true, (n, t)) else some (false, xa)) with | none => none | some x => some (Ue17.bit x.1)) = _
                rw [if_neg (by omega)]
                rfl
              rw [this]
              rfl
    · obtain ⟨v2, v3, rfl, sv⟩ := pv
      refine ⟨_, rfl, fin_v (k H' sv) ?_⟩
      show foundV (Ue17.found ⟨a, b, []⟩) = oV (st 2)
      show foundV (Ue17.found ⟨a, b, []⟩) = oV (match Ue17.found ⟨a, b, []⟩ with | none => none | some x => some (Ue17.bit x.1))
      cases Ue17.found ⟨a, b, []⟩ <;> rfl
end
end TT
end
section
namespace TT
open Ue17
/-- why a deed isn't done; 0: it is -/
def rref (g : House) (o : Option Deed) : Nat := if g.on = false then 9 else if g.copy.isSome = true then 8 else match o with
  | none => 7
  | some d => if rdeed g.tree d = 0 ∧ 5000 < g.size + ((body (.deed d)).length + 4) then 6 else rdeed g.tree d
theorem bytesOf_len (r : Rec) : (bytesOf r).length = (body r).length + 4 := by
  show ([(body r).length, 255 - (body r).length] ++ body r ++ [sum (body r) % 256, 255]).length = _
  simp
def dodo (g : House) (d : Deed) : St × List Int := ({ g with tree := did g.tree d, disk := { g.disk with cache := g.disk.cache ++ [(g.file, g.size, bytesOf (.deed d))] }, size := g.size + (bytesOf (.deed d)).length, log := g.log ++ [d] }, Ue17.ints [(did g.tree d).now, (textAt (did g.tree d) (did g.tree d).now).length, (did g.tree d).deeds, g.size + (bytesOf (.deed d)).length])
def doR (g : House) (o : Option Deed) : St × List Int := if rref g o ≠ 0 then (g, [-(rref g o : Int)]) else match o with
  | none => (g, [])
  | some d => dodo g d
theorem doing_eq (g : House) (d : Deed) : doing g d = if 5000 < g.size + (bytesOf (.deed d)).length ∨ 65535 ≤ g.tree.deeds then (g, [-6]) else dodo g d := rfl
theorem doR_on (g : House) (o : Option Deed) (x : St × List Int) (h : g.on = true → g.copy.isSome = false → doR g o = x) : free g x = doR g o := by
  unfold free
  cases h1 : g.on with
  | false =>
    rw [if_pos rfl]
    unfold doR rref
    rw [h1]
    rfl
  | true =>
    rw [if_neg (by decide)]
    cases h2 : g.copy.isSome with
    | true =>
      rw [if_pos rfl]
      unfold doR rref
      rw [h1, h2]
      rfl
    | false => rw [if_neg (by decide)]; exact (h h1 h2).symm
theorem rref_on {g : House} {d : Deed} (h1 : g.on = true) (h2 : g.copy.isSome = false) : rref g (some d) = if rdeed g.tree d = 0 ∧ 5000 < g.size + ((body (.deed d)).length + 4) then 6 else rdeed g.tree d := by
  unfold rref
  rw [h1, h2]
  rfl
theorem doR_doing {g : House} {d : Deed} (h1 : g.on = true) (h2 : g.copy.isSome = false) (hm : rsort g.tree d = 0) : doR g (some d) = doing g d := by
  rw [doing_eq, bytesOf_len]
  unfold doR
  rw [rref_on h1 h2]
  unfold rdeed
  rw [hm]
  by_cases c1 : 65535 ≤ g.tree.deeds
  · simp [c1]
  · by_cases c2 : 5000 < g.size + ((body (.deed d)).length + 4)
    · simp [c1, c2]
    · simp [c1, c2]
theorem doR_no {g : House} {d : Deed} {k : Nat} (h1 : g.on = true) (h2 : g.copy.isSome = false) (hm : rsort g.tree d = k) (hk : k ≠ 0) : doR g (some d) = (g, [-(k : Int)]) := by
  have : rref g (some d) = k := by
    rw [rref_on h1 h2]
    unfold rdeed
    rw [hm]
    simp [hk]
  unfold doR
  rw [this, if_pos hk]
theorem step_change (g : House) (c : Change) : step g (.change c) = doR g (some (.make c)) := by
  show free g (if fits (textAt g.tree g.tree.now) c = false ∨ isBytes c.in_ = false then (g, [-1]) else if may g.tree (.make c) = false then (g, [-5]) else doing g (.make c)) = _
  refine doR_on g _ _ fun h1 h2 => ?_
  by_cases c1 : fits (textAt g.tree g.tree.now) c = false ∨ isBytes c.in_ = false
  · rw [if_pos c1]
    refine doR_no h1 h2 (k := 1) ?_ (by decide)
    show rmake g.tree c = 1
    unfold rmake rchg
    rw [if_pos c1]
    rfl
  · rw [if_neg c1]
    by_cases c2 : may g.tree (.make c) = false
    · rw [if_pos c2]
      refine doR_no h1 h2 (k := 5) ?_ (by decide)
      have hne : rsort g.tree (.make c) ≠ 0 := fun z => by rw [(rsort_may g.tree (.make c)).mp z] at c2; cases c2
      have hne : rmake g.tree c ≠ 0 := hne
      show rmake g.tree c = 5
      unfold rmake rchg at hne ⊢
      rw [if_neg c1] at hne ⊢
      by_cases c3 : 80 < (changed (textAt g.tree g.tree.now) c).length
      · simp [c3]
      · simp [c3] at hne ⊢
        exact hne
    · rw [if_neg c2]
      exact doR_doing h1 h2 ((rsort_may _ _).mpr (by cases h : may g.tree (.make c) with | true => rfl | false => exact absurd h c2))
theorem step_goto (g : House) (n : Nat) : step g (.goto n) = doR g (some (.goes n)) := by
  show free g (if (find g.tree n).isNone = true then (g, [-2]) else doing g (.goes n)) = _
  refine doR_on g _ _ fun h1 h2 => ?_
  cases hf : find g.tree n with
  | none => exact doR_no h1 h2 (k := 2) (by show (if (find g.tree n).isSome = true then 0 else 2) = 2; rw [hf]; rfl) (by decide)
  | some x => exact doR_doing h1 h2 (by show (if (find g.tree n).isSome = true then 0 else 2) = 0; rw [hf]; rfl)
theorem step_keep (g : House) (n : Nat) (k : Bool) : step g (.keep n k) = doR g (some (.keep n k)) := by
  show free g (if (find g.tree n).isNone = true then (g, [-2]) else doing g (.keep n k)) = _
  refine doR_on g _ _ fun h1 h2 => ?_
  cases hf : find g.tree n with
  | none => exact doR_no h1 h2 (k := 2) (by show (if (find g.tree n).isSome = true then 0 else 2) = 2; rw [hf]; rfl) (by decide)
  | some x => exact doR_doing h1 h2 (by show (if (find g.tree n).isSome = true then 0 else 2) = 0; rw [hf]; rfl)
theorem step_forget (g : House) (n : Nat) : step g (.forget n) = doR g (some (.forget n)) := by
  show free g (if n = 0 ∨ 255 < n then (g, [-1]) else doing g (.forget n)) = _
  refine doR_on g _ _ fun h1 h2 => ?_
  by_cases c : n = 0 ∨ 255 < n
  · rw [if_pos c]
    exact doR_no h1 h2 (k := 1) (by show (if 1 ≤ n ∧ n ≤ 255 then 0 else 1) = 1; rw [if_neg (by omega)]) (by decide)
  · rw [if_neg c]
    exact doR_doing h1 h2 (by show (if 1 ≤ n ∧ n ≤ 255 then 0 else 1) = 0; rw [if_pos (by omega)])
def goX (g : House) (o : Option Nat) : St × List Int := match o with
  | none => (g, [-7])
  | some p => doing g (.goes p)
theorem step_go {g : House} {o : Option Nat} (ho : ∀ n, o = some n → (find g.tree n).isSome = true) (x : St × List Int) (hx : x = goX g o) : free g x = doR g (o.map .goes) := by
  refine doR_on g _ _ fun h1 h2 => ?_
  subst hx
  cases o with
  | none =>
    show doR g none = (g, [-7])
    unfold doR rref
    rw [h1, h2]
    rfl
  | some n => exact doR_doing h1 h2 (by show (if (find g.tree n).isSome = true then 0 else 2) = 0; rw [if_pos (ho n rfl)])
theorem step_undo {f : Nat} {g : House} (R : RT f g.tree) : step g .undo = doR g ((par g.tree g.tree.now).map .goes) := by
  refine step_go (fun n hn => ?_) _ rfl
  unfold par at hn
  cases hf : find g.tree g.tree.now with
  | none => rw [hf] at hn; cases hn
  | some x =>
    rw [hf] at hn
    obtain ⟨_, y, hy, ey⟩ := R.par x (find_some hf).1 n hn
    exact find_ex.mpr ⟨y, hy, ey⟩
theorem forth_there {f : Nat} {t : Tree} (R : RT f t) {n m : Nat} (h : forth t n = some m) : (find t m).isSome = true := by
  have hc : ∀ m, m ∈ children t n → (find t m).isSome = true := fun m hm => by
    obtain ⟨x, hx, e⟩ := List.mem_map.mp hm
    exact find_ex.mpr ⟨x, (List.mem_filter.mp hx).1, e⟩
  unfold forth at h
  have hl : ∀ m, (children t n).getLast? = some m → (find t m).isSome = true := fun m hm => hc m (List.mem_of_getLast? hm)
  cases hf : t.last.find? fun x => x.1 == n with
  | none => rw [hf] at h; exact hl m h
  | some y =>
    rw [hf] at h
    have h : (if (children t n).contains y.2 = true then some y.2 else (children t n).getLast?) = some m := h
    split at h
    · rename_i q
      obtain rfl := Option.some.inj h
      exact hc _ (List.contains_iff_mem.mp q)
    · exact hl m h
theorem step_redo {f : Nat} {g : House} (R : RT f g.tree) : step g .redo = doR g ((forth g.tree g.tree.now).map .goes) := step_go (fun n hn => forth_there R hn) _ rfl
/-- of a house: what's kept from call to call -/
structure INV (g : House) (N : Nat) : Prop where
  size : g.size ≤ 5000
  num : g.number < 65536
  cpy : ∀ n, g.on = true → g.copy = some n → n = (fileOf (seen g.disk) (!g.file)).length ∧ g.safe = g.tree.deeds
  llen : g.log.length ≤ N
  clen : g.disk.cache.length ≤ N + 1
theorem sum_mod (l : List Nat) : sum l % 256 ≤ 255 := by omega
theorem bytesOf_bytes {r : Rec} (h1 : ∀ b ∈ body r, b ≤ 255) (h2 : (body r).length ≤ 255) : ∀ b ∈ bytesOf r, b ≤ 255 := fun b hb => by
  have hb : b ∈ [(body r).length, 255 - (body r).length] ++ body r ++ [sum (body r) % 256, 255] := hb
  simp only [List.mem_append, List.mem_cons, List.not_mem_nil, or_false] at hb
  rcases hb with ((q | q) | q) | q | q
  · omega
  · omega
  · exact h1 b q
  · have := sum_mod (body r); omega
  · omega
theorem RT.num {f : Nat} {t : Tree} (R : RT f t) {x : Node} (hx : x ∈ t.nodes) : x.number < 40 := by
  have := R.wf.lt x hx
  have := R.gv
  omega
theorem deed_bytes {f : Nat} {t : Tree} (R : RT f t) {d : Deed} (hm : may t d = true) : (∀ b ∈ body (.deed d), b ≤ 255) ∧ (body (.deed d)).length ≤ 100 := by
  have hfind : ∀ n, (find t n).isSome = true → n < 40 := fun n h => by
    obtain ⟨y, hy, e⟩ := find_ex.mp h
    have := R.num hy
    omega
  cases d with
  | make c =>
    have hm : (fits (textAt t t.now) c && (isBytes c.in_ && (decide ((changed (textAt t t.now) c).length ≤ 80) && decide (t.given < 40)))) = true := hm
    simp only [Bool.and_eq_true, decide_eq_true_eq] at hm
    obtain ⟨m1, m2, m3, m4⟩ := hm
    have m1 : c.at_ + c.out ≤ (textAt t t.now).length := of_decide_eq_true m1
    have n1 := R.now_text.1
    have hcl := changed_len_eq m1
    refine ⟨fun b hb => ?_, ?_⟩
    · have hb : b ∈ 1 :: c.at_ :: c.out :: c.in_ := hb
      simp only [List.mem_cons] at hb
      rcases hb with q | q | q | q
      · omega
      · omega
      · omega
      · exact of_decide_eq_true (List.all_eq_true.mp m2 b q)
    · show (1 :: c.at_ :: c.out :: c.in_).length ≤ 100
      simp only [List.length_cons]
      omega
  | goes n =>
    have := hfind n hm
    refine ⟨fun b hb => ?_, by show 2 ≤ 100; decide⟩
    have hb : b ∈ [2, n] := hb
    simp only [List.mem_cons, List.not_mem_nil, or_false] at hb
    omega
  | keep n k =>
    have := hfind n hm
    refine ⟨fun b hb => ?_, by show 3 ≤ 100; decide⟩
    have hb : b ∈ [3, n, bit k] := hb
    have hk : bit k ≤ 1 := by cases k <;> decide
    simp only [List.mem_cons, List.not_mem_nil, or_false] at hb
    omega
  | forget n =>
    have hm : (decide (1 ≤ n) && decide (n < 256)) = true := hm
    simp only [Bool.and_eq_true, decide_eq_true_eq] at hm
    refine ⟨fun b hb => ?_, by show 2 ≤ 100; decide⟩
    have hb : b ∈ [4, n] := hb
    simp only [List.mem_cons, List.not_mem_nil, or_false] at hb
    omega
theorem copy_bytes {f : Nat} {t : Tree} (R : RT f t) : ∀ b ∈ copyBytes t, b ≤ 255 := fun b hb => by
  unfold copyBytes at hb
  obtain ⟨r, hr, hbr⟩ := List.mem_flatMap.mp hb
  unfold copyOf at hr
  have hll := R.wf.last_len
  have hnl := R.wf.len
  rcases List.mem_append.mp hr with q | q
  · obtain ⟨x, hx, rfl⟩ := List.mem_map.mp q
    have hxn := R.num hx
    have hk : bit x.kept ≤ 1 := by cases x.kept <;> decide
    obtain ⟨c1, c2, c3, c4⟩ := R.cb x hx
    have hbs := R.bs
    cases hp : x.parent with
    | none =>
      rw [hp] at hbr
      refine bytesOf_bytes (fun y hy => ?_) ?_ b hbr
      · have hy : y ∈ 5 :: x.number :: bit x.kept :: t.base := hy
        simp only [List.mem_cons] at hy
        rcases hy with q | q | q | q
        · omega
        · omega
        · omega
        · exact R.bb y q
      · show (5 :: x.number :: bit x.kept :: t.base).length ≤ 255
        simp only [List.length_cons]
        omega
    | some p =>
      rw [hp] at hbr
      have hpx := (R.par x hx p hp).1
      refine bytesOf_bytes (fun y hy => ?_) ?_ b hbr
      · have hy : y ∈ 6 :: x.number :: p :: bit x.kept :: x.change.at_ :: x.change.out :: x.change.in_ := hy
        simp only [List.mem_cons] at hy
        rcases hy with q | q | q | q | q | q | q
        · omega
        · omega
        · omega
        · omega
        · omega
        · omega
        · exact c4 y q
      · show (6 :: x.number :: p :: bit x.kept :: x.change.at_ :: x.change.out :: x.change.in_).length ≤ 255
        simp only [List.length_cons]
        omega
  · rw [List.mem_singleton.mp q] at hbr
    have hg := R.gv
    have hd := R.dd
    obtain ⟨yn, hyn, eyn⟩ := R.now
    have hnn := R.num hyn
    have hfl : ∀ l : List (Nat × Nat), (l.flatMap fun x => [x.1, x.2]).length = 2 * l.length := by
      intro l
      induction l with
      | nil => rfl
      | cons z l ih => rw [List.flatMap_cons, List.length_append, ih]; simp; omega
    refine bytesOf_bytes (fun y hy => ?_) ?_ b hbr
    · have hy : y ∈ 7 :: t.now :: t.given :: (t.deeds % 256) :: (t.deeds / 256) :: t.last.flatMap fun x => [x.1, x.2] := hy
      simp only [List.mem_cons] at hy
      rcases hy with q | q | q | q | q | q
      · omega
      · omega
      · omega
      · omega
      · omega
      · obtain ⟨z, hz, hyz⟩ := List.mem_flatMap.mp q
        obtain ⟨x, hx, e1, e2⟩ := R.wf.lch z hz
        have h1 := R.num hx
        have h2 := (R.par x hx _ e2).1
        simp only [List.mem_cons, List.not_mem_nil, or_false] at hyz
        omega
    · show (7 :: t.now :: t.given :: (t.deeds % 256) :: (t.deeds / 256) :: t.last.flatMap fun x => [x.1, x.2]).length ≤ 255
      simp only [List.length_cons, hfl]
      omega
end TT
end
section
set_option maxHeartbeats 2000000
namespace TT
open PySem PySem.Spec PyProof.Rows L2
open Ue17 (Write Files House)
abbrev eFt (ta rm dk : Addr) (g : House) : List (Str × V) := eF (.ref ta) (.ref rm) (.ref dk) (.bl g.on) (.bl g.copy.isSome) (nV g.safe) (nV (Ue17.bit g.file)) (nV g.number) (nV g.size)
structure EdAt (CT CD CE : Addr) (X : List Addr) (fl wr rm : Addr) (H : Hp) (e : Addr) (g : House) (dk : Addr) (A : TA) (f : Nat) : Prop where
  ins : ∃ dx, H e = some (.ins CE dx (eFt A.a rm dk g))
  tr : TreeAt CT X H A f g.tree
  rt : RT f g.tree
  dk : DiskAt CD X H dk fl wr g.disk
  fz : Fz g.disk
  lg : ∃ ps, H rm = some (.lst (rv ps)) ∧ ListsAt H ps (g.log.map fun d => Ue17.body (.deed d)) ∧ ∀ p ∈ ps, p ∉ X
  okl : ∀ d ∈ g.log, okD d
  rx : rm ∈ X
  nf : rm ≠ fl
  nw : rm ≠ wr
theorem eF_ne_tF {a b : Addr} {v0 v1 v2 v3 v4 v5 v6 v7 v8 u0 u1 u2 u3 u4 u5 u6 u7 u8 : V} {c d : Addr} : HO.ins a b (eF v0 v1 v2 v3 v4 v5 v6 v7 v8) ≠ HO.ins c d (tF u0 u1 u2 u3 u4 u5 u6 u7 u8) := fun z => by
  injection z with _ _ z
  injection z with z1 _
  injection z1 with z2 _
  revert z2
  decide +kernel
theorem eF_ne_dF {a b : Addr} {v0 v1 v2 v3 v4 v5 v6 v7 v8 u0 u1 : V} {c d : Addr} : HO.ins a b (eF v0 v1 v2 v3 v4 v5 v6 v7 v8) ≠ HO.ins c d (dF u0 u1) := fun z => by
  injection z with _ _ z
  exact absurd (show 9 = 2 from congrArg List.length z) (by decide)
theorem tF_ne_dF {a b : Addr} {v0 v1 v2 v3 v4 v5 v6 v7 v8 u0 u1 : V} {c d : Addr} : HO.ins a b (tF v0 v1 v2 v3 v4 v5 v6 v7 v8) ≠ HO.ins c d (dF u0 u1) := fun z => by
  injection z with _ _ z
  exact absurd (show 9 = 2 from congrArg List.length z) (by decide)
section
variable {CT CD CE : Addr} {X : List Addr} {fl wr rm e dk : Addr} {H H' : Hp} {g : House} {A : TA} {f : Nat}
theorem TreeAt.nIns {Y : List Addr} {t : UT} (T : TreeAt CT Y H A f t) {z c dx : Addr} {fs : List (Str × V)} (h : H z = some (.ins c dx fs)) (hn : ∀ dx' tx, HO.ins c dx fs ≠ HO.ins CT dx' (tFt f tx A t)) : z ∉ A.mut := fun m => by
  obtain ⟨d, tx, h1, _, _⟩ := T.ins
  obtain ⟨ca, h2, _⟩ := T.ch
  simp only [TA.mut, List.mem_cons, List.not_mem_nil, or_false] at m
  rcases m with rfl | rfl | rfl | rfl | rfl
  · rw [h] at h1; exact hn _ _ (Option.some.inj h1)
  · have := T.pa; rw [h] at this; cases this
  · rw [h] at h2; cases h2
  · have := T.ke; rw [h] at this; cases this
  · have := T.ps; rw [h] at this; cases this
theorem EdAt.eA (D : EdAt CT CD CE X fl wr rm H e g dk A f) : e ∉ A.mut := by
  obtain ⟨dx, h⟩ := D.ins
  exact D.tr.nIns h fun _ _ => eF_ne_tF
theorem EdAt.dA (D : EdAt CT CD CE X fl wr rm H e g dk A f) : dk ∉ A.mut := by
  obtain ⟨dx, h⟩ := D.dk.ins
  exact D.tr.nIns h fun _ _ z => tF_ne_dF z.symm
theorem EdAt.ed (D : EdAt CT CD CE X fl wr rm H e g dk A f) : e ≠ dk := by
  obtain ⟨dx, h⟩ := D.ins
  obtain ⟨dx', h'⟩ := D.dk.ins
  exact ne_of h h' eF_ne_dF
theorem EdAt.eX (D : EdAt CT CD CE X fl wr rm H e g dk A f) : e ∉ X := fun m => by
  obtain ⟨dx, h⟩ := D.ins
  obtain ⟨l, hl⟩ := D.tr.xl e m
  rw [h] at hl
  cases hl
theorem EdAt.fresh (D : EdAt CT CD CE X fl wr rm H e g dk A f) {p : Addr} (h : H p = none) : p ∉ X := D.tr.fresh h
theorem lists_keep {ps : List Addr} {bs : List (List Nat)} (L : ListsAt H ps bs) (hn : ∀ p ∈ ps, p ∉ X) (k : ∀ b o, H b = some o → mutK o = false → b ∉ X → H' b = some o) : ListsAt H' ps bs :=
  ⟨L.len, fun i p b h1 h2 => k _ _ (L.at_ i p b h1 h2) rfl (hn p (List.mem_of_getElem? h1))⟩
/-- all stands where nothing of it changed -/
theorem EdAt.same (D : EdAt CT CD CE X fl wr rm H e g dk A f) (s : Same H H') : EdAt CT CD CE X fl wr rm H' e g dk A f := by
  obtain ⟨dx, h⟩ := D.ins
  obtain ⟨ps, h1, h2, h3⟩ := D.lg
  exact ⟨⟨dx, s _ _ h⟩, D.tr.same s, D.rt, D.dk.same s, D.fz, ⟨ps, s _ _ h1, h2.same s, h3⟩, D.okl, D.rx, D.nf, D.nw⟩
/-- a list that is watched and is none of its own changes -/
theorem EdAt.other (D : EdAt CT CD CE X fl wr rm H e g dk A f) {p : Addr} {l : List V} (hx : p ∈ X) (n1 : p ≠ fl) (n2 : p ≠ wr) (n3 : p ≠ rm) (h1 : H' p = some (.lst l)) (k : ∀ b o, H b = some o → b ≠ p → H' b = some o) : EdAt CT CD CE X fl wr rm H' e g dk A f := by
  obtain ⟨dx, h⟩ := D.ins
  obtain ⟨ps, g1, g2, g3⟩ := D.lg
  have hxl : ∀ b ∈ X, ∃ l, H' b = some (.lst l) := fun b hb => by
    by_cases q : b = p
    · rw [q]; exact ⟨_, h1⟩
    · obtain ⟨l', hl⟩ := D.tr.xl b hb
      exact ⟨l', k _ _ hl q⟩
  have s : Fr [p] H H' := fun b o e n => k b o e (by simpa using n)
  have hp : ∀ {z : Addr}, z ∉ X → z ≠ p := fun n q => n (by rw [q]; exact hx)
  refine ⟨⟨dx, k _ _ h (hp D.eX)⟩, D.tr.fr s (fun b hb => .inl (by rw [List.mem_singleton.mp hb]; exact hx)) hxl, D.rt, D.dk.fr s (fun b hb => ?_) hxl, D.fz, ⟨ps, k _ _ g1 (fun q => n3 q.symm), lists_keep g2 g3 fun b o q _ n => k b o q (hp n), g3⟩, D.okl, D.rx, D.nf, D.nw⟩
  rw [List.mem_singleton.mp hb]
  exact ⟨fun q => D.dk.notX (by rw [← q]; exact hx), n1, n2, .inl hx⟩
/-- one more list is watched -/
theorem DiskAt.more {C : Addr} {G : Files} (D : DiskAt C X H dk fl wr G) {p : Addr} {l : List V} (hp : H p = none) (s : Same H H') (hl : H' p = some (.lst l)) : DiskAt C (p :: X) H' dk fl wr G := by
  obtain ⟨dx, h⟩ := D.ins
  obtain ⟨f0, f1, e2, e3, e4, e5, e6⟩ := D.fls
  obtain ⟨ws, e7, e8⟩ := D.wrs
  have nx : ∀ {z : Addr} {o : HO}, H z = some o → z ∉ X → z ∉ p :: X := fun q n m => by
    rcases List.mem_cons.mp m with w | w
    · rw [w, hp] at q; cases q
    · exact n w
  refine ⟨⟨dx, s _ _ h⟩, ⟨f0, f1, s _ _ e2, s _ _ e3, s _ _ e4, nx e3 e5, nx e4 e6⟩, ⟨ws, s _ _ e7, ⟨e8.len, fun i q x q1 q2 => ?_⟩⟩, List.mem_cons_of_mem _ D.ff, List.mem_cons_of_mem _ D.fw, D.ne, fun b hb => ?_⟩
  · obtain ⟨c, z1, z2, z3⟩ := e8.at_ i q x q1 q2
    exact ⟨c, s _ _ z1, s _ _ z2, nx z2 z3⟩
  · rcases List.mem_cons.mp hb with rfl | hb
    · exact ⟨l, hl⟩
    · obtain ⟨l', hl'⟩ := D.xl b hb
      exact ⟨l', s _ _ hl'⟩
theorem EdAt.more (D : EdAt CT CD CE X fl wr rm H e g dk A f) {p : Addr} {l : List V} (hp : H p = none) (s : Same H H') (hl : H' p = some (.lst l)) : EdAt CT CD CE (p :: X) fl wr rm H' e g dk A f := by
  obtain ⟨dx, h⟩ := D.ins
  obtain ⟨ps, g1, g2, g3⟩ := D.lg
  refine ⟨⟨dx, s _ _ h⟩, (D.tr.same s).more D.tr hp hl s, D.rt, D.dk.more hp s hl, D.fz, ⟨ps, s _ _ g1, g2.same s, fun q hq m => ?_⟩, D.okl, List.mem_cons_of_mem _ D.rx, D.nf, D.nw⟩
  rcases List.mem_cons.mp m with w | w
  · obtain ⟨i, hi⟩ := List.mem_iff_getElem?.mp hq
    have hlt := (List.getElem?_eq_some_iff.mp hi).1
    have hlen := g2.len
    have := g2.at_ i q _ hi (List.getElem?_eq_getElem (by omega))
    rw [w, hp] at this
    cases this
  · exact g3 q hq w
/-- the instance's own numbers -/
theorem EdAt.own (D : EdAt CT CD CE X fl wr rm H e g dk A f) {dx : Addr} {g' : House} (h1 : H' e = some (.ins CE dx (eFt A.a rm dk g'))) (k : ∀ b o, H b = some o → b ≠ e → H' b = some o) (e1 : g'.tree = g.tree) (e2 : g'.disk = g.disk) (e3 : g'.log = g.log) : EdAt CT CD CE X fl wr rm H' e g' dk A f := by
  obtain ⟨ps, g1, g2, g3⟩ := D.lg
  obtain ⟨dx0, h0⟩ := D.ins
  have ne : ∀ {z : Addr} {o : HO}, H z = some o → mutK o = false → z ≠ e := fun q m => ne_kind q h0 (by rw [m]; intro w; cases w)
  have hxl : ∀ b ∈ X, ∃ l, H' b = some (.lst l) := fun b hb => by
    obtain ⟨l', hl⟩ := D.tr.xl b hb
    exact ⟨l', k _ _ hl (ne hl rfl)⟩
  have s : Fr [e] H H' := fun b o q n => k b o q (by simpa using n)
  have hmut : ∀ o, H e = some o → mutK o = true := fun o q => by rw [h0] at q; rw [← Option.some.inj q]; rfl
  obtain ⟨f0, f1, e2', _, _, _, _⟩ := D.dk.fls
  obtain ⟨ws, e7, _⟩ := D.dk.wrs
  refine ⟨⟨dx, h1⟩, by rw [e1]; exact D.tr.fr s (fun b hb => .inr (by rw [List.mem_singleton.mp hb]; exact ⟨D.eA, hmut⟩)) hxl, by rw [e1]; exact D.rt, by rw [e2]; exact D.dk.fr s (fun b hb => by rw [List.mem_singleton.mp hb]; exact ⟨D.ed, (ne e2' rfl).symm, (ne e7 rfl).symm, .inr hmut⟩) hxl, by rw [e2]; exact D.fz, ⟨ps, k _ _ g1 (ne g1 rfl), ?_, g3⟩, by rw [e3]; exact D.okl, D.rx, D.nf, D.nw⟩
  rw [e3]
  exact ⟨g2.len, fun i p b q1 q2 => k _ _ (g2.at_ i p b q1 q2) (ne (g2.at_ i p b q1 q2) rfl)⟩
/-- the disk alone -/
theorem EdAt.disk (D : EdAt CT CD CE X fl wr rm H e g dk A f) {wr' : Addr} {Y F : List Addr} {G : Files} (s : Fr F H H') (hF : ∀ b ∈ F, b = dk ∨ b = fl ∨ b = wr) (hD : DiskAt CD Y H' dk fl wr' G) (Z : Fz G) (hY : ∀ b ∈ Y, b ∈ X ∨ H b = none) (hXY : ∀ b ∈ X, b ∈ Y) (hw : rm ≠ wr') : EdAt CT CD CE Y fl wr' rm H' e { g with disk := G } dk A f := by
  obtain ⟨dx, h⟩ := D.ins
  obtain ⟨ps, g1, g2, g3⟩ := D.lg
  obtain ⟨dx', h'⟩ := D.dk.ins
  have nx : ∀ {z : Addr} {o : HO}, H z = some o → z ∉ X → z ∉ Y := fun q n m => by
    rcases hY _ m with w | w
    · exact n w
    · rw [w] at q; cases q
  have nF : ∀ {z : Addr}, z ∉ X → z ≠ dk → z ∉ F := fun n1 n2 m => by
    rcases hF _ m with w | w | w
    · exact n2 w
    · exact n1 (by rw [w]; exact D.dk.ff)
    · exact n1 (by rw [w]; exact D.dk.fw)
  have nk : ∀ {z : Addr} {o : HO}, H z = some o → mutK o = false → z ≠ dk := fun q m => ne_kind q h' (by rw [m]; intro w; cases w)
  have hmut : ∀ o, H dk = some o → mutK o = true := fun o q => by rw [h'] at q; rw [← Option.some.inj q]; rfl
  have hxlX : ∀ b ∈ X, ∃ l, H' b = some (.lst l) := fun b hb => hD.xl b (hXY b hb)
  have T1 : TreeAt CT X H' A f g.tree := D.tr.fr s (fun b hb => by
    rcases hF b hb with w | w | w
    · exact .inr (by rw [w]; exact ⟨D.dA, hmut⟩)
    · exact .inl (by rw [w]; exact D.dk.ff)
    · exact .inl (by rw [w]; exact D.dk.fw)) hxlX
  have nrm : rm ∉ F := fun m => by
    rcases hF _ m with w | w | w
    · exact nk g1 rfl w
    · exact D.nf w
    · exact D.nw w
  refine ⟨⟨dx, s _ _ h (nF D.eX D.ed)⟩, ?_, D.rt, hD, Z, ⟨ps, s _ _ g1 nrm, ⟨g2.len, fun i p b q1 q2 => s _ _ (g2.at_ i p b q1 q2) (nF (g3 p (List.mem_of_getElem? q1)) (nk (g2.at_ i p b q1 q2) rfl))⟩, fun p hp => ?_⟩, D.okl, hXY _ D.rx, D.nf, hw⟩
  · obtain ⟨d0, tx, t1, t2, t3⟩ := D.tr.ins
    obtain ⟨ca, c1, c2⟩ := D.tr.ch
    have ntx : tx ∉ Y := nx t2 t3
    obtain ⟨d1, tx1, u1, u2, u3⟩ := T1.ins
    obtain ⟨ca1, v1, v2⟩ := T1.ch
    have e0 : H' A.a = some (.ins CT d0 (tFt f tx A g.tree)) := s _ _ t1 fun m => by
      rcases hF _ m with w | w | w
      · exact D.dA (by rw [← w]; simp)
      · obtain ⟨l, hl⟩ := D.tr.xl fl D.dk.ff; rw [← w, t1] at hl; cases hl
      · obtain ⟨l, hl⟩ := D.tr.xl wr D.dk.fw; rw [← w, t1] at hl; cases hl
    have k : ∀ {z : Addr} {o : HO}, H z = some o → mutK o = false → z ∉ X → H' z = some o := fun q m n => s _ _ q (nF n (nk q m))
    have kc : H' A.ch = some (.dK (chKV ca g.tree.nodes)) := s _ _ c1 fun m => by
      rcases hF _ m with w | w | w
      · exact D.dA (by rw [← w]; simp)
      · obtain ⟨l, hl⟩ := D.tr.xl fl D.dk.ff; rw [← w, c1] at hl; cases hl
      · obtain ⟨l, hl⟩ := D.tr.xl wr D.dk.fw; rw [← w, c1] at hl; cases hl
    refine ⟨⟨d0, tx, e0, k t2 rfl t3, ntx⟩, T1.pa, ⟨ca, kc, ⟨fun x hx hp => ?_, fun x hx hp => ⟨k (c2.lst x hx hp).1 rfl (c2.lst x hx hp).2, nx (c2.lst x hx hp).1 (c2.lst x hx hp).2⟩⟩⟩, T1.ke, T1.ps, T1.ap, hD.xl⟩
    refine k (c2.tup x hx hp) rfl fun m => ?_
    obtain ⟨l, hl⟩ := D.tr.xl _ m
    rw [c2.tup x hx hp] at hl
    cases hl
  · obtain ⟨i, hi⟩ := List.mem_iff_getElem?.mp hp
    have hlt := (List.getElem?_eq_some_iff.mp hi).1
    have hlen := g2.len
    exact nx (g2.at_ i p _ hi (List.getElem?_eq_getElem (by omega))) (g3 p hp)
end
end TT
end
section
set_option maxHeartbeats 2000000
namespace TT
open PySem PySem.Spec PyProof.Rows L2
open Ue17 (Write Files House Deed)
abbrev av (l : List Int) : List V := l.map V.int
theorem av_ints (l : List Nat) : av (Ue17.ints l) = iv l := by
  show List.map V.int (List.map _ l) = _
  rw [List.map_map]
  rfl
/-- what a call on the editor hands over: the answer, the editor then; the lists of its own may be others, new ones; other lists stand -/
def edQ (CT CD CE : Addr) (X : List Addr) (fl wr rm : Addr) (H : Hp) (e : Addr) (g' : House) (N : Nat) (ans : List Int) (Q : VK) : Prop :=
  ∀ (H' : Hp) (p : Addr) (X' : List Addr) (fl' wr' rm' dk' : Addr) (A' : TA) (f' : Nat), EdAt CT CD CE X' fl' wr' rm' H' e g' dk' A' f' → INV g' N → H' p = some (.lst (av ans)) → (∀ b ∈ X', b ∈ X ∨ H b = none) → (∀ b ∈ X, b ∈ X') →
    (∀ b ∈ [fl', wr', rm'], b ∈ [fl, wr, rm] ∨ H b = none) → (∀ b l, H b = some (.lst l) → b ∉ [fl, wr, rm] → H' b = some (.lst l)) → (H p = none ∨ (p ∉ X' ∧ p ∉ [fl', wr', rm'])) → Q (.ref p) H'
section
variable {P : Program} {w : World} {K : PySem.W.Frag} {mg : Str → Option Value} {base : Heap} {CT CD CE : Addr}
abbrev N_refused : List Str := ["refusal"]
theorem sc_refused : FnScope N_refused ["refusal"] (defScope s_refused) := ⟨rfl, rfl, rfl, by decide +kernel, rfl, by decide +kernel, by decide +kernel⟩
abbrev N_counted : List Str := ["put"]
theorem sc_counted : FnScope N_counted ["put"] (defScope s_counted) := ⟨rfl, rfl, rfl, by decide +kernel, rfl, by decide +kernel, by decide +kernel⟩
abbrev N_Editor_refusal_of : List Str := ["self", "deed", "refusal"]
theorem sc_Editor_refusal_of : FnScope N_Editor_refusal_of ["self", "deed"] (defScope s_Editor_refusal_of) := ⟨rfl, rfl, rfl, by decide +kernel, rfl, by decide +kernel, by decide +kernel⟩
abbrev N_Editor_do : List Str := ["self", "deed", "refusal"]
theorem sc_Editor_do : FnScope N_Editor_do ["self", "deed"] (defScope s_Editor_do) := ⟨rfl, rfl, rfl, by decide +kernel, rfl, by decide +kernel, by decide +kernel⟩
abbrev N_Editor_settle : List Str := ["self"]
theorem sc_Editor_settle : FnScope N_Editor_settle ["self"] (defScope s_Editor_settle) := ⟨rfl, rfl, rfl, by decide +kernel, rfl, by decide +kernel, by decide +kernel⟩
abbrev N_Editor_flush : List Str := ["self", "many"]
theorem sc_Editor_flush : FnScope N_Editor_flush ["self"] (defScope s_Editor_flush) := ⟨rfl, rfl, rfl, by decide +kernel, rfl, by decide +kernel, by decide +kernel⟩
abbrev N_Editor_lose_power : List Str := ["self", "arrived", "many"]
theorem sc_Editor_lose_power : FnScope N_Editor_lose_power ["self", "arrived"] (defScope s_Editor_lose_power) := ⟨rfl, rfl, rfl, by decide +kernel, rfl, by decide +kernel, by decide +kernel⟩
abbrev N_Editor_spoil : List Str := ["self", "which", "place", "byte", "old"]
theorem sc_Editor_spoil : FnScope N_Editor_spoil ["self", "which", "place", "byte"] (defScope s_Editor_spoil) := ⟨rfl, rfl, rfl, by decide +kernel, rfl, by decide +kernel, by decide +kernel⟩
def sp_refused : Sp := fun vs H Q _ => ∃ n : Nat, vs = [nV n] ∧ newL H [.int (-(n : Int))] Q
theorem ok_refused (T : Txt K mg CT CD CE) : C8.Cal P w K mg base 1 "refused" sp_refused [] := by
  refine T.d_refused.ok sc_refused (fun vs H Q E h => ?_) (fun f cdv A outer s H vs Q E hr h => ?_)
  · obtain ⟨n, rfl, _⟩ := h
    rfl
  · obtain ⟨n, rfl, k⟩ := h
    refine ⟨_, (pss_one (ps_ret (pe_lst (pa_cons (pe_un un_neg (pv 0)) pa_nil)))) , ?_⟩
    refine ⟨_, rfl, _, rfl, sz 1 (by decide), ?_⟩
    intro p np; generalize hH_p : upd _ p _ = H1; have s1 := snew np hH_p; have hp := hnew hH_p; clear hH_p
    exact k p H1 np s1 hp
def sp_counted : Sp := fun vs H Q _ => ∃ (a : Addr) (l : List Nat), vs = [.ref a] ∧ H a = some (.lst (iv l)) ∧ l.length ≤ 40000 ∧ newL H (iv (l.length :: l)) Q
theorem ok_counted (T : Txt K mg CT CD CE) : C8.Cal P w K mg base 1 "counted" sp_counted [] := by
  refine T.d_counted.ok sc_counted (fun vs H Q E h => ?_) (fun f cdv A outer s H vs Q E hr h => ?_)
  · obtain ⟨a, l, rfl, _⟩ := h
    rfl
  · obtain ⟨a, l, rfl, ha, hl, k⟩ := h
    refine ⟨_, (pss_one (ps_ret (pe_op op_cat (pe_lst (pa_cons (pe_callB call_len_seq (by rfl) T.b_len PySem.boot_len (pa_cons (pv 0) pa_nil)) pa_nil)) (pv 0)))) , ?_⟩
    refine ⟨_, rfl, a, _, rfl, .inl (SqL.of ha), sz 1 (by decide), ?_⟩
    intro p np; generalize hH_p : upd _ p _ = H1; have s1 := snew np hH_p; have hp := hnew hH_p; clear hH_p
    refine ⟨_, rfl, p, a, _, _, rfl, rfl, hp, s1 _ _ ha, sz _ (by rw [iv_len]; show 1 + l.length ≤ _; omega), ?_⟩
    intro q nq; generalize hH_q : upd _ q _ = H2; have s2 := snew nq hH_q; have hq := hnew hH_q; clear hH_q
    refine k q H2 (s1.free nq) (s1.trans s2) ?_
    rw [hq, iv_len]
    rfl
/-- a deed as it's handed on: none, or its body -/
def DeedAt (H : Hp) (v : V) (o : Option Deed) : Prop := (o = none ∧ v = .non) ∨ ∃ d b, o = some d ∧ v = .ref b ∧ H b = some (.lst (iv (Ue17.body (.deed d))))
def sp_refusal_of (CT CD CE : Addr) : Sp := fun vs H Q _ => ∃ (X : List Addr) (fl wr rm e dk : Addr) (g : House) (A : TA) (f : Nat) (v : V) (o : Option Deed), vs = [.ref e, v] ∧ EdAt CT CD CE X fl wr rm H e g dk A f ∧ DeedAt H v o ∧ (∀ d, o = some d → (Ue17.body (.deed d)).length ≤ 40000) ∧ pureV H (nV (rref g o)) Q
theorem ok_Editor_refusal_of (T : Txt K mg CT CD CE) : C8.Met P w K mg base 8 CE "refusal_of" (sp_refusal_of CT CD CE) [] := by
  refine T.d_Editor_refusal_of.ok T.clE sc_Editor_refusal_of (fun vs H Q E h => ?_) (fun f cdv A outer s H vs Q E hr h => ?_)
  · obtain ⟨X, fl, wr, rm, e, dk, g, A, f, v, o, rfl, _⟩ := h
    rfl
  · obtain ⟨X, fl, wr, rm, e, dk, g, A, f, v, o, rfl, D, hv, hol, k⟩ := h
    obtain ⟨dx, h1⟩ := D.ins
    refine ⟨_, (pss_cons (ps_if (pt_not (pt_val (pe_fld (pv 0) rfl)))
        (pss_one (ps_ret (C8.pe_gc (by rfl) T.c_WRONG_POWER)))
        pss_nil)
      (pss_cons (ps_if (pt_val (pe_fld (pv 0) rfl))
        (pss_one (ps_ret (C8.pe_gc (by rfl) T.c_NOT_NOW)))
        pss_nil)
      (pss_cons (ps_if (pt_cmpR op_isN (pv 1) pe_non (nomark _))
        (pss_one (ps_ret (C8.pe_gc (by rfl) T.c_NOWHERE)))
        pss_nil)
      (pss_cons (ps_set (i := 2) sc_Editor_refusal_of.nd rfl (Or.inl rfl) (C8.pe_c (ok_refusal_of_deed T) hr (by decide) (by rfl) (pa_cons (pe_fld (pv 0) rfl) (pa_cons (pv 1) pa_nil))))
      (pss_cons (ps_if (PW.pt (pw_and (pt_cmpR op_eq (pv 2) (C8.pe_gc (by rfl) T.c_GRANTED) (nomark _)) (pw_and1 (pt_cmpR op_gt (pe_op op_add (pe_fld (pv 0) rfl) (C8.pe_c (ok_record_size T) hr (by decide) (by rfl) (pa_cons (pv 1) pa_nil))) (C8.pe_gc (by rfl) T.c_LONGEST_FILE) (nomark _)))))
        (pss_one (ps_ret (C8.pe_gc (by rfl) T.c_NO_ROOM)))
        pss_nil)
      (pss_one (ps_ret (pv 2)))))))) , ?_⟩
    refine ⟨_, rfl, e, CE, dx, _, _, rfl, h1, T.clE, T.nE_powered, eF_powered, _, rfl, itNB (fun c => ?_) (fun c => ?_)⟩
    · refine fin_i (k H (Same.refl H)) ?_
      unfold rref
      rw [if_pos c]
      rfl
    refine ⟨_, rfl, e, CE, dx, _, _, rfl, h1, T.clE, T.nE_copying, eF_copying, _, rfl, itB (fun c2 => ?_) (fun c2 => ?_)⟩
    · refine fin_i (k H (Same.refl H)) ?_
      unfold rref
      rw [if_neg (by rw [c]; decide), if_pos c2]
      rfl
    have hrr : rref g o = match o with
      | none => 7
      | some d => if rdeed g.tree d = 0 ∧ 5000 < g.size + ((Ue17.body (.deed d)).length + 4) then 6 else rdeed g.tree d := by
      unfold rref
      rw [if_neg (by rw [c]; decide), if_neg (by rw [c2]; decide)]
      cases o <;> rfl
    rw [hrr] at k
    rcases hv with ⟨rfl, rfl⟩ | ⟨d, b, rfl, rfl, hb⟩
    · exact ⟨_, rfl, rfl, _, rfl, iteT (k H (Same.refl H))⟩
    · refine ⟨_, rfl, rfl, _, rfl, iteF ?_⟩
      refine ⟨_, rfl, e, CE, dx, _, _, rfl, h1, T.clE, T.nE_tree, eF_tree, _, rfl, A, X, f, g.tree, 41, b, d, rfl, D.tr, D.rt.wf, by decide, hb, fun H1 s1 => ?_⟩
      have hbl := hol d rfl
      refine ⟨_, rfl, rfl, _, rfl, itI (fun c3 => ?_) (fun c3 => iteF ?_)⟩
      · refine ⟨_, rfl, e, CE, dx, _, _, rfl, s1 _ _ h1, T.clE, T.nE_size, eF_size, _, rfl, b, _, rfl, s1 _ _ hb, _, _, rfl, rfl, _, _, rfl, rfl, _, rfl, itD (fun c4 => ?_) (fun c4 => ?_)⟩
        · rw [iv_len] at c4
          refine fin_i (k H1 s1) ?_
          show ((if rdeed g.tree d = 0 ∧ 5000 < g.size + ((Ue17.body (.deed d)).length + 4) then 6 else rdeed g.tree d : Nat) : Int) = 6
          rw [if_pos ⟨by omega, by omega⟩]
          rfl
        · rw [iv_len] at c4
          refine ⟨_, rfl, fin_i (k H1 s1) ?_⟩
          show ((if rdeed g.tree d = 0 ∧ 5000 < g.size + ((Ue17.body (.deed d)).length + 4) then 6 else rdeed g.tree d : Nat) : Int) = _
          rw [if_neg (by omega)]
      · refine ⟨_, rfl, fin_i (k H1 s1) ?_⟩
        show ((if rdeed g.tree d = 0 ∧ 5000 < g.size + ((Ue17.body (.deed d)).length + 4) then 6 else rdeed g.tree d : Nat) : Int) = _
        rw [if_neg (by omega)]
/-- a refusal's answer -/
theorem ed_no {X : List Addr} {fl wr rm e dk : Addr} {H H1 : Hp} {g : House} {A : TA} {f N : Nat} {n : Nat} {Q : VK} (D : EdAt CT CD CE X fl wr rm H e g dk A f) (I : INV g N) (s1 : Same H H1) (k : edQ CT CD CE X fl wr rm H e g N [-(n : Int)] Q) : newL H1 [.int (-(n : Int))] Q := fun p H2 np s2 hp =>
  k H2 p X fl wr rm dk A f (D.same (s1.trans s2)) I hp (fun b hb => .inl hb) (fun b hb => hb) (fun b hb => .inl hb) (fun b l hb _ => (s1.trans s2) _ _ hb) (.inl (s1.free np))
theorem INV.mono {g : House} {N M : Nat} (I : INV g N) (h : N ≤ M) : INV g M := ⟨I.size, I.num, I.cpy, Nat.le_trans I.llen h, by have := I.clen; omega⟩
def sp_do (CT CD CE : Addr) : Sp := fun vs H Q _ => ∃ (X : List Addr) (fl wr rm e dk : Addr) (g : House) (A : TA) (f N : Nat) (v : V) (o : Option Deed), vs = [.ref e, v] ∧ EdAt CT CD CE X fl wr rm H e g dk A f ∧ INV g N ∧ N ≤ 100 ∧ DeedAt H v o ∧ (∀ b, v = .ref b → b ∉ X) ∧ (∀ d, o = some d → (Ue17.body (.deed d)).length ≤ 40000) ∧
  edQ CT CD CE X fl wr rm H e (doR g o).1 (N + 1) (doR g o).2 Q
theorem ok_Editor_do (T : Txt K mg CT CD CE) : C8.Met P w K mg base 9 CE "do" (sp_do CT CD CE) [] := by
  refine T.d_Editor_do.ok T.clE sc_Editor_do (fun vs H Q E h => ?_) (fun f cdv A outer s H vs Q E hr h => ?_)
  · obtain ⟨X, fl, wr, rm, e, dk, g, A, f, N, v, o, rfl, _⟩ := h
    rfl
  · obtain ⟨X, fl, wr, rm, e, dk, g, A, f, N, v, o, rfl, D, I, hN, hv, hvx, hol, k⟩ := h
    obtain ⟨dx, h1⟩ := D.ins
    refine ⟨_, (pss_cons (ps_set (i := 2) sc_Editor_do.nd rfl (Or.inl rfl) (C8.pe_mt (ok_Editor_refusal_of T) hr (by decide) (pv 0) (pa_cons (pv 1) pa_nil)))
      (pss_cons (ps_if (pt_cmpR op_ne (pv 2) (C8.pe_gc (by rfl) T.c_GRANTED) (nomark _))
        (pss_one (ps_ret (C8.pe_c (ok_refused T) hr (by decide) (by rfl) (pa_cons (pv 2) pa_nil))))
        pss_nil)
      (pss_cons (ps_expr (C8.pe_c (ok_do_deed T) hr (by decide) (by rfl) (pa_cons (pe_fld (pv 0) rfl) (pa_cons (pv 1) pa_nil))))
      (pss_cons (ps_expr (pe_bm PySem.F.plainAttrs_list PySem.F.slot_list_append PySem.F.type_list_append mt_append (pe_fld (pv 0) rfl) (pa_cons (pv 1) pa_nil)))
      (pss_cons (ps_expr (C8.pe_mt (ok_Disk_send T) hr (by decide) (pe_fld (pv 0) rfl) (pa_cons (pe_fld (pv 0) rfl) (pa_cons (pe_fld (pv 0) rfl) (pa_cons (C8.pe_c (ok_record T) hr (by decide) (by rfl) (pa_cons (pv 1) pa_nil)) pa_nil)))))
      (pss_cons (ps_fld (pv 0) (pe_op op_add (pe_fld (pv 0) rfl) (C8.pe_c (ok_record_size T) hr (by decide) (by rfl) (pa_cons (pv 1) pa_nil))) rfl)
      (pss_one (ps_ret (pe_lst (pa_cons (pe_fld (pe_fld (pv 0) rfl) rfl) (pa_cons (pe_callB call_len_seq (by rfl) T.b_len PySem.boot_len (pa_cons (C8.pe_mt0 (ok_Tree_text_now T) hr (by decide) (pe_fld (pv 0) rfl)) pa_nil)) (pa_cons (pe_fld (pe_fld (pv 0) rfl) rfl) (pa_cons (pe_fld (pv 0) rfl) pa_nil))))))))))))) , ?_⟩
    refine ⟨_, rfl, e, dx, _, rfl, h1, eF_no_refusal_of, _, rfl, X, fl, wr, rm, e, dk, g, A, f, v, o, rfl, D, hv, hol, fun H1 s1 => ?_⟩
    refine ⟨_, rfl, rfl, _, rfl, itNI (fun c => ?_) (fun c => ?_)⟩
    · have hne : rref g o ≠ 0 := fun z => c (by rw [z]; rfl)
      unfold doR at k
      rw [if_pos hne] at k
      exact ⟨_, rfl, rref g o, rfl, ed_no D (I.mono (Nat.le_succ _)) s1 k⟩
    have h0 : rref g o = 0 := by omega
    rcases hv with ⟨rfl, rfl⟩ | ⟨d, b, rfl, rfl, hb⟩
    · exfalso
      unfold rref at h0
      split at h0
      · cases h0
      · split at h0 <;> cases h0
    unfold doR at k
    rw [if_neg (by rw [h0]; decide)] at k
    have k : edQ CT CD CE X fl wr rm H e (dodo g d).1 (N + 1) (dodo g d).2 Q := k
    have hon : g.on = true ∧ g.copy.isSome = false ∧ rdeed g.tree d = 0 ∧ ¬ 5000 < g.size + ((Ue17.body (.deed d)).length + 4) := by
      unfold rref at h0
      cases q1 : g.on with
      | false => rw [q1] at h0; cases h0
      | true =>
        rw [q1, if_neg (by decide)] at h0
        cases q2 : g.copy.isSome with
        | true => rw [q2] at h0; cases h0
        | false =>
          rw [q2, if_neg (by decide)] at h0
          have h0 : (if rdeed g.tree d = 0 ∧ 5000 < g.size + ((Ue17.body (.deed d)).length + 4) then 6 else rdeed g.tree d) = 0 := h0
          split at h0
          · cases h0
          · rename_i z
            exact ⟨rfl, rfl, h0, fun y => z ⟨h0, y⟩⟩
    obtain ⟨hon, hcp, hrd, hsz⟩ := hon
    obtain ⟨hmay, hdd⟩ := (rdeed_may g.tree d).mp hrd
    obtain ⟨hby, hbl⟩ := deed_bytes D.rt hmay
    have hok : okD d := by
      cases d with
      | make c => exact may_in hmay D.rt.now_text.1
      | goes n => exact True.intro
      | keep n k => exact True.intro
      | forget n => exact True.intro
    have D1 := D.same s1
    have nbx := hvx b rfl
    refine ⟨_, rfl, e, CE, dx, _, _, rfl, s1 _ _ h1, T.clE, T.nE_tree, eF_tree, _, rfl, A, X, f, g.tree, 41, b, d, rfl, D1.tr, D.rt.wf, by decide, s1 _ _ hb, hok, fun H2 f2 T2 W2 s2 => ?_⟩
    have R2 : RT f2 (Ue17.did g.tree d) := D.rt.did' hmay hdd W2
    -- what stands behind the deed
    have keep2 : ∀ {z : Addr} {o : HO}, H1 z = some o → mutK o = false → H2 z = some o := fun q m => D1.tr.keep s2 q m
    have hi2 : H2 e = _ := s2 _ _ (s1 _ _ h1) D1.eA
    have DK2 : DiskAt CD X H2 dk fl wr g.disk := D1.dk.fr s2 (fun z hz => by
      obtain ⟨o, ho, mo⟩ := D1.tr.kinds z hz
      refine ⟨fun q => D1.dA (by rw [← q]; exact hz), fun q => ?_, fun q => ?_, .inr fun o' ho' => by rw [ho] at ho'; rw [← Option.some.inj ho']; exact mo⟩
      · obtain ⟨l, hl⟩ := D1.dk.xl fl D1.dk.ff; rw [← q, ho] at hl; rw [Option.some.inj hl] at mo; cases mo
      · obtain ⟨l, hl⟩ := D1.dk.xl wr D1.dk.fw; rw [← q, ho] at hl; rw [Option.some.inj hl] at mo; cases mo) T2.xl
    obtain ⟨ps, l1, l2, l3⟩ := D1.lg
    have l12 := keep2 l1 rfl
    have hll := l2.len
    rw [List.length_map] at hll
    have hIl := I.llen
    refine ⟨_, rfl, e, CE, dx, _, _, rfl, hi2, T.clE, T.nE_remembered, eF_remembered, .inl ⟨rfl, _, SqL.of l12⟩, _, rfl, rm, _, _, rfl, rfl, l12, szl _ (by rw [rv_len]; omega), ?_⟩
    generalize hH_ : upd _ rm _ = H3; obtain ⟨g3, k3⟩ := ups hH_; clear hH_
    have nrm : ∀ {z : Addr}, z ∉ X → z ≠ rm := fun n q => n (by rw [q]; exact D.rx)
    have hi3 := k3 _ _ hi2 (nrm D.eX)
    have xl3 : ∀ z ∈ X, ∃ l, H3 z = some (.lst l) := fun z hz => by
      by_cases q : z = rm
      · rw [q]; exact ⟨_, g3⟩
      · obtain ⟨l, hl⟩ := T2.xl z hz; exact ⟨l, k3 _ _ hl q⟩
    have s3 : Fr [rm] H2 H3 := fun z o q n => k3 _ _ q (by simpa using n)
    have T3 := T2.fr s3 (fun z hz => .inl (by rw [List.mem_singleton.mp hz]; exact D.rx)) xl3
    have DK3 := DK2.fr s3 (fun z hz => by rw [List.mem_singleton.mp hz]; exact ⟨fun q => DK2.notX (by rw [← q]; exact D.rx), D.nf, D.nw, .inl D.rx⟩) xl3
    have hb3 : H3 b = some (.lst (iv (Ue17.body (.deed d)))) := k3 _ _ (keep2 (s1 _ _ hb) rfl) (nrm nbx)
    obtain ⟨dkx, hdk3⟩ := DK3.ins
    refine ⟨_, rfl, e, CE, dx, _, _, rfl, hi3, T.clE, T.nE_disk, eF_disk, dk, dkx, _, rfl, hdk3, dF_no_send, _, rfl, e, CE, dx, _, _, rfl, hi3, T.clE, T.nE_used, eF_used, _, rfl, e, CE, dx, _, _, rfl, hi3, T.clE, T.nE_size, eF_size, _, rfl, b, _, rfl, hb3, by omega, fun rc H4 nrc s4 hrc => ?_⟩
    have hIc := I.clen
    have DK4 := DK3.same s4
    refine ⟨X, dk, fl, wr, g.disk, g.file, g.size, rc, recB (Ue17.body (.deed d)), rfl, DK4, hrc, T3.fresh nrc, by omega, fun H5 DK5 s5 => ?_⟩
    have nfw : ∀ {z : Addr}, z ∉ X → z ≠ wr := fun n q => n (by rw [q]; exact D.dk.fw)
    have s45 : ∀ {z : Addr} {o : HO}, H3 z = some o → z ≠ wr → H5 z = some o := fun q n => s5 _ _ (s4 _ _ q) (by simpa using n)
    have hi5 := s45 hi3 (nfw D.eX)
    have hb5 := s45 hb3 (nfw nbx)
    refine ⟨_, rfl, e, CE, dx, _, _, rfl, hi5, T.clE, T.nE_size, eF_size, _, rfl, b, _, rfl, hb5, (g.size : Int), (((Ue17.body (.deed d)).length + 4 : Nat) : Int), rfl, (by rw [iv_len]), _, rfl, e, CE, dx, _, rfl, hi5, T.clE, T.nE_size, (by show 9 < 1000; decide), ?_⟩
    rw [eF_put_size]
    generalize hH_ : upd _ e _ = H6; obtain ⟨g6, k6⟩ := ups hH_; clear hH_
    have T5 : TreeAt CT X H5 A f2 (Ue17.did g.tree d) := (T3.same s4).fr s5 (fun z hz => .inl (by rw [List.mem_singleton.mp hz]; exact D.dk.fw)) DK5.xl
    have eb : Ue17.bytesOf (.deed d) = recB (Ue17.body (.deed d)) := rfl
    have esz : (Ue17.bytesOf (.deed d)).length = (Ue17.body (.deed d)).length + 4 := bytesOf_len _
    let g' : House := (dodo g d).1
    have Z5 : Fz { g.disk with cache := g.disk.cache ++ [(g.file, g.size, recB (Ue17.body (.deed d)))] } := by
      refine ⟨D.fz.la, D.fz.lb, D.fz.ba, D.fz.bb, fun x hx => ?_, fun x hx => ?_, fun x hx => ?_⟩
      · rcases List.mem_append.mp hx with q | q
        · exact D.fz.lc x q
        · rw [List.mem_singleton.mp q]
          show g.size + (recB (Ue17.body (.deed d))).length ≤ 5000
          rw [recB_len]; omega
      · rcases List.mem_append.mp hx with q | q
        · exact D.fz.bc x q
        · rw [List.mem_singleton.mp q]
          exact bytesOf_bytes (r := .deed d) hby (by omega)
      · rcases List.mem_append.mp hx with q | q
        · exact D.fz.ne x q
        · rw [List.mem_singleton.mp q]
          show recB _ ≠ []
          unfold recB
          simp
    have l23 : ListsAt H5 (ps ++ [b]) (g'.log.map fun d => Ue17.body (.deed d)) := by
      show ListsAt H5 (ps ++ [b]) ((g.log ++ [d]).map fun d => Ue17.body (.deed d))
      rw [List.map_append]
      refine ListsAt.snoc ⟨l2.len, fun i p c q1 q2 => ?_⟩ hb5
      have hpx := l3 p (List.mem_of_getElem? q1)
      exact s45 (k3 _ _ (keep2 (l2.at_ i p c q1 q2) rfl) (nrm hpx)) (nfw hpx)
    have g5 : H5 rm = some (.lst (rv (ps ++ [b]))) := by
      have := s45 g3 D.nw
      rw [this, rv_append]
      rfl
    let gm : House := { g' with size := g.size }
    have E5 : EdAt CT CD CE X fl wr rm H5 e gm dk A f2 := ⟨⟨dx, hi5⟩, T5, R2, DK5, Z5, ⟨ps ++ [b], g5, l23, fun p hp => by
      rcases List.mem_append.mp hp with q | q
      · exact l3 p q
      · rw [List.mem_singleton.mp q]; exact nbx⟩, fun d' hd' => by
      have hd' : d' ∈ g.log ++ [d] := hd'
      rcases List.mem_append.mp hd' with q | q
      · exact D.okl d' q
      · rw [List.mem_singleton.mp q]; exact hok, D.rx, D.nf, D.nw⟩
    have g6' : H6 e = some (.ins CE dx (eFt A.a rm dk g')) := by
      rw [g6]
      have : (g.size : Int) + (((Ue17.body (.deed d)).length + 4 : Nat) : Int) = ((g.size + (Ue17.bytesOf (.deed d)).length : Nat) : Int) := by rw [esz]; omega
      exact congrArg (fun z => some (HO.ins CE dx (eF (.ref A.a) (.ref rm) (.ref dk) (.bl g.on) (.bl g.copy.isSome) (nV g.safe) (nV (Ue17.bit g.file)) (nV g.number) (V.int z)))) this
    have E6 : EdAt CT CD CE X fl wr rm H6 e g' dk A f2 := E5.own (g' := g') g6' k6 rfl rfl rfl
    obtain ⟨d6, t6, i6, _, _⟩ := E6.tr.ins
    refine ⟨_, rfl, e, CE, dx, _, _, rfl, g6', T.clE, T.nE_tree, eF_tree, A.a, CT, d6, _, _, rfl, i6, T.clT, T.nT_now, tF_now, ?_⟩
    refine ⟨_, rfl, e, CE, dx, _, _, rfl, g6', T.clE, T.nE_tree, eF_tree, A.a, d6, _, rfl, i6, tF_no_text_now, A, X, f2, _, 41, rfl, E6.tr, R2.wf, by decide, fun tp H7 s7 htp ntp => ?_⟩
    refine ⟨tp, _, rfl, .inl (SqL.of htp), ?_⟩
    have g7 := s7 _ _ g6'
    have i7 := s7 _ _ i6
    refine ⟨_, rfl, e, CE, dx, _, _, rfl, g7, T.clE, T.nE_tree, eF_tree, A.a, CT, d6, _, _, rfl, i7, T.clT, T.nT_deeds, tF_deeds, _, rfl, e, CE, dx, _, _, rfl, g7, T.clE, T.nE_size, eF_size, sz 4 (by decide), ?_⟩
    intro rp nrp; generalize hH_rp : upd _ rp _ = H8; have s8 := snew nrp hH_rp; have hrp := hnew hH_rp; clear hH_rp
    have hfr : ∀ z l, H z = some (.lst l) → z ∉ [fl, wr, rm] → H8 z = some (.lst l) := fun z l hz hn => by
      simp only [List.mem_cons, List.not_mem_nil, or_false, not_or] at hn
      exact s8 _ _ (s7 _ _ (k6 _ _ (s45 (k3 _ _ (keep2 (s1 _ _ hz) rfl) hn.2.2) hn.2.1) (ne_kind (k3 _ _ (keep2 (s1 _ _ hz) rfl) hn.2.2) hi3 (by intro q; cases q))))
    have hI' : INV g' (N + 1) := by
      refine ⟨?_, I.num, fun n _ hn => ?_, ?_, ?_⟩
      · show g.size + (Ue17.bytesOf (.deed d)).length ≤ 5000
        rw [esz]; omega
      · have hn : g.copy = some n := hn
        rw [hn] at hcp; cases hcp
      · show (g.log ++ [d]).length ≤ N + 1
        rw [List.length_append]; simp; omega
      · show (g.disk.cache ++ [_]).length ≤ N + 1 + 1
        rw [List.length_append]; simp; omega
    have E8 := E6.same (s7.trans s8)
    refine k H8 rp X fl wr rm dk A f2 E8 hI' ?_ (fun b hb => .inl hb) (fun b hb => hb) (fun b hb => .inl hb) hfr (.inr ⟨fun m => ?_, fun m => ?_⟩)
    · rw [hrp]
      congr 1
      congr 1
      show _ = av (Ue17.ints [(Ue17.did g.tree d).now, (Ue17.textAt (Ue17.did g.tree d) (Ue17.did g.tree d).now).length, (Ue17.did g.tree d).deeds, g.size + (Ue17.bytesOf (.deed d)).length])
      rw [av_ints, iv_len]
      rfl
    · obtain ⟨l, hl⟩ := (E6.same s7).tr.xl rp m; rw [hl] at nrp; cases nrp
    · have : rp ∈ X := by
        simp only [List.mem_cons, List.not_mem_nil, or_false] at m
        rcases m with q | q | q
        · rw [q]; exact D.dk.ff
        · rw [q]; exact D.dk.fw
        · rw [q]; exact D.rx
      obtain ⟨l, hl⟩ := (E6.same s7).tr.xl rp this; rw [hl] at nrp; cases nrp
end
end TT
end
section
set_option maxHeartbeats 2000000
namespace TT
open PySem PySem.Spec PyProof.Rows L2
open Ue17 (Write Files House Deed)
theorem seen_seen (F : Files) : Ue17.seen (Ue17.seen F) = Ue17.seen F := rfl
theorem bit_not (b : Bool) : (1 : Int) - (Ue17.bit b : Nat) = ((Ue17.bit (!b) : Nat) : Int) := by cases b <;> rfl
theorem INV.settle {g : House} {N : Nat} (I : INV g N) : INV { g with disk := Ue17.seen g.disk, safe := g.tree.deeds } N :=
  ⟨I.size, I.num, fun n h1 h2 => ⟨(I.cpy n h1 h2).1, rfl⟩, I.llen, Nat.zero_le _⟩
/-- the answer handed over -/
theorem edQ.done {CT CD CE : Addr} {X : List Addr} {fl wr rm : Addr} {H : Hp} {e : Addr} {g' : House} {N : Nat} {ans : List Int} {Q : VK} (k : edQ CT CD CE X fl wr rm H e g' N ans Q) {H1 H' : Hp} {p : Addr} {X' : List Addr} {fl' wr' rm' dk' : Addr} {A' : TA} {f' : Nat} {vs : List V}
    (D : EdAt CT CD CE X' fl' wr' rm' H1 e g' dk' A' f') (I : INV g' N) (np : H1 p = none) (s : Same H1 H') (hp : H' p = some (.lst vs)) (ev : vs = av ans) (h1 : ∀ b ∈ X', b ∈ X ∨ H b = none) (h2 : ∀ b ∈ X, b ∈ X') (h3 : ∀ b ∈ [fl', wr', rm'], b ∈ [fl, wr, rm] ∨ H b = none) (h4 : ∀ b l, H b = some (.lst l) → b ∉ [fl, wr, rm] → H1 b = some (.lst l)) : Q (.ref p) H' := by
  have nx := D.fresh np
  refine k H' p X' fl' wr' rm' dk' A' f' (D.same s) I (by rw [hp, ev]) h1 h2 h3 (fun b l hb hn => s _ _ (h4 b l hb hn)) (.inr ⟨nx, fun m => nx ?_⟩)
  simp only [List.mem_cons, List.not_mem_nil, or_false] at m
  rcases m with q | q | q
  · rw [q]; exact D.dk.ff
  · rw [q]; exact D.dk.fw
  · rw [q]; exact D.rx
def spE (CT CD CE : Addr) (R : Hp → List Addr → List V → Ue17.Call → Prop) : Sp := fun vs H Q _ => ∃ (X : List Addr) (fl wr rm e dk : Addr) (g : House) (A : TA) (f N : Nat) (us : List V) (c : Ue17.Call), vs = .ref e :: us ∧ EdAt CT CD CE X fl wr rm H e g dk A f ∧ INV g N ∧ N ≤ 59 ∧ R H X us c ∧ edQ CT CD CE X fl wr rm H e (Ue17.step g c).1 (N + 1) (Ue17.step g c).2 Q
section
variable {P : Program} {w : World} {K : PySem.W.Frag} {mg : Str → Option Value} {base : Heap} {CT CD CE : Addr}
abbrev N_Editor_begin_copy : List Str := ["self", "other", "written"]
theorem sc_Editor_begin_copy : FnScope N_Editor_begin_copy ["self"] (defScope s_Editor_begin_copy) := ⟨rfl, rfl, rfl, by decide +kernel, rfl, by decide +kernel, by decide +kernel⟩
abbrev N_Editor_turn : List Str := ["self"]
theorem sc_Editor_turn : FnScope N_Editor_turn ["self"] (defScope s_Editor_turn) := ⟨rfl, rfl, rfl, by decide +kernel, rfl, by decide +kernel, by decide +kernel⟩
def sp_settle (CT CD CE : Addr) : Sp := fun vs H Q _ => ∃ (X : List Addr) (fl wr rm e dk : Addr) (g : House) (A : TA) (f : Nat), vs = [.ref e] ∧ EdAt CT CD CE X fl wr rm H e g dk A f ∧
  ∀ (H' : Hp) (wr' : Addr), EdAt CT CD CE (wr' :: X) fl wr' rm H' e { g with disk := Ue17.seen g.disk, safe := g.tree.deeds } dk A f → Fr [dk, fl, e] H H' → H wr' = none → Q .non H'
theorem ok_Editor_settle (T : Txt K mg CT CD CE) : C8.Met P w K mg base 3 CE "settle" (sp_settle CT CD CE) [] := by
  refine T.d_Editor_settle.ok T.clE sc_Editor_settle (fun vs H Q E h => ?_) (fun f cdv A outer s H vs Q E hr h => ?_)
  · obtain ⟨X, fl, wr, rm, e, dk, g, A, f, rfl, _⟩ := h
    rfl
  · obtain ⟨X, fl, wr, rm, e, dk, g, A, f, rfl, D, k⟩ := h
    obtain ⟨dx, h1⟩ := D.ins
    obtain ⟨dkx, hdk⟩ := D.dk.ins
    refine ⟨_, (pss_cons (ps_expr (C8.pe_mt0 (ok_Disk_arrive T) hr (by decide) (pe_fld (pv 0) rfl)))
      (pss_one (ps_fld (pv 0) (pe_fld (pe_fld (pv 0) rfl) rfl) rfl))) , ?_⟩
    refine ⟨_, rfl, e, CE, dx, _, _, rfl, h1, T.clE, T.nE_disk, eF_disk, dk, dkx, _, rfl, hdk, dF_no_arrive, X, dk, fl, wr, g.disk, rfl, D.dk, D.fz, fun H1 wr' D1 s1 nw => ?_⟩
    obtain ⟨ps, l1, _, _⟩ := D.lg
    have E1 := D.disk s1 (fun b hb => by
      simp only [List.mem_cons, List.not_mem_nil, or_false] at hb
      rcases hb with q | q
      · exact .inl q
      · exact .inr (.inl q)) D1 D.fz.seen (fun b hb => by
      rcases List.mem_cons.mp hb with q | q
      · rw [q]; exact .inr nw
      · exact .inl q) (fun b hb => List.mem_cons_of_mem _ hb) (fun q => by rw [← q, l1] at nw; cases nw)
    obtain ⟨dx1, h11⟩ := E1.ins
    obtain ⟨d6, t6, i6, _, _⟩ := E1.tr.ins
    refine ⟨_, rfl, e, CE, dx1, _, _, rfl, h11, T.clE, T.nE_tree, eF_tree, A.a, CT, d6, _, _, rfl, i6, T.clT, T.nT_deeds, tF_deeds, _, rfl, e, CE, dx1, _, rfl, h11, T.clE, T.nE_safe, (by show 9 < 1000; decide), ?_⟩
    rw [eF_put_safe]
    generalize hH_ : upd _ e _ = H2; obtain ⟨g2, k2⟩ := ups hH_; clear hH_
    refine k H2 wr' (E1.own (g' := { g with disk := Ue17.seen g.disk, safe := g.tree.deeds }) g2 k2 rfl rfl rfl) ?_ nw
    exact (s1.mono fun b hb => by simp only [List.mem_cons, List.not_mem_nil, or_false] at hb ⊢; rcases hb with q | q <;> simp [q]).trans (Fr.ups k2 (by simp))
theorem EdAt.lists {X : List Addr} {fl wr rm e dk : Addr} {H H' : Hp} {g : House} {A : TA} {f : Nat} (D : EdAt CT CD CE X fl wr rm H e g dk A f) {F : List Addr} (s : Fr F H H') (hF : ∀ b ∈ F, b = dk ∨ b = e ∨ b = fl ∨ b = wr ∨ b = rm ∨ H b = none) : ∀ b l, H b = some (.lst l) → b ∉ [fl, wr, rm] → H' b = some (.lst l) := fun b l hb hn => s _ _ hb fun m => by
  obtain ⟨dx, h1⟩ := D.ins
  obtain ⟨dkx, hdk⟩ := D.dk.ins
  simp only [List.mem_cons, List.not_mem_nil, or_false, not_or] at hn
  rcases hF b m with q | q | q | q | q | q
  · rw [q, hdk] at hb; cases hb
  · rw [q, h1] at hb; cases hb
  · exact hn.1 q
  · exact hn.2.1 q
  · exact hn.2.2 q
  · rw [q] at hb; cases hb
theorem ok_Editor_flush (T : Txt K mg CT CD CE) : C8.Met P w K mg base 4 CE "flush" (spE CT CD CE fun _ _ us c => us = [] ∧ c = .flush) [] := by
  refine T.d_Editor_flush.ok T.clE sc_Editor_flush (fun vs H Q E h => ?_) (fun f cdv A outer s H vs Q E hr h => ?_)
  · obtain ⟨X, fl, wr, rm, e, dk, g, A, f, N, us, c, rfl, _, _, _, ⟨rfl, _⟩, _⟩ := h
    rfl
  · obtain ⟨X, fl, wr, rm, e, dk, g, A, f, N, us, c, rfl, D, I, hN, ⟨rfl, rfl⟩, k⟩ := h
    obtain ⟨dx, h1⟩ := D.ins
    obtain ⟨dkx, hdk⟩ := D.dk.ins
    obtain ⟨ws, h7, h8⟩ := D.dk.wrs
    refine ⟨_, (pss_cons (ps_if (pt_not (pt_val (pe_fld (pv 0) rfl)))
        (pss_one (ps_ret (C8.pe_c (ok_refused T) hr (by decide) (by rfl) (pa_cons (C8.pe_gc (by rfl) T.c_WRONG_POWER) pa_nil))))
        pss_nil)
      (pss_cons (ps_set (i := 1) sc_Editor_flush.nd rfl (Or.inl rfl) (pe_callB call_len_seq (by rfl) T.b_len PySem.boot_len (pa_cons (pe_fld (pe_fld (pv 0) rfl) rfl) pa_nil)))
      (pss_cons (ps_expr (C8.pe_mt0 (ok_Editor_settle T) hr (by decide) (pv 0)))
      (pss_one (ps_ret (pe_lst (pa_cons (pv 1) (pa_cons (pe_fld (pv 0) rfl) pa_nil)))))))) , ?_⟩
    refine ⟨_, rfl, e, CE, dx, _, _, rfl, h1, T.clE, T.nE_powered, eF_powered, _, rfl, itNB (fun c => ?_) (fun c => ?_)⟩
    · have es : Ue17.step g .flush = (g, [-9]) := if_pos c
      rw [es] at k
      exact ⟨9, rfl, ed_no D (I.mono (Nat.le_succ _)) (Same.refl H) k⟩
    have es : Ue17.step g .flush = ({ g with disk := Ue17.seen g.disk, safe := g.tree.deeds }, Ue17.ints [g.disk.cache.length, g.tree.deeds]) := if_neg (by rw [c]; decide)
    rw [es] at k
    refine ⟨_, rfl, e, CE, dx, _, _, rfl, h1, T.clE, T.nE_disk, eF_disk, dk, CD, dkx, _, _, rfl, hdk, T.clD, T.nD_writes, dF_writes, wr, _, rfl, .inl (SqL.of h7), ?_⟩
    refine ⟨_, rfl, e, dx, _, rfl, h1, eF_no_settle, X, fl, wr, rm, e, dk, g, A, f, rfl, D, fun H1 wr' D1 s1 nw => ?_⟩
    obtain ⟨dx1, h11⟩ := D1.ins
    refine ⟨_, rfl, _, rfl, e, CE, dx1, _, _, rfl, h11, T.clE, T.nE_safe, eF_safe, sz 2 (by decide), ?_⟩
    intro p np; generalize hH_p : upd _ p _ = H2; have s2 := snew np hH_p; have hp := hnew hH_p; clear hH_p
    refine k.done D1 (I.settle.mono (Nat.le_succ _)) np s2 hp ?_ (fun b hb => ?_) (fun b hb => List.mem_cons_of_mem _ hb) (fun b hb => ?_) (D.lists s1 fun b hb => ?_)
    · rw [av_ints, rv_len, h8.len]
      rfl
    · rcases List.mem_cons.mp hb with q | q
      · rw [q]; exact .inr nw
      · exact .inl q
    · simp only [List.mem_cons, List.not_mem_nil, or_false] at hb ⊢
      rcases hb with q | q | q
      · exact .inl (.inl q)
      · exact .inr (by rw [q]; exact nw)
      · exact .inl (.inr (.inr q))
    · simp only [List.mem_cons, List.not_mem_nil, or_false] at hb
      rcases hb with q | q | q
      · exact .inl q
      · exact .inr (.inr (.inl q))
      · exact .inr (.inl q)
theorem ok_Editor_lose_power (T : Txt K mg CT CD CE) : C8.Met P w K mg base 3 CE "lose_power" (spE CT CD CE fun H X us c => ∃ m l, us = [.ref m] ∧ H m = some (.lst (iv l)) ∧ m ∉ X ∧ c = .power l) [] := by
  refine T.d_Editor_lose_power.ok T.clE sc_Editor_lose_power (fun vs H Q E h => ?_) (fun f cdv A outer s H vs Q E hr h => ?_)
  · obtain ⟨X, fl, wr, rm, e, dk, g, A, f, N, us, c, rfl, _, _, _, ⟨m, l, rfl, _⟩, _⟩ := h
    rfl
  · obtain ⟨X, fl, wr, rm, e, dk, g, A, f, N, us, c, rfl, D, I, hN, ⟨m, l, rfl, hm, nm, rfl⟩, k⟩ := h
    obtain ⟨dx, h1⟩ := D.ins
    obtain ⟨dkx, hdk⟩ := D.dk.ins
    obtain ⟨ws, h7, h8⟩ := D.dk.wrs
    refine ⟨_, (pss_cons (ps_if (pt_not (pt_val (pe_fld (pv 0) rfl)))
        (pss_one (ps_ret (C8.pe_c (ok_refused T) hr (by decide) (by rfl) (pa_cons (C8.pe_gc (by rfl) T.c_WRONG_POWER) pa_nil))))
        pss_nil)
      (pss_cons (ps_set (i := 2) sc_Editor_lose_power.nd rfl (Or.inl rfl) (pe_callB call_len_seq (by rfl) T.b_len PySem.boot_len (pa_cons (pe_fld (pe_fld (pv 0) rfl) rfl) pa_nil)))
      (pss_cons (ps_expr (C8.pe_mt (ok_Disk_arrive_in_part T) hr (by decide) (pe_fld (pv 0) rfl) (pa_cons (pv 1) pa_nil)))
      (pss_cons (ps_fld (pv 0) pe_bl rfl)
      (pss_one (ps_ret (pe_lst (pa_cons (pv 2) pa_nil)))))))) , ?_⟩
    refine ⟨_, rfl, e, CE, dx, _, _, rfl, h1, T.clE, T.nE_powered, eF_powered, _, rfl, itNB (fun c => ?_) (fun c => ?_)⟩
    · have es : Ue17.step g (.power l) = (g, [-9]) := if_pos c
      rw [es] at k
      exact ⟨9, rfl, ed_no D (I.mono (Nat.le_succ _)) (Same.refl H) k⟩
    have es : Ue17.step g (.power l) = ({ g with disk := Ue17.gone g.disk l, on := false }, Ue17.ints [g.disk.cache.length]) := if_neg (by rw [c]; decide)
    rw [es] at k
    refine ⟨_, rfl, e, CE, dx, _, _, rfl, h1, T.clE, T.nE_disk, eF_disk, dk, CD, dkx, _, _, rfl, hdk, T.clD, T.nD_writes, dF_writes, wr, _, rfl, .inl (SqL.of h7), ?_⟩
    refine ⟨_, rfl, e, CE, dx, _, _, rfl, h1, T.clE, T.nE_disk, eF_disk, dk, dkx, _, rfl, hdk, dF_no_arrive_in_part, _, rfl, X, dk, fl, wr, g.disk, m, l, rfl, D.dk, D.fz, hm, nm, fun H1 wr' D1 s1 nw => ?_⟩
    obtain ⟨ps, l1, _, _⟩ := D.lg
    have E1 := D.disk s1 (fun b hb => by
      simp only [List.mem_cons, List.not_mem_nil, or_false] at hb
      rcases hb with q | q
      · exact .inl q
      · exact .inr (.inl q)) D1 (D.fz.gone l) (fun b hb => by
      rcases List.mem_cons.mp hb with q | q
      · rw [q]; exact .inr nw
      · exact .inl q) (fun b hb => List.mem_cons_of_mem _ hb) (fun q => by rw [← q, l1] at nw; cases nw)
    obtain ⟨dx1, h11⟩ := E1.ins
    refine ⟨_, rfl, e, CE, dx1, _, rfl, h11, T.clE, T.nE_powered, (by show 9 < 1000; decide), ?_⟩
    rw [eF_put_powered]
    generalize hH_ : upd _ e _ = H2; obtain ⟨g2, k2⟩ := ups hH_; clear hH_
    have E2 := E1.own (g' := { g with disk := Ue17.gone g.disk l, on := false }) g2 k2 rfl rfl rfl
    refine ⟨_, rfl, sz 1 (by decide), ?_⟩
    intro p np; generalize hH_p : upd _ p _ = H3; have s3 := snew np hH_p; have hp := hnew hH_p; clear hH_p
    have hI : INV { g with disk := Ue17.gone g.disk l, on := false } (N + 1) := ⟨I.size, I.num, fun n h1 h2 => (by cases h1), Nat.le_succ_of_le I.llen, Nat.zero_le _⟩
    refine k.done E2 hI np s3 hp ?_ (fun b hb => ?_) (fun b hb => List.mem_cons_of_mem _ hb) (fun b hb => ?_) (D.lists ((s1.mono fun b hb => by simp only [List.mem_cons, List.not_mem_nil, or_false] at hb ⊢; rcases hb with q | q <;> simp [q]).trans (Fr.ups (F := [dk, fl, e]) k2 (by simp))) fun b hb => ?_)
    · rw [av_ints, rv_len, h8.len]
      rfl
    · rcases List.mem_cons.mp hb with q | q
      · rw [q]; exact .inr nw
      · exact .inl q
    · simp only [List.mem_cons, List.not_mem_nil, or_false] at hb ⊢
      rcases hb with q | q | q
      · exact .inl (.inl q)
      · exact .inr (by rw [q]; exact nw)
      · exact .inl (.inr (.inr q))
    · simp only [List.mem_cons, List.not_mem_nil, or_false] at hb
      rcases hb with q | q | q
      · exact .inl q
      · exact .inr (.inr (.inl q))
      · exact .inr (.inl q)
end
end TT
end
section
set_option maxHeartbeats 2000000
namespace TT
open PySem PySem.Spec PyProof.Rows L2
open Ue17 (Write Files House Deed)
theorem copyBytes_ne (t : UT) : Ue17.copyBytes t ≠ [] := fun h => by
  have h1 : (Ue17.copyBytes t).length = 0 := by rw [h]; rfl
  unfold Ue17.copyBytes Ue17.copyOf at h1
  rw [List.flatMap_append, List.length_append, List.flatMap_singleton, bytesOf_len] at h1
  omega
theorem head_bytes {n : Nat} (h : n < 65536) : ∀ b ∈ Ue17.head n, b ≤ 255 := fun b hb => by
  have hb : b ∈ [n % 256, n / 256, 255] := hb
  simp only [List.mem_cons, List.not_mem_nil, or_false] at hb
  omega
theorem more_lt (n : Nat) : Ue17.more n < 65536 := by unfold Ue17.more; omega
theorem fileOf_wiped (F : Files) (b : Bool) : Ue17.fileOf (Ue17.wiped F b) b = [] := by cases b <;> rfl
theorem Fz.wiped {F : Files} (Z : Fz F) (b : Bool) : Fz (Ue17.wiped F b) := by
  cases b with
  | false => exact ⟨Nat.zero_le _, Z.lb, fun x hx => (by cases hx), Z.bb, Z.lc, Z.bc, Z.ne⟩
  | true => exact ⟨Z.la, Nat.zero_le _, Z.ba, fun x hx => (by cases hx), Z.lc, Z.bc, Z.ne⟩
theorem Fz.one {F : Files} (Z : Fz F) {x : Write} (h1 : x.2.1 + x.2.2.length ≤ 5000) (h2 : ∀ y ∈ x.2.2, y ≤ 255) (h3 : x.2.2 ≠ []) : Fz { F with cache := [x] } :=
  ⟨Z.la, Z.lb, Z.ba, Z.bb, fun y hy => by rw [List.mem_singleton.mp hy]; exact h1, fun y hy => by rw [List.mem_singleton.mp hy]; exact h2, fun y hy => by rw [List.mem_singleton.mp hy]; exact h3⟩
theorem put_len_new {t : List Nat} {p : Nat} (h : t ≠ []) : (Ue17.put [] p t).length = p + t.length := by
  rw [put_eq h]
  simp
theorem fileOf_copy (F : Files) (b : Bool) {t : List Nat} (h : t ≠ []) : (Ue17.fileOf (Ue17.seen { Ue17.wiped F b with cache := [(b, 3, t)] }) b).length = 3 + t.length := by
  cases b with
  | false => exact put_len_new h
  | true => exact put_len_new h
section
variable {P : Program} {w : World} {K : PySem.W.Frag} {mg : Str → Option Value} {base : Heap} {CT CD CE : Addr}
theorem ok_Editor_spoil (T : Txt K mg CT CD CE) : C8.Met P w K mg base 2 CE "spoil" (spE CT CD CE fun _ _ us c => ∃ b p x, us = [nV (Ue17.bit b), nV p, nV x] ∧ c = .spoil b p x) [] := by
  refine T.d_Editor_spoil.ok T.clE sc_Editor_spoil (fun vs H Q E h => ?_) (fun f cdv A outer s H vs Q E hr h => ?_)
  · obtain ⟨X, fl, wr, rm, e, dk, g, A, f, N, us, c, rfl, _, _, _, ⟨b, p, x, rfl, _⟩, _⟩ := h
    rfl
  · obtain ⟨X, fl, wr, rm, e, dk, g, A, f, N, us, c, rfl, D, I, hN, ⟨b, p, x, rfl, rfl⟩, k⟩ := h
    obtain ⟨dx, h1⟩ := D.ins
    obtain ⟨dkx, hdk⟩ := D.dk.ins
    obtain ⟨f0, f1, fb, h2, h3, h4, h5⟩ := D.dk.file b
    have hfl := fileOf_len D.fz b
    refine ⟨_, (pss_cons (ps_if (pt_val (pe_fld (pv 0) rfl))
        (pss_one (ps_ret (C8.pe_c (ok_refused T) hr (by decide) (by rfl) (pa_cons (C8.pe_gc (by rfl) T.c_WRONG_POWER) pa_nil))))
        pss_nil)
      (pss_cons (ps_if (PW.pt (pw_or (pt_cmpR op_ge (pv 2) (pe_callB call_len_seq (by rfl) T.b_len PySem.boot_len (pa_cons (pe_ix ix_list (pe_fld (pe_fld (pv 0) rfl) rfl) (pv 1) (fun _ _ => rfl)) pa_nil)) (nomark _)) (pw_or1 (pt_cmpR op_gt (pv 3) (C8.pe_gc (by rfl) T.c_HIGHEST_BYTE) (nomark _)))))
        (pss_one (ps_ret (C8.pe_c (ok_refused T) hr (by decide) (by rfl) (pa_cons (C8.pe_gc (by rfl) T.c_BEYOND) pa_nil))))
        pss_nil)
      (pss_cons (ps_set (i := 4) sc_Editor_spoil.nd rfl (Or.inl rfl) (pe_ix ix_list (pe_ix ix_list (pe_fld (pe_fld (pv 0) rfl) rfl) (pv 1) (fun _ _ => rfl)) (pv 2) (fun _ _ => rfl)))
      (pss_cons (ps_expr (C8.pe_mt (ok_Disk_store T) hr (by decide) (pe_fld (pv 0) rfl) (pa_cons (pv 1) (pa_cons (pv 2) (pa_cons (pe_lst (pa_cons (pv 3) pa_nil)) pa_nil)))))
      (pss_one (ps_ret (pe_lst (pa_cons (pv 4) pa_nil)))))))) , ?_⟩
    refine ⟨_, rfl, e, CE, dx, _, _, rfl, h1, T.clE, T.nE_powered, eF_powered, _, rfl, itB (fun c => ?_) (fun c => ?_)⟩
    · have es : Ue17.step g (.spoil b p x) = (g, [-9]) := if_pos c
      rw [es] at k
      exact ⟨9, rfl, ed_no D (I.mono (Nat.le_succ _)) (Same.refl H) k⟩
    have es : Ue17.step g (.spoil b p x) = if (Ue17.fileOf g.disk b).length ≤ p ∨ 255 < x then (g, [-1]) else ({ g with disk := Ue17.written g.disk (b, p, [x]) }, Ue17.ints [(Ue17.fileOf g.disk b).getD p 0]) := if_neg (by rw [c]; decide)
    rw [es] at k
    refine ⟨_, rfl, _, rfl, e, CE, dx, _, _, rfl, h1, T.clE, T.nE_disk, eF_disk, dk, CD, dkx, _, _, rfl, hdk, T.clD, T.nD_files, dF_files, _, rfl, fl, _, _, _, rfl, rfl, SqL.of h2, atI_nat h3, fb, _, rfl, .inl (SqL.of h4), _, _, rfl, rfl, _, rfl, itD (fun c2 => iteT ?_) (fun c2 => ?_)⟩
    · rw [iv_len] at c2
      rw [if_pos (.inl (by omega))] at k
      exact ⟨1, rfl, ed_no D (I.mono (Nat.le_succ _)) (Same.refl H) k⟩
    rw [iv_len] at c2
    refine ⟨_, rfl, _, _, rfl, rfl, _, rfl, itD (fun c3 => ?_) (fun c3 => ?_)⟩
    · have c3 : (255 : Int) < (x : Int) := c3
      rw [if_pos (.inr (by omega))] at k
      exact ⟨1, rfl, ed_no D (I.mono (Nat.le_succ _)) (Same.refl H) k⟩
    have c3 : ¬ (255 : Int) < (x : Int) := c3
    have hp : p < (Ue17.fileOf g.disk b).length := by omega
    rw [if_neg (by omega)] at k
    refine ⟨_, rfl, e, CE, dx, _, _, rfl, h1, T.clE, T.nE_disk, eF_disk, dk, CD, dkx, _, _, rfl, hdk, T.clD, T.nD_files, dF_files, _, rfl, fl, _, _, _, rfl, rfl, SqL.of h2, atI_nat h3, _, rfl, fb, _, _, _, rfl, rfl, SqL.of h4, iv_at (List.getElem?_eq_getElem hp), ?_⟩
    refine ⟨_, rfl, e, CE, dx, _, _, rfl, h1, T.clE, T.nE_disk, eF_disk, dk, dkx, _, rfl, hdk, dF_no_store, _, rfl, _, rfl, _, rfl, sz 1 (by decide), ?_⟩
    intro u nu; generalize hH_u : upd _ u _ = H1; have s1 := snew nu hH_u; have hu := hnew hH_u; clear hH_u
    have D1 := D.same s1
    refine ⟨X, dk, fl, wr, g.disk, b, p, u, [x], rfl, D1.dk, hu, D.fresh nu, (by simp), by omega, by show p + 1 ≤ 20000; omega, fun H2 D2 s2 => ?_⟩
    have E2 := D1.disk s2 (fun z hz => .inr (.inl (List.mem_singleton.mp hz))) D2 (D.fz.written (by show p + 1 ≤ 5000; omega) (fun y hy => by rw [List.mem_singleton.mp hy]; omega)) (fun z hz => .inl hz) (fun z hz => hz) D.nw
    refine ⟨_, rfl, sz 1 (by decide), ?_⟩
    intro q nq; generalize hH_q : upd _ q _ = H3; have s3 := snew nq hH_q; have hq := hnew hH_q; clear hH_q
    have hI : INV { g with disk := Ue17.written g.disk (b, p, [x]) } (N + 1) := ⟨I.size, I.num, fun n z1 z2 => absurd (show g.on = true from z1) (by rw [c]; decide), Nat.le_succ_of_le I.llen, by show (Ue17.written g.disk (b, p, [x])).cache.length ≤ _; rw [written_cache]; have := I.clen; omega⟩
    refine k.done E2 hI nq s3 hq ?_ (fun z hz => .inl hz) (fun z hz => hz) (fun z hz => .inl hz) (D.lists ((Fr.of s1).trans s2) fun z hz => .inr (.inr (.inl (List.mem_singleton.mp hz))))
    rw [av_ints, List.getD_eq_getElem?_getD, List.getElem?_eq_getElem hp]
    rfl
theorem ok_Editor_begin_copy (T : Txt K mg CT CD CE) : C8.Met P w K mg base 4 CE "begin_copy" (spE CT CD CE fun _ _ us c => us = [] ∧ c = .copy) [] := by
  refine T.d_Editor_begin_copy.ok T.clE sc_Editor_begin_copy (fun vs H Q E h => ?_) (fun f cdv A outer s H vs Q E hr h => ?_)
  · obtain ⟨X, fl, wr, rm, e, dk, g, A, f, N, us, c, rfl, _, _, _, ⟨rfl, _⟩, _⟩ := h
    rfl
  · obtain ⟨X, fl, wr, rm, e, dk, g, A, f, N, us, c, rfl, D, I, hN, ⟨rfl, rfl⟩, k⟩ := h
    obtain ⟨dx, h1⟩ := D.ins
    refine ⟨_, (pss_cons (ps_if (pt_not (pt_val (pe_fld (pv 0) rfl)))
        (pss_one (ps_ret (C8.pe_c (ok_refused T) hr (by decide) (by rfl) (pa_cons (C8.pe_gc (by rfl) T.c_WRONG_POWER) pa_nil))))
        pss_nil)
      (pss_cons (ps_if (pt_val (pe_fld (pv 0) rfl))
        (pss_one (ps_ret (C8.pe_c (ok_refused T) hr (by decide) (by rfl) (pa_cons (C8.pe_gc (by rfl) T.c_NOT_NOW) pa_nil))))
        pss_nil)
      (pss_cons (ps_expr (C8.pe_mt0 (ok_Editor_settle T) hr (by decide) (pv 0)))
      (pss_cons (ps_set (i := 1) sc_Editor_begin_copy.nd rfl (Or.inl rfl) (pe_op op_sub pe_int (pe_fld (pv 0) rfl)))
      (pss_cons (ps_expr (C8.pe_mt (ok_Disk_wipe T) hr (by decide) (pe_fld (pv 0) rfl) (pa_cons (pv 1) pa_nil)))
      (pss_cons (ps_set (i := 2) sc_Editor_begin_copy.nd rfl (Or.inl rfl) (C8.pe_c (ok_copy_of T) hr (by decide) (by rfl) (pa_cons (pe_fld (pv 0) rfl) pa_nil)))
      (pss_cons (ps_expr (C8.pe_mt (ok_Disk_send T) hr (by decide) (pe_fld (pv 0) rfl) (pa_cons (pv 1) (pa_cons (C8.pe_gc (by rfl) T.c_HEAD_SIZE) (pa_cons (pv 2) pa_nil)))))
      (pss_cons (ps_fld (pv 0) pe_bl rfl)
      (pss_one (ps_ret (pe_lst (pa_cons (pe_op op_add (C8.pe_gc (by rfl) T.c_HEAD_SIZE) (pe_callB call_len_seq (by rfl) T.b_len PySem.boot_len (pa_cons (pv 2) pa_nil))) pa_nil)))))))))))) , ?_⟩
    refine ⟨_, rfl, e, CE, dx, _, _, rfl, h1, T.clE, T.nE_powered, eF_powered, _, rfl, itNB (fun c => ?_) (fun c => ?_)⟩
    · have es : Ue17.step g .copy = (g, [-9]) := if_pos c
      rw [es] at k
      exact ⟨9, rfl, ed_no D (I.mono (Nat.le_succ _)) (Same.refl H) k⟩
    refine ⟨_, rfl, e, CE, dx, _, _, rfl, h1, T.clE, T.nE_copying, eF_copying, _, rfl, itB (fun c2 => ?_) (fun c2 => ?_)⟩
    · have es : Ue17.step g .copy = (g, [-8]) := (if_neg (by rw [c]; decide)).trans (if_pos c2)
      rw [es] at k
      exact ⟨8, rfl, ed_no D (I.mono (Nat.le_succ _)) (Same.refl H) k⟩
    have es : Ue17.step g .copy = ({ g with disk := { Ue17.wiped (Ue17.seen g.disk) (!g.file) with cache := [(!g.file, 3, Ue17.copyBytes g.tree)] }, safe := g.tree.deeds, copy := some (3 + (Ue17.copyBytes g.tree).length) }, Ue17.ints [3 + (Ue17.copyBytes g.tree).length]) := (if_neg (by rw [c]; decide)).trans (if_neg (by rw [c2]; decide))
    rw [es] at k
    refine ⟨_, rfl, e, dx, _, rfl, h1, eF_no_settle, X, fl, wr, rm, e, dk, g, A, f, rfl, D, fun H1 wr' E1 s1 nw => ?_⟩
    obtain ⟨dx1, h11⟩ := E1.ins
    refine ⟨_, rfl, e, CE, dx1, _, _, rfl, h11, T.clE, T.nE_used, eF_used, _, _, rfl, rfl, ?_⟩
    obtain ⟨dk1, i1⟩ := E1.dk.ins
    refine ⟨_, rfl, e, CE, dx1, _, _, rfl, h11, T.clE, T.nE_disk, eF_disk, dk, dk1, _, rfl, i1, dF_no_wipe, _, rfl, wr' :: X, dk, fl, wr', _, !g.file, congrArg (fun z => [V.ref dk, V.int z]) (bit_not g.file), E1.dk, fun H2 D2 s2 => ?_⟩
    have E2 := E1.disk s2 (fun z hz => .inr (.inl (List.mem_singleton.mp hz))) D2 (E1.fz.wiped _) (fun z hz => .inl hz) (fun z hz => hz) E1.nw
    obtain ⟨dx2, h12⟩ := E2.ins
    refine ⟨_, rfl, e, CE, dx2, _, _, rfl, h12, T.clE, T.nE_tree, eF_tree, A, wr' :: X, f, g.tree, rfl, E2.tr, D.rt.cp, fun cp H3 ncp s3 hcp => ?_⟩
    have E3 := E2.same s3
    obtain ⟨dx3, h13⟩ := E3.ins
    obtain ⟨dk3, i3⟩ := E3.dk.ins
    have hcl := copy_len D.rt.cp
    refine ⟨_, rfl, e, CE, dx3, _, _, rfl, h13, T.clE, T.nE_disk, eF_disk, dk, dk3, _, rfl, i3, dF_no_send, _, rfl, _, rfl, wr' :: X, dk, fl, wr', _, !g.file, 3, cp, Ue17.copyBytes g.tree, congrArg (fun z => [V.ref dk, V.int z, V.int 3, V.ref cp]) (bit_not g.file), E3.dk, hcp, E2.fresh ncp, (by cases g.file <;> exact Nat.zero_le _), fun H4 D4 s4 => ?_⟩
    have D4 : DiskAt CD (wr' :: X) H4 dk fl wr' { Ue17.wiped (Ue17.seen g.disk) (!g.file) with cache := [(!g.file, 3, Ue17.copyBytes g.tree)] } := by
      cases hq : g.file <;> rw [hq] at D4 <;> exact D4
    have Z4 : Fz { Ue17.wiped (Ue17.seen g.disk) (!g.file) with cache := [(!g.file, 3, Ue17.copyBytes g.tree)] } := (D.fz.seen.wiped (!g.file)).one (by show 3 + (Ue17.copyBytes g.tree).length ≤ 5000; omega) (copy_bytes D.rt) (copyBytes_ne _)
    have E4 := E3.disk s4 (fun z hz => .inr (.inr (List.mem_singleton.mp hz))) D4 Z4 (fun z hz => .inl hz) (fun z hz => hz) E3.nw
    obtain ⟨dx4, h14⟩ := E4.ins
    refine ⟨_, rfl, e, CE, dx4, _, rfl, h14, T.clE, T.nE_copying, (by show 9 < 1000; decide), ?_⟩
    rw [eF_put_copying]
    generalize hH_ : upd _ e _ = H5; obtain ⟨g5, k5⟩ := ups hH_; clear hH_
    have E5 := E4.own (g' := { g with disk := { Ue17.wiped (Ue17.seen g.disk) (!g.file) with cache := [(!g.file, 3, Ue17.copyBytes g.tree)] }, safe := g.tree.deeds, copy := some (3 + (Ue17.copyBytes g.tree).length) }) g5 k5 rfl rfl rfl
    have ncw : cp ≠ wr' := fun q => E2.fresh ncp (by rw [q]; exact List.mem_cons_self ..)
    have nce : cp ≠ e := ne_kind (s4 _ _ hcp (by simp [ncw])) h14 (by intro q; cases q)
    have hcp5 := k5 _ _ (s4 _ _ hcp (by simp [ncw])) nce
    refine ⟨_, rfl, cp, _, rfl, .inl (SqL.of hcp5), _, _, rfl, rfl, sz 1 (by decide), ?_⟩
    intro p np; generalize hH_p : upd _ p _ = H6; have s6 := snew np hH_p; have hp := hnew hH_p; clear hH_p
    have hI : INV { g with disk := { Ue17.wiped (Ue17.seen g.disk) (!g.file) with cache := [(!g.file, 3, Ue17.copyBytes g.tree)] }, safe := g.tree.deeds, copy := some (3 + (Ue17.copyBytes g.tree).length) } (N + 1) :=
      ⟨I.size, I.num, fun n z1 z2 => ⟨by rw [← Option.some.inj z2]; exact (fileOf_copy _ _ (copyBytes_ne _)).symm, rfl⟩, Nat.le_succ_of_le I.llen, by show 1 ≤ N + 1 + 1; omega⟩
    have sF : Fr [dk, fl, e, wr'] H H5 := (s1.mono fun b hb => by simp only [List.mem_cons, List.not_mem_nil, or_false] at hb ⊢; rcases hb with q | q | q <;> simp [q]).trans ((s2.mono fun b hb => by rw [List.mem_singleton.mp hb]; simp).trans ((Fr.of s3).trans ((s4.mono fun b hb => by rw [List.mem_singleton.mp hb]; simp).trans (Fr.ups k5 (by simp)))))
    refine k.done E5 hI np s6 hp ?_ (fun b hb => ?_) (fun b hb => List.mem_cons_of_mem _ hb) (fun b hb => ?_) (D.lists sF fun b hb => ?_)
    · rw [av_ints, iv_len]
      show [V.int _] = [V.int _]
      congr 2
    · rcases List.mem_cons.mp hb with q | q
      · rw [q]; exact .inr nw
      · exact .inl q
    · simp only [List.mem_cons, List.not_mem_nil, or_false] at hb ⊢
      rcases hb with q | q | q
      · exact .inl (.inl q)
      · exact .inr (by rw [q]; exact nw)
      · exact .inl (.inr (.inr q))
    · simp only [List.mem_cons, List.not_mem_nil, or_false] at hb
      rcases hb with q | q | q | q
      · exact .inl q
      · exact .inr (.inr (.inl q))
      · exact .inr (.inl q)
      · exact .inr (.inr (.inr (.inr (.inr (by rw [q]; exact nw)))))
theorem ok_Editor_turn (T : Txt K mg CT CD CE) : C8.Met P w K mg base 4 CE "turn" (spE CT CD CE fun _ _ us c => us = [] ∧ c = .turn) [] := by
  refine T.d_Editor_turn.ok T.clE sc_Editor_turn (fun vs H Q E h => ?_) (fun f cdv A outer s H vs Q E hr h => ?_)
  · obtain ⟨X, fl, wr, rm, e, dk, g, A, f, N, us, c, rfl, _, _, _, ⟨rfl, _⟩, _⟩ := h
    rfl
  · obtain ⟨X, fl, wr, rm, e, dk, g, A, f, N, us, c, rfl, D, I, hN, ⟨rfl, rfl⟩, k⟩ := h
    obtain ⟨dx, h1⟩ := D.ins
    refine ⟨_, (pss_cons (ps_if (pt_not (pt_val (pe_fld (pv 0) rfl)))
        (pss_one (ps_ret (C8.pe_c (ok_refused T) hr (by decide) (by rfl) (pa_cons (C8.pe_gc (by rfl) T.c_WRONG_POWER) pa_nil))))
        pss_nil)
      (pss_cons (ps_if (pt_not (pt_val (pe_fld (pv 0) rfl)))
        (pss_one (ps_ret (C8.pe_c (ok_refused T) hr (by decide) (by rfl) (pa_cons (C8.pe_gc (by rfl) T.c_NOT_NOW) pa_nil))))
        pss_nil)
      (pss_cons (ps_expr (C8.pe_mt0 (ok_Editor_settle T) hr (by decide) (pv 0)))
      (pss_cons (ps_fld (pv 0) (pe_op op_sub pe_int (pe_fld (pv 0) rfl)) rfl)
      (pss_cons (ps_fld (pv 0) (C8.pe_c (ok_number_behind T) hr (by decide) (by rfl) (pa_cons (pe_fld (pv 0) rfl) pa_nil)) rfl)
      (pss_cons (ps_fld (pv 0) (pe_callB call_len_seq (by rfl) T.b_len PySem.boot_len (pa_cons (pe_ix ix_list (pe_fld (pe_fld (pv 0) rfl) rfl) (pe_fld (pv 0) rfl) (fun _ _ => rfl)) pa_nil)) rfl)
      (pss_cons (ps_expr (C8.pe_mt (ok_Disk_send T) hr (by decide) (pe_fld (pv 0) rfl) (pa_cons (pe_fld (pv 0) rfl) (pa_cons pe_int (pa_cons (C8.pe_c (ok_head T) hr (by decide) (by rfl) (pa_cons (pe_fld (pv 0) rfl) pa_nil)) pa_nil)))))
      (pss_cons (ps_fld (pv 0) pe_bl rfl)
      (pss_one (ps_ret (pe_lst (pa_cons (pe_fld (pv 0) rfl) pa_nil)))))))))))) , ?_⟩
    refine ⟨_, rfl, e, CE, dx, _, _, rfl, h1, T.clE, T.nE_powered, eF_powered, _, rfl, itNB (fun c => ?_) (fun c => ?_)⟩
    · have es : Ue17.step g .turn = (g, [-9]) := if_pos c
      rw [es] at k
      exact ⟨9, rfl, ed_no D (I.mono (Nat.le_succ _)) (Same.refl H) k⟩
    have es : Ue17.step g .turn = match g.copy with
      | none => (g, [-8])
      | some n => ({ g with disk := { Ue17.seen g.disk with cache := [(!g.file, 0, Ue17.head (Ue17.more g.number))] }, file := !g.file, number := Ue17.more g.number, size := n, copy := none }, Ue17.ints [n]) := if_neg (by rw [c]; decide)
    refine ⟨_, rfl, e, CE, dx, _, _, rfl, h1, T.clE, T.nE_copying, eF_copying, _, rfl, itNB (fun c2 => ?_) (fun c2 => ?_)⟩
    · have hcn : g.copy = none := by cases hq : g.copy with | none => rfl | some n => rw [hq] at c2; cases c2
      have es : Ue17.step g .turn = (g, [-8]) := by rw [es, hcn]
      rw [es] at k
      exact ⟨8, rfl, ed_no D (I.mono (Nat.le_succ _)) (Same.refl H) k⟩
    obtain ⟨n, hcn⟩ := Option.isSome_iff_exists.mp c2
    obtain ⟨hn, hsafe⟩ := I.cpy n c hcn
    let G : Files := { Ue17.seen g.disk with cache := [(!g.file, 0, Ue17.head (Ue17.more g.number))] }
    have es : Ue17.step g .turn = ({ g with disk := G, safe := g.tree.deeds, file := !g.file, number := Ue17.more g.number, size := (Ue17.fileOf (Ue17.seen g.disk) (!g.file)).length, copy := none }, Ue17.ints [(Ue17.fileOf (Ue17.seen g.disk) (!g.file)).length]) := by
      rw [es, hcn, ← hsafe, ← hn]
    rw [es] at k
    refine ⟨_, rfl, e, dx, _, rfl, h1, eF_no_settle, X, fl, wr, rm, e, dk, g, A, f, rfl, D, fun H1 wr' E1 s1 nw => ?_⟩
    obtain ⟨dx1, h11⟩ := E1.ins
    refine ⟨_, rfl, e, CE, dx1, _, _, rfl, h11, T.clE, T.nE_used, eF_used, _, _, rfl, rfl, _, rfl, e, CE, dx1, _, rfl, h11, T.clE, T.nE_used, (by show 9 < 1000; decide), ?_⟩
    rw [eF_put_used]
    generalize hH_ : upd _ e _ = H2; obtain ⟨g2, k2⟩ := ups hH_; clear hH_
    have g2 : H2 e = some (.ins CE dx1 (eFt A.a rm dk { g with disk := Ue17.seen g.disk, safe := g.tree.deeds, file := !g.file })) := by
      rw [g2]
      exact congrArg (fun z => some (HO.ins CE dx1 (eF (.ref A.a) (.ref rm) (.ref dk) (.bl g.on) (.bl g.copy.isSome) (nV g.tree.deeds) (V.int z) (nV g.number) (nV g.size)))) (bit_not _)
    have E2 := E1.own (g' := { g with disk := Ue17.seen g.disk, safe := g.tree.deeds, file := !g.file }) g2 k2 rfl rfl rfl
    refine ⟨_, rfl, e, CE, dx1, _, _, rfl, g2, T.clE, T.nE_number, eF_number, g.number, rfl, _, rfl, e, CE, dx1, _, rfl, g2, T.clE, T.nE_number, (by show 9 < 1000; decide), ?_⟩
    rw [eF_put_number]
    generalize hH_ : upd _ e _ = H3; obtain ⟨g3, k3⟩ := ups hH_; clear hH_
    have E3 := E2.own (g' := { g with disk := Ue17.seen g.disk, safe := g.tree.deeds, file := !g.file, number := Ue17.more g.number }) g3 k3 rfl rfl rfl
    obtain ⟨dk3, i3⟩ := E3.dk.ins
    obtain ⟨f0, f1, fb, z2, z3, z4, z5⟩ := E3.dk.file (!g.file)
    refine ⟨_, rfl, e, CE, dx1, _, _, rfl, g3, T.clE, T.nE_disk, eF_disk, dk, CD, dk3, _, _, rfl, i3, T.clD, T.nD_files, dF_files, _, rfl, e, CE, dx1, _, _, rfl, g3, T.clE, T.nE_used, eF_used, fl, _, _, _, rfl, rfl, SqL.of z2, atI_nat z3, fb, _, rfl, .inl (SqL.of z4), _, rfl, e, CE, dx1, _, rfl, g3, T.clE, T.nE_size, (by show 9 < 1000; decide), ?_⟩
    rw [eF_put_size, iv_len]
    generalize hH_ : upd _ e _ = H4; obtain ⟨g4, k4⟩ := ups hH_; clear hH_
    have E4 := E3.own (g' := { g with disk := Ue17.seen g.disk, safe := g.tree.deeds, file := !g.file, number := Ue17.more g.number, size := (Ue17.fileOf (Ue17.seen g.disk) (!g.file)).length }) g4 k4 rfl rfl rfl
    obtain ⟨dk4, i4⟩ := E4.dk.ins
    refine ⟨_, rfl, e, CE, dx1, _, _, rfl, g4, T.clE, T.nE_disk, eF_disk, dk, dk4, _, rfl, i4, dF_no_send, _, rfl, e, CE, dx1, _, _, rfl, g4, T.clE, T.nE_used, eF_used, _, rfl, e, CE, dx1, _, _, rfl, g4, T.clE, T.nE_number, eF_number, Ue17.more g.number, rfl, fun hd H5 nhd s5 hhd => ?_⟩
    have E5 := E4.same s5
    refine ⟨wr' :: X, dk, fl, wr', _, !g.file, 0, hd, Ue17.head (Ue17.more g.number), rfl, E5.dk, hhd, E4.fresh nhd, Nat.zero_le _, fun H6 D6 s6 => ?_⟩
    have Z6 : Fz G := D.fz.seen.one (by show 0 + 3 ≤ 5000; decide) (head_bytes (more_lt _)) (by intro q; cases q)
    have E6 := E5.disk (G := G) s6 (fun z hz => .inr (.inr (List.mem_singleton.mp hz))) D6 Z6 (fun z hz => .inl hz) (fun z hz => hz) E5.nw
    obtain ⟨dx6, h16⟩ := E6.ins
    refine ⟨_, rfl, e, CE, dx6, _, rfl, h16, T.clE, T.nE_copying, (by show 9 < 1000; decide), ?_⟩
    rw [eF_put_copying]
    generalize hH_ : upd _ e _ = H7; obtain ⟨g7, k7⟩ := ups hH_; clear hH_
    have E7 := E6.own (g' := { g with disk := G, safe := g.tree.deeds, file := !g.file, number := Ue17.more g.number, size := (Ue17.fileOf (Ue17.seen g.disk) (!g.file)).length, copy := none }) g7 k7 rfl rfl rfl
    refine ⟨_, rfl, e, CE, dx6, _, _, rfl, g7, T.clE, T.nE_size, eF_size, sz 1 (by decide), ?_⟩
    intro p np; generalize hH_p : upd _ p _ = H8; have s8 := snew np hH_p; have hp := hnew hH_p; clear hH_p
    have hI : INV { g with disk := G, safe := g.tree.deeds, file := !g.file, number := Ue17.more g.number, size := (Ue17.fileOf (Ue17.seen g.disk) (!g.file)).length, copy := none } (N + 1) :=
      ⟨fileOf_len D.fz.seen _, more_lt _, fun n z1 z2 => (by cases z2), Nat.le_succ_of_le I.llen, by show 1 ≤ N + 1 + 1; omega⟩
    have sF : Fr [dk, fl, e, wr'] H H7 := (s1.mono fun b hb => by simp only [List.mem_cons, List.not_mem_nil, or_false] at hb ⊢; rcases hb with q | q | q <;> simp [q]).trans ((Fr.ups k2 (by simp)).trans ((Fr.ups k3 (by simp)).trans ((Fr.ups k4 (by simp)).trans ((Fr.of s5).trans ((s6.mono fun b hb => by rw [List.mem_singleton.mp hb]; simp).trans (Fr.ups k7 (by simp)))))))
    refine k.done E7 hI np s8 hp ?_ (fun b hb => ?_) (fun b hb => List.mem_cons_of_mem _ hb) (fun b hb => ?_) (D.lists sF fun b hb => ?_)
    · rw [av_ints]
      rfl
    · rcases List.mem_cons.mp hb with q | q
      · rw [q]; exact .inr nw
      · exact .inl q
    · simp only [List.mem_cons, List.not_mem_nil, or_false] at hb ⊢
      rcases hb with q | q | q
      · exact .inl (.inl q)
      · exact .inr (by rw [q]; exact nw)
      · exact .inl (.inr (.inr q))
    · simp only [List.mem_cons, List.not_mem_nil, or_false] at hb
      rcases hb with q | q | q | q
      · exact .inl q
      · exact .inr (.inr (.inl q))
      · exact .inr (.inl q)
      · exact .inr (.inr (.inr (.inr (.inr (by rw [q]; exact nw)))))
end
end TT
end
section
set_option maxHeartbeats 2000000
namespace TT
open PySem PySem.Spec PyProof.Rows L2
open Ue17 (Write Files House Deed)
theorem TreeAt.grow {C : Addr} {X Y : List Addr} {H H0 : Hp} {A : TA} {f : Nat} {t : UT} (T0 : TreeAt C X H0 A f t) (s : Same H0 H) (hY : ∀ b ∈ Y, b ∈ X ∨ H0 b = none) (hl : ∀ b ∈ Y, ∃ l, H b = some (.lst l)) : TreeAt C Y H A f t := by
  obtain ⟨dx, tx, h1, h2, h3⟩ := T0.ins
  obtain ⟨ca, h4, h5⟩ := T0.ch
  have n : ∀ {b o}, H0 b = some o → b ∉ X → b ∉ Y := fun {b o} hb hx m => by
    rcases hY b m with q | q
    · exact hx q
    · rw [hb] at q; cases q
  exact ⟨⟨dx, tx, s _ _ h1, s _ _ h2, n h2 h3⟩, s _ _ T0.pa, ⟨ca, s _ _ h4, ⟨fun x hx q => s _ _ (h5.tup x hx q), fun x hx q => ⟨s _ _ (h5.lst x hx q).1, n (h5.lst x hx q).1 (h5.lst x hx q).2⟩⟩⟩, s _ _ T0.ke, s _ _ T0.ps, T0.ap, hl⟩
theorem found_read {F : Files} {b : Bool} {n : Nat} {t : UT} (h : Ue17.found F = some (b, n, t)) : Ue17.fileRead (Ue17.fileOf F b) = some (n, t) := by
  unfold Ue17.found at h
  cases h1 : Ue17.fileRead F.a with
  | none =>
    cases h2 : Ue17.fileRead F.b with
    | none => rw [h1, h2] at h; cases h
    | some y =>
      rw [h1, h2] at h
      have h : some (true, y) = some (b, n, t) := h
      injection h with h
      injection h with e1 e2
      rw [← e1, ← e2]
      exact h2
  | some x =>
    cases h2 : Ue17.fileRead F.b with
    | none =>
      rw [h1, h2] at h
      have h : some (false, x) = some (b, n, t) := h
      injection h with h
      injection h with e1 e2
      rw [← e1, ← e2]
      exact h1
    | some y =>
      rw [h1, h2] at h
      have h : (if x.1 < y.1 then some (true, y) else some (false, x)) = some (b, n, t) := h
      split at h
      · injection h with h
        injection h with e1 e2
        rw [← e1, ← e2]
        exact h2
      · injection h with h
        injection h with e1 e2
        rw [← e1, ← e2]
        exact h1
theorem cut_rv (l : List Addr) (j : Nat) : cutV (rv l) none (some (j : Int)) = rv (l.take j) := by
  rw [cut_to]
  exact (List.map_take).symm
section
variable {P : Program} {w : World} {K : PySem.W.Frag} {mg : Str → Option Value} {base : Heap} {CT CD CE : Addr}
abbrev N_Editor_use_new_file : List Str := ["self", "which", "number", "written"]
theorem sc_Editor_use_new_file : FnScope N_Editor_use_new_file ["self", "which", "number"] (defScope s_Editor_use_new_file) := ⟨rfl, rfl, rfl, by decide +kernel, rfl, by decide +kernel, by decide +kernel⟩
abbrev N_Editor_start_anew : List Str := ["self", "found", "written"]
theorem sc_Editor_start_anew : FnScope N_Editor_start_anew ["self"] (defScope s_Editor_start_anew) := ⟨rfl, rfl, rfl, by decide +kernel, rfl, by decide +kernel, by decide +kernel⟩
abbrev N_Editor___init__ : List Str := ["self"]
theorem sc_Editor___init__ : FnScope N_Editor___init__ ["self"] (defScope s_Editor___init__) := ⟨rfl, rfl, rfl, by decide +kernel, rfl, by decide +kernel, by decide +kernel⟩
def sp_use (CT CD CE : Addr) : Sp := fun vs H Q _ => ∃ (X : List Addr) (fl wr e dk dx : Addr) (fs : List (Str × V)) (A : TA) (f : Nat) (t : UT) (b : Bool) (n : Nat) (F : Files), vs = [.ref e, nV (Ue17.bit b), nV n] ∧ H e = some (.ins CE dx fs) ∧ fs.lookup ("tree" : Str) = some (.ref A.a) ∧ fs.lookup ("disk" : Str) = some (.ref dk) ∧ fs.length < 1000 ∧ (∀ u, (putF "used" u fs).length < 1000) ∧ (∀ u v, (putF "number" v (putF "used" u fs)).length < 1000) ∧ TreeAt CT X H A f t ∧ Cp f t ∧ DiskAt CD X H dk fl wr F ∧ e ≠ dk ∧
  ∀ H', H' e = some (.ins CE dx (putF "size" (nV (Ue17.head n ++ Ue17.copyBytes t).length) (putF "number" (nV n) (putF "used" (nV (Ue17.bit b)) fs)))) → DiskAt CD X H' dk fl wr (Ue17.written (Ue17.wiped F b) (b, 0, Ue17.head n ++ Ue17.copyBytes t)) → Fr [fl, e] H H' → Q .non H'
theorem ok_Editor_use_new_file (T : Txt K mg CT CD CE) : C8.Met P w K mg base 4 CE "use_new_file" (sp_use CT CD CE) [] := by
  refine T.d_Editor_use_new_file.ok T.clE sc_Editor_use_new_file (fun vs H Q E h => ?_) (fun f cdv A outer s H vs Q E hr h => ?_)
  · obtain ⟨X, fl, wr, e, dk, dx, fs, A, f, t, b, n, F, rfl, _⟩ := h
    rfl
  · obtain ⟨X, fl, wr, e, dk, dx, fs, A, f, t, b, n, F, rfl, h1, ht, hd, l0, l1, l2, TA0, C0, D, ned, k⟩ := h
    refine ⟨_, (pss_cons (ps_set (i := 3) sc_Editor_use_new_file.nd rfl (Or.inl rfl) (C8.pe_c (ok_new_file T) hr (by decide) (by rfl) (pa_cons (pv 2) (pa_cons (pe_fld (pv 0) rfl) pa_nil))))
      (pss_cons (ps_expr (C8.pe_mt (ok_Disk_wipe T) hr (by decide) (pe_fld (pv 0) rfl) (pa_cons (pv 1) pa_nil)))
      (pss_cons (ps_expr (C8.pe_mt (ok_Disk_store T) hr (by decide) (pe_fld (pv 0) rfl) (pa_cons (pv 1) (pa_cons pe_int (pa_cons (pv 3) pa_nil)))))
      (pss_cons (ps_fld (pv 0) (pv 1) rfl)
      (pss_cons (ps_fld (pv 0) (pv 2) rfl)
      (pss_one (ps_fld (pv 0) (pe_callB call_len_seq (by rfl) T.b_len PySem.boot_len (pa_cons (pv 3) pa_nil)) rfl))))))) , ?_⟩
    refine ⟨_, rfl, _, rfl, e, CE, dx, _, _, rfl, h1, T.clE, T.nE_tree, ht, n, A, X, f, t, rfl, TA0, C0, fun wn H1 nwn s1 hwn => ?_⟩
    have D1 := D.same s1
    obtain ⟨dkx, i1⟩ := D1.ins
    refine ⟨_, rfl, e, CE, dx, _, _, rfl, s1 _ _ h1, T.clE, T.nE_disk, hd, dk, dkx, _, rfl, i1, dF_no_wipe, _, rfl, X, dk, fl, wr, F, b, rfl, D1, fun H2 D2 s2 => ?_⟩
    have efl : e ≠ fl := fun q => by obtain ⟨l, hl⟩ := D.xl fl D.ff; rw [← q, h1] at hl; cases hl
    have ewr : e ≠ wr := fun q => by obtain ⟨l, hl⟩ := D.xl wr D.fw; rw [← q, h1] at hl; cases hl
    have wfl : wn ≠ fl := fun q => D.fresh nwn (by rw [q]; exact D.ff)
    have wne : wn ≠ e := fun q => by rw [q, h1] at nwn; cases nwn
    have h12 := s2 _ _ (s1 _ _ h1) (by simp [efl])
    have hw2 := s2 _ _ hwn (by simp [wfl])
    obtain ⟨dk2, i2⟩ := D2.ins
    have hcl := copy_len C0
    have hne : Ue17.head n ++ Ue17.copyBytes t ≠ [] := by intro q; cases q
    refine ⟨_, rfl, e, CE, dx, _, _, rfl, h12, T.clE, T.nE_disk, hd, dk, dk2, _, rfl, i2, dF_no_store, _, rfl, _, rfl, X, dk, fl, wr, _, b, 0, wn, _, rfl, D2, hw2, D.fresh nwn, hne, by rw [fileOf_wiped]; exact Nat.zero_le _, by rw [List.length_append]; show 0 + (3 + _) ≤ _; omega, fun H3 D3 s3 => ?_⟩
    have h13 := s3 _ _ h12 (by simp [efl])
    have hw3 := s3 _ _ hw2 (by simp [wfl])
    refine ⟨_, rfl, _, rfl, e, CE, dx, _, rfl, h13, T.clE, T.nE_used, l0, ?_⟩
    generalize hH_ : upd _ e _ = H4; obtain ⟨g4, k4⟩ := ups hH_; clear hH_
    refine ⟨_, rfl, _, rfl, e, CE, dx, _, rfl, g4, T.clE, T.nE_number, l1 _, ?_⟩
    generalize hH_ : upd _ e _ = H5; obtain ⟨g5, k5⟩ := ups hH_; clear hH_
    have hw5 := k5 _ _ (k4 _ _ hw3 wne) wne
    refine ⟨_, rfl, wn, _, rfl, .inl (SqL.of hw5), _, rfl, e, CE, dx, _, rfl, g5, T.clE, T.nE_size, l2 _ _, ?_⟩
    generalize hH_ : upd _ e _ = H6; obtain ⟨g6, k6⟩ := ups hH_; clear hH_
    rw [iv_len] at g6
    have sE : Fr [e] H3 H6 := (Fr.ups k4 (by simp)).trans ((Fr.ups k5 (by simp)).trans (Fr.ups k6 (by simp)))
    have hmut : ∀ o, H3 e = some o → mutK o = true := fun o q => by rw [h13] at q; rw [← Option.some.inj q]; rfl
    have D6 := D3.fr sE (fun z hz => by rw [List.mem_singleton.mp hz]; exact ⟨ned, efl, ewr, .inr hmut⟩) (fun z hz => by
      obtain ⟨l, hl⟩ := D3.xl z hz
      exact ⟨l, sE _ _ hl (by rw [List.mem_singleton]; exact ne_kind hl h13 (by intro q; cases q))⟩)
    exact k H6 g6 D6 ((Fr.of s1).trans ((s2.mono fun z hz => by rw [List.mem_singleton.mp hz]; simp).trans ((s3.mono fun z hz => by rw [List.mem_singleton.mp hz]; simp).trans (sE.mono fun z hz => by rw [List.mem_singleton.mp hz]; simp))))
theorem ok_Editor_start_anew (T : Txt K mg CT CD CE) : C8.Met P w K mg base 10 CE "start_anew" (spE CT CD CE fun _ _ us c => us = [] ∧ c = .start) [] := by
  refine T.d_Editor_start_anew.ok T.clE sc_Editor_start_anew (fun vs H Q E h => ?_) (fun f cdv A outer s H vs Q E hr h => ?_)
  · obtain ⟨X, fl, wr, rm, e, dk, g, A, f, N, us, c, rfl, _, _, _, ⟨rfl, _⟩, _⟩ := h
    rfl
  · obtain ⟨X, fl, wr, rm, e, dk, g, A, f, N, us, c, rfl, D, I, hN, ⟨rfl, rfl⟩, k⟩ := h
    obtain ⟨dx, h1⟩ := D.ins
    obtain ⟨dkx, hdk⟩ := D.dk.ins
    obtain ⟨f0, f1, z2, z3, z4, z5, z6⟩ := D.dk.fls
    refine ⟨_, (pss_cons (ps_if (pt_val (pe_fld (pv 0) rfl))
        (pss_one (ps_ret (C8.pe_c (ok_refused T) hr (by decide) (by rfl) (pa_cons (C8.pe_gc (by rfl) T.c_WRONG_POWER) pa_nil))))
        pss_nil)
      (pss_cons (ps_set (i := 1) sc_Editor_start_anew.nd rfl (Or.inl rfl) (C8.pe_c (ok_found_file T) hr (by decide) (by rfl) (pa_cons (pe_fld (pe_fld (pv 0) rfl) rfl) pa_nil)))
      (pss_cons (ps_if (pt_cmpR op_isN (pv 1) pe_non (nomark _))
        (pss_one (ps_ret (C8.pe_c (ok_refused T) hr (by decide) (by rfl) (pa_cons (C8.pe_gc (by rfl) T.c_NONE_COUNTS) pa_nil))))
        pss_nil)
      (pss_cons (ps_set (i := 2) sc_Editor_start_anew.nd rfl (Or.inl rfl) (pe_ix ix_list (pe_fld (pe_fld (pv 0) rfl) rfl) (pv 1) (fun _ _ => rfl)))
      (pss_cons (ps_fld (pv 0) (C8.pe_c (ok_tree_said T) hr (by decide) (by rfl) (pa_cons (pv 2) pa_nil)) rfl)
      (pss_cons (ps_fld (pv 0) (pe_slice sl_list (pe_fld (pv 0) rfl) po_none (po_some (pe_fld (pe_fld (pv 0) rfl) rfl))) rfl)
      (pss_cons (ps_fld (pv 0) (pe_fld (pe_fld (pv 0) rfl) rfl) rfl)
      (pss_cons (ps_expr (C8.pe_mt (ok_Editor_use_new_file T) hr (by decide) (pv 0) (pa_cons (pe_op op_sub pe_int (pv 1)) (pa_cons (C8.pe_c (ok_number_behind T) hr (by decide) (by rfl) (pa_cons (C8.pe_c (ok_number_of T) hr (by decide) (by rfl) (pa_cons (pv 2) pa_nil)) pa_nil)) pa_nil))))
      (pss_cons (ps_fld (pv 0) pe_bl rfl)
      (pss_cons (ps_fld (pv 0) pe_bl rfl)
      (pss_one (ps_ret (pe_lst (pa_cons (pe_fld (pe_fld (pv 0) rfl) rfl) (pa_cons (pe_fld (pe_fld (pv 0) rfl) rfl) (pa_cons (pe_callB call_len_seq (by rfl) T.b_len PySem.boot_len (pa_cons (C8.pe_mt0 (ok_Tree_text_now T) hr (by decide) (pe_fld (pv 0) rfl)) pa_nil)) (pa_cons (pv 1) pa_nil))))))))))))))))) , ?_⟩
    refine ⟨_, rfl, e, CE, dx, _, _, rfl, h1, T.clE, T.nE_powered, eF_powered, _, rfl, itB (fun c => ?_) (fun c => ?_)⟩
    · have es : Ue17.step g .start = (g, [-9]) := if_pos c
      rw [es] at k
      exact ⟨9, rfl, ed_no D (I.mono (Nat.le_succ _)) (Same.refl H) k⟩
    have es : Ue17.step g .start = match Ue17.found g.disk with
      | none => (g, [-6])
      | some (b, n, t) => (⟨t, Ue17.written (Ue17.wiped g.disk (!b)) (!b, 0, Ue17.head (Ue17.more n) ++ Ue17.copyBytes t), t.deeds, !b, Ue17.more n, (Ue17.head (Ue17.more n) ++ Ue17.copyBytes t).length, none, true, g.log.take t.deeds⟩, Ue17.ints [t.deeds, t.now, (Ue17.textAt t t.now).length, if b = true then 1 else 0]) := if_neg (by rw [c]; decide)
    refine ⟨_, rfl, e, CE, dx, _, _, rfl, h1, T.clE, T.nE_disk, eF_disk, dk, CD, dkx, _, _, rfl, hdk, T.clD, T.nD_files, dF_files, fl, f0, f1, g.disk.a, g.disk.b, rfl, z2, z3, z4, D.fz.ba, D.fz.bb, D.fz.la, D.fz.lb, fun H1 s1 => ?_⟩
    have efo : Ue17.found ⟨g.disk.a, g.disk.b, []⟩ = Ue17.found g.disk := rfl
    rw [efo]
    cases hfo : Ue17.found g.disk with
    | none =>
      have es : Ue17.step g .start = (g, [-6]) := by rw [es, hfo]
      rw [es] at k
      exact ⟨_, rfl, rfl, _, rfl, iteT ⟨6, rfl, ed_no D (I.mono (Nat.le_succ _)) s1 k⟩⟩
    | some bnt =>
    obtain ⟨b, n, t⟩ := bnt
    have es : Ue17.step g .start = (⟨t, Ue17.written (Ue17.wiped g.disk (!b)) (!b, 0, Ue17.head (Ue17.more n) ++ Ue17.copyBytes t), t.deeds, !b, Ue17.more n, (Ue17.head (Ue17.more n) ++ Ue17.copyBytes t).length, none, true, g.log.take t.deeds⟩, Ue17.ints [t.deeds, t.now, (Ue17.textAt t t.now).length, Ue17.bit b]) := by rw [es, hfo]; rfl
    rw [es] at k
    have hrd := found_read hfo
    obtain ⟨pn, qn, ln, ew, en⟩ := read_num hrd
    have D1 := D.same s1
    obtain ⟨g0, g1, fb, y2, y3, y4, y5⟩ := D1.dk.file b
    have hby : ∀ x ∈ Ue17.fileOf g.disk b, x ≤ 255 := by cases b; exact D.fz.ba; exact D.fz.bb
    have hfl := fileOf_len D.fz b
    refine ⟨_, rfl, rfl, _, rfl, iteF ?_⟩
    refine ⟨_, rfl, e, CE, dx, _, _, rfl, s1 _ _ h1, T.clE, T.nE_disk, eF_disk, dk, CD, dkx, _, _, rfl, s1 _ _ hdk, T.clD, T.nD_files, dF_files, _, rfl, fl, _, _, _, rfl, rfl, SqL.of y2, atI_nat y3, ?_⟩
    refine ⟨_, rfl, fb, X, Ue17.fileOf g.disk b, rfl, y4, hby, by omega, D1.tr.xl, (fun q => by rw [hrd] at q; cases q), fun n' t' q A' f' H2 s2 T2 R2 fr2 => ?_⟩
    have q : n = n' ∧ t = t' := by
      rw [hrd] at q
      injection q with q
      injection q with q1 q2
      exact ⟨q1, q2⟩
    obtain ⟨rfl, rfl⟩ := q
    have h12 := (s1.trans s2) _ _ h1
    have hmutE : ∀ {G : Hp} {fs : List (Str × V)}, G e = some (.ins CE dx fs) → ∀ o, G e = some o → mutK o = true := fun h o q => by rw [h] at q; rw [← Option.some.inj q]; rfl
    have eA' : e ∉ A'.mut := fun m => by have := fr2 e m; rw [s1 _ _ h1] at this; cases this
    have D2 := D1.same s2
    refine ⟨_, rfl, e, CE, dx, _, rfl, h12, T.clE, T.nE_tree, (by show 9 < 1000; decide), ?_⟩
    rw [eF_put_tree]
    generalize hH_ : upd _ e _ = H3; obtain ⟨g3, k3⟩ := ups hH_; clear hH_
    have xl3 : ∀ z ∈ X, ∃ l, H3 z = some (.lst l) := fun z hz => by
      obtain ⟨l, hl⟩ := T2.xl z hz
      exact ⟨l, k3 _ _ hl (ne_kind hl h12 (by intro q; cases q))⟩
    have T3 := T2.fr (F := [e]) (Fr.ups k3 (by simp)) (fun z hz => by rw [List.mem_singleton.mp hz]; exact .inr ⟨eA', hmutE h12⟩) xl3
    have efl : e ≠ fl := fun q => D.eX (by rw [q]; exact D.dk.ff)
    have ewr : e ≠ wr := fun q => D.eX (by rw [q]; exact D.dk.fw)
    have DK3 := D2.dk.fr (F := [e]) (Fr.ups k3 (by simp)) (fun z hz => by rw [List.mem_singleton.mp hz]; exact ⟨D.ed, efl, ewr, .inr (hmutE h12)⟩) xl3
    obtain ⟨ps, l1, l2, l3⟩ := D2.lg
    have up3 : ∀ {z : Addr} {o : HO}, H2 z = some o → mutK o = false → H3 z = some o := fun q m => k3 _ _ q (ne_kind q h12 (by rw [m]; intro w; cases w))
    have l13 := up3 l1 rfl
    obtain ⟨d3, t3, i3, _, _⟩ := T3.ins
    refine ⟨_, rfl, e, CE, dx, _, _, rfl, g3, T.clE, T.nE_remembered, eF_remembered, _, rfl, e, CE, dx, _, _, rfl, g3, T.clE, T.nE_tree, eF_tree, A'.a, CT, d3, _, _, rfl, i3, T.clT, T.nT_deeds, tF_deeds, _, rfl, rm, _, rfl, SqL.of l13, ?_⟩
    intro rm' nrm; generalize hH_rm' : upd _ rm' _ = H4; have s4 := snew nrm hH_rm'; have hrm := hnew hH_rm'; clear hH_rm'
    rw [cut_rv] at hrm
    have T4 := (T3.same s4).more T3 nrm hrm s4
    have DK4 := DK3.more nrm s4 hrm
    have g4 := s4 _ _ g3
    refine ⟨_, rfl, e, CE, dx, _, rfl, g4, T.clE, T.nE_remembered, (by show 9 < 1000; decide), ?_⟩
    rw [eF_put_remembered]
    generalize hH_ : upd _ e _ = H5; obtain ⟨g5, k5⟩ := ups hH_; clear hH_
    have fr5 : ∀ (z : Addr) (o : HO), H4 z = some o → mutK o = false → H5 z = some o := fun z o q m => k5 _ _ q (ne_kind q g4 (by rw [m]; intro w; cases w))
    have xl5 : ∀ z ∈ rm' :: X, ∃ l, H5 z = some (.lst l) := fun z hz => by obtain ⟨l, hl⟩ := T4.xl z hz; exact ⟨l, fr5 _ _ hl rfl⟩
    have T5 := T4.fr (F := [e]) (Fr.ups k5 (by simp)) (fun z hz => by rw [List.mem_singleton.mp hz]; exact .inr ⟨eA', hmutE g4⟩) xl5
    have DK5 := DK4.fr (F := [e]) (Fr.ups k5 (by simp)) (fun z hz => by rw [List.mem_singleton.mp hz]; exact ⟨D.ed, efl, ewr, .inr (hmutE g4)⟩) xl5
    obtain ⟨d5, t5, i5, _, _⟩ := T5.ins
    refine ⟨_, rfl, e, CE, dx, _, _, rfl, g5, T.clE, T.nE_tree, eF_tree, A'.a, CT, d5, _, _, rfl, i5, T.clT, T.nT_deeds, tF_deeds, _, rfl, e, CE, dx, _, rfl, g5, T.clE, T.nE_safe, (by show 9 < 1000; decide), ?_⟩
    rw [eF_put_safe]
    generalize hH_ : upd _ e _ = H6; obtain ⟨g6, k6⟩ := ups hH_; clear hH_
    have fr6 : ∀ (z : Addr) (o : HO), H5 z = some o → mutK o = false → H6 z = some o := fun z o q m => k6 _ _ q (ne_kind q g5 (by rw [m]; intro w; cases w))
    have xl6 : ∀ z ∈ rm' :: X, ∃ l, H6 z = some (.lst l) := fun z hz => by obtain ⟨l, hl⟩ := T5.xl z hz; exact ⟨l, fr6 _ _ hl rfl⟩
    have T6 := T5.fr (F := [e]) (Fr.ups k6 (by simp)) (fun z hz => by rw [List.mem_singleton.mp hz]; exact .inr ⟨eA', hmutE g5⟩) xl6
    have DK6 := DK5.fr (F := [e]) (Fr.ups k6 (by simp)) (fun z hz => by rw [List.mem_singleton.mp hz]; exact ⟨D.ed, efl, ewr, .inr (hmutE g5)⟩) xl6
    have y46 : H6 fb = some (.lst (iv (pn :: qn :: ln))) := by rw [← ew]; exact fr6 _ _ (fr5 _ _ (s4 _ _ (up3 (s2 _ _ y4) rfl)) rfl) rfl
    refine ⟨_, rfl, e, dx, _, rfl, g6, eF_no_use_new_file, _, rfl, _, _, rfl, rfl, _, rfl, fb, pn, qn, ln, rfl, y46, pn + 256 * qn, rfl, ?_⟩
    refine ⟨rm' :: X, fl, wr, e, dk, dx, _, A', f', t, !b, Ue17.more n, g.disk, ?_, g6, eF_tree, eF_disk, (by show 9 < 1000; decide), (fun u => by rw [eF_put_used]; show 9 < 1000; decide), (fun u v => by rw [eF_put_used, eF_put_number]; show 9 < 1000; decide), T6, R2.cp, DK6, D.ed, fun H7 g7 DK7 s7 => ?_⟩
    · rw [show n = pn + 256 * qn from en]
      exact congrArg (fun z => [V.ref e, V.int z, nV (Ue17.more (pn + 256 * qn))]) (bit_not b)
    rw [eF_put_used, eF_put_number, eF_put_size] at g7
    have T7 := T6.fr s7 (fun z hz => by
      simp only [List.mem_cons, List.not_mem_nil, or_false] at hz
      rcases hz with q | q
      · exact .inl (by rw [q]; exact List.mem_cons_of_mem _ D.dk.ff)
      · exact .inr (by rw [q]; exact ⟨eA', hmutE g6⟩)) DK7.xl
    refine ⟨_, rfl, e, CE, dx, _, rfl, g7, T.clE, T.nE_copying, (by show 9 < 1000; decide), ?_⟩
    rw [eF_put_copying]
    generalize hH_ : upd _ e _ = H8; obtain ⟨g8, k8⟩ := ups hH_; clear hH_
    refine ⟨_, rfl, e, CE, dx, _, rfl, g8, T.clE, T.nE_powered, (by show 9 < 1000; decide), ?_⟩
    rw [eF_put_powered]
    generalize hH_ : upd _ e _ = H9; obtain ⟨g9, k9⟩ := ups hH_; clear hH_
    have s79 : Fr [e] H7 H9 := (Fr.ups k8 (by simp)).trans (Fr.ups k9 (by simp))
    have fr9 : ∀ (z : Addr) (o : HO), H7 z = some o → mutK o = false → H9 z = some o := fun z o q m => s79 _ _ q (by rw [List.mem_singleton]; exact ne_kind q g7 (by rw [m]; intro w; cases w))
    have xl9 : ∀ z ∈ rm' :: X, ∃ l, H9 z = some (.lst l) := fun z hz => by obtain ⟨l, hl⟩ := DK7.xl z hz; exact ⟨l, fr9 _ _ hl rfl⟩
    have T9 := T7.fr s79 (fun z hz => by rw [List.mem_singleton.mp hz]; exact .inr ⟨eA', hmutE g7⟩) xl9
    have DK9 := DK7.fr s79 (fun z hz => by rw [List.mem_singleton.mp hz]; exact ⟨D.ed, efl, ewr, .inr (hmutE g7)⟩) xl9
    -- lists that aren't the files' stand from H2 on
    have st : ∀ {z : Addr} {o : HO}, H4 z = some o → mutK o = false → z ≠ fl → H9 z = some o := fun q m n => fr9 _ _ (s7 _ _ (fr6 _ _ (fr5 _ _ q m) m) (by simp [n]; exact ne_kind q g4 (by rw [m]; intro w; cases w))) m
    have nrf : rm' ≠ fl := fun q => DK3.fresh nrm (by rw [q]; exact D.dk.ff)
    have nrw : rm' ≠ wr := fun q => DK3.fresh nrm (by rw [q]; exact D.dk.fw)
    have hcl := copy_len R2.cp
    have Z9 : Fz (Ue17.written (Ue17.wiped g.disk (!b)) (!b, 0, Ue17.head (Ue17.more n) ++ Ue17.copyBytes t)) := (D.fz.wiped (!b)).written (by show 0 + (Ue17.head (Ue17.more n) ++ Ue17.copyBytes t).length ≤ 5000; rw [List.length_append]; show 0 + (3 + _) ≤ _; omega) (fun y hy => by
      rcases List.mem_append.mp hy with q | q
      · exact head_bytes (more_lt _) y q
      · exact copy_bytes R2 y q)
    have hps : ∀ p ∈ ps, p ∉ rm' :: X := fun p hp m => by
      rcases List.mem_cons.mp m with q | q
      · obtain ⟨i, hi⟩ := List.mem_iff_getElem?.mp hp
        have hlt := (List.getElem?_eq_some_iff.mp hi).1
        have hlen := l2.len
        have := up3 (l2.at_ i p _ hi (List.getElem?_eq_getElem (by omega))) rfl
        rw [q, nrm] at this
        cases this
      · exact l3 p hp q
    have E9 : EdAt CT CD CE (rm' :: X) fl wr rm' H9 e ⟨t, Ue17.written (Ue17.wiped g.disk (!b)) (!b, 0, Ue17.head (Ue17.more n) ++ Ue17.copyBytes t), t.deeds, !b, Ue17.more n, (Ue17.head (Ue17.more n) ++ Ue17.copyBytes t).length, none, true, g.log.take t.deeds⟩ dk A' f' := by
      refine ⟨⟨dx, g9⟩, T9, R2, DK9, Z9, ⟨ps.take t.deeds, st hrm rfl nrf, ⟨?_, fun i p b' q1 q2 => ?_⟩, fun p hp => hps p (List.mem_of_mem_take hp)⟩, fun d hd => D.okl d (List.mem_of_mem_take hd), List.mem_cons_self .., nrf, nrw⟩
      · have := l2.len
        rw [List.length_map] at this
        rw [List.length_map, List.length_take, List.length_take, this]
      · have hi : i < t.deeds := by
          have := (List.getElem?_eq_some_iff.mp q1).1
          rw [List.length_take] at this
          omega
        have q2 : ((g.log.take t.deeds).map fun d => Ue17.body (.deed d))[i]? = some b' := q2
        rw [List.getElem?_map, List.getElem?_take_of_lt hi, ← List.getElem?_map] at q2
        rw [List.getElem?_take_of_lt hi] at q1
        exact st (s4 _ _ (up3 (l2.at_ i p b' q1 q2) rfl)) rfl fun z => hps p (List.mem_of_getElem? q1) (by rw [z]; exact List.mem_cons_of_mem _ D.dk.ff)
    obtain ⟨d9, t9, i9, _, _⟩ := T9.ins
    refine ⟨_, rfl, e, CE, dx, _, _, rfl, g9, T.clE, T.nE_tree, eF_tree, A'.a, CT, d9, _, _, rfl, i9, T.clT, T.nT_deeds, tF_deeds, _, rfl, e, CE, dx, _, _, rfl, g9, T.clE, T.nE_tree, eF_tree, A'.a, CT, d9, _, _, rfl, i9, T.clT, T.nT_now, tF_now, ?_⟩
    refine ⟨_, rfl, e, CE, dx, _, _, rfl, g9, T.clE, T.nE_tree, eF_tree, A'.a, d9, _, rfl, i9, tF_no_text_now, A', rm' :: X, f', t, 41, rfl, T9, R2.wf, by decide, fun tp H10 s10 htp ntp => ?_⟩
    refine ⟨tp, _, rfl, .inl (SqL.of htp), _, rfl, sz 4 (by decide), ?_⟩
    intro p np; generalize hH_p : upd _ p _ = H11; have s11 := snew np hH_p; have hp := hnew hH_p; clear hH_p
    have hI : INV ⟨t, Ue17.written (Ue17.wiped g.disk (!b)) (!b, 0, Ue17.head (Ue17.more n) ++ Ue17.copyBytes t), t.deeds, !b, Ue17.more n, (Ue17.head (Ue17.more n) ++ Ue17.copyBytes t).length, none, true, g.log.take t.deeds⟩ (N + 1) := by
      refine ⟨?_, more_lt _, fun n z1 z2 => (by cases z2), ?_, ?_⟩
      · show (Ue17.head (Ue17.more n) ++ Ue17.copyBytes t).length ≤ 5000
        rw [List.length_append]
        show 3 + _ ≤ _
        omega
      · show (g.log.take t.deeds).length ≤ N + 1
        rw [List.length_take]
        have := I.llen
        omega
      · show (Ue17.written (Ue17.wiped g.disk (!b)) (!b, 0, _)).cache.length ≤ _
        rw [written_cache]
        have := I.clen
        cases b
        · show g.disk.cache.length ≤ _; omega
        · show g.disk.cache.length ≤ _; omega
    have hrH : H rm' = none := by
      cases q : H rm' with
      | none => rfl
      | some o =>
        have q2 := (s1.trans s2) _ _ q
        by_cases z : rm' = e
        · rw [z, g3] at nrm; cases nrm
        · rw [k3 _ _ q2 z] at nrm; cases nrm
    refine k.done (E9.same s10) hI np s11 hp ?_ (fun z hz => ?_) (fun z hz => List.mem_cons_of_mem _ hz) (fun z hz => ?_) (fun z l hz hn => ?_)
    · rw [av_ints, iv_len]
      rfl
    · rcases List.mem_cons.mp hz with q | q
      · rw [q]; exact .inr hrH
      · exact .inl q
    · simp only [List.mem_cons, List.not_mem_nil, or_false] at hz ⊢
      rcases hz with q | q | q
      · exact .inl (.inl q)
      · exact .inl (.inr (.inl q))
      · exact .inr (by rw [q]; exact hrH)
    · simp only [List.mem_cons, List.not_mem_nil, or_false, not_or] at hn
      exact s10 _ _ (st (s4 _ _ (up3 ((s1.trans s2) _ _ hz) rfl)) rfl hn.1)
def sp_ed_init (CT CD CE : Addr) : Sp := fun vs H Q _ => ∃ (p dx : Addr), vs = [.ref p] ∧ H p = some (.ins CE dx []) ∧
  ∀ (H' : Hp) (X : List Addr) (fl wr rm dk : Addr) (A : TA), EdAt CT CD CE X fl wr rm H' p Ue17.init dk A 0 → (∀ b o, H b = some o → b ≠ p → H' b = some o) → (∀ b ∈ X, H b = none) → Q .non H'
theorem ok_Editor___init__ (T : Txt K mg CT CD CE) : C8.Mak P w K mg base 8 "Editor" CE (sp_ed_init CT CD CE) [] := by
  refine T.m_Editor.ok sc_Editor___init__ (fun vs H Q E h => ?_) (fun f cdv A outer s H vs Q E hr h => ?_)
  · obtain ⟨p, dx, rfl, _⟩ := h
    rfl
  · obtain ⟨p, dx, rfl, hp, k⟩ := h
    refine ⟨_, (pss_cons (ps_fld (pv 0) (C8.pe_c (ok_tree_made_by T) hr (by decide) (by rfl) (pa_cons (pe_lst pa_nil) pa_nil)) rfl)
      (pss_cons (ps_fld (pv 0) (pe_lst pa_nil) rfl)
      (pss_cons (ps_fld (pv 0) (pe_mk0 (ok_Disk___init__ T) hr (by decide) (by rfl)) rfl)
      (pss_cons (ps_fld (pv 0) pe_bl rfl)
      (pss_cons (ps_fld (pv 0) pe_bl rfl)
      (pss_cons (ps_fld (pv 0) pe_int rfl)
      (pss_one (ps_expr (C8.pe_mt (ok_Editor_use_new_file T) hr (by decide) (pv 0) (pa_cons pe_int (pa_cons pe_int pa_nil))))))))))) , ?_⟩
    refine ⟨sz 0 (by decide), ?_⟩
    intro u nu; generalize hH_u : upd _ u _ = H1; have s1 := snew nu hH_u; have hu := hnew hH_u; clear hH_u
    refine ⟨u, [], [], [], rfl, hu, ⟨rfl, fun i p b h => by simp at h⟩, fun d hd => (by cases hd), by decide, fun x hx => (by cases hx), fun A f H2 s2 T2 W2 n2 => ?_⟩
    obtain rfl : f = 0 := W2.f_eq RT.init.wf
    have T2 : TreeAt CT [] H2 A 0 Ue17.first := T2
    have h2 := (s1.trans s2) _ _ hp
    have pA : p ∉ A.mut := fun m => by have := n2 p m; rw [s1 _ _ hp] at this; cases this
    have hmut : ∀ {G : Hp} {fs : List (Str × V)}, G p = some (.ins CE dx fs) → ∀ o, G p = some o → mutK o = true := fun h o q => by rw [h] at q; rw [← Option.some.inj q]; rfl
    refine ⟨_, rfl, p, CE, dx, _, rfl, h2, T.clE, T.nE_tree, (by show 0 < 1000; decide), ?_⟩
    rw [eF_new_tree]
    generalize hH_ : upd _ p _ = H3; obtain ⟨g3, k3⟩ := ups hH_; clear hH_
    have T3 := T2.fr (F := [p]) (Fr.ups k3 (by simp)) (fun z hz => by rw [List.mem_singleton.mp hz]; exact .inr ⟨pA, hmut h2⟩) (fun z hz => (by cases hz))
    refine ⟨sz 0 (by decide), ?_⟩
    intro rm nrm; generalize hH_rm : upd _ rm _ = H4; have s4 := snew nrm hH_rm; have hrm := hnew hH_rm; clear hH_rm
    have T4 := T3.grow (Y := [rm]) s4 (fun z hz => .inr (by rw [List.mem_singleton.mp hz]; exact nrm)) (fun z hz => by rw [List.mem_singleton.mp hz]; exact ⟨_, hrm⟩)
    have g4 := s4 _ _ g3
    have rmp : rm ≠ p := fun q => by rw [q, g3] at nrm; cases nrm
    refine ⟨_, rfl, p, CE, dx, _, rfl, g4, T.clE, T.nE_remembered, (by show 1 < 1000; decide), ?_⟩
    rw [eF_new_remembered]
    generalize hH_ : upd _ p _ = H5; obtain ⟨g5, k5⟩ := ups hH_; clear hH_
    have hrm5 := k5 _ _ hrm rmp
    have T5 := T4.fr (F := [p]) (Fr.ups k5 (by simp)) (fun z hz => by rw [List.mem_singleton.mp hz]; exact .inr ⟨pA, hmut g4⟩) (fun z hz => by rw [List.mem_singleton.mp hz]; exact ⟨_, hrm5⟩)
    intro x dxx nx ndx nexx
    have s0 : Same H5 (upd (upd H5 dxx (.own x)) x (.ins CD dxx [])) := same_upd (same_upd (Same.refl H5) ndx) nx
    refine ⟨x, dxx, [rm], rfl, upd_same, fun z hz => by rw [List.mem_singleton.mp hz]; exact ⟨_, s0 _ _ hrm5⟩, fun H6 fl wr D6 k6 nfl nwr => ⟨rfl, ?_⟩⟩
    have s6 : Same H5 H6 := fun z o q => k6 _ _ (s0 _ _ q) (ne_of_none q nx)
    have nfl := s0.free nfl
    have nwr := s0.free nwr
    have T6 := T5.grow (Y := [fl, wr, rm]) s6 (fun z hz => by
      simp only [List.mem_cons, List.not_mem_nil, or_false] at hz
      rcases hz with q | q | q
      · rw [q]; exact .inr nfl
      · rw [q]; exact .inr nwr
      · rw [q]; exact .inl (by simp)) D6.xl
    have g6 := s6 _ _ g5
    have px : p ≠ x := fun q => by rw [q] at g5; rw [g5] at nx; cases nx
    refine ⟨_, rfl, p, CE, dx, _, rfl, g6, T.clE, T.nE_disk, (by show 2 < 1000; decide), ?_⟩
    rw [eF_new_disk]
    generalize hH_ : upd _ p _ = H7; obtain ⟨g7, k7⟩ := ups hH_; clear hH_
    refine ⟨_, rfl, p, CE, dx, _, rfl, g7, T.clE, T.nE_powered, (by show 3 < 1000; decide), ?_⟩
    rw [eF_new_powered]
    generalize hH_ : upd _ p _ = H8; obtain ⟨g8, k8⟩ := ups hH_; clear hH_
    refine ⟨_, rfl, p, CE, dx, _, rfl, g8, T.clE, T.nE_copying, (by show 4 < 1000; decide), ?_⟩
    rw [eF_new_copying]
    generalize hH_ : upd _ p _ = H9; obtain ⟨g9, k9⟩ := ups hH_; clear hH_
    refine ⟨_, rfl, p, CE, dx, _, rfl, g9, T.clE, T.nE_safe, (by show 5 < 1000; decide), ?_⟩
    rw [eF_new_safe]
    generalize hH_ : upd _ p _ = H10; obtain ⟨g10, k10⟩ := ups hH_; clear hH_
    have s610 : Fr [p] H6 H10 := (Fr.ups k7 (by simp)).trans ((Fr.ups k8 (by simp)).trans ((Fr.ups k9 (by simp)).trans (Fr.ups k10 (by simp))))
    have nl : ∀ {z : Addr}, z ∈ [fl, wr, rm] → z ≠ p := fun hz q => by obtain ⟨l, hl⟩ := D6.xl _ hz; rw [q, g6] at hl; cases hl
    have xl10 : ∀ z ∈ [fl, wr, rm], ∃ l, H10 z = some (.lst l) := fun z hz => by
      obtain ⟨l, hl⟩ := D6.xl z hz
      exact ⟨l, s610 _ _ hl (by rw [List.mem_singleton]; exact nl hz)⟩
    have T10 := T6.fr s610 (fun z hz => by rw [List.mem_singleton.mp hz]; exact .inr ⟨pA, hmut g6⟩) xl10
    have D10 := D6.fr s610 (fun z hz => by rw [List.mem_singleton.mp hz]; exact ⟨px, (nl (by simp)).symm, (nl (by simp)).symm, .inr (hmut g6)⟩) xl10
    refine ⟨_, rfl, p, dx, _, rfl, g10, ((lk_past (by decide +kernel)).trans ((lk_past (by decide +kernel)).trans ((lk_past (by decide +kernel)).trans ((lk_past (by decide +kernel)).trans ((lk_past (by decide +kernel)).trans ((lk_past (by decide +kernel)).trans rfl)))))), ?_⟩
    refine ⟨[fl, wr, rm], fl, wr, p, x, dx, _, A, 0, Ue17.first, false, 1, ⟨[], [], []⟩, rfl, g10, lk_here, ((lk_past (by decide +kernel)).trans ((lk_past (by decide +kernel)).trans lk_here)), (by show 6 < 1000; decide), (fun u => by rw [eF_new_used]; show 7 < 1000; decide), (fun u v => by rw [eF_new_used, eF_new_number]; show 8 < 1000; decide), T10, RT.init.cp, D10, px, fun H11 g11 D11 s11 => ?_⟩
    rw [eF_new_used, eF_new_number, eF_new_size] at g11
    have nrf : rm ≠ fl := fun q => by rw [← q, hrm5] at nfl; cases nfl
    have nrw : rm ≠ wr := fun q => by rw [← q, hrm5] at nwr; cases nwr
    have T11 := T10.fr s11 (fun z hz => by
      simp only [List.mem_cons, List.not_mem_nil, or_false] at hz
      rcases hz with q | q
      · exact .inl (by rw [q]; simp)
      · exact .inr (by rw [q]; exact ⟨pA, hmut g10⟩)) D11.xl
    have ed : Ue17.written (Ue17.wiped ⟨[], [], []⟩ false) (false, 0, Ue17.head 1 ++ Ue17.copyBytes Ue17.first) = Ue17.init.disk := by decide +kernel
    have D11 : DiskAt CD [fl, wr, rm] H11 x fl wr Ue17.init.disk := ed ▸ D11
    have hrm11 : H11 rm = some (.lst (rv [])) := s11 _ _ (s610 _ _ (s6 _ _ hrm5) (by simp [rmp])) (by simp [nrf, rmp])
    have g11 : H11 p = some (.ins CE dx (eFt A.a rm x Ue17.init)) := by
      rw [g11, show (Ue17.head 1 ++ Ue17.copyBytes Ue17.first).length = Ue17.init.size by decide +kernel]
      rfl
    refine k H11 [fl, wr, rm] fl wr rm x A ⟨⟨dx, g11⟩, T11, RT.init, D11, ⟨by decide +kernel, by decide +kernel, by decide +kernel, by decide +kernel, fun z hz => (by cases hz), fun z hz => (by cases hz), fun z hz => (by cases hz)⟩, ⟨[], hrm11, ⟨rfl, fun i p b h => by simp at h⟩, fun z hz => (by cases hz)⟩, fun d hd => (by cases hd), by simp, nrf, nrw⟩ (fun z o q n => ?_) (fun z hz => ?_)
    · have q6 := s6 _ _ (k5 _ _ (s4 _ _ (k3 _ _ ((s1.trans s2) _ _ q) n)) n)
      have zf : z ≠ fl := fun y => by rw [y] at q n; have := k5 _ _ (s4 _ _ (k3 _ _ ((s1.trans s2) _ _ q) n)) n; rw [nfl] at this; cases this
      exact s11 _ _ (s610 _ _ q6 (by simp [n])) (by simp [zf, n])
    · have back : ∀ {y : Addr}, H5 y = none → H y = none := fun {y} q => by
        cases q0 : H y with
        | none => rfl
        | some o =>
          by_cases z : y = p
          · rw [z, g5] at q; cases q
          · rw [k5 _ _ (s4 _ _ (k3 _ _ ((s1.trans s2) _ _ q0) z)) z] at q; cases q
      simp only [List.mem_cons, List.not_mem_nil, or_false] at hz
      rcases hz with q | q | q
      · rw [q]; exact back nfl
      · rw [q]; exact back nwr
      · rw [q]
        cases q0 : H rm with
        | none => rfl
        | some o => rw [k3 _ _ ((s1.trans s2) _ _ q0) rmp] at nrm; cases nrm
end
end TT
end
section
set_option maxHeartbeats 2000000
namespace TT
open PySem PySem.Spec PyProof.Rows L2
open Ue17 (Write Files House Deed)
theorem ife_join {b : Bool} {i j : Int} {σ : List (Option V)} {H : Hp} {Q : VK} (h : Q (.int (if b = true then i else j)) H) : if b = true then tC (.int i) σ H Q else tC (.int j) σ H Q := by
  cases b with
  | true => exact h
  | false => exact h
theorem nodeRow_len (t : UT) (x : Ue17.Node) : (Ue17.nodeRow t x).length = 3 := rfl
theorem rows_len (t : UT) : ∀ l : List Ue17.Node, (l.flatMap (Ue17.nodeRow t)).length = 3 * l.length
  | [] => rfl
  | x :: l => by rw [List.flatMap_cons, List.length_append, rows_len t l, nodeRow_len, List.length_cons]; omega
theorem av_cons (n : Int) (l : List Int) : av (n :: l) = .int n :: av l := rfl
section
variable {P : Program} {w : World} {K : PySem.W.Frag} {mg : Str → Option Value} {base : Heap} {CT CD CE : Addr}
abbrev N_text_told : List Str := ["editor", "state"]
theorem sc_text_told : FnScope N_text_told ["editor", "state"] (defScope s_text_told) := ⟨rfl, rfl, rfl, by decide +kernel, rfl, by decide +kernel, by decide +kernel⟩
abbrev N_tree_told : List Str := ["editor", "tree", "told", "state"]
theorem sc_tree_told : FnScope N_tree_told ["editor"] (defScope s_tree_told) := ⟨rfl, rfl, rfl, by decide +kernel, rfl, by decide +kernel, by decide +kernel⟩
abbrev N_file_told : List Str := ["editor", "which"]
theorem sc_file_told : FnScope N_file_told ["editor", "which"] (defScope s_file_told) := ⟨rfl, rfl, rfl, by decide +kernel, rfl, by decide +kernel, by decide +kernel⟩
abbrev N_state_told : List Str := ["editor"]
theorem sc_state_told : FnScope N_state_told ["editor"] (defScope s_state_told) := ⟨rfl, rfl, rfl, by decide +kernel, rfl, by decide +kernel, by decide +kernel⟩
abbrev N_past_told : List Str := ["editor", "many", "tree"]
theorem sc_past_told : FnScope N_past_told ["editor", "many"] (defScope s_past_told) := ⟨rfl, rfl, rfl, by decide +kernel, rfl, by decide +kernel, by decide +kernel⟩
/-- an answer that only tells -/
theorem ed_say {X : List Addr} {fl wr rm e dk : Addr} {H H1 : Hp} {g : House} {A : TA} {f N : Nat} {ans : List Int} {xs : List V} {Q : VK} (D : EdAt CT CD CE X fl wr rm H e g dk A f) (I : INV g N) (s1 : Same H H1) (k : edQ CT CD CE X fl wr rm H e g (N + 1) ans Q) (ea : xs = av ans) : newL H1 xs Q := fun p H2 np s2 hp =>
  k H2 p X fl wr rm dk A f (D.same (s1.trans s2)) (I.mono (Nat.le_succ _)) (by rw [hp, ea]) (fun b hb => .inl hb) (fun b hb => hb) (fun b hb => .inl hb) (fun b l hb _ => (s1.trans s2) _ _ hb) (.inl (s1.free np))
theorem ok_text_told (T : Txt K mg CT CD CE) : C8.Cal P w K mg base 4 "text_told" (spE CT CD CE fun _ _ us c => ∃ n, us = [nV n] ∧ c = .text n) [] := by
  refine T.d_text_told.ok sc_text_told (fun vs H Q E h => ?_) (fun f cdv A outer s H vs Q E hr h => ?_)
  · obtain ⟨X, fl, wr, rm, e, dk, g, A, f, N, us, c, rfl, _, _, _, ⟨n, rfl, _⟩, _⟩ := h
    rfl
  · obtain ⟨X, fl, wr, rm, e, dk, g, A, f, N, us, c, rfl, D, I, hN, ⟨n, rfl, rfl⟩, k⟩ := h
    obtain ⟨dx, h1⟩ := D.ins
    obtain ⟨d6, t6, i6, _, _⟩ := D.tr.ins
    refine ⟨_, (pss_cons (ps_if (pt_not (pt_val (pe_fld (pv 0) rfl)))
        (pss_one (ps_ret (C8.pe_c (ok_refused T) hr (by decide) (by rfl) (pa_cons (C8.pe_gc (by rfl) T.c_WRONG_POWER) pa_nil))))
        pss_nil)
      (pss_cons (ps_if (pt_not (pt_val (C8.pe_mt (ok_Tree_has T) hr (by decide) (pe_fld (pv 0) rfl) (pa_cons (pv 1) pa_nil))))
        (pss_one (ps_ret (C8.pe_c (ok_refused T) hr (by decide) (by rfl) (pa_cons (C8.pe_gc (by rfl) T.c_MISSING) pa_nil))))
        pss_nil)
      (pss_one (ps_ret (C8.pe_c (ok_counted T) hr (by decide) (by rfl) (pa_cons (C8.pe_mt (ok_Tree_text_of T) hr (by decide) (pe_fld (pv 0) rfl) (pa_cons (pv 1) pa_nil)) pa_nil)))))) , ?_⟩
    refine ⟨_, rfl, e, CE, dx, _, _, rfl, h1, T.clE, T.nE_powered, eF_powered, _, rfl, itNB (fun c => ?_) (fun c => ?_)⟩
    · have es : Ue17.step g (.text n) = (g, [-9]) := if_pos c
      rw [es] at k
      exact ⟨9, rfl, ed_no D (I.mono (Nat.le_succ _)) (Same.refl H) k⟩
    have es : Ue17.step g (.text n) = (g, if (Ue17.find g.tree n).isNone = true then [-2] else ((Ue17.textAt g.tree n).length : Int) :: Ue17.ints (Ue17.textAt g.tree n)) := if_neg (by rw [c]; decide)
    rw [es] at k
    refine ⟨_, rfl, e, CE, dx, _, _, rfl, h1, T.clE, T.nE_tree, eF_tree, A.a, d6, _, rfl, i6, tF_no_has, _, rfl, A, X, f, g.tree, some n, rfl, D.tr, _, rfl, itNB (fun c2 => ?_) (fun c2 => ?_)⟩
    · have c2 : (Ue17.find g.tree n).isSome = false := c2
      have hk : (if (Ue17.find g.tree n).isNone = true then [-2] else ((Ue17.textAt g.tree n).length : Int) :: Ue17.ints (Ue17.textAt g.tree n)) = [-2] := if_pos (by cases hq : Ue17.find g.tree n with | none => rfl | some y => rw [hq] at c2; cases c2)
      rw [hk] at k
      exact ⟨2, rfl, ed_no D (I.mono (Nat.le_succ _)) (Same.refl H) k⟩
    have c2 : (Ue17.find g.tree n).isSome = true := c2
    have hk : (if (Ue17.find g.tree n).isNone = true then [-2] else ((Ue17.textAt g.tree n).length : Int) :: Ue17.ints (Ue17.textAt g.tree n)) = ((Ue17.textAt g.tree n).length : Int) :: Ue17.ints (Ue17.textAt g.tree n) := if_neg (by cases hq : Ue17.find g.tree n with | none => rw [hq] at c2; cases c2 | some y => simp)
    rw [hk] at k
    have htl := D.rt.wf.text n
    refine ⟨_, rfl, e, CE, dx, _, _, rfl, h1, T.clE, T.nE_tree, eF_tree, A.a, d6, _, rfl, i6, tF_no_text_of, _, rfl, A, X, f, g.tree, n, 41, rfl, D.tr, D.rt.wf.wt, by decide, fun tp H1 s1 htp ntp => ⟨tp, _, rfl, htp, by omega, ed_say D I s1 k ?_⟩⟩
    rw [av_cons, av_ints]
    rfl
theorem ok_file_told (T : Txt K mg CT CD CE) : C8.Cal P w K mg base 2 "file_told" (spE CT CD CE fun _ _ us c => ∃ b, us = [nV (Ue17.bit b)] ∧ c = .file b) [] := by
  refine T.d_file_told.ok sc_file_told (fun vs H Q E h => ?_) (fun f cdv A outer s H vs Q E hr h => ?_)
  · obtain ⟨X, fl, wr, rm, e, dk, g, A, f, N, us, c, rfl, _, _, _, ⟨n, rfl, _⟩, _⟩ := h
    rfl
  · obtain ⟨X, fl, wr, rm, e, dk, g, A, f, N, us, c, rfl, D, I, hN, ⟨b, rfl, rfl⟩, k⟩ := h
    obtain ⟨dx, h1⟩ := D.ins
    obtain ⟨dkx, hdk⟩ := D.dk.ins
    obtain ⟨f0, f1, fb, h2, h3, h4, h5⟩ := D.dk.file b
    have hfl := fileOf_len D.fz b
    refine ⟨_, (pss_one (ps_ret (C8.pe_c (ok_counted T) hr (by decide) (by rfl) (pa_cons (pe_ix ix_list (pe_fld (pe_fld (pv 0) rfl) rfl) (pv 1) (fun _ _ => rfl)) pa_nil)))) , ?_⟩
    refine ⟨_, rfl, e, CE, dx, _, _, rfl, h1, T.clE, T.nE_disk, eF_disk, dk, CD, dkx, _, _, rfl, hdk, T.clD, T.nD_files, dF_files, _, rfl, fl, _, _, _, rfl, rfl, SqL.of h2, atI_nat h3, fb, _, rfl, h4, by omega, ed_say D I (Same.refl H) k ?_⟩
    show _ = av (_ :: Ue17.ints _)
    rw [av_cons, av_ints]
    rfl
theorem ok_state_told (T : Txt K mg CT CD CE) : C8.Cal P w K mg base 1 "state_told" (spE CT CD CE fun _ _ us c => us = [] ∧ c = .state) [] := by
  refine T.d_state_told.ok sc_state_told (fun vs H Q E h => ?_) (fun f cdv A outer s H vs Q E hr h => ?_)
  · obtain ⟨X, fl, wr, rm, e, dk, g, A, f, N, us, c, rfl, _, _, _, ⟨rfl, _⟩, _⟩ := h
    rfl
  · obtain ⟨X, fl, wr, rm, e, dk, g, A, f, N, us, c, rfl, D, I, hN, ⟨rfl, rfl⟩, k⟩ := h
    obtain ⟨dx, h1⟩ := D.ins
    obtain ⟨dkx, hdk⟩ := D.dk.ins
    obtain ⟨d6, t6, i6, _, _⟩ := D.tr.ins
    obtain ⟨ws, h7, h8⟩ := D.dk.wrs
    refine ⟨_, (pss_one (ps_ret (pe_lst (pa_cons (pe_ifExp (pt_val (pe_fld (pv 0) rfl)) pe_int pe_int) (pa_cons (pe_fld (pe_fld (pv 0) rfl) rfl) (pa_cons (pe_fld (pv 0) rfl) (pa_cons (pe_callB call_len_seq (by rfl) T.b_len PySem.boot_len (pa_cons (pe_fld (pe_fld (pv 0) rfl) rfl) pa_nil)) (pa_cons (pe_fld (pv 0) rfl) (pa_cons (pe_fld (pv 0) rfl) (pa_cons (pe_fld (pv 0) rfl) (pa_cons (pe_ifExp (pt_val (pe_fld (pv 0) rfl)) pe_int pe_int) pa_nil))))))))))) , ?_⟩
    refine ⟨_, rfl, e, CE, dx, _, _, rfl, h1, T.clE, T.nE_powered, eF_powered, _, rfl, ife_join ?_⟩
    refine ⟨_, rfl, e, CE, dx, _, _, rfl, h1, T.clE, T.nE_tree, eF_tree, A.a, CT, d6, _, _, rfl, i6, T.clT, T.nT_deeds, tF_deeds, _, rfl, e, CE, dx, _, _, rfl, h1, T.clE, T.nE_safe, eF_safe, _, rfl, e, CE, dx, _, _, rfl, h1, T.clE, T.nE_disk, eF_disk, dk, CD, dkx, _, _, rfl, hdk, T.clD, T.nD_writes, dF_writes, wr, _, rfl, .inl (SqL.of h7), _, rfl, e, CE, dx, _, _, rfl, h1, T.clE, T.nE_used, eF_used, _, rfl, e, CE, dx, _, _, rfl, h1, T.clE, T.nE_number, eF_number, _, rfl, e, CE, dx, _, _, rfl, h1, T.clE, T.nE_size, eF_size, _, rfl, e, CE, dx, _, _, rfl, h1, T.clE, T.nE_copying, eF_copying, _, rfl, ife_join ?_⟩
    refine ⟨sz 8 (by decide), ?_⟩
    intro p np; generalize hH_p : upd _ p _ = H1; have s1 := snew np hH_p; have hp := hnew hH_p; clear hH_p
    refine ed_say D I (Same.refl H) k ?_ p H1 np s1 hp
    show _ = av (Ue17.ints [if g.on = true then 1 else 0, g.tree.deeds, g.safe, g.disk.cache.length, if g.file = true then 1 else 0, g.number, g.size, if g.copy.isSome = true then 1 else 0])
    rw [av_ints, rv_len, h8.len]
    cases g.on <;> cases g.copy.isSome <;> rfl
theorem ok_past_told (T : Txt K mg CT CD CE) : C8.Cal P w K mg base 8 "past_told" (spE CT CD CE fun _ _ us c => ∃ n, us = [nV n] ∧ c = .was n) [] := by
  refine T.d_past_told.ok sc_past_told (fun vs H Q E h => ?_) (fun f cdv A outer s H vs Q E hr h => ?_)
  · obtain ⟨X, fl, wr, rm, e, dk, g, A, f, N, us, c, rfl, _, _, _, ⟨n, rfl, _⟩, _⟩ := h
    rfl
  · obtain ⟨X, fl, wr, rm, e, dk, g, A, f, N, us, c, rfl, D, I, hN, ⟨n, rfl, rfl⟩, k⟩ := h
    obtain ⟨dx, h1⟩ := D.ins
    obtain ⟨ps, l1, l2, l3⟩ := D.lg
    have hll := l2.len
    rw [List.length_map] at hll
    refine ⟨_, (pss_cons (ps_if (pt_cmpR op_gt (pv 1) (pe_callB call_len_seq (by rfl) T.b_len PySem.boot_len (pa_cons (pe_fld (pv 0) rfl) pa_nil)) (nomark _))
        (pss_one (ps_ret (C8.pe_c (ok_refused T) hr (by decide) (by rfl) (pa_cons (C8.pe_gc (by rfl) T.c_MISSING) pa_nil))))
        pss_nil)
      (pss_cons (ps_set (i := 2) sc_past_told.nd rfl (Or.inl rfl) (C8.pe_c (ok_tree_made_by T) hr (by decide) (by rfl) (pa_cons (pe_slice sl_list (pe_fld (pv 0) rfl) po_none (po_some (pv 1))) pa_nil)))
      (pss_one (ps_ret (pe_op op_cat (pe_lst (pa_cons (pe_fld (pv 2) rfl) (pa_cons (pe_callB call_lenD (by rfl) T.b_len PySem.boot_len (pa_cons (pe_fld (pv 2) rfl) pa_nil)) pa_nil))) (C8.pe_c (ok_counted T) hr (by decide) (by rfl) (pa_cons (C8.pe_mt0 (ok_Tree_text_now T) hr (by decide) (pv 2)) pa_nil))))))) , ?_⟩
    have es : Ue17.step g (.was n) = (g, if g.log.length < n then [-2] else Ue17.ints ([((g.log.take n).foldl Ue17.did Ue17.first).now, ((g.log.take n).foldl Ue17.did Ue17.first).nodes.length, (Ue17.textAt ((g.log.take n).foldl Ue17.did Ue17.first) ((g.log.take n).foldl Ue17.did Ue17.first).now).length] ++ Ue17.textAt ((g.log.take n).foldl Ue17.did Ue17.first) ((g.log.take n).foldl Ue17.did Ue17.first).now)) := rfl
    rw [es] at k
    refine ⟨_, rfl, _, rfl, e, CE, dx, _, _, rfl, h1, T.clE, T.nE_remembered, eF_remembered, rm, _, rfl, .inl (SqL.of l1), _, _, rfl, rfl, _, rfl, itD (fun c2 => ?_) (fun c2 => ?_)⟩
    · rw [rv_len, hll] at c2
      rw [if_pos (show g.log.length < n by omega)] at k
      exact ⟨2, rfl, ed_no D (I.mono (Nat.le_succ _)) (Same.refl H) k⟩
    rw [rv_len, hll] at c2
    rw [if_neg (show ¬ g.log.length < n by omega)] at k
    refine ⟨_, rfl, e, CE, dx, _, _, rfl, h1, T.clE, T.nE_remembered, eF_remembered, _, rfl, _, rfl, rm, _, rfl, SqL.of l1, ?_⟩
    intro r2 nr2; generalize hH_r2 : upd _ r2 _ = H1; have s1 := snew nr2 hH_r2; have hr2 := hnew hH_r2; clear hH_r2
    rw [cut_rv] at hr2
    have hIl := I.llen
    have hdl : (g.log.take n).length ≤ 59 := by rw [List.length_take]; omega
    refine ⟨r2, ps.take n, g.log.take n, X, rfl, hr2, ⟨?_, fun i p b' q1 q2 => ?_⟩, fun d hd => D.okl d (List.mem_of_mem_take hd), by omega, (D.same s1).tr.xl, ?_⟩
    · rw [List.length_map, List.length_take, List.length_take, hll]
    · have hi : i < n := by
        have := (List.getElem?_eq_some_iff.mp q1).1
        rw [List.length_take] at this
        omega
      rw [List.getElem?_map, List.getElem?_take_of_lt hi, ← List.getElem?_map] at q2
      rw [List.getElem?_take_of_lt hi] at q1
      exact s1 _ _ (l2.at_ i p b' q1 q2)
    generalize hu : (g.log.take n).foldl Ue17.did Ue17.first = u at k
    intro A' f' H2 s2 T2 W2 n2
    obtain ⟨d2, t2, i2, _, _⟩ := T2.ins
    have hkl : (kepKV u.nodes).length = u.nodes.length := List.length_map ..
    refine ⟨_, rfl, A'.a, CT, d2, _, _, rfl, i2, T.clT, T.nT_now, tF_now, _, rfl, A'.a, CT, d2, _, _, rfl, i2, T.clT, T.nT_kept, tF_kept, A'.ke, _, rfl, T2.ke, sz 2 (by decide), ?_⟩
    intro z nz; generalize hH_z : upd _ z _ = H3; have s3 := snew nz hH_z; have hz := hnew hH_z; clear hH_z
    have T3 := T2.same s3
    have htl := W2.text u.now
    refine ⟨_, rfl, A'.a, d2, _, rfl, s3 _ _ i2, tF_no_text_now, A', X, f', u, _, rfl, T3, W2, by omega, fun tp H4 s4 htp ntp => ⟨tp, _, rfl, htp, by omega, fun cp H5 ncp s5 hcp => ?_⟩⟩
    refine ⟨z, cp, _, _, rfl, rfl, s5 _ _ (s4 _ _ hz), hcp, sz _ (by rw [iv_len]; show 2 + ((Ue17.textAt u u.now).length + 1) ≤ _; omega), ?_⟩
    intro p np; generalize hH_p : upd _ p _ = H6; have s6 := snew np hH_p; have hp := hnew hH_p; clear hH_p
    refine ed_say D I ((((s1.trans s2).trans s3).trans s4).trans s5) k ?_ p H6 np s6 hp
    rw [av_ints, hkl]
    rfl
theorem ok_tree_told (T : Txt K mg CT CD CE) : C8.Cal P w K mg base 2 "tree_told" (spE CT CD CE fun _ _ us c => us = [] ∧ c = .tree) [] := by
  refine T.d_tree_told.ok sc_tree_told (fun vs H Q E h => ?_) (fun f cdv A outer s H vs Q E hr h => ?_)
  · obtain ⟨X, fl, wr, rm, e, dk, g, A, f, N, us, c, rfl, _, _, _, ⟨rfl, _⟩, _⟩ := h
    rfl
  · obtain ⟨X, fl, wr, rm, e, dk, g, A, f, N, us, c, rfl, D, I, hN, ⟨rfl, rfl⟩, k⟩ := h
    have hu := hu_of hr
    obtain ⟨dx, h1⟩ := D.ins
    obtain ⟨d6, t6, i6, _, _⟩ := D.tr.ins
    refine ⟨_, (pss_cons (ps_if (pt_not (pt_val (pe_fld (pv 0) rfl)))
        (pss_one (ps_ret (C8.pe_c (ok_refused T) hr (by decide) (by rfl) (pa_cons (C8.pe_gc (by rfl) T.c_WRONG_POWER) pa_nil))))
        pss_nil)
      (pss_cons (ps_set (i := 1) sc_tree_told.nd rfl (Or.inl rfl) (pe_fld (pv 0) rfl))
      (pss_cons (ps_set (i := 2) sc_tree_told.nd rfl (Or.inl rfl) (pe_lst (pa_cons (pe_fld (pv 1) rfl) (pa_cons (pe_callB call_lenD (by rfl) T.b_len PySem.boot_len (pa_cons (pe_fld (pv 1) rfl) pa_nil)) pa_nil))))
      (pss_cons (ps_for PassesOwn.never rfl (pi_list (C8.pe_mt0 (ok_Tree_numbers T) hr (by decide) (pv 1))) (pg_name (i := 3) sc_tree_told.nd rfl (Or.inl rfl))
        (pss_one (ps_set (i := 2) sc_tree_told.nd rfl (Or.inl rfl) (pe_op op_cat (pv 2) (pe_lst (pa_cons (pv 3) (pa_cons (pe_ifExp (pt_cmpR op_eq (pv 3) (pe_fld (pv 1) rfl) (nomark _)) pe_int (pe_op op_add (pe_dget (by exact hu) (pe_fld (pv 1) rfl) (pv 3) (fun _ _ => rfl)) pe_int)) (pa_cons (pe_dget (by exact hu) (pe_fld (pv 1) rfl) (pv 3) (fun _ _ => rfl)) pa_nil))))))))
      (pss_one (ps_ret (pv 2))))))) , ?_⟩
    refine ⟨_, rfl, e, CE, dx, _, _, rfl, h1, T.clE, T.nE_powered, eF_powered, _, rfl, itNB (fun c => ?_) (fun c => ?_)⟩
    · have es : Ue17.step g .tree = (g, [-9]) := if_pos c
      rw [es] at k
      exact ⟨9, rfl, ed_no D (I.mono (Nat.le_succ _)) (Same.refl H) k⟩
    have es : Ue17.step g .tree = (g, Ue17.ints ([g.tree.now, g.tree.nodes.length] ++ g.tree.nodes.flatMap (Ue17.nodeRow g.tree))) := if_neg (by rw [c]; decide)
    rw [es] at k
    have W := D.rt.wf
    have hkl : (kepKV g.tree.nodes).length = g.tree.nodes.length := List.length_map ..
    have hnl := W.len
    have nd := W.nd
    refine ⟨_, rfl, e, CE, dx, _, _, rfl, h1, T.clE, T.nE_tree, eF_tree, ?_⟩
    refine ⟨_, rfl, A.a, CT, d6, _, _, rfl, i6, T.clT, T.nT_now, tF_now, _, rfl, A.a, CT, d6, _, _, rfl, i6, T.clT, T.nT_kept, tF_kept, A.ke, _, rfl, D.tr.ke, sz 2 (by decide), ?_⟩
    intro q0 nq0; generalize hH_q0 : upd _ q0 _ = H1; have s1 := snew nq0 hH_q0; have hq0 := hnew hH_q0; clear hH_q0
    rw [hkl] at hq0
    have T1 := D.tr.same s1
    refine ⟨_, rfl, A.a, d6, _, rfl, s1 _ _ i6, tF_no_numbers, A, X, f, g.tree, rfl, T1, W.inc, by omega, fun np H2 nnp s2 hnp => ?_⟩
    have hq2 := s2 _ _ hq0
    have T2 := T1.same s2
    refine ⟨np, rfl, ⟨_, SqL.of hnp⟩, for_list (K := K) (a := np) (xs := iv (g.tree.nodes.map fun x => x.number)) (fun i σ H' => ∃ (q : Addr) (v3 : Option V), σ = [some (.ref e), some (.ref A.a), some (.ref q), v3] ∧ Same H2 H' ∧ H' q = some (.lst (iv ([g.tree.now, g.tree.nodes.length] ++ (g.tree.nodes.take i).flatMap (Ue17.nodeRow g.tree)))) ∧ H q = none)
      ⟨q0, none, rfl, Same.refl _, hq2, nq0⟩ (fun i σ H' _ pv => by obtain ⟨q, v3, _, sv, _⟩ := pv; exact SqL.of (sv _ _ hnp)) (fun i y0 σ H' hy0 pv => ?_) (fun σ H' pv => ?_)⟩
    · obtain ⟨q, v3, rfl, sv, hq, nq⟩ := pv
      have hi : i < g.tree.nodes.length := by
        have := (List.getElem?_eq_some_iff.mp hy0).1
        rw [iv_len, List.length_map] at this
        exact this
      have hx : g.tree.nodes[i]? = some (g.tree.nodes[i]'hi) := List.getElem?_eq_getElem hi
      generalize hxx : g.tree.nodes[i]'hi = x at hx
      have hxm := List.mem_of_getElem? hx
      obtain rfl : y0 = nV x.number := by
        have e1 := iv_get (l := g.tree.nodes.map fun x => x.number) (i := i) (x := x.number) (by rw [List.getElem?_map, hx]; rfl)
        rw [e1] at hy0
        exact (Option.some.inj hy0).symm
      have TV := T2.same sv
      have iV := sv _ _ (s2 _ _ (s1 _ _ i6))
      have hf : Ue17.find g.tree x.number = some x := fnd_mem nd hxm
      have v1 : valV (kepKV g.tree.nodes) (kI x.number) = some (nV (Ue17.bit x.kept)) := by rw [val_kep, fnd_find, hf]; rfl
      have hln : (iv ([g.tree.now, g.tree.nodes.length] ++ (g.tree.nodes.take i).flatMap (Ue17.nodeRow g.tree))).length ≤ 1000 := by
        rw [iv_len, List.length_append, rows_len, List.length_take]
        show 2 + _ ≤ _
        omega
      have enew : ∀ v : Nat, (v = match x.parent with | none => 0 | some p => p + 1) → iv ([g.tree.now, g.tree.nodes.length] ++ (g.tree.nodes.take i).flatMap (Ue17.nodeRow g.tree)) ++ [nV x.number, nV v, nV (Ue17.bit x.kept)] = iv ([g.tree.now, g.tree.nodes.length] ++ (g.tree.nodes.take (i + 1)).flatMap (Ue17.nodeRow g.tree)) := fun v hv => by
        rw [take_snoc hx, List.flatMap_append, ← List.append_assoc, iv_append _ (List.flatMap _ [x]), hv]
        rfl
      refine ⟨_, rfl, _, rfl, _, rfl, _, rfl, A.a, CT, d6, _, _, rfl, iV, T.clT, T.nT_first, tF_first, rfl, _, rfl, itI (fun c3 => ?_) (fun c3 => ?_)⟩
      · refine ⟨_, rfl, A.a, CT, d6, _, _, rfl, iV, T.clT, T.nT_kept, tF_kept, _, rfl, A.ke, _, rfl, dget_of TV.ke v1, sz 3 (by decide), ?_⟩
        intro r nr; generalize hH_r : upd _ r _ = H3; have s3 := snew nr hH_r; have hr3 := hnew hH_r; clear hH_r
        refine ⟨q, r, _, _, rfl, rfl, s3 _ _ hq, hr3, sz _ (by show _ + 3 ≤ _; omega), ?_⟩
        intro z nz; generalize hH_z : upd _ z _ = H4; have s4 := snew nz hH_z; have hz := hnew hH_z; clear hH_z
        refine ⟨z, _, rfl, (sv.trans s3).trans s4, ?_, ((((s1.trans s2).trans sv).trans s3)).free nz⟩
        rw [hz]
        have hpn : x.parent = none := by
          obtain ⟨y, hy, ey, py⟩ := W.fst
          have : x = y := mem_inj nd hxm hy (by rw [ey]; omega)
          rw [this]; exact py
        exact congrArg (fun l => some (HO.lst l)) (enew 0 (by rw [hpn]))
      · cases hp : x.parent with
        | none => exact absurd (W.uniq x hxm hp) (fun q => c3 (by rw [q]))
        | some p =>
        have v2 : valV (parKV g.tree.nodes) (kI x.number) = some (nV p) := by rw [val_par _ _ nd, fnd_find, hf]; show (x.parent).map nV = _; rw [hp]; rfl
        refine ⟨_, rfl, A.a, CT, d6, _, _, rfl, iV, T.clT, T.nT_parents, tF_parents, _, rfl, A.pa, _, rfl, dget_of TV.pa v2, _, _, rfl, rfl, _, rfl, A.a, CT, d6, _, _, rfl, iV, T.clT, T.nT_kept, tF_kept, _, rfl, A.ke, _, rfl, dget_of TV.ke v1, sz 3 (by decide), ?_⟩
        intro r nr; generalize hH_r : upd _ r _ = H3; have s3 := snew nr hH_r; have hr3 := hnew hH_r; clear hH_r
        refine ⟨q, r, _, _, rfl, rfl, s3 _ _ hq, hr3, sz _ (by show _ + 3 ≤ _; omega), ?_⟩
        intro z nz; generalize hH_z : upd _ z _ = H4; have s4 := snew nz hH_z; have hz := hnew hH_z; clear hH_z
        refine ⟨z, _, rfl, (sv.trans s3).trans s4, ?_, ((((s1.trans s2).trans sv).trans s3)).free nz⟩
        rw [hz]
        exact congrArg (fun l => some (HO.lst l)) (enew (p + 1) (by rw [hp]))
    · obtain ⟨q, v3, rfl, sv, hq, nq⟩ := pv
      rw [iv_len, List.length_map, List.take_length] at hq
      refine ⟨_, rfl, ?_⟩
      refine k H' q X fl wr rm dk A f (D.same ((s1.trans s2).trans sv)) (I.mono (Nat.le_succ _)) (by rw [hq, av_ints]) (fun b hb => .inl hb) (fun b hb => hb) (fun b hb => .inl hb) (fun b l hb _ => ((s1.trans s2).trans sv) _ _ hb) (.inl nq)
end
end TT
end
section
set_option maxHeartbeats 2000000
namespace TT
open PySem PySem.Spec PyProof.Rows L2
open Ue17 (Write Files House Deed)
theorem edQ.same {CT CD CE : Addr} {X : List Addr} {fl wr rm : Addr} {H H1 : Hp} {e : Addr} {g' : House} {N : Nat} {ans : List Int} {Q : VK} (k : edQ CT CD CE X fl wr rm H e g' N ans Q) (s : Same H H1) : edQ CT CD CE X fl wr rm H1 e g' N ans Q := fun H' p X' fl' wr' rm' dk' A' f' D I hp h1 h2 h3 h4 h5 =>
  k H' p X' fl' wr' rm' dk' A' f' D I hp (fun b hb => (h1 b hb).imp id s.free) h2 (fun b hb => (h3 b hb).imp id s.free) (fun b l hb hn => h4 b l (s _ _ hb) hn) (h5.imp s.free id)
theorem ci0 {l : List Nat} {c : Ue17.Call} (h : Ue17Neutral.callIn (0 :: l) = some c) : ∃ p o w, l = p :: o :: w ∧ c = .change ⟨p, o, w⟩ := by
  match l, h with
  | p :: o :: w, h => exact ⟨p, o, w, rfl, (Option.some.inj h).symm⟩
  | [], h => cases h
  | [_], h => cases h
theorem nbit {k : Nat} {b : Bool} (h : Ue17Neutral.bit k = some b) : k = Ue17.bit b := by
  unfold Ue17Neutral.bit at h
  split at h
  · cases h; assumption
  · split at h
    · cases h; assumption
    · cases h
theorem ci4 {l : List Nat} {c : Ue17.Call} (h : Ue17Neutral.callIn (4 :: l) = some c) : ∃ n k, l = [n, Ue17.bit k] ∧ c = .keep n k := by
  match l, h with
  | [n, k], h =>
    have h : (Ue17Neutral.bit k).map (fun k => Ue17.Call.keep n k) = some c := h
    cases hb : Ue17Neutral.bit k with
    | none => rw [hb] at h; cases h
    | some b => rw [hb] at h; exact ⟨n, b, by rw [nbit hb], (Option.some.inj h).symm⟩
  | [], h => cases h
  | [_], h => cases h
  | _ :: _ :: _ :: _, h => cases h
theorem ci13 {l : List Nat} {c : Ue17.Call} (h : Ue17Neutral.callIn (13 :: l) = some c) : ∃ k, l = [Ue17.bit k] ∧ c = .file k := by
  match l, h with
  | [k], h =>
    have h : (Ue17Neutral.bit k).map (fun k => Ue17.Call.file k) = some c := h
    cases hb : Ue17Neutral.bit k with
    | none => rw [hb] at h; cases h
    | some b => rw [hb] at h; exact ⟨b, by rw [nbit hb], (Option.some.inj h).symm⟩
  | [], h => cases h
  | _ :: _ :: _, h => cases h
theorem ci14 {l : List Nat} {c : Ue17.Call} (h : Ue17Neutral.callIn (14 :: l) = some c) : ∃ b p x, l = [Ue17.bit b, p, x] ∧ c = .spoil b p x := by
  match l, h with
  | [k, p, x], h =>
    have h : (Ue17Neutral.bit k).map (fun k => Ue17.Call.spoil k p x) = some c := h
    cases hb : Ue17Neutral.bit k with
    | none => rw [hb] at h; cases h
    | some b => rw [hb] at h; exact ⟨b, p, x, by rw [nbit hb], (Option.some.inj h).symm⟩
  | [], h => cases h
  | [_], h => cases h
  | [_, _], h => cases h
  | _ :: _ :: _ :: _ :: _, h => cases h
theorem ci9 {l : List Nat} {c : Ue17.Call} (h : Ue17Neutral.callIn (9 :: l) = some c) : c = .power l := (Option.some.inj h).symm
theorem ci3 {l : List Nat} {c : Ue17.Call} (h : Ue17Neutral.callIn (3 :: l) = some c) : ∃ n, l = [n] ∧ c = .goto n := by
  match l, h with
  | [n], h => exact ⟨n, rfl, (Option.some.inj h).symm⟩
  | [], h => cases h
  | _ :: _ :: _, h => cases h
theorem ci5 {l : List Nat} {c : Ue17.Call} (h : Ue17Neutral.callIn (5 :: l) = some c) : ∃ n, l = [n] ∧ c = .forget n := by
  match l, h with
  | [n], h => exact ⟨n, rfl, (Option.some.inj h).symm⟩
  | [], h => cases h
  | _ :: _ :: _, h => cases h
theorem ci11 {l : List Nat} {c : Ue17.Call} (h : Ue17Neutral.callIn (11 :: l) = some c) : ∃ n, l = [n] ∧ c = .text n := by
  match l, h with
  | [n], h => exact ⟨n, rfl, (Option.some.inj h).symm⟩
  | [], h => cases h
  | _ :: _ :: _, h => cases h
theorem ci16 {l : List Nat} {c : Ue17.Call} (h : Ue17Neutral.callIn (16 :: l) = some c) : ∃ n, l = [n] ∧ c = .was n := by
  match l, h with
  | [n], h => exact ⟨n, rfl, (Option.some.inj h).symm⟩
  | [], h => cases h
  | _ :: _ :: _, h => cases h
theorem ci1 {l : List Nat} {c : Ue17.Call} (h : Ue17Neutral.callIn (1 :: l) = some c) : c = .undo := by
  match l, h with
  | [], h => exact (Option.some.inj h).symm
  | _ :: _, h => cases h
theorem ci2 {l : List Nat} {c : Ue17.Call} (h : Ue17Neutral.callIn (2 :: l) = some c) : c = .redo := by
  match l, h with
  | [], h => exact (Option.some.inj h).symm
  | _ :: _, h => cases h
theorem ci6 {l : List Nat} {c : Ue17.Call} (h : Ue17Neutral.callIn (6 :: l) = some c) : c = .flush := by
  match l, h with
  | [], h => exact (Option.some.inj h).symm
  | _ :: _, h => cases h
theorem ci7 {l : List Nat} {c : Ue17.Call} (h : Ue17Neutral.callIn (7 :: l) = some c) : c = .copy := by
  match l, h with
  | [], h => exact (Option.some.inj h).symm
  | _ :: _, h => cases h
theorem ci8 {l : List Nat} {c : Ue17.Call} (h : Ue17Neutral.callIn (8 :: l) = some c) : c = .turn := by
  match l, h with
  | [], h => exact (Option.some.inj h).symm
  | _ :: _, h => cases h
theorem ci10 {l : List Nat} {c : Ue17.Call} (h : Ue17Neutral.callIn (10 :: l) = some c) : c = .start := by
  match l, h with
  | [], h => exact (Option.some.inj h).symm
  | _ :: _, h => cases h
theorem ci12 {l : List Nat} {c : Ue17.Call} (h : Ue17Neutral.callIn (12 :: l) = some c) : c = .tree := by
  match l, h with
  | [], h => exact (Option.some.inj h).symm
  | _ :: _, h => cases h
theorem ci15 {l : List Nat} {c : Ue17.Call} (h : Ue17Neutral.callIn (15 :: l) = some c) : c = .state := by
  match l, h with
  | [], h => exact (Option.some.inj h).symm
  | _ :: _, h => cases h
def spW (CT CD CE : Addr) (num : Nat) : Sp := spE CT CD CE fun H X us c => ∃ a l, us = [.ref a] ∧ H a = some (.lst (iv l)) ∧ a ∉ X ∧ l.length ≤ 10000 ∧ Ue17Neutral.callIn (num :: l) = some c
section
variable {P : Program} {w : World} {K : PySem.W.Frag} {mg : Str → Option Value} {base : Heap} {CT CD CE : Addr}
abbrev N_change : List Str := ["editor", "given"]
theorem sc_change : FnScope N_change ["editor", "given"] (defScope s_change) := ⟨rfl, rfl, rfl, by decide +kernel, rfl, by decide +kernel, by decide +kernel⟩
abbrev N_undo : List Str := ["editor", "given"]
theorem sc_undo : FnScope N_undo ["editor", "given"] (defScope s_undo) := ⟨rfl, rfl, rfl, by decide +kernel, rfl, by decide +kernel, by decide +kernel⟩
abbrev N_redo : List Str := ["editor", "given"]
theorem sc_redo : FnScope N_redo ["editor", "given"] (defScope s_redo) := ⟨rfl, rfl, rfl, by decide +kernel, rfl, by decide +kernel, by decide +kernel⟩
abbrev N_go_where : List Str := ["editor", "state"]
theorem sc_go_where : FnScope N_go_where ["editor", "state"] (defScope s_go_where) := ⟨rfl, rfl, rfl, by decide +kernel, rfl, by decide +kernel, by decide +kernel⟩
abbrev N_goto : List Str := ["editor", "given"]
theorem sc_goto : FnScope N_goto ["editor", "given"] (defScope s_goto) := ⟨rfl, rfl, rfl, by decide +kernel, rfl, by decide +kernel, by decide +kernel⟩
abbrev N_keep : List Str := ["editor", "given"]
theorem sc_keep : FnScope N_keep ["editor", "given"] (defScope s_keep) := ⟨rfl, rfl, rfl, by decide +kernel, rfl, by decide +kernel, by decide +kernel⟩
abbrev N_forget : List Str := ["editor", "given"]
theorem sc_forget : FnScope N_forget ["editor", "given"] (defScope s_forget) := ⟨rfl, rfl, rfl, by decide +kernel, rfl, by decide +kernel, by decide +kernel⟩
abbrev N_flush : List Str := ["editor", "given"]
theorem sc_flush : FnScope N_flush ["editor", "given"] (defScope s_flush) := ⟨rfl, rfl, rfl, by decide +kernel, rfl, by decide +kernel, by decide +kernel⟩
abbrev N_begin_copy : List Str := ["editor", "given"]
theorem sc_begin_copy : FnScope N_begin_copy ["editor", "given"] (defScope s_begin_copy) := ⟨rfl, rfl, rfl, by decide +kernel, rfl, by decide +kernel, by decide +kernel⟩
abbrev N_turn : List Str := ["editor", "given"]
theorem sc_turn : FnScope N_turn ["editor", "given"] (defScope s_turn) := ⟨rfl, rfl, rfl, by decide +kernel, rfl, by decide +kernel, by decide +kernel⟩
abbrev N_power : List Str := ["editor", "given"]
theorem sc_power : FnScope N_power ["editor", "given"] (defScope s_power) := ⟨rfl, rfl, rfl, by decide +kernel, rfl, by decide +kernel, by decide +kernel⟩
abbrev N_start : List Str := ["editor", "given"]
theorem sc_start : FnScope N_start ["editor", "given"] (defScope s_start) := ⟨rfl, rfl, rfl, by decide +kernel, rfl, by decide +kernel, by decide +kernel⟩
abbrev N_tell_text : List Str := ["editor", "given"]
theorem sc_tell_text : FnScope N_tell_text ["editor", "given"] (defScope s_tell_text) := ⟨rfl, rfl, rfl, by decide +kernel, rfl, by decide +kernel, by decide +kernel⟩
abbrev N_tell_tree : List Str := ["editor", "given"]
theorem sc_tell_tree : FnScope N_tell_tree ["editor", "given"] (defScope s_tell_tree) := ⟨rfl, rfl, rfl, by decide +kernel, rfl, by decide +kernel, by decide +kernel⟩
abbrev N_tell_file : List Str := ["editor", "given"]
theorem sc_tell_file : FnScope N_tell_file ["editor", "given"] (defScope s_tell_file) := ⟨rfl, rfl, rfl, by decide +kernel, rfl, by decide +kernel, by decide +kernel⟩
abbrev N_spoil : List Str := ["editor", "given"]
theorem sc_spoil : FnScope N_spoil ["editor", "given"] (defScope s_spoil) := ⟨rfl, rfl, rfl, by decide +kernel, rfl, by decide +kernel, by decide +kernel⟩
abbrev N_tell_state : List Str := ["editor", "given"]
theorem sc_tell_state : FnScope N_tell_state ["editor", "given"] (defScope s_tell_state) := ⟨rfl, rfl, rfl, by decide +kernel, rfl, by decide +kernel, by decide +kernel⟩
abbrev N_was : List Str := ["editor", "given"]
theorem sc_was : FnScope N_was ["editor", "given"] (defScope s_was) := ⟨rfl, rfl, rfl, by decide +kernel, rfl, by decide +kernel, by decide +kernel⟩
def sp_go_where (CT CD CE : Addr) : Sp := fun vs H Q _ => ∃ (X : List Addr) (fl wr rm e dk : Addr) (g : House) (A : TA) (f N : Nat) (o : Option Nat), vs = [.ref e, oV o] ∧ EdAt CT CD CE X fl wr rm H e g dk A f ∧ INV g N ∧ N ≤ 59 ∧ edQ CT CD CE X fl wr rm H e (doR g (o.map .goes)).1 (N + 1) (doR g (o.map .goes)).2 Q
theorem ok_go_where (T : Txt K mg CT CD CE) : C8.Cal P w K mg base 10 "go_where" (sp_go_where CT CD CE) [] := by
  refine T.d_go_where.ok sc_go_where (fun vs H Q E h => ?_) (fun f cdv A outer s H vs Q E hr h => ?_)
  · obtain ⟨X, fl, wr, rm, e, dk, g, A, f, N, o, rfl, _⟩ := h
    rfl
  · obtain ⟨X, fl, wr, rm, e, dk, g, A, f, N, o, rfl, D, I, hN, k⟩ := h
    obtain ⟨dx, h1⟩ := D.ins
    refine ⟨_, (pss_one (ps_ret (C8.pe_mt (ok_Editor_do T) hr (by decide) (pv 0) (pa_cons (pe_ifExp (pt_cmpR op_isN (pv 1) pe_non (nomark _)) pe_non (pe_lst (pa_cons (C8.pe_gc (by rfl) T.c_GO) (pa_cons (pv 1) pa_nil)))) pa_nil)))) , ?_⟩
    cases o with
    | none =>
      refine ⟨_, rfl, e, dx, _, rfl, h1, eF_no_do, _, rfl, rfl, _, rfl, iteT ?_⟩
      exact ⟨X, fl, wr, rm, e, dk, g, A, f, N, .non, none, rfl, D, I, by omega, .inl ⟨rfl, rfl⟩, fun b q => (by cases q), fun d q => (by cases q), k⟩
    | some n =>
      refine ⟨_, rfl, e, dx, _, rfl, h1, eF_no_do, _, rfl, rfl, _, rfl, iteF ?_⟩
      refine ⟨_, rfl, sz 2 (by decide), ?_⟩
      intro q nq; generalize hH_q : upd _ q _ = H1; have s1 := snew nq hH_q; have hq := hnew hH_q; clear hH_q
      exact ⟨X, fl, wr, rm, e, dk, g, A, f, N, .ref q, some (.goes n), rfl, D.same s1, I, by omega, .inr ⟨.goes n, q, rfl, rfl, hq⟩, fun b z => by rw [← V.ref.inj z]; exact D.fresh nq, fun d z => by rw [← Option.some.inj z]; show 2 ≤ 40000; decide, k.same s1⟩
theorem ok_change (T : Txt K mg CT CD CE) {fa : Addr} (Z : AtT K fa "change" s_change ["editor", "given"]) : C8.CalAt P w K mg base 11 fa (spW CT CD CE 0) := by
  refine Z.ok (k := 10) sc_change (fun vs H Q E h => ?_) (fun f cdv A outer s H vs Q E hr h => ?_)
  · obtain ⟨X, fl, wr, rm, e, dk, g, A, f, N, us, c, rfl, _, _, _, ⟨a, l, rfl, _⟩, _⟩ := h
    rfl
  · obtain ⟨X, fl, wr, rm, e, dk, g, A, f, N, us, c, rfl, D, I, hN, ⟨a, l, rfl, ha, na, hll, hc⟩, k⟩ := h
    obtain ⟨dx, h1⟩ := D.ins
    obtain ⟨p, o, w, rfl, rfl⟩ := ci0 hc
    refine ⟨_, (pss_one (ps_ret (C8.pe_mt (ok_Editor_do T) hr (by decide) (pv 0) (pa_cons (pe_op op_cat (pe_lst (pa_cons (C8.pe_gc (by rfl) T.c_MAKE) pa_nil)) (pv 1)) pa_nil)))) , ?_⟩
    rw [step_change] at k
    refine ⟨_, rfl, e, dx, _, rfl, h1, eF_no_do, sz 1 (by decide), ?_⟩
    intro q nq; generalize hH_q : upd _ q _ = H1; have s1 := snew nq hH_q; have hq := hnew hH_q; clear hH_q
    refine ⟨_, rfl, q, a, _, _, rfl, rfl, hq, s1 _ _ ha, sz _ (by rw [iv_len]; show 1 + _ ≤ _; omega), ?_⟩
    intro u nu; generalize hH_u : upd _ u _ = H2; have s2 := snew nu hH_u; have hu := hnew hH_u; clear hH_u
    exact ⟨X, fl, wr, rm, e, dk, g, A, f, N, .ref u, some (.make ⟨p, o, w⟩), rfl, D.same (s1.trans s2), I, by omega, .inr ⟨.make ⟨p, o, w⟩, u, rfl, rfl, hu⟩, fun b z => by rw [← V.ref.inj z]; exact D.fresh (s1.free nu), fun d z => by rw [← Option.some.inj z]; simp only [List.length_cons] at hll; show List.length (_ :: _) ≤ 40000; simp only [List.length_cons]; omega, k.same (s1.trans s2)⟩
theorem ok_goto (T : Txt K mg CT CD CE) {fa : Addr} (Z : AtT K fa "goto" s_goto ["editor", "given"]) : C8.CalAt P w K mg base 11 fa (spW CT CD CE 3) := by
  refine Z.ok (k := 10) sc_goto (fun vs H Q E h => ?_) (fun f cdv A outer s H vs Q E hr h => ?_)
  · obtain ⟨X, fl, wr, rm, e, dk, g, A, f, N, us, c, rfl, _, _, _, ⟨a, l, rfl, _⟩, _⟩ := h
    rfl
  · obtain ⟨X, fl, wr, rm, e, dk, g, A, f, N, us, c, rfl, D, I, hN, ⟨a, l, rfl, ha, na, hll, hc⟩, k⟩ := h
    obtain ⟨dx, h1⟩ := D.ins
    obtain ⟨n, rfl, rfl⟩ := ci3 hc
    refine ⟨_, (pss_one (ps_ret (C8.pe_mt (ok_Editor_do T) hr (by decide) (pv 0) (pa_cons (pe_op op_cat (pe_lst (pa_cons (C8.pe_gc (by rfl) T.c_GO) pa_nil)) (pv 1)) pa_nil)))) , ?_⟩
    rw [step_goto] at k
    refine ⟨_, rfl, e, dx, _, rfl, h1, eF_no_do, sz 1 (by decide), ?_⟩
    intro q nq; generalize hH_q : upd _ q _ = H1; have s1 := snew nq hH_q; have hq := hnew hH_q; clear hH_q
    refine ⟨_, rfl, q, a, _, _, rfl, rfl, hq, s1 _ _ ha, sz _ (by rw [iv_len]; show 1 + _ ≤ _; omega), ?_⟩
    intro u nu; generalize hH_u : upd _ u _ = H2; have s2 := snew nu hH_u; have hu := hnew hH_u; clear hH_u
    exact ⟨X, fl, wr, rm, e, dk, g, A, f, N, .ref u, some (.goes n), rfl, D.same (s1.trans s2), I, by omega, .inr ⟨.goes n, u, rfl, rfl, hu⟩, fun b z => by rw [← V.ref.inj z]; exact D.fresh (s1.free nu), fun d z => by rw [← Option.some.inj z]; simp only [List.length_cons] at hll; show List.length (_ :: _) ≤ 40000; simp only [List.length_cons]; omega, k.same (s1.trans s2)⟩
theorem ok_keep (T : Txt K mg CT CD CE) {fa : Addr} (Z : AtT K fa "keep" s_keep ["editor", "given"]) : C8.CalAt P w K mg base 11 fa (spW CT CD CE 4) := by
  refine Z.ok (k := 10) sc_keep (fun vs H Q E h => ?_) (fun f cdv A outer s H vs Q E hr h => ?_)
  · obtain ⟨X, fl, wr, rm, e, dk, g, A, f, N, us, c, rfl, _, _, _, ⟨a, l, rfl, _⟩, _⟩ := h
    rfl
  · obtain ⟨X, fl, wr, rm, e, dk, g, A, f, N, us, c, rfl, D, I, hN, ⟨a, l, rfl, ha, na, hll, hc⟩, k⟩ := h
    obtain ⟨dx, h1⟩ := D.ins
    obtain ⟨n, kb, rfl, rfl⟩ := ci4 hc
    refine ⟨_, (pss_one (ps_ret (C8.pe_mt (ok_Editor_do T) hr (by decide) (pv 0) (pa_cons (pe_op op_cat (pe_lst (pa_cons (C8.pe_gc (by rfl) T.c_KEEP) pa_nil)) (pv 1)) pa_nil)))) , ?_⟩
    rw [step_keep] at k
    refine ⟨_, rfl, e, dx, _, rfl, h1, eF_no_do, sz 1 (by decide), ?_⟩
    intro q nq; generalize hH_q : upd _ q _ = H1; have s1 := snew nq hH_q; have hq := hnew hH_q; clear hH_q
    refine ⟨_, rfl, q, a, _, _, rfl, rfl, hq, s1 _ _ ha, sz _ (by rw [iv_len]; show 1 + _ ≤ _; omega), ?_⟩
    intro u nu; generalize hH_u : upd _ u _ = H2; have s2 := snew nu hH_u; have hu := hnew hH_u; clear hH_u
    exact ⟨X, fl, wr, rm, e, dk, g, A, f, N, .ref u, some (.keep n kb), rfl, D.same (s1.trans s2), I, by omega, .inr ⟨.keep n kb, u, rfl, rfl, hu⟩, fun b z => by rw [← V.ref.inj z]; exact D.fresh (s1.free nu), fun d z => by rw [← Option.some.inj z]; simp only [List.length_cons] at hll; show List.length (_ :: _) ≤ 40000; simp only [List.length_cons]; omega, k.same (s1.trans s2)⟩
theorem ok_forget (T : Txt K mg CT CD CE) {fa : Addr} (Z : AtT K fa "forget" s_forget ["editor", "given"]) : C8.CalAt P w K mg base 11 fa (spW CT CD CE 5) := by
  refine Z.ok (k := 10) sc_forget (fun vs H Q E h => ?_) (fun f cdv A outer s H vs Q E hr h => ?_)
  · obtain ⟨X, fl, wr, rm, e, dk, g, A, f, N, us, c, rfl, _, _, _, ⟨a, l, rfl, _⟩, _⟩ := h
    rfl
  · obtain ⟨X, fl, wr, rm, e, dk, g, A, f, N, us, c, rfl, D, I, hN, ⟨a, l, rfl, ha, na, hll, hc⟩, k⟩ := h
    obtain ⟨dx, h1⟩ := D.ins
    obtain ⟨n, rfl, rfl⟩ := ci5 hc
    refine ⟨_, (pss_one (ps_ret (C8.pe_mt (ok_Editor_do T) hr (by decide) (pv 0) (pa_cons (pe_op op_cat (pe_lst (pa_cons (C8.pe_gc (by rfl) T.c_FORGET) pa_nil)) (pv 1)) pa_nil)))) , ?_⟩
    rw [step_forget] at k
    refine ⟨_, rfl, e, dx, _, rfl, h1, eF_no_do, sz 1 (by decide), ?_⟩
    intro q nq; generalize hH_q : upd _ q _ = H1; have s1 := snew nq hH_q; have hq := hnew hH_q; clear hH_q
    refine ⟨_, rfl, q, a, _, _, rfl, rfl, hq, s1 _ _ ha, sz _ (by rw [iv_len]; show 1 + _ ≤ _; omega), ?_⟩
    intro u nu; generalize hH_u : upd _ u _ = H2; have s2 := snew nu hH_u; have hu := hnew hH_u; clear hH_u
    exact ⟨X, fl, wr, rm, e, dk, g, A, f, N, .ref u, some (.forget n), rfl, D.same (s1.trans s2), I, by omega, .inr ⟨.forget n, u, rfl, rfl, hu⟩, fun b z => by rw [← V.ref.inj z]; exact D.fresh (s1.free nu), fun d z => by rw [← Option.some.inj z]; simp only [List.length_cons] at hll; show List.length (_ :: _) ≤ 40000; simp only [List.length_cons]; omega, k.same (s1.trans s2)⟩
theorem ok_undo (T : Txt K mg CT CD CE) {fa : Addr} (Z : AtT K fa "undo" s_undo ["editor", "given"]) : C8.CalAt P w K mg base 11 fa (spW CT CD CE 1) := by
  refine Z.ok (k := 10) sc_undo (fun vs H Q E h => ?_) (fun f cdv A outer s H vs Q E hr h => ?_)
  · obtain ⟨X, fl, wr, rm, e, dk, g, A, f, N, us, c, rfl, _, _, _, ⟨a, l, rfl, _⟩, _⟩ := h
    rfl
  · obtain ⟨X, fl, wr, rm, e, dk, g, A, f, N, us, c, rfl, D, I, hN, ⟨a, l, rfl, ha, na, hll, hc⟩, k⟩ := h
    obtain ⟨dx, h1⟩ := D.ins
    obtain rfl := ci1 hc
    refine ⟨_, (pss_one (ps_ret (C8.pe_c (ok_go_where T) hr (by decide) (by rfl) (pa_cons (pv 0) (pa_cons (C8.pe_mt0 (ok_Tree_undone T) hr (by decide) (pe_fld (pv 0) rfl)) pa_nil))))) , ?_⟩
    rw [step_undo D.rt] at k
    obtain ⟨d6, t6, i6, _, _⟩ := D.tr.ins
    exact ⟨_, rfl, _, rfl, e, CE, dx, _, _, rfl, h1, T.clE, T.nE_tree, eF_tree, A.a, d6, _, rfl, i6, tF_no_undone, A, X, f, g.tree, rfl, D.tr, D.rt.wf.nd, X, fl, wr, rm, e, dk, g, A, f, N, _, rfl, D, I, hN, k⟩
theorem ok_redo (T : Txt K mg CT CD CE) {fa : Addr} (Z : AtT K fa "redo" s_redo ["editor", "given"]) : C8.CalAt P w K mg base 11 fa (spW CT CD CE 2) := by
  refine Z.ok (k := 10) sc_redo (fun vs H Q E h => ?_) (fun f cdv A outer s H vs Q E hr h => ?_)
  · obtain ⟨X, fl, wr, rm, e, dk, g, A, f, N, us, c, rfl, _, _, _, ⟨a, l, rfl, _⟩, _⟩ := h
    rfl
  · obtain ⟨X, fl, wr, rm, e, dk, g, A, f, N, us, c, rfl, D, I, hN, ⟨a, l, rfl, ha, na, hll, hc⟩, k⟩ := h
    obtain ⟨dx, h1⟩ := D.ins
    obtain rfl := ci2 hc
    refine ⟨_, (pss_one (ps_ret (C8.pe_c (ok_go_where T) hr (by decide) (by rfl) (pa_cons (pv 0) (pa_cons (C8.pe_mt0 (ok_Tree_done_again T) hr (by decide) (pe_fld (pv 0) rfl)) pa_nil))))) , ?_⟩
    rw [step_redo D.rt] at k
    obtain ⟨d6, t6, i6, _, _⟩ := D.tr.ins
    exact ⟨_, rfl, _, rfl, e, CE, dx, _, _, rfl, h1, T.clE, T.nE_tree, eF_tree, A.a, d6, _, rfl, i6, tF_no_done_again, A, X, f, g.tree, 41, rfl, D.tr, D.rt.wf, by decide, fun H1 s1 => ⟨X, fl, wr, rm, e, dk, g, A, f, N, _, rfl, D.same s1, I, hN, k.same s1⟩⟩
theorem ok_flush (T : Txt K mg CT CD CE) {fa : Addr} (Z : AtT K fa "flush" s_flush ["editor", "given"]) : C8.CalAt P w K mg base 11 fa (spW CT CD CE 6) := by
  refine Z.ok (k := 10) sc_flush (fun vs H Q E h => ?_) (fun f cdv A outer s H vs Q E hr h => ?_)
  · obtain ⟨X, fl, wr, rm, e, dk, g, A, f, N, us, c, rfl, _, _, _, ⟨a, l, rfl, _⟩, _⟩ := h
    rfl
  · obtain ⟨X, fl, wr, rm, e, dk, g, A, f, N, us, c, rfl, D, I, hN, ⟨a, l, rfl, ha, na, hll, hc⟩, k⟩ := h
    obtain ⟨dx, h1⟩ := D.ins
    obtain rfl := ci6 hc
    refine ⟨_, (pss_one (ps_ret (C8.pe_mt0 (ok_Editor_flush T) hr (by decide) (pv 0)))) , ?_⟩
    exact ⟨_, rfl, e, dx, _, rfl, h1, eF_no_flush, X, fl, wr, rm, e, dk, g, A, f, N, [], .flush, rfl, D, I, hN, ⟨rfl, rfl⟩, k⟩
theorem ok_begin_copy (T : Txt K mg CT CD CE) {fa : Addr} (Z : AtT K fa "begin_copy" s_begin_copy ["editor", "given"]) : C8.CalAt P w K mg base 11 fa (spW CT CD CE 7) := by
  refine Z.ok (k := 10) sc_begin_copy (fun vs H Q E h => ?_) (fun f cdv A outer s H vs Q E hr h => ?_)
  · obtain ⟨X, fl, wr, rm, e, dk, g, A, f, N, us, c, rfl, _, _, _, ⟨a, l, rfl, _⟩, _⟩ := h
    rfl
  · obtain ⟨X, fl, wr, rm, e, dk, g, A, f, N, us, c, rfl, D, I, hN, ⟨a, l, rfl, ha, na, hll, hc⟩, k⟩ := h
    obtain ⟨dx, h1⟩ := D.ins
    obtain rfl := ci7 hc
    refine ⟨_, (pss_one (ps_ret (C8.pe_mt0 (ok_Editor_begin_copy T) hr (by decide) (pv 0)))) , ?_⟩
    exact ⟨_, rfl, e, dx, _, rfl, h1, eF_no_begin_copy, X, fl, wr, rm, e, dk, g, A, f, N, [], .copy, rfl, D, I, hN, ⟨rfl, rfl⟩, k⟩
theorem ok_turn (T : Txt K mg CT CD CE) {fa : Addr} (Z : AtT K fa "turn" s_turn ["editor", "given"]) : C8.CalAt P w K mg base 11 fa (spW CT CD CE 8) := by
  refine Z.ok (k := 10) sc_turn (fun vs H Q E h => ?_) (fun f cdv A outer s H vs Q E hr h => ?_)
  · obtain ⟨X, fl, wr, rm, e, dk, g, A, f, N, us, c, rfl, _, _, _, ⟨a, l, rfl, _⟩, _⟩ := h
    rfl
  · obtain ⟨X, fl, wr, rm, e, dk, g, A, f, N, us, c, rfl, D, I, hN, ⟨a, l, rfl, ha, na, hll, hc⟩, k⟩ := h
    obtain ⟨dx, h1⟩ := D.ins
    obtain rfl := ci8 hc
    refine ⟨_, (pss_one (ps_ret (C8.pe_mt0 (ok_Editor_turn T) hr (by decide) (pv 0)))) , ?_⟩
    exact ⟨_, rfl, e, dx, _, rfl, h1, eF_no_turn, X, fl, wr, rm, e, dk, g, A, f, N, [], .turn, rfl, D, I, hN, ⟨rfl, rfl⟩, k⟩
theorem ok_start (T : Txt K mg CT CD CE) {fa : Addr} (Z : AtT K fa "start" s_start ["editor", "given"]) : C8.CalAt P w K mg base 11 fa (spW CT CD CE 10) := by
  refine Z.ok (k := 10) sc_start (fun vs H Q E h => ?_) (fun f cdv A outer s H vs Q E hr h => ?_)
  · obtain ⟨X, fl, wr, rm, e, dk, g, A, f, N, us, c, rfl, _, _, _, ⟨a, l, rfl, _⟩, _⟩ := h
    rfl
  · obtain ⟨X, fl, wr, rm, e, dk, g, A, f, N, us, c, rfl, D, I, hN, ⟨a, l, rfl, ha, na, hll, hc⟩, k⟩ := h
    obtain ⟨dx, h1⟩ := D.ins
    obtain rfl := ci10 hc
    refine ⟨_, (pss_one (ps_ret (C8.pe_mt0 (ok_Editor_start_anew T) hr (by decide) (pv 0)))) , ?_⟩
    exact ⟨_, rfl, e, dx, _, rfl, h1, eF_no_start_anew, X, fl, wr, rm, e, dk, g, A, f, N, [], .start, rfl, D, I, hN, ⟨rfl, rfl⟩, k⟩
theorem ok_power (T : Txt K mg CT CD CE) {fa : Addr} (Z : AtT K fa "power" s_power ["editor", "given"]) : C8.CalAt P w K mg base 11 fa (spW CT CD CE 9) := by
  refine Z.ok (k := 10) sc_power (fun vs H Q E h => ?_) (fun f cdv A outer s H vs Q E hr h => ?_)
  · obtain ⟨X, fl, wr, rm, e, dk, g, A, f, N, us, c, rfl, _, _, _, ⟨a, l, rfl, _⟩, _⟩ := h
    rfl
  · obtain ⟨X, fl, wr, rm, e, dk, g, A, f, N, us, c, rfl, D, I, hN, ⟨a, l, rfl, ha, na, hll, hc⟩, k⟩ := h
    obtain ⟨dx, h1⟩ := D.ins
    obtain rfl := ci9 hc
    refine ⟨_, (pss_one (ps_ret (C8.pe_mt (ok_Editor_lose_power T) hr (by decide) (pv 0) (pa_cons (pv 1) pa_nil)))) , ?_⟩
    exact ⟨_, rfl, e, dx, _, rfl, h1, eF_no_lose_power, _, rfl, X, fl, wr, rm, e, dk, g, A, f, N, [.ref a], .power l, rfl, D, I, hN, ⟨a, l, rfl, ha, na, rfl⟩, k⟩
theorem ok_tell_tree (T : Txt K mg CT CD CE) {fa : Addr} (Z : AtT K fa "tell_tree" s_tell_tree ["editor", "given"]) : C8.CalAt P w K mg base 11 fa (spW CT CD CE 12) := by
  refine Z.ok (k := 10) sc_tell_tree (fun vs H Q E h => ?_) (fun f cdv A outer s H vs Q E hr h => ?_)
  · obtain ⟨X, fl, wr, rm, e, dk, g, A, f, N, us, c, rfl, _, _, _, ⟨a, l, rfl, _⟩, _⟩ := h
    rfl
  · obtain ⟨X, fl, wr, rm, e, dk, g, A, f, N, us, c, rfl, D, I, hN, ⟨a, l, rfl, ha, na, hll, hc⟩, k⟩ := h
    obtain ⟨dx, h1⟩ := D.ins
    obtain rfl := ci12 hc
    refine ⟨_, (pss_one (ps_ret (C8.pe_c (ok_tree_told T) hr (by decide) (by rfl) (pa_cons (pv 0) pa_nil)))) , ?_⟩
    exact ⟨_, rfl, X, fl, wr, rm, e, dk, g, A, f, N, [], .tree, rfl, D, I, hN, ⟨rfl, rfl⟩, k⟩
theorem ok_tell_state (T : Txt K mg CT CD CE) {fa : Addr} (Z : AtT K fa "tell_state" s_tell_state ["editor", "given"]) : C8.CalAt P w K mg base 11 fa (spW CT CD CE 15) := by
  refine Z.ok (k := 10) sc_tell_state (fun vs H Q E h => ?_) (fun f cdv A outer s H vs Q E hr h => ?_)
  · obtain ⟨X, fl, wr, rm, e, dk, g, A, f, N, us, c, rfl, _, _, _, ⟨a, l, rfl, _⟩, _⟩ := h
    rfl
  · obtain ⟨X, fl, wr, rm, e, dk, g, A, f, N, us, c, rfl, D, I, hN, ⟨a, l, rfl, ha, na, hll, hc⟩, k⟩ := h
    obtain ⟨dx, h1⟩ := D.ins
    obtain rfl := ci15 hc
    refine ⟨_, (pss_one (ps_ret (C8.pe_c (ok_state_told T) hr (by decide) (by rfl) (pa_cons (pv 0) pa_nil)))) , ?_⟩
    exact ⟨_, rfl, X, fl, wr, rm, e, dk, g, A, f, N, [], .state, rfl, D, I, hN, ⟨rfl, rfl⟩, k⟩
theorem ok_tell_text (T : Txt K mg CT CD CE) {fa : Addr} (Z : AtT K fa "tell_text" s_tell_text ["editor", "given"]) : C8.CalAt P w K mg base 11 fa (spW CT CD CE 11) := by
  refine Z.ok (k := 10) sc_tell_text (fun vs H Q E h => ?_) (fun f cdv A outer s H vs Q E hr h => ?_)
  · obtain ⟨X, fl, wr, rm, e, dk, g, A, f, N, us, c, rfl, _, _, _, ⟨a, l, rfl, _⟩, _⟩ := h
    rfl
  · obtain ⟨X, fl, wr, rm, e, dk, g, A, f, N, us, c, rfl, D, I, hN, ⟨a, l, rfl, ha, na, hll, hc⟩, k⟩ := h
    obtain ⟨dx, h1⟩ := D.ins
    obtain ⟨n, rfl, rfl⟩ := ci11 hc
    refine ⟨_, (pss_one (ps_ret (C8.pe_c (ok_text_told T) hr (by decide) (by rfl) (pa_cons (pv 0) (pa_cons (pe_ix ix_list (pv 1) pe_int (fun _ _ => rfl)) pa_nil))))) , ?_⟩
    exact ⟨_, rfl, _, rfl, a, _, _, _, rfl, rfl, SqL.of ha, iv_at (i := 0) rfl, X, fl, wr, rm, e, dk, g, A, f, N, [nV n], .text n, rfl, D, I, hN, ⟨n, rfl, rfl⟩, k⟩
theorem ok_was (T : Txt K mg CT CD CE) {fa : Addr} (Z : AtT K fa "was" s_was ["editor", "given"]) : C8.CalAt P w K mg base 11 fa (spW CT CD CE 16) := by
  refine Z.ok (k := 10) sc_was (fun vs H Q E h => ?_) (fun f cdv A outer s H vs Q E hr h => ?_)
  · obtain ⟨X, fl, wr, rm, e, dk, g, A, f, N, us, c, rfl, _, _, _, ⟨a, l, rfl, _⟩, _⟩ := h
    rfl
  · obtain ⟨X, fl, wr, rm, e, dk, g, A, f, N, us, c, rfl, D, I, hN, ⟨a, l, rfl, ha, na, hll, hc⟩, k⟩ := h
    obtain ⟨dx, h1⟩ := D.ins
    obtain ⟨n, rfl, rfl⟩ := ci16 hc
    refine ⟨_, (pss_one (ps_ret (C8.pe_c (ok_past_told T) hr (by decide) (by rfl) (pa_cons (pv 0) (pa_cons (pe_ix ix_list (pv 1) pe_int (fun _ _ => rfl)) pa_nil))))) , ?_⟩
    exact ⟨_, rfl, _, rfl, a, _, _, _, rfl, rfl, SqL.of ha, iv_at (i := 0) rfl, X, fl, wr, rm, e, dk, g, A, f, N, [nV n], .was n, rfl, D, I, hN, ⟨n, rfl, rfl⟩, k⟩
theorem ok_tell_file (T : Txt K mg CT CD CE) {fa : Addr} (Z : AtT K fa "tell_file" s_tell_file ["editor", "given"]) : C8.CalAt P w K mg base 11 fa (spW CT CD CE 13) := by
  refine Z.ok (k := 10) sc_tell_file (fun vs H Q E h => ?_) (fun f cdv A outer s H vs Q E hr h => ?_)
  · obtain ⟨X, fl, wr, rm, e, dk, g, A, f, N, us, c, rfl, _, _, _, ⟨a, l, rfl, _⟩, _⟩ := h
    rfl
  · obtain ⟨X, fl, wr, rm, e, dk, g, A, f, N, us, c, rfl, D, I, hN, ⟨a, l, rfl, ha, na, hll, hc⟩, k⟩ := h
    obtain ⟨dx, h1⟩ := D.ins
    obtain ⟨b, rfl, rfl⟩ := ci13 hc
    refine ⟨_, (pss_one (ps_ret (C8.pe_c (ok_file_told T) hr (by decide) (by rfl) (pa_cons (pv 0) (pa_cons (pe_ix ix_list (pv 1) pe_int (fun _ _ => rfl)) pa_nil))))) , ?_⟩
    exact ⟨_, rfl, _, rfl, a, _, _, _, rfl, rfl, SqL.of ha, iv_at (i := 0) rfl, X, fl, wr, rm, e, dk, g, A, f, N, [nV (Ue17.bit b)], .file b, rfl, D, I, hN, ⟨b, rfl, rfl⟩, k⟩
theorem ok_spoil (T : Txt K mg CT CD CE) {fa : Addr} (Z : AtT K fa "spoil" s_spoil ["editor", "given"]) : C8.CalAt P w K mg base 11 fa (spW CT CD CE 14) := by
  refine Z.ok (k := 10) sc_spoil (fun vs H Q E h => ?_) (fun f cdv A outer s H vs Q E hr h => ?_)
  · obtain ⟨X, fl, wr, rm, e, dk, g, A, f, N, us, c, rfl, _, _, _, ⟨a, l, rfl, _⟩, _⟩ := h
    rfl
  · obtain ⟨X, fl, wr, rm, e, dk, g, A, f, N, us, c, rfl, D, I, hN, ⟨a, l, rfl, ha, na, hll, hc⟩, k⟩ := h
    obtain ⟨dx, h1⟩ := D.ins
    obtain ⟨b, p, x, rfl, rfl⟩ := ci14 hc
    refine ⟨_, (pss_one (ps_ret (C8.pe_mt (ok_Editor_spoil T) hr (by decide) (pv 0) (pa_cons (pe_ix ix_list (pv 1) pe_int (fun _ _ => rfl)) (pa_cons (pe_ix ix_list (pv 1) pe_int (fun _ _ => rfl)) (pa_cons (pe_ix ix_list (pv 1) pe_int (fun _ _ => rfl)) pa_nil)))))) , ?_⟩
    exact ⟨_, rfl, e, dx, _, rfl, h1, eF_no_spoil, _, rfl, a, _, _, _, rfl, rfl, SqL.of ha, iv_at (i := 0) rfl, _, rfl, a, _, _, _, rfl, rfl, SqL.of ha, iv_at (i := 1) rfl, _, rfl, a, _, _, _, rfl, rfl, SqL.of ha, iv_at (i := 2) rfl, X, fl, wr, rm, e, dk, g, A, f, N, [nV (Ue17.bit b), nV p, nV x], .spoil b p x, rfl, D, I, hN, ⟨b, p, x, rfl, rfl⟩, k⟩
end
end TT
end
section
set_option maxHeartbeats 2000000
namespace TT
open Ue17 (House)
open Ue17Neutral (callIn callOf)
abbrev wholeN : List Nat := [2, 0, 0, 1, 2, 1, 0, 0, 0, 0, 0, 1, 0, 1, 3, 0, 1]
abbrev rowsN : List Nat := [1, 0, 0, 0, 0, 0, 0, 0, 0, 1, 0, 0, 0, 0, 0, 0, 0]
theorem ints_len (l : List Nat) : (Ue17.ints l).length = l.length := List.length_map ..
theorem ints_take (l : List Nat) (n : Nat) : (Ue17.ints l).take n = Ue17.ints (l.take n) := (List.map_take ..).symm
theorem ints_drop (l : List Nat) (n : Nat) : (Ue17.ints l).drop n = Ue17.ints (l.drop n) := (List.map_drop ..).symm
theorem ints_append (l m : List Nat) : Ue17.ints (l ++ m) = Ue17.ints l ++ Ue17.ints m := List.map_append
/-- one call at a list's beginning: what it's given, how long it is -/
def One (l part : List Nat) (n : Nat) : Prop := ∃ (num : Nat) (r : List Nat) (w : Nat), l = num :: r ∧ num < 17 ∧ wholeN[num]? = some w ∧ w ≤ r.length ∧
  ((rowsN[num]? = some 0 ∧ part = num :: r.take w ∧ n = w + 1) ∨ ∃ k, rowsN[num]? = some 1 ∧ (r.drop w)[0]? = some k ∧ w + 1 + k ≤ r.length ∧ part = (num :: r.take w) ++ (r.drop (w + 1)).take k ∧ n = w + 2 + k)
inductive Parts : List Nat → List (List Nat) → Prop where
  | nil : Parts [] []
  | cons {l part : List Nat} {n : Nat} {ps : List (List Nat)} : One l part n → Parts (l.drop n) ps → Parts l (part :: ps)
theorem call_some {p : Int} {r : List Int} {c : List (List Int)} {t : List Int} {n k : Nat} (hs : PyUe17.shape p = some (n, k)) (h : PyFlat.call PyUe17.shape (p :: r) = some (c, t)) : n ≤ r.length ∧ ∃ xs, PyFlat.rows k (r.drop n) = some (xs, t) ∧ c = (p :: r.take n) :: xs := by
  have h : (match PyUe17.shape p with
    | none => none
    | some (n, k) => if r.length < n then none else match PyFlat.rows k (r.drop n) with
      | none => none
      | some (xs, t) => some ((p :: r.take n) :: xs, t)) = some (c, t) := h
  rw [hs] at h
  have h : (if r.length < n then none else match PyFlat.rows k (r.drop n) with
      | none => none
      | some (xs, t) => some ((p :: r.take n) :: xs, t)) = some (c, t) := h
  by_cases q : r.length < n
  · rw [if_pos q] at h; cases h
  rw [if_neg q] at h
  refine ⟨by omega, ?_⟩
  cases hr : PyFlat.rows k (r.drop n) with
  | none => rw [hr] at h; cases h
  | some y =>
    rw [hr] at h
    obtain ⟨xs, t'⟩ := y
    have h : some ((p :: r.take n) :: xs, t') = some (c, t) := h
    injection h with h
    injection h with h1 h2
    exact ⟨xs, by rw [h2], h1.symm⟩
theorem rows0 {r t : List Int} {xs : List (List Int)} (h : PyFlat.rows 0 r = some (xs, t)) : xs = [] ∧ t = r := by
  have h : some ([], r) = some (xs, t) := h
  injection h with h
  injection h with h1 h2
  exact ⟨h1.symm, h2.symm⟩
theorem rows1 {r : List Nat} {t : List Int} {xs : List (List Int)} (h : PyFlat.rows 1 (Ue17.ints r) = some (xs, t)) : ∃ k q, r = k :: q ∧ k ≤ q.length ∧ xs = [Ue17.ints (q.take k)] ∧ t = Ue17.ints (q.drop k) := by
  have h : (match PyFlat.row (Ue17.ints r) with
    | none => none
    | some (x, s) => match PyFlat.rows 0 s with
      | none => none
      | some (xs, t) => some (x :: xs, t)) = some (xs, t) := h
  cases r with
  | nil => cases h
  | cons k q =>
    have e : PyFlat.row (Ue17.ints (k :: q)) = if 0 ≤ (k : Int) ∧ (k : Int).toNat ≤ (Ue17.ints q).length then some ((Ue17.ints q).take (k : Int).toNat, (Ue17.ints q).drop (k : Int).toNat) else none := rfl
    rw [e] at h
    by_cases c : 0 ≤ (k : Int) ∧ (k : Int).toNat ≤ (Ue17.ints q).length
    · rw [if_pos c] at h
      have h : some ([(Ue17.ints q).take (k : Int).toNat], (Ue17.ints q).drop (k : Int).toNat) = some (xs, t) := h
      injection h with h
      injection h with h1 h2
      rw [Int.toNat_natCast] at h1 h2
      refine ⟨k, q, rfl, ?_, by rw [← h1, ints_take], by rw [← h2, ints_drop]⟩
      have := c.2
      rw [ints_len, Int.toNat_natCast] at this
      exact this
    · rw [if_neg c] at h; cases h
theorem take_at (r : List Nat) (w : Nat) (h : w ≤ r.length) : (r.take w).length = w := by rw [List.length_take]; omega
theorem shape_of {num : Nat} {y : Nat × Nat} (h : PyUe17.shape (num : Int) = some y) : num < 17 := by
  by_cases q : num < 17
  · exact q
  · unfold PyUe17.shape at h
    rw [if_neg (show ¬ (num : Int) = 0 by omega), if_neg (show ¬ (num : Int) = 1 by omega), if_neg (show ¬ (num : Int) = 2 by omega), if_neg (show ¬ (num : Int) = 3 by omega), if_neg (show ¬ (num : Int) = 4 by omega), if_neg (show ¬ (num : Int) = 5 by omega), if_neg (show ¬ (num : Int) = 6 by omega), if_neg (show ¬ (num : Int) = 7 by omega), if_neg (show ¬ (num : Int) = 8 by omega), if_neg (show ¬ (num : Int) = 9 by omega), if_neg (show ¬ (num : Int) = 10 by omega), if_neg (show ¬ (num : Int) = 11 by omega), if_neg (show ¬ (num : Int) = 12 by omega), if_neg (show ¬ (num : Int) = 13 by omega), if_neg (show ¬ (num : Int) = 14 by omega), if_neg (show ¬ (num : Int) = 15 by omega), if_neg (show ¬ (num : Int) = 16 by omega)] at h
    cases h
theorem wh0 {xs : List Int} (h : xs.length = 2) (ys : List Int) : (PyUe17.whole ((((0 : Nat) : Int) :: xs) :: [ys])).headD [] = ((0 : Nat) : Int) :: xs ++ ys := by
  match xs, h with
  | [x0, x1], _ => rfl
theorem wh1 {xs : List Int} (h : xs.length = 0) (ys : List Int) : (PyUe17.whole ((((1 : Nat) : Int) :: xs) :: [])).headD [] = ((1 : Nat) : Int) :: xs ++ [] := by
  match xs, h with
  | [], _ => rfl
theorem wh2 {xs : List Int} (h : xs.length = 0) (ys : List Int) : (PyUe17.whole ((((2 : Nat) : Int) :: xs) :: [])).headD [] = ((2 : Nat) : Int) :: xs ++ [] := by
  match xs, h with
  | [], _ => rfl
theorem wh3 {xs : List Int} (h : xs.length = 1) (ys : List Int) : (PyUe17.whole ((((3 : Nat) : Int) :: xs) :: [])).headD [] = ((3 : Nat) : Int) :: xs ++ [] := by
  match xs, h with
  | [x0], _ => rfl
theorem wh4 {xs : List Int} (h : xs.length = 2) (ys : List Int) : (PyUe17.whole ((((4 : Nat) : Int) :: xs) :: [])).headD [] = ((4 : Nat) : Int) :: xs ++ [] := by
  match xs, h with
  | [x0, x1], _ => rfl
theorem wh5 {xs : List Int} (h : xs.length = 1) (ys : List Int) : (PyUe17.whole ((((5 : Nat) : Int) :: xs) :: [])).headD [] = ((5 : Nat) : Int) :: xs ++ [] := by
  match xs, h with
  | [x0], _ => rfl
theorem wh6 {xs : List Int} (h : xs.length = 0) (ys : List Int) : (PyUe17.whole ((((6 : Nat) : Int) :: xs) :: [])).headD [] = ((6 : Nat) : Int) :: xs ++ [] := by
  match xs, h with
  | [], _ => rfl
theorem wh7 {xs : List Int} (h : xs.length = 0) (ys : List Int) : (PyUe17.whole ((((7 : Nat) : Int) :: xs) :: [])).headD [] = ((7 : Nat) : Int) :: xs ++ [] := by
  match xs, h with
  | [], _ => rfl
theorem wh8 {xs : List Int} (h : xs.length = 0) (ys : List Int) : (PyUe17.whole ((((8 : Nat) : Int) :: xs) :: [])).headD [] = ((8 : Nat) : Int) :: xs ++ [] := by
  match xs, h with
  | [], _ => rfl
theorem wh9 {xs : List Int} (h : xs.length = 0) (ys : List Int) : (PyUe17.whole ((((9 : Nat) : Int) :: xs) :: [ys])).headD [] = ((9 : Nat) : Int) :: xs ++ ys := by
  match xs, h with
  | [], _ => rfl
theorem wh10 {xs : List Int} (h : xs.length = 0) (ys : List Int) : (PyUe17.whole ((((10 : Nat) : Int) :: xs) :: [])).headD [] = ((10 : Nat) : Int) :: xs ++ [] := by
  match xs, h with
  | [], _ => rfl
theorem wh11 {xs : List Int} (h : xs.length = 1) (ys : List Int) : (PyUe17.whole ((((11 : Nat) : Int) :: xs) :: [])).headD [] = ((11 : Nat) : Int) :: xs ++ [] := by
  match xs, h with
  | [x0], _ => rfl
theorem wh12 {xs : List Int} (h : xs.length = 0) (ys : List Int) : (PyUe17.whole ((((12 : Nat) : Int) :: xs) :: [])).headD [] = ((12 : Nat) : Int) :: xs ++ [] := by
  match xs, h with
  | [], _ => rfl
theorem wh13 {xs : List Int} (h : xs.length = 1) (ys : List Int) : (PyUe17.whole ((((13 : Nat) : Int) :: xs) :: [])).headD [] = ((13 : Nat) : Int) :: xs ++ [] := by
  match xs, h with
  | [x0], _ => rfl
theorem wh14 {xs : List Int} (h : xs.length = 3) (ys : List Int) : (PyUe17.whole ((((14 : Nat) : Int) :: xs) :: [])).headD [] = ((14 : Nat) : Int) :: xs ++ [] := by
  match xs, h with
  | [x0, x1, x2], _ => rfl
theorem wh15 {xs : List Int} (h : xs.length = 0) (ys : List Int) : (PyUe17.whole ((((15 : Nat) : Int) :: xs) :: [])).headD [] = ((15 : Nat) : Int) :: xs ++ [] := by
  match xs, h with
  | [], _ => rfl
theorem wh16 {xs : List Int} (h : xs.length = 1) (ys : List Int) : (PyUe17.whole ((((16 : Nat) : Int) :: xs) :: [])).headD [] = ((16 : Nat) : Int) :: xs ++ [] := by
  match xs, h with
  | [x0], _ => rfl
theorem one0 {r : List Nat} {c : List (List Int)} {t : List Int} (h : PyFlat.call PyUe17.shape (((0 : Nat) : Int) :: Ue17.ints r) = some (c, t)) : ∃ part n, One (0 :: r) part n ∧ t = Ue17.ints ((0 :: r).drop n) ∧ (PyUe17.whole c).headD [] = Ue17.ints part := by
  obtain ⟨h1, xs, h2, rfl⟩ := call_some (n := 2) (k := 1) rfl h
  rw [ints_len] at h1
  rw [ints_drop] at h2
  obtain ⟨k, q, e, hk, rfl, rfl⟩ := rows1 h2
  have eq : r.drop (2 + 1) = q := by rw [← List.drop_drop, e]; rfl
  have hl : r.length = 2 + 1 + q.length := by
    have := congrArg List.length e
    rw [List.length_drop, List.length_cons] at this
    omega
  refine ⟨(0 :: r.take 2) ++ (r.drop (2 + 1)).take k, 2 + 2 + k, ⟨0, r, 2, rfl, by decide, rfl, h1, .inr ⟨k, rfl, by rw [e]; rfl, by omega, rfl, rfl⟩⟩, ?_, ?_⟩
  · rw [show 2 + 2 + k = (2 + 1 + k) + 1 by omega, List.drop_succ_cons, ← List.drop_drop, eq]
  · rw [ints_take, wh0 (by rw [ints_len, take_at r 2 h1]) (Ue17.ints (q.take k)), eq, ints_append]
    rfl
theorem one1 {r : List Nat} {c : List (List Int)} {t : List Int} (h : PyFlat.call PyUe17.shape (((1 : Nat) : Int) :: Ue17.ints r) = some (c, t)) : ∃ part n, One (1 :: r) part n ∧ t = Ue17.ints ((1 :: r).drop n) ∧ (PyUe17.whole c).headD [] = Ue17.ints part := by
  obtain ⟨h1, xs, h2, rfl⟩ := call_some (n := 0) (k := 0) rfl h
  rw [ints_len] at h1
  rw [ints_drop] at h2
  obtain ⟨rfl, rfl⟩ := rows0 h2
  refine ⟨1 :: r.take 0, 0 + 1, ⟨1, r, 0, rfl, by decide, rfl, h1, .inl ⟨rfl, rfl, rfl⟩⟩, rfl, ?_⟩
  rw [ints_take, wh1 (by rw [ints_len, take_at r 0 h1]) [], List.append_nil]
  rfl
theorem one2 {r : List Nat} {c : List (List Int)} {t : List Int} (h : PyFlat.call PyUe17.shape (((2 : Nat) : Int) :: Ue17.ints r) = some (c, t)) : ∃ part n, One (2 :: r) part n ∧ t = Ue17.ints ((2 :: r).drop n) ∧ (PyUe17.whole c).headD [] = Ue17.ints part := by
  obtain ⟨h1, xs, h2, rfl⟩ := call_some (n := 0) (k := 0) rfl h
  rw [ints_len] at h1
  rw [ints_drop] at h2
  obtain ⟨rfl, rfl⟩ := rows0 h2
  refine ⟨2 :: r.take 0, 0 + 1, ⟨2, r, 0, rfl, by decide, rfl, h1, .inl ⟨rfl, rfl, rfl⟩⟩, rfl, ?_⟩
  rw [ints_take, wh2 (by rw [ints_len, take_at r 0 h1]) [], List.append_nil]
  rfl
theorem one3 {r : List Nat} {c : List (List Int)} {t : List Int} (h : PyFlat.call PyUe17.shape (((3 : Nat) : Int) :: Ue17.ints r) = some (c, t)) : ∃ part n, One (3 :: r) part n ∧ t = Ue17.ints ((3 :: r).drop n) ∧ (PyUe17.whole c).headD [] = Ue17.ints part := by
  obtain ⟨h1, xs, h2, rfl⟩ := call_some (n := 1) (k := 0) rfl h
  rw [ints_len] at h1
  rw [ints_drop] at h2
  obtain ⟨rfl, rfl⟩ := rows0 h2
  refine ⟨3 :: r.take 1, 1 + 1, ⟨3, r, 1, rfl, by decide, rfl, h1, .inl ⟨rfl, rfl, rfl⟩⟩, rfl, ?_⟩
  rw [ints_take, wh3 (by rw [ints_len, take_at r 1 h1]) [], List.append_nil]
  rfl
theorem one4 {r : List Nat} {c : List (List Int)} {t : List Int} (h : PyFlat.call PyUe17.shape (((4 : Nat) : Int) :: Ue17.ints r) = some (c, t)) : ∃ part n, One (4 :: r) part n ∧ t = Ue17.ints ((4 :: r).drop n) ∧ (PyUe17.whole c).headD [] = Ue17.ints part := by
  obtain ⟨h1, xs, h2, rfl⟩ := call_some (n := 2) (k := 0) rfl h
  rw [ints_len] at h1
  rw [ints_drop] at h2
  obtain ⟨rfl, rfl⟩ := rows0 h2
  refine ⟨4 :: r.take 2, 2 + 1, ⟨4, r, 2, rfl, by decide, rfl, h1, .inl ⟨rfl, rfl, rfl⟩⟩, rfl, ?_⟩
  rw [ints_take, wh4 (by rw [ints_len, take_at r 2 h1]) [], List.append_nil]
  rfl
theorem one5 {r : List Nat} {c : List (List Int)} {t : List Int} (h : PyFlat.call PyUe17.shape (((5 : Nat) : Int) :: Ue17.ints r) = some (c, t)) : ∃ part n, One (5 :: r) part n ∧ t = Ue17.ints ((5 :: r).drop n) ∧ (PyUe17.whole c).headD [] = Ue17.ints part := by
  obtain ⟨h1, xs, h2, rfl⟩ := call_some (n := 1) (k := 0) rfl h
  rw [ints_len] at h1
  rw [ints_drop] at h2
  obtain ⟨rfl, rfl⟩ := rows0 h2
  refine ⟨5 :: r.take 1, 1 + 1, ⟨5, r, 1, rfl, by decide, rfl, h1, .inl ⟨rfl, rfl, rfl⟩⟩, rfl, ?_⟩
  rw [ints_take, wh5 (by rw [ints_len, take_at r 1 h1]) [], List.append_nil]
  rfl
theorem one6 {r : List Nat} {c : List (List Int)} {t : List Int} (h : PyFlat.call PyUe17.shape (((6 : Nat) : Int) :: Ue17.ints r) = some (c, t)) : ∃ part n, One (6 :: r) part n ∧ t = Ue17.ints ((6 :: r).drop n) ∧ (PyUe17.whole c).headD [] = Ue17.ints part := by
  obtain ⟨h1, xs, h2, rfl⟩ := call_some (n := 0) (k := 0) rfl h
  rw [ints_len] at h1
  rw [ints_drop] at h2
  obtain ⟨rfl, rfl⟩ := rows0 h2
  refine ⟨6 :: r.take 0, 0 + 1, ⟨6, r, 0, rfl, by decide, rfl, h1, .inl ⟨rfl, rfl, rfl⟩⟩, rfl, ?_⟩
  rw [ints_take, wh6 (by rw [ints_len, take_at r 0 h1]) [], List.append_nil]
  rfl
theorem one7 {r : List Nat} {c : List (List Int)} {t : List Int} (h : PyFlat.call PyUe17.shape (((7 : Nat) : Int) :: Ue17.ints r) = some (c, t)) : ∃ part n, One (7 :: r) part n ∧ t = Ue17.ints ((7 :: r).drop n) ∧ (PyUe17.whole c).headD [] = Ue17.ints part := by
  obtain ⟨h1, xs, h2, rfl⟩ := call_some (n := 0) (k := 0) rfl h
  rw [ints_len] at h1
  rw [ints_drop] at h2
  obtain ⟨rfl, rfl⟩ := rows0 h2
  refine ⟨7 :: r.take 0, 0 + 1, ⟨7, r, 0, rfl, by decide, rfl, h1, .inl ⟨rfl, rfl, rfl⟩⟩, rfl, ?_⟩
  rw [ints_take, wh7 (by rw [ints_len, take_at r 0 h1]) [], List.append_nil]
  rfl
theorem one8 {r : List Nat} {c : List (List Int)} {t : List Int} (h : PyFlat.call PyUe17.shape (((8 : Nat) : Int) :: Ue17.ints r) = some (c, t)) : ∃ part n, One (8 :: r) part n ∧ t = Ue17.ints ((8 :: r).drop n) ∧ (PyUe17.whole c).headD [] = Ue17.ints part := by
  obtain ⟨h1, xs, h2, rfl⟩ := call_some (n := 0) (k := 0) rfl h
  rw [ints_len] at h1
  rw [ints_drop] at h2
  obtain ⟨rfl, rfl⟩ := rows0 h2
  refine ⟨8 :: r.take 0, 0 + 1, ⟨8, r, 0, rfl, by decide, rfl, h1, .inl ⟨rfl, rfl, rfl⟩⟩, rfl, ?_⟩
  rw [ints_take, wh8 (by rw [ints_len, take_at r 0 h1]) [], List.append_nil]
  rfl
theorem one9 {r : List Nat} {c : List (List Int)} {t : List Int} (h : PyFlat.call PyUe17.shape (((9 : Nat) : Int) :: Ue17.ints r) = some (c, t)) : ∃ part n, One (9 :: r) part n ∧ t = Ue17.ints ((9 :: r).drop n) ∧ (PyUe17.whole c).headD [] = Ue17.ints part := by
  obtain ⟨h1, xs, h2, rfl⟩ := call_some (n := 0) (k := 1) rfl h
  rw [ints_len] at h1
  rw [ints_drop] at h2
  obtain ⟨k, q, e, hk, rfl, rfl⟩ := rows1 h2
  have eq : r.drop (0 + 1) = q := by rw [← List.drop_drop, e]; rfl
  have hl : r.length = 0 + 1 + q.length := by
    have := congrArg List.length e
    rw [List.length_drop, List.length_cons] at this
    omega
  refine ⟨(9 :: r.take 0) ++ (r.drop (0 + 1)).take k, 0 + 2 + k, ⟨9, r, 0, rfl, by decide, rfl, h1, .inr ⟨k, rfl, by rw [e]; rfl, by omega, rfl, rfl⟩⟩, ?_, ?_⟩
  · rw [show 0 + 2 + k = (0 + 1 + k) + 1 by omega, List.drop_succ_cons, ← List.drop_drop, eq]
  · rw [ints_take, wh9 (by rw [ints_len, take_at r 0 h1]) (Ue17.ints (q.take k)), eq, ints_append]
    rfl
theorem one10 {r : List Nat} {c : List (List Int)} {t : List Int} (h : PyFlat.call PyUe17.shape (((10 : Nat) : Int) :: Ue17.ints r) = some (c, t)) : ∃ part n, One (10 :: r) part n ∧ t = Ue17.ints ((10 :: r).drop n) ∧ (PyUe17.whole c).headD [] = Ue17.ints part := by
  obtain ⟨h1, xs, h2, rfl⟩ := call_some (n := 0) (k := 0) rfl h
  rw [ints_len] at h1
  rw [ints_drop] at h2
  obtain ⟨rfl, rfl⟩ := rows0 h2
  refine ⟨10 :: r.take 0, 0 + 1, ⟨10, r, 0, rfl, by decide, rfl, h1, .inl ⟨rfl, rfl, rfl⟩⟩, rfl, ?_⟩
  rw [ints_take, wh10 (by rw [ints_len, take_at r 0 h1]) [], List.append_nil]
  rfl
theorem one11 {r : List Nat} {c : List (List Int)} {t : List Int} (h : PyFlat.call PyUe17.shape (((11 : Nat) : Int) :: Ue17.ints r) = some (c, t)) : ∃ part n, One (11 :: r) part n ∧ t = Ue17.ints ((11 :: r).drop n) ∧ (PyUe17.whole c).headD [] = Ue17.ints part := by
  obtain ⟨h1, xs, h2, rfl⟩ := call_some (n := 1) (k := 0) rfl h
  rw [ints_len] at h1
  rw [ints_drop] at h2
  obtain ⟨rfl, rfl⟩ := rows0 h2
  refine ⟨11 :: r.take 1, 1 + 1, ⟨11, r, 1, rfl, by decide, rfl, h1, .inl ⟨rfl, rfl, rfl⟩⟩, rfl, ?_⟩
  rw [ints_take, wh11 (by rw [ints_len, take_at r 1 h1]) [], List.append_nil]
  rfl
theorem one12 {r : List Nat} {c : List (List Int)} {t : List Int} (h : PyFlat.call PyUe17.shape (((12 : Nat) : Int) :: Ue17.ints r) = some (c, t)) : ∃ part n, One (12 :: r) part n ∧ t = Ue17.ints ((12 :: r).drop n) ∧ (PyUe17.whole c).headD [] = Ue17.ints part := by
  obtain ⟨h1, xs, h2, rfl⟩ := call_some (n := 0) (k := 0) rfl h
  rw [ints_len] at h1
  rw [ints_drop] at h2
  obtain ⟨rfl, rfl⟩ := rows0 h2
  refine ⟨12 :: r.take 0, 0 + 1, ⟨12, r, 0, rfl, by decide, rfl, h1, .inl ⟨rfl, rfl, rfl⟩⟩, rfl, ?_⟩
  rw [ints_take, wh12 (by rw [ints_len, take_at r 0 h1]) [], List.append_nil]
  rfl
theorem one13 {r : List Nat} {c : List (List Int)} {t : List Int} (h : PyFlat.call PyUe17.shape (((13 : Nat) : Int) :: Ue17.ints r) = some (c, t)) : ∃ part n, One (13 :: r) part n ∧ t = Ue17.ints ((13 :: r).drop n) ∧ (PyUe17.whole c).headD [] = Ue17.ints part := by
  obtain ⟨h1, xs, h2, rfl⟩ := call_some (n := 1) (k := 0) rfl h
  rw [ints_len] at h1
  rw [ints_drop] at h2
  obtain ⟨rfl, rfl⟩ := rows0 h2
  refine ⟨13 :: r.take 1, 1 + 1, ⟨13, r, 1, rfl, by decide, rfl, h1, .inl ⟨rfl, rfl, rfl⟩⟩, rfl, ?_⟩
  rw [ints_take, wh13 (by rw [ints_len, take_at r 1 h1]) [], List.append_nil]
  rfl
theorem one14 {r : List Nat} {c : List (List Int)} {t : List Int} (h : PyFlat.call PyUe17.shape (((14 : Nat) : Int) :: Ue17.ints r) = some (c, t)) : ∃ part n, One (14 :: r) part n ∧ t = Ue17.ints ((14 :: r).drop n) ∧ (PyUe17.whole c).headD [] = Ue17.ints part := by
  obtain ⟨h1, xs, h2, rfl⟩ := call_some (n := 3) (k := 0) rfl h
  rw [ints_len] at h1
  rw [ints_drop] at h2
  obtain ⟨rfl, rfl⟩ := rows0 h2
  refine ⟨14 :: r.take 3, 3 + 1, ⟨14, r, 3, rfl, by decide, rfl, h1, .inl ⟨rfl, rfl, rfl⟩⟩, rfl, ?_⟩
  rw [ints_take, wh14 (by rw [ints_len, take_at r 3 h1]) [], List.append_nil]
  rfl
theorem one15 {r : List Nat} {c : List (List Int)} {t : List Int} (h : PyFlat.call PyUe17.shape (((15 : Nat) : Int) :: Ue17.ints r) = some (c, t)) : ∃ part n, One (15 :: r) part n ∧ t = Ue17.ints ((15 :: r).drop n) ∧ (PyUe17.whole c).headD [] = Ue17.ints part := by
  obtain ⟨h1, xs, h2, rfl⟩ := call_some (n := 0) (k := 0) rfl h
  rw [ints_len] at h1
  rw [ints_drop] at h2
  obtain ⟨rfl, rfl⟩ := rows0 h2
  refine ⟨15 :: r.take 0, 0 + 1, ⟨15, r, 0, rfl, by decide, rfl, h1, .inl ⟨rfl, rfl, rfl⟩⟩, rfl, ?_⟩
  rw [ints_take, wh15 (by rw [ints_len, take_at r 0 h1]) [], List.append_nil]
  rfl
theorem one16 {r : List Nat} {c : List (List Int)} {t : List Int} (h : PyFlat.call PyUe17.shape (((16 : Nat) : Int) :: Ue17.ints r) = some (c, t)) : ∃ part n, One (16 :: r) part n ∧ t = Ue17.ints ((16 :: r).drop n) ∧ (PyUe17.whole c).headD [] = Ue17.ints part := by
  obtain ⟨h1, xs, h2, rfl⟩ := call_some (n := 1) (k := 0) rfl h
  rw [ints_len] at h1
  rw [ints_drop] at h2
  obtain ⟨rfl, rfl⟩ := rows0 h2
  refine ⟨16 :: r.take 1, 1 + 1, ⟨16, r, 1, rfl, by decide, rfl, h1, .inl ⟨rfl, rfl, rfl⟩⟩, rfl, ?_⟩
  rw [ints_take, wh16 (by rw [ints_len, take_at r 1 h1]) [], List.append_nil]
  rfl
theorem one_of {num : Nat} {r : List Nat} {c : List (List Int)} {t : List Int} (h : PyFlat.call PyUe17.shape ((num : Int) :: Ue17.ints r) = some (c, t)) : ∃ part n, One (num :: r) part n ∧ t = Ue17.ints ((num :: r).drop n) ∧ (PyUe17.whole c).headD [] = Ue17.ints part := by
  have hn : num < 17 := by
    cases hs : PyUe17.shape (num : Int) with
    | none =>
      have h : (match PyUe17.shape (num : Int) with
        | none => none
        | some (n, k) => if (Ue17.ints r).length < n then none else match PyFlat.rows k ((Ue17.ints r).drop n) with
          | none => none
          | some (xs, t) => some (((num : Int) :: (Ue17.ints r).take n) :: xs, t)) = some (c, t) := h
      rw [hs] at h
      cases h
    | some y => exact shape_of hs
  match num, hn, h with
  | 0, _, h => exact one0 h
  | 1, _, h => exact one1 h
  | 2, _, h => exact one2 h
  | 3, _, h => exact one3 h
  | 4, _, h => exact one4 h
  | 5, _, h => exact one5 h
  | 6, _, h => exact one6 h
  | 7, _, h => exact one7 h
  | 8, _, h => exact one8 h
  | 9, _, h => exact one9 h
  | 10, _, h => exact one10 h
  | 11, _, h => exact one11 h
  | 12, _, h => exact one12 h
  | 13, _, h => exact one13 h
  | 14, _, h => exact one14 h
  | 15, _, h => exact one15 h
  | 16, _, h => exact one16 h
  | _ + 17, hn, _ => exact absurd hn (by omega)
theorem calls_parts : ∀ (f : Nat) (l : List Nat) (raw : List (List (List Int))), PyFlat.calls PyUe17.shape f (Ue17.ints l) = some raw → ∃ ps, Parts l ps ∧ ((raw.map PyUe17.whole).map fun c => c.headD []) = ps.map Ue17.ints
  | f, [], raw, h => by
    have h : some [] = some raw := by cases f <;> exact h
    exact ⟨[], .nil, by rw [← Option.some.inj h]; rfl⟩
  | 0, num :: r, raw, h => by cases h
  | f + 1, num :: r, raw, h => by
    have h : (match PyFlat.call PyUe17.shape ((num : Int) :: Ue17.ints r) with
      | none => none
      | some (c, t) => match PyFlat.calls PyUe17.shape f t with
        | none => none
        | some cs => some (c :: cs)) = some raw := h
    cases hc : PyFlat.call PyUe17.shape ((num : Int) :: Ue17.ints r) with
    | none => rw [hc] at h; cases h
    | some y =>
      obtain ⟨c, t⟩ := y
      rw [hc] at h
      have h : (match PyFlat.calls PyUe17.shape f t with
        | none => none
        | some cs => some (c :: cs)) = some raw := h
      obtain ⟨part, n, h1, h2, h3⟩ := one_of hc
      cases hr : PyFlat.calls PyUe17.shape f t with
      | none => rw [hr] at h; cases h
      | some cs =>
        rw [hr] at h
        have h : some (c :: cs) = some raw := h
        rw [h2] at hr
        obtain ⟨ps, h4, h5⟩ := calls_parts f _ cs hr
        refine ⟨part :: ps, .cons h1 h4, ?_⟩
        rw [← Option.some.inj h]
        show (PyUe17.whole c).headD [] :: ((cs.map PyUe17.whole).map fun c => c.headD []) = Ue17.ints part :: ps.map Ue17.ints
        rw [h3, h5]
theorem One.len {l part : List Nat} {n : Nat} (h : One l part n) : 0 < n ∧ n ≤ l.length ∧ part.length ≤ n ∧ 0 < part.length := by
  obtain ⟨num, r, w, rfl, h1, h2, h3, h4⟩ := h
  rcases h4 with ⟨_, rfl, rfl⟩ | ⟨k, _, _, h5, rfl, rfl⟩
  · simp only [List.length_cons, List.length_take]; omega
  · simp only [List.length_append, List.length_cons, List.length_take, List.length_drop]; omega
theorem Parts.small {l : List Nat} {ps : List (List Nat)} (h : Parts l ps) : ∀ p ∈ ps, p.length ≤ l.length := by
  induction h with
  | nil => intro p hp; cases hp
  | cons h1 _ ih =>
    intro p hp
    have hl := h1.len
    rcases List.mem_cons.mp hp with q | q
    · rw [q]; omega
    · have := ih p q
      rw [List.length_drop] at this
      omega
/-! what's answered -/
def stp (s : House) (p : List Nat) : House × List Int := Ue17Neutral.step s (Ue17.ints p)
def after (s : House) (ps : List (List Nat)) : House := ps.foldl (fun s p => (stp s p).1) s
def ansOf : House → List (List Nat) → List Int
  | _, [] => []
  | s, p :: ps => ((stp s p).2.length : Int) :: (stp s p).2 ++ ansOf (stp s p).1 ps
theorem after_snoc (s : House) (ps : List (List Nat)) (p : List Nat) : after s (ps ++ [p]) = (stp (after s ps) p).1 := by
  unfold after
  rw [List.foldl_append]
  rfl
theorem ans_append : ∀ (ps qs : List (List Nat)) (s : House), ansOf s (ps ++ qs) = ansOf s ps ++ ansOf (after s ps) qs
  | [], qs, s => rfl
  | p :: ps, qs, s => by
    show ((stp s p).2.length : Int) :: (stp s p).2 ++ ansOf (stp s p).1 (ps ++ qs) = (((stp s p).2.length : Int) :: (stp s p).2 ++ ansOf (stp s p).1 ps) ++ ansOf (after (stp s p).1 ps) qs
    rw [ans_append ps qs, List.append_assoc]
theorem ans_snoc (s : House) (ps : List (List Nat)) (p : List Nat) : ansOf s (ps ++ [p]) = ansOf s ps ++ (((stp (after s ps) p).2.length : Int) :: (stp (after s ps) p).2) := by
  rw [ans_append]
  show _ ++ (((stp (after s ps) p).2.length : Int) :: (stp (after s ps) p).2 ++ []) = _
  rw [List.append_nil]
theorem ans_many : ∀ (ps : List (List Nat)) (s : House), (ansOf s ps).length = Ue17Neutral.many s (ps.map Ue17.ints) + ps.length
  | [], s => rfl
  | p :: ps, s => by
    show (((stp s p).2.length : Int) :: (stp s p).2 ++ ansOf (stp s p).1 ps).length = ((stp s p).2.length + Ue17Neutral.many (stp s p).1 (ps.map Ue17.ints)) + (ps.length + 1)
    rw [List.length_append, List.length_cons, ans_many ps]
    omega
theorem told_ans : ∀ (cs : List (List (List Int))) (ps : List (List Nat)) (s : House), (cs.map fun c => c.headD []) = ps.map Ue17.ints → PyFlat.told (PyFlat.played (fun s c => Ue17Neutral.step s (c.headD [])) s cs) = ansOf s ps
  | [], [], s, _ => rfl
  | [], _ :: _, s, h => by cases h
  | _ :: _, [], s, h => by cases h
  | c :: cs, p :: ps, s, h => by
    have h : c.headD [] :: (cs.map fun c => c.headD []) = Ue17.ints p :: ps.map Ue17.ints := h
    injection h with h1 h2
    show PyFlat.told ((Ue17Neutral.step s (c.headD [])).2 :: PyFlat.played (fun s c => Ue17Neutral.step s (c.headD [])) (Ue17Neutral.step s (c.headD [])).1 cs) = ((stp s p).2.length : Int) :: (stp s p).2 ++ ansOf (stp s p).1 ps
    rw [h1, ← told_ans cs ps (stp s p).1 h2]
    rfl
theorem toNat_ints (l : List Nat) : (Ue17.ints l).map Int.toNat = l := by
  show (l.map _).map _ = l
  rw [List.map_map]
  exact List.map_id'' (fun x => Int.toNat_natCast x) l
theorem asked_step {p : List Nat} (h : Ue17Neutral.asked1 (Ue17.ints p) = true) (s : House) : ∃ c, callIn p = some c ∧ stp s p = Ue17.step s c := by
  unfold Ue17Neutral.asked1 at h
  obtain ⟨c, hc⟩ := Option.isSome_iff_exists.mp h
  refine ⟨c, ?_, ?_⟩
  · unfold callOf at hc
    split at hc
    · cases hc
    · rw [toNat_ints] at hc; exact hc
  · unfold stp Ue17Neutral.step
    rw [hc]
/-- all that's asked of a list -/
theorem asked_all {l : List Nat} (h : PyUe17.answers_asked (Ue17.ints l) = true) : ∃ ps, Parts l ps ∧ PyUe17.answers (Ue17.ints l) = ansOf Ue17.init ps ∧ ps.length ≤ 60 ∧ (∀ p ∈ ps, Ue17Neutral.asked1 (Ue17.ints p) = true) ∧ (ansOf Ue17.init ps).length ≤ 1000060 := by
  unfold PyUe17.answers_asked at h
  cases hr : PyFlat.calls PyUe17.shape (Ue17.ints l).length (Ue17.ints l) with
  | none => rw [hr] at h; cases h
  | some raw =>
    rw [hr] at h
    have h : (!raw.isEmpty && PyFlat.atMost 60 raw && PyInside.calls PyUe17.bound raw && Ue17Neutral.asked ((raw.map PyUe17.whole).map fun c => c.headD []) && PyFlat.short 10000000 (PyUe17.answers (Ue17.ints l))) = true := h
    simp only [Bool.and_eq_true] at h
    obtain ⟨⟨⟨⟨_, h1⟩, _⟩, h2⟩, _⟩ := h
    obtain ⟨ps, P1, P2⟩ := calls_parts _ l raw hr
    rw [P2] at h2
    unfold Ue17Neutral.asked at h2
    simp only [Bool.and_eq_true, decide_eq_true_eq] at h2
    obtain ⟨h3, h4, h5, h6⟩ := h2
    rw [List.length_map] at h5
    have h6 : Ue17Neutral.many Ue17.init (ps.map Ue17.ints) ≤ 1000000 := h6
    refine ⟨ps, P1, ?_, h5, fun p hp => List.all_eq_true.mp h3 _ (List.mem_map.mpr ⟨p, hp, rfl⟩), by rw [ans_many]; omega⟩
    unfold PyUe17.answers PyUe17.calls
    rw [hr]
    exact told_ans _ _ _ P2
end TT
end
section
set_option maxHeartbeats 2000000
namespace TT
open PySem PySem.Spec PyProof.Rows L2
theorem SqL.same {K : PySem.W.Frag} {H H' : Hp} {a : Addr} {xs : List V} (h : SqL K H a xs) (s : Same H H') : SqL K H' a xs :=
  h.elim (fun h => .inl (h.elim (fun h => .inl (s _ _ h)) fun ⟨o, h⟩ => .inr ⟨o, s _ _ h⟩)) fun h => .inr h
section
variable {P : Program} {w : World} {K : PySem.W.Frag} {mg : Str → Option Value} {base : Heap} {CT CD CE : Addr}
abbrev N_split_calls : List Str := ["calls", "parts", "place", "number", "end", "part", "row"]
theorem sc_split_calls : FnScope N_split_calls ["calls"] (defScope s_split_calls) := ⟨rfl, rfl, rfl, by decide +kernel, rfl, by decide +kernel, by decide +kernel⟩
def sp_split (K : PySem.W.Frag) : Sp := fun vs H Q _ => ∃ (a : Addr) (nl : List Nat) (parts : List (List Nat)), vs = [.ref a] ∧ SqL K H a (iv nl) ∧ nl.length ≤ 10000 ∧ Parts nl parts ∧ parts.length ≤ 60 ∧
  ∀ (q : Addr) (ps : List Addr) (H' : Hp), H q = none → Same H H' → H' q = some (.lst (rv ps)) → ListsAt H' ps parts → (∀ p ∈ ps, H p = none ∧ p ≠ q) → Q (.ref q) H'
theorem ok_split_calls (T : Txt K mg CT CD CE) : C8.Cal P w K mg base 1 "split_calls" (sp_split K) [] := by
  refine T.d_split_calls.ok sc_split_calls (fun vs H Q E h => ?_) (fun f cdv A outer s H vs Q E hr h => ?_)
  · obtain ⟨a, nl, parts, rfl, _⟩ := h
    rfl
  · obtain ⟨a, nl, parts, rfl, ha, hl, hP, hpl, k⟩ := h
    obtain ⟨wa, hWHOLE_NUMBERS, hW⟩ := T.t_WHOLE_NUMBERS
    obtain ⟨ra, hROWS, hR⟩ := T.t_ROWS
    refine ⟨_, (pss_cons (ps_set (i := 1) sc_split_calls.nd rfl (Or.inl rfl) (pe_lst pa_nil))
      (pss_cons (ps_set (i := 2) sc_split_calls.nd rfl (Or.inl rfl) pe_int)
      (pss_cons (ps_while PassesOwn.never (pt_cmpR op_lt (pv 2) (pe_callB call_len_seq (by rfl) T.b_len PySem.boot_len (pa_cons (pv 0) pa_nil)) (nomark _))
        (pss_cons (ps_set (i := 3) sc_split_calls.nd rfl (Or.inl rfl) (pe_ix ix_list (pv 0) (pv 2) (fun _ _ => rfl)))
          (pss_cons (ps_set (i := 4) sc_split_calls.nd rfl (Or.inl rfl) (pe_op op_add (pe_op op_add (pv 2) pe_int) (pe_ix ix_tup (pe_glob (v := .ref _) (by rfl) hWHOLE_NUMBERS rfl) (pv 3) (fun _ _ => rfl))))
          (pss_cons (ps_set (i := 5) sc_split_calls.nd rfl (Or.inl rfl) (pe_slice sl_list (pv 0) (po_some (pv 2)) (po_some (pv 4))))
          (pss_cons (ps_if (pt_cmpR op_eq (pe_ix ix_tup (pe_glob (v := .ref _) (by rfl) hROWS rfl) (pv 3) (fun _ _ => rfl)) pe_int (nomark _))
            (pss_cons (ps_set (i := 6) sc_split_calls.nd rfl (Or.inl rfl) (pe_op op_add (pv 4) pe_int))
              (pss_cons (ps_set (i := 4) sc_split_calls.nd rfl (Or.inl rfl) (pe_op op_add (pv 6) (pe_ix ix_list (pv 0) (pv 4) (fun _ _ => rfl))))
              (pss_one (ps_set (i := 5) sc_split_calls.nd rfl (Or.inl rfl) (pe_op op_cat (pv 5) (pe_slice sl_list (pv 0) (po_some (pv 6)) (po_some (pv 4))))))))
            pss_nil)
          (pss_cons (ps_expr (pe_bm PySem.F.plainAttrs_list PySem.F.slot_list_append PySem.F.type_list_append mt_append (pv 1) (pa_cons (pv 5) pa_nil)))
          (pss_one (ps_set (i := 2) sc_split_calls.nd rfl (Or.inl rfl) (pv 4)))))))))
      (pss_one (ps_ret (pv 1)))))) , ?_⟩
    refine ⟨sz 0 (by decide), ?_⟩
    intro q nq; generalize hH_q : upd _ q _ = H1; have s1 := snew nq hH_q; have h1 := hnew hH_q; clear hH_q
    let W : Nat → L2.St → Hp → Prop := fun m σ H' => ∃ (dn rem : List (List Nat)) (ps : List Addr) (pl : Nat) (v3 v4 v5 v6 : Option V), σ = [some (.ref a), some (.ref q), some (nV pl), v3, v4, v5, v6] ∧ H' q = some (.lst (rv ps)) ∧ Same H H' ∧ ListsAt H' ps dn ∧ (∀ x ∈ ps, H x = none ∧ x ≠ q) ∧ dn ++ rem = parts ∧ Parts (nl.drop pl) rem ∧ m = rem.length ∧ pl ≤ nl.length
    refine ⟨W, ⟨parts.length, [], parts, [], 0, none, none, none, none, rfl, h1, s1, .nil, fun x hx => (by cases hx), rfl, hP, rfl, Nat.zero_le _⟩, fun m σ H2 hw => ?_⟩
    obtain ⟨dn, rem, ps, pl, v3, v4, v5, v6, rfl, hq, s2, LL, fr, ed, hPr, rfl, hple⟩ := hw
    have ha2 := SqL.same ha s2
    refine ⟨_, rfl, _, rfl, a, _, rfl, .inl ha2, _, _, rfl, rfl, _, rfl, itD (fun c => ?_) (fun c => ?_)⟩
    · rw [iv_len] at c
      have c : pl < nl.length := by omega
      generalize hL : nl.drop pl = L at hPr
      cases hPr with
      | nil =>
        have := congrArg List.length hL
        rw [List.length_drop] at this
        simp at this
        omega
      | @cons _ part n rem hOne hRest =>
      have hOl := hOne.len
      have hLl : L.length = nl.length - pl := by rw [← hL, List.length_drop]
      obtain ⟨num, r, wn, rfl, hnum, hwn, hwr, hcase⟩ := hOne
      have hg0 : nl[pl]? = some num := by
        have : (nl.drop pl)[0]? = some num := by rw [hL]; rfl
        rwa [List.getElem?_drop, Nat.add_zero] at this
      have hLr : nl.drop (pl + 1) = r := by rw [← List.drop_drop, hL]; rfl
      have hrl : r.length + 1 = nl.length - pl := hLl
      refine ⟨fun σ' H' => ∃ m'', m'' < (part :: rem).length ∧ W m'' σ' H', fun _ _ z => z, ?_⟩
      refine ⟨_, rfl, _, rfl, a, _, _, _, rfl, rfl, ha2, iv_at hg0, ?_⟩
      refine ⟨_, rfl, _, _, rfl, rfl, _, rfl, wa, _, _, _, rfl, rfl, hW H2, iv_at hwn, _, _, rfl, rfl, ?_⟩
      refine ⟨_, rfl, _, rfl, _, rfl, _, rfl, _, rfl, a, _, rfl, ha2, ?_⟩
      intro x nx; generalize hH_x : upd _ x _ = H3; have s3 := snew nx hH_x; have hx := hnew hH_x; clear hH_x
      have ecut : cutV (iv nl) (some (pl : Int)) (some ((pl : Int) + 1 + (wn : Int))) = iv (num :: r.take wn) := by
        have e := iv_cut_nn nl pl (pl + 1 + wn)
        rw [show ((pl + 1 + wn : Nat) : Int) = (pl : Int) + 1 + (wn : Int) by omega] at e
        rw [e, hL, show pl + 1 + wn - pl = wn + 1 by omega]
        rfl
      rw [ecut] at hx
      have nxq : x ≠ q := fun z => by rw [z, hq] at nx; cases nx
      -- what's left to do behind a part
      have next : ∀ (y : Addr) (H5 H6 : Hp) (e : Int) (u3 u5 u6 : Option V), Same H2 H5 → H5 y = some (.lst (iv part)) → H2 y = none → e = ((pl + n : Nat) : Int) → H6 q = some (.lst (rv ps ++ [.ref y])) → (∀ b o, H5 b = some o → b ≠ q → H6 b = some o) →
          ∃ m'', m'' < (part :: rem).length ∧ W m'' [some (.ref a), some (.ref q), some (.int e), u3, some (.int e), u5, u6] H6 := fun y H5 H6 e u3 u5 u6 s5 hy ny he h6 k6 => by
        have nyq : y ≠ q := fun z => by rw [z, hq] at ny; cases ny
        refine ⟨rem.length, by simp, dn ++ [part], rem, ps ++ [y], pl + n, u3, _, u5, u6, by rw [he], by rw [h6, rv_append]; rfl, fun b o hb => k6 _ _ (s5 _ _ (s2 _ _ hb)) (fun z => by rw [z, nq] at hb; cases hb), ?_, fun z hz => ?_, by rw [List.append_assoc]; exact ed, ?_, rfl, by omega⟩
        · refine ListsAt.snoc ⟨LL.len, fun i z c h1 h2 => k6 _ _ (s5 _ _ (LL.at_ i z c h1 h2)) (fr z (List.mem_of_getElem? h1)).2⟩ (k6 _ _ hy nyq)
        · rcases List.mem_append.mp hz with w | w
          · exact fr z w
          · rw [List.mem_singleton.mp w]
            exact ⟨s2.free ny, nyq⟩
        · rw [← List.drop_drop, hL]; exact hRest
      have hpsl : ps.length ≤ 60 := by
        have h1 := LL.len
        have h2 := congrArg List.length ed
        rw [List.length_append] at h2
        omega
      rcases hcase with ⟨hrow, rfl, rfl⟩ | ⟨kk, hrow, hk, hkl, rfl, rfl⟩
      · refine ⟨_, rfl, ra, _, _, _, rfl, rfl, hR H3, iv_at hrow, rfl, _, rfl, itI (fun z => absurd z (by decide)) (fun _ => ?_)⟩
        refine ⟨_, rfl, .inl ⟨rfl, _, SqL.of (s3 _ _ hq)⟩, _, rfl, q, _, _, rfl, rfl, s3 _ _ hq, szl _ (by rw [rv_len]; omega), ?_⟩
        generalize hH_ : upd _ q _ = H6; obtain ⟨g6, k6⟩ := ups hH_; clear hH_
        exact ⟨_, rfl, next x H3 H6 _ _ _ _ s3 hx nx (by omega) g6 k6⟩
      · refine ⟨_, rfl, ra, _, _, _, rfl, rfl, hR H3, iv_at hrow, rfl, _, rfl, itI (fun _ => ?_) (fun z => absurd rfl z)⟩
        have hgk : nl[pl + 1 + wn]? = some kk := by
          have : (r.drop wn)[0]? = some kk := hk
          rw [List.getElem?_drop, Nat.add_zero, ← hLr, List.getElem?_drop] at this
          exact this
        have ha3 := SqL.same ha2 s3
        refine ⟨_, rfl, _, _, rfl, rfl, ?_⟩
        refine ⟨_, rfl, _, rfl, _, rfl, a, _, _, _, rfl, rfl, ha3, (by
          have e := iv_at hgk
          rw [show ((pl + 1 + wn : Nat) : Int) = (pl : Int) + 1 + (wn : Int) by omega] at e
          exact e), _, _, rfl, rfl, ?_⟩
        refine ⟨_, rfl, _, rfl, _, rfl, _, rfl, _, rfl, _, rfl, a, _, rfl, ha3, ?_⟩
        intro z nz; generalize hH_z : upd _ z _ = H4; have s4 := snew nz hH_z; have hz := hnew hH_z; clear hH_z
        have ecut2 : cutV (iv nl) (some ((pl : Int) + 1 + (wn : Int) + 1)) (some ((pl : Int) + 1 + (wn : Int) + 1 + (kk : Int))) = iv ((r.drop (wn + 1)).take kk) := by
          have e := iv_cut_nn nl (pl + 1 + wn + 1) (pl + 1 + wn + 1 + kk)
          rw [show ((pl + 1 + wn + 1 + kk : Nat) : Int) = (pl : Int) + 1 + (wn : Int) + 1 + (kk : Int) by omega, show ((pl + 1 + wn + 1 : Nat) : Int) = (pl : Int) + 1 + (wn : Int) + 1 by omega] at e
          rw [e, ← hLr, List.drop_drop, show pl + 1 + wn + 1 + kk - (pl + 1 + wn + 1) = kk by omega, show pl + 1 + (wn + 1) = pl + 1 + wn + 1 by omega]
        rw [ecut2] at hz
        have hlen1 : (iv (num :: r.take wn)).length ≤ 20000 := by rw [iv_len, List.length_cons, List.length_take]; omega
        have hlen2 : (iv ((r.drop (wn + 1)).take kk)).length ≤ 20000 := by rw [iv_len, List.length_take]; omega
        refine ⟨x, z, _, _, rfl, rfl, s4 _ _ hx, hz, sz _ (by omega), ?_⟩
        intro y ny; generalize hH_y : upd _ y _ = H5; have s5 := snew ny hH_y; have hy := hnew hH_y; clear hH_y
        have hy : H5 y = some (.lst (iv ((num :: r.take wn) ++ (r.drop (wn + 1)).take kk))) := by rw [hy, iv_append]
        have hq5 := s5 _ _ (s4 _ _ (s3 _ _ hq))
        refine ⟨_, rfl, .inl ⟨rfl, _, SqL.of hq5⟩, _, rfl, q, _, _, rfl, rfl, hq5, szl _ (by rw [rv_len]; omega), ?_⟩
        generalize hH_ : upd _ q _ = H6; obtain ⟨g6, k6⟩ := ups hH_; clear hH_
        exact ⟨_, rfl, next y H5 H6 _ _ _ _ ((s3.trans s4).trans s5) hy ((s3.trans s4).free ny) (by omega) g6 k6⟩
    · rw [iv_len] at c
      have hd : nl.drop pl = [] := List.drop_eq_nil_of_le (by omega)
      rw [hd] at hPr
      have hr0 : rem = [] := by
        cases hPr with
        | nil => rfl
        | cons h1 _ => have := h1.len; simp at this; omega
      rw [hr0, List.append_nil] at ed
      rw [ed] at LL
      exact ⟨_, rfl, k q ps H2 nq s2 hq LL fr⟩
end
end TT
end
section
set_option maxHeartbeats 2000000
namespace TT
open PySem PySem.Spec PyProof.Rows L2
open Ue17 (House)
theorem Parts.head {l : List Nat} {ps : List (List Nat)} (h : Parts l ps) : ∀ p ∈ ps, ∃ num r, p = num :: r ∧ num < 17 := by
  induction h with
  | nil => intro p hp; cases hp
  | cons h1 _ ih =>
    intro p hp
    rcases List.mem_cons.mp hp with q | q
    · obtain ⟨num, r, w, rfl, h2, h3, h4, h5⟩ := h1
      rcases h5 with ⟨_, h6, _⟩ | ⟨k, _, _, _, h6, _⟩
      · rw [q, h6]; exact ⟨num, _, rfl, h2⟩
      · rw [q, h6]; exact ⟨num, _, rfl, h2⟩
    · exact ih p q
theorem ans_le (s : House) (ps : List (List Nat)) (i : Nat) : (ansOf s (ps.take i)).length ≤ (ansOf s ps).length := by
  have h := ans_append (ps.take i) (ps.drop i) s
  rw [List.take_append_drop] at h
  rw [h, List.length_append]
  omega
theorem av_len (l : List Int) : (av l).length = l.length := List.length_map ..
theorem av_append (l m : List Int) : av (l ++ m) = av l ++ av m := List.map_append
theorem av_told (a b : List Int) : (av a ++ [V.int (b.length : Int)]) ++ av b = av (a ++ ((b.length : Int) :: b)) := by
  rw [av_append, List.append_assoc]
  rfl
theorem szb (n : Nat) (h : n ≤ 2000000) : n ≤ sizeLine := Nat.le_trans h (by decide)
theorem szbl (n : Nat) (h : n ≤ 2000000) : n < sizeLine := Nat.lt_of_le_of_lt h (by decide)
theorem INV.init : INV Ue17.init 0 := ⟨by decide +kernel, by decide +kernel, fun n _ h => (by cases h), Nat.le_refl _, by decide +kernel⟩
section
variable {P : Program} {w : World} {K : PySem.W.Frag} {mg : Str → Option Value} {base : Heap} {CT CD CE : Addr}
abbrev N_answers : List Str := ["calls", "editor", "answered", "part", "answer"]
theorem sc_answers : FnScope N_answers ["calls"] (defScope s_answers) := ⟨rfl, rfl, rfl, by decide +kernel, rfl, by decide +kernel, by decide +kernel⟩
def sp_answers (K : PySem.W.Frag) : Sp := fun vs H Q _ => ∃ (a : Addr) (nl : List Nat), vs = [.ref a] ∧ SqL K H a (iv nl) ∧ nl.length ≤ 10000 ∧ PyUe17.answers_asked (Ue17.ints nl) = true ∧ ∀ (H' : Hp) (p : Addr), H' p = some (.lst (av (PyUe17.answers (Ue17.ints nl)))) → Q (.ref p) H'
theorem fn_answers (T : Txt K mg CT CD CE) {fa : Addr} {fd : FuncData} (F : Fun K "answers" "answers" s_answers fa fd) : FnOk P w K mg base CX0 30 fa fd ["calls"] (sp_answers K) := by
  refine F.ok (k := 29) sc_answers (fun vs H Q E h => ?_) (fun cdv A outer s H vs Q E hr h => ?_)
  · obtain ⟨a, nl, rfl, _⟩ := h
    rfl
  · obtain ⟨a, nl, rfl, ha, hl, hask, k⟩ := h
    obtain ⟨parts, hP, eans, hpl, hp1, hsz⟩ := asked_all hask
    rw [eans] at k
    obtain ⟨ca, f0, f1, f2, f3, f4, f5, f6, f7, f8, f9, f10, f11, f12, f13, f14, f15, f16, hCALLS, hC, Z0, Z1, Z2, Z3, Z4, Z5, Z6, Z7, Z8, Z9, Z10, Z11, Z12, Z13, Z14, Z15, Z16⟩ := T.t_CALLS
    have hCALLEE : ∀ f sp, (∃ num, ([f0, f1, f2, f3, f4, f5, f6, f7, f8, f9, f10, f11, f12, f13, f14, f15, f16] : List Addr)[num]? = some f ∧ sp = spW CT CD CE num) → C8.CalAt P w K mg base 11 f sp := by
      rintro f sp ⟨num, h, rfl⟩
      match num, h with
      | 0, h => obtain rfl := Option.some.inj h; exact ok_change T Z0
      | 1, h => obtain rfl := Option.some.inj h; exact ok_undo T Z1
      | 2, h => obtain rfl := Option.some.inj h; exact ok_redo T Z2
      | 3, h => obtain rfl := Option.some.inj h; exact ok_goto T Z3
      | 4, h => obtain rfl := Option.some.inj h; exact ok_keep T Z4
      | 5, h => obtain rfl := Option.some.inj h; exact ok_forget T Z5
      | 6, h => obtain rfl := Option.some.inj h; exact ok_flush T Z6
      | 7, h => obtain rfl := Option.some.inj h; exact ok_begin_copy T Z7
      | 8, h => obtain rfl := Option.some.inj h; exact ok_turn T Z8
      | 9, h => obtain rfl := Option.some.inj h; exact ok_power T Z9
      | 10, h => obtain rfl := Option.some.inj h; exact ok_start T Z10
      | 11, h => obtain rfl := Option.some.inj h; exact ok_tell_text T Z11
      | 12, h => obtain rfl := Option.some.inj h; exact ok_tell_tree T Z12
      | 13, h => obtain rfl := Option.some.inj h; exact ok_tell_file T Z13
      | 14, h => obtain rfl := Option.some.inj h; exact ok_spoil T Z14
      | 15, h => obtain rfl := Option.some.inj h; exact ok_tell_state T Z15
      | 16, h => obtain rfl := Option.some.inj h; exact ok_was T Z16
      | n + 17, h => cases h
    generalize hfs : ([f0, f1, f2, f3, f4, f5, f6, f7, f8, f9, f10, f11, f12, f13, f14, f15, f16] : List Addr) = fs at hCALLEE
    have hC : ∀ H, SqT K H ca (rv fs) := by rw [← hfs]; exact hC
    have hfl : fs.length = 17 := by rw [← hfs]; rfl
    refine ⟨_, (pss_cons (ps_set (i := 1) sc_answers.nd rfl (Or.inl rfl) (pe_mk0 (ok_Editor___init__ T) hr (by decide) (by rfl)))
      (pss_cons (ps_set (i := 2) sc_answers.nd rfl (Or.inl rfl) (pe_lst pa_nil))
      (pss_cons (ps_for PassesOwn.never rfl (pi_list (C8.pe_c (ok_split_calls T) hr (by decide) (by rfl) (pa_cons (pv 0) pa_nil))) (pg_name (i := 3) sc_answers.nd rfl (Or.inl rfl))
        (pss_cons (ps_set (i := 4) sc_answers.nd rfl (Or.inl rfl) (pe_callE hCALLEE (hr.mono (by decide)) (pe_ix ix_tup (pe_glob (v := .ref _) (by rfl) hCALLS rfl) (pe_ix ix_list (pv 3) pe_int (fun _ _ => rfl)) (fun _ _ => rfl)) (pa_cons (pv 1) (pa_cons (pe_slice sl_list (pv 3) (po_some pe_int) po_none) pa_nil))))
          (pss_cons (ps_expr (pe_bm PySem.F.plainAttrs_list PySem.F.slot_list_append PySem.F.type_list_append mt_append (pv 2) (pa_cons (pe_callB call_len_seq (by rfl) T.b_len PySem.boot_len (pa_cons (pv 4) pa_nil)) pa_nil)))
          (pss_one (ps_expr (pe_bm PySem.F.plainAttrs_list PySem.F.slot_list_extend PySem.F.type_list_extend mt_extend (pv 2) (pa_cons (pv 4) pa_nil)))))))
      (pss_one (ps_ret (pv 2)))))) , ?_⟩
    intro e dxe ne ndx nexx
    have s0 : Same H (upd (upd H dxe (.own e)) e (.ins CE dxe [])) := same_upd (same_upd (Same.refl H) ndx) ne
    refine ⟨e, dxe, rfl, upd_same, fun H1 X fl wr rm dk A D k1 nX => ⟨rfl, ?_⟩⟩
    have s1 : Same H H1 := fun z o q => k1 _ _ (s0 _ _ q) (ne_of_none q ne)
    refine ⟨sz 0 (by decide), ?_⟩
    intro ra nra; generalize hH_ra : upd _ ra _ = H2; have s2 := snew nra hH_ra; have hra := hnew hH_ra; clear hH_ra
    have D2 := D.more nra s2 hra
    refine ⟨_, rfl, a, nl, parts, rfl, SqL.same (SqL.same ha s1) s2, hl, hP, hpl, fun q ps H3 nq s3 hq LL fr => ?_⟩
    have D3 := D2.same s3
    have hr3 := s3 _ _ hra
    have own3 : ∀ {z : Addr}, z ∉ ra :: X → z ∉ [fl, wr, rm] ∧ z ≠ ra := fun {z} n => ⟨fun m => n (by
      simp only [List.mem_cons, List.not_mem_nil, or_false] at m
      rcases m with w | w | w
      · rw [w]; exact D2.dk.ff
      · rw [w]; exact D2.dk.fw
      · rw [w]; exact D2.rx), fun w => n (by rw [w]; exact List.mem_cons_self ..)⟩
    have hrn : ra ∉ [fl, wr, rm] := fun m => D.fresh nra (by
      simp only [List.mem_cons, List.not_mem_nil, or_false] at m
      rcases m with w | w | w
      · rw [w]; exact D.dk.ff
      · rw [w]; exact D.dk.fw
      · rw [w]; exact D.rx)
    have hll := LL.len
    refine ⟨q, rfl, ⟨_, SqL.of hq⟩, for_list (K := K) (a := q) (xs := rv ps) (fun i σ H' => ∃ (X : List Addr) (fl wr rm dk : Addr) (A : TA) (f : Nat) (v3 v4 : Option V), σ = [some (.ref a), some (.ref e), some (.ref ra), v3, v4] ∧ EdAt CT CD CE X fl wr rm H' e (after Ue17.init (parts.take i)) dk A f ∧ INV (after Ue17.init (parts.take i)) i ∧ ra ∈ X ∧ ra ∉ [fl, wr, rm] ∧ H' ra = some (.lst (av (ansOf Ue17.init (parts.take i)))) ∧ H' q = some (.lst (rv ps)) ∧ q ∉ [fl, wr, rm] ∧ q ≠ ra ∧ ListsAt H' ps parts ∧ ∀ p ∈ ps, p ∉ [fl, wr, rm] ∧ p ≠ ra)
      ⟨ra :: X, fl, wr, rm, dk, A, 0, none, none, rfl, D3, INV.init, List.mem_cons_self .., hrn, hr3, hq, (own3 (D2.fresh nq)).1, (own3 (D2.fresh nq)).2, LL, fun p hp => own3 (D2.fresh (fr p hp).1)⟩ (fun i σ H' _ pv => by obtain ⟨X, fl, wr, rm, dk, A, f, v3, v4, _, _, _, _, _, _, hq', _⟩ := pv; exact SqL.of hq') (fun i y0 σ H4 hy0 pv => ?_) (fun σ H4 pv => ?_)⟩
    · clear own3 hrn D2 D3 D nX k1
      obtain ⟨X, fl, wr, rm, dk, A, f, v3, v4, rfl, D4, I4, hrX, hrn, hr4, hq4, hqn, hqr, LL4, fr4⟩ := pv
      obtain ⟨pp, hpp, rfl⟩ := rv_get' hy0
      have hi := (List.getElem?_eq_some_iff.mp hpp).1
      have hpart : parts[i]? = some (parts[i]'(by omega)) := List.getElem?_eq_getElem (by omega)
      generalize hpe : parts[i]'(by omega) = part at hpart
      have hpm := List.mem_of_getElem? hpart
      obtain ⟨num, l, rfl, hnum⟩ := hP.head _ hpm
      have hpsm := hP.small _ hpm
      rw [List.length_cons] at hpsm
      obtain ⟨c, hc, hst⟩ := asked_step (hp1 _ hpm) (after Ue17.init (parts.take i))
      have hp4 := LL4.at_ i pp _ hpp hpart
      have hfn : fs[num]? = some (fs[num]'(by omega)) := List.getElem?_eq_getElem (by omega)
      have hfv : (rv fs)[num]? = some (.ref (fs[num]'(by omega))) := by
        show (fs.map V.ref)[num]? = _
        rw [List.getElem?_map, hfn]
        rfl
      have hsz1 : (ansOf Ue17.init (parts.take (i + 1))).length ≤ 1000060 := Nat.le_trans (ans_le _ _ _) hsz
      rw [take_snoc hpart, ans_snoc, List.length_append, List.length_cons] at hsz1
      refine ⟨_, rfl, pp, _, _, _, rfl, rfl, SqL.of hp4, iv_at (i := 0) rfl, ca, _, _, _, rfl, rfl, hC H4, atI_nat hfv, _, spW CT CD CE num, rfl, ⟨num, hfn, rfl⟩, _, rfl, _, rfl, 1, rfl, pp, _, rfl, SqL.of hp4, ?_⟩
      intro u nu; generalize hH_u : upd _ u _ = H5; have s5 := snew nu hH_u; have hu := hnew hH_u; clear hH_u
      rw [show cutV (iv (num :: l)) (some 1) none = iv l from iv_cut_n (num :: l) 1] at hu
      refine ⟨X, fl, wr, rm, e, dk, _, A, f, i, [.ref u], c, rfl, D4.same s5, I4, by omega, ⟨u, l, rfl, hu, D4.fresh nu, by omega, hc⟩, ?_⟩
      rw [← hst]
      intro H6 p X' fl' wr' rm' dk' A' f' D6 I6 hp6 hX1 hX2 how hls hpn
      have st6 : ∀ {z : Addr} {m : List V}, H4 z = some (.lst m) → z ∉ [fl, wr, rm] → H6 z = some (.lst m) := fun hz hn => hls _ _ (s5 _ _ hz) hn
      have on6 : ∀ {z : Addr} {o : HO}, H4 z = some o → z ∉ [fl, wr, rm] → z ∉ [fl', wr', rm'] := fun {z o} hz hn m => by
        rcases how z m with w | w
        · exact hn w
        · rw [s5 _ _ hz] at w; cases w
      have hr6 := st6 hr4 hrn
      have hrn6 := on6 hr4 hrn
      have npr : p ≠ ra := fun z => by
        rcases hpn with w | w
        · rw [z, s5 _ _ hr4] at w; cases w
        · exact w.1 (by rw [z]; exact hX2 _ hrX)
      have n3 : ra ≠ fl' ∧ ra ≠ wr' ∧ ra ≠ rm' := by
        simp only [List.mem_cons, List.not_mem_nil, or_false, not_or] at hrn6
        exact hrn6
      refine ⟨_, rfl, .inl ⟨rfl, _, SqL.of hr6⟩, _, rfl, p, _, rfl, .inl (SqL.of hp6), ra, _, _, rfl, rfl, hr6, szbl _ (by rw [av_len]; omega), ?_⟩
      generalize hH_ : upd _ ra _ = H7; obtain ⟨g7, k7⟩ := ups hH_; clear hH_
      have D7 := D6.other (hX2 _ hrX) n3.1 n3.2.1 n3.2.2 g7 k7
      have hp7 := k7 _ _ hp6 npr
      refine ⟨_, rfl, .inl ⟨rfl, _, SqL.of g7⟩, _, rfl, ra, p, _, _, rfl, rfl, g7, hp7, szb _ (by rw [List.length_append, av_len, av_len, List.length_singleton]; omega), ?_⟩
      generalize hH_ : upd _ ra _ = H8; obtain ⟨g8, k8⟩ := ups hH_; clear hH_
      have D8 := D7.other (hX2 _ hrX) n3.1 n3.2.1 n3.2.2 g8 k8
      have st8 : ∀ {z : Addr} {m : List V}, H4 z = some (.lst m) → z ∉ [fl, wr, rm] → z ≠ ra → H8 z = some (.lst m) := fun hz hn hne => k8 _ _ (k7 _ _ (st6 hz hn) hne) hne
      have ea : after Ue17.init (parts.take (i + 1)) = (stp (after Ue17.init (parts.take i)) (num :: l)).1 := by rw [take_snoc hpart, after_snoc]
      refine ⟨X', fl', wr', rm', dk', A', f', _, _, rfl, by rw [ea]; exact D8, by rw [ea]; exact I6, hX2 _ hrX, hrn6, ?_, st8 hq4 hqn hqr, on6 hq4 hqn, hqr, ⟨LL4.len, fun j z b h1 h2 => st8 (LL4.at_ j z b h1 h2) (fr4 z (List.mem_of_getElem? h1)).1 (fr4 z (List.mem_of_getElem? h1)).2⟩, fun z hz => ?_⟩
      · rw [g8, take_snoc hpart, ans_snoc, av_len]
        exact congrArg (fun z => some (HO.lst z)) (av_told _ _)
      · obtain ⟨j, hj⟩ := List.mem_iff_getElem?.mp hz
        have hlt := (List.getElem?_eq_some_iff.mp hj).1
        exact ⟨on6 (LL4.at_ j z _ hj (List.getElem?_eq_getElem (by omega))) (fr4 z hz).1, (fr4 z hz).2⟩
    · obtain ⟨X, fl, wr, rm, dk, A, f, v3, v4, rfl, D4, I4, hrX, hrn, hr4, _⟩ := pv
      rw [rv_len, hll, List.take_length] at hr4
      exact ⟨_, rfl, k H4 ra hr4⟩
theorem end_answers (T : Txt K mg CT CD CE) {fa : Addr} (hmg : mg "answers" = some (.ref fa)) : ∃ fd : FuncData, (∀ (s : Shared) (us : List Value), us.length = 1 → BindsTo s fd ⟨us, []⟩ ((["calls"] : List Str).zip us)) ∧ ∀ base : Heap, FnOk P w K mg base CX0 30 fa fd ["calls"] (sp_answers K) := by
  obtain ⟨f, fd, F, hm, hb⟩ := T.d_answers
  rw [hmg] at hm
  obtain rfl : fa = f := by injection hm with hm; injection hm
  refine ⟨fd, fun s us hl => ?_, fun base => fn_answers T F⟩
  obtain ⟨oc, od, kV, doc, pm, an, cdv, ct, osl, rfl, _, _⟩ := F.ex
  exact .of_eq (match us, hl with | [_], _ => rfl)
end
end TT
end
section
set_option maxHeartbeats 2000000
namespace TT
open PySem PySem.Spec PyProof.Rows L2
theorem fin {K : PySem.W.Frag} {h : Heap} {mg : Str → Option Value} {P : Prop} (_X : K.In h) (hT : ∃ CT CD CE, Txt K mg CT CD CE) (g : (∃ CT CD CE, Txt K mg CT CD CE) → P) : P := g hT
theorem valsI : ∀ (l : List (Int × Tok)), Vals (l.map fun p => .int p.1) (l.map fun p => Value.int p.1 p.2)
  | [] => .nil
  | p :: l => .cons ⟨p.2, rfl⟩ (valsI l)
theorem tupT_mk {K : PySem.W.Frag} {h : Heap} {mg : Str → Option Value} {x : Str} {a : Addr} {o : Obj} {its : Array Value} {n : Nat} {xs : List V} (X : K.In h) (G : h.Ns mainGlobals mg) (aa : PySem.W.nsIn K mainGlobals x = some (some (.ref a))) (l : K.lookup a = some o)
    (hc : o.cls = .type "tuple") (hd : o.data = .seq its n) (hz : its.size ≤ sizeLine) (hv : Vals xs its.toList) : ∃ a, mg x = some (.ref a) ∧ ∀ H, SqT K H a xs :=
  ⟨a, PySem.W.mg_of X G aa, fun _ => .inr ⟨o, its, n, l, hc, hd, hz, hv⟩⟩
theorem atT_mk2 {K : PySem.W.Frag} {x : Str} {st : Stmt} {ps : List Str} {f : Addr} {oc : Value} {od an : Option Addr} {osl : Array (Option Value)} {kV doc pm cdv ct : Value}
    (hb : ∀ (kV doc pm : Value) (an : Option Addr) (cdv ct : Value) (us : List Value), us.length = ps.length → bindArgs (PySem.W.fnOf x x (defArgs st) (defBody st) (defScope st) .none kV doc pm an cdv ct) ⟨us, []⟩ = pure (ps.zip us))
    (l : K.lookup f = some ⟨oc, od, .func (PySem.W.fnOf x x (defArgs st) (defBody st) (defScope st) .none kV doc pm an cdv ct), osl⟩)
    (c : PySem.W.codeIn K cdv x = true) (k : PySem.W.keepIn K (.ref f) = true) : AtT K f x st ps := ⟨_, fun_mk l c k, (fun_mk l c k).binds hb⟩
theorem callsT_mk {K : PySem.W.Frag} {h : Heap} {mg : Str → Option Value} {a f0 f1 f2 f3 f4 f5 f6 f7 f8 f9 f10 f11 f12 f13 f14 f15 f16 : Addr} {o : Obj} {its : Array Value} {n : Nat} (X : K.In h) (G : h.Ns mainGlobals mg) (aa : PySem.W.nsIn K mainGlobals "CALLS" = some (some (.ref a))) (l : K.lookup a = some o)
    (hc : o.cls = .type "tuple") (hd : o.data = .seq its n) (hz : its.size ≤ sizeLine) (hv : Vals [.ref f0, .ref f1, .ref f2, .ref f3, .ref f4, .ref f5, .ref f6, .ref f7, .ref f8, .ref f9, .ref f10, .ref f11, .ref f12, .ref f13, .ref f14, .ref f15, .ref f16] its.toList)
    (d0 : AtT K f0 "change" s_change ["editor", "given"]) (d1 : AtT K f1 "undo" s_undo ["editor", "given"]) (d2 : AtT K f2 "redo" s_redo ["editor", "given"]) (d3 : AtT K f3 "goto" s_goto ["editor", "given"]) (d4 : AtT K f4 "keep" s_keep ["editor", "given"]) (d5 : AtT K f5 "forget" s_forget ["editor", "given"]) (d6 : AtT K f6 "flush" s_flush ["editor", "given"]) (d7 : AtT K f7 "begin_copy" s_begin_copy ["editor", "given"]) (d8 : AtT K f8 "turn" s_turn ["editor", "given"]) (d9 : AtT K f9 "power" s_power ["editor", "given"]) (d10 : AtT K f10 "start" s_start ["editor", "given"]) (d11 : AtT K f11 "tell_text" s_tell_text ["editor", "given"]) (d12 : AtT K f12 "tell_tree" s_tell_tree ["editor", "given"]) (d13 : AtT K f13 "tell_file" s_tell_file ["editor", "given"]) (d14 : AtT K f14 "spoil" s_spoil ["editor", "given"]) (d15 : AtT K f15 "tell_state" s_tell_state ["editor", "given"]) (d16 : AtT K f16 "was" s_was ["editor", "given"]) :
    ∃ a f0 f1 f2 f3 f4 f5 f6 f7 f8 f9 f10 f11 f12 f13 f14 f15 f16, mg "CALLS" = some (.ref a) ∧ (∀ H, SqT K H a [.ref f0, .ref f1, .ref f2, .ref f3, .ref f4, .ref f5, .ref f6, .ref f7, .ref f8, .ref f9, .ref f10, .ref f11, .ref f12, .ref f13, .ref f14, .ref f15, .ref f16]) ∧ AtT K f0 "change" s_change ["editor", "given"] ∧ AtT K f1 "undo" s_undo ["editor", "given"] ∧ AtT K f2 "redo" s_redo ["editor", "given"] ∧ AtT K f3 "goto" s_goto ["editor", "given"] ∧ AtT K f4 "keep" s_keep ["editor", "given"] ∧ AtT K f5 "forget" s_forget ["editor", "given"] ∧ AtT K f6 "flush" s_flush ["editor", "given"] ∧ AtT K f7 "begin_copy" s_begin_copy ["editor", "given"] ∧ AtT K f8 "turn" s_turn ["editor", "given"] ∧ AtT K f9 "power" s_power ["editor", "given"] ∧ AtT K f10 "start" s_start ["editor", "given"] ∧ AtT K f11 "tell_text" s_tell_text ["editor", "given"] ∧ AtT K f12 "tell_tree" s_tell_tree ["editor", "given"] ∧ AtT K f13 "tell_file" s_tell_file ["editor", "given"] ∧ AtT K f14 "spoil" s_spoil ["editor", "given"] ∧ AtT K f15 "tell_state" s_tell_state ["editor", "given"] ∧ AtT K f16 "was" s_was ["editor", "given"] :=
  ⟨a, f0, f1, f2, f3, f4, f5, f6, f7, f8, f9, f10, f11, f12, f13, f14, f15, f16, PySem.W.mg_of X G aa, fun _ => .inr ⟨o, its, n, l, hc, hd, hz, hv⟩, d0, d1, d2, d3, d4, d5, d6, d7, d8, d9, d10, d11, d12, d13, d14, d15, d16⟩
end TT
end
section
theorem TT.ints_back : ∀ {l : List Int}, (∀ x ∈ l, 0 ≤ x) → Ue17.ints (l.map Int.toNat) = l
  | [], _ => rfl
  | x :: l, h => by
    show ((x.toNat : Nat) : Int) :: Ue17.ints (l.map Int.toNat) = x :: l
    rw [TT.ints_back fun y hy => h y (List.mem_cons_of_mem _ hy), Int.toNat_of_nonneg (h x List.mem_cons_self)]
theorem TT.start_answers {K : PySem.W.Frag} {H : L2.Hp} {p : PySem.Addr} {l : List Int} {Q : L2.VK} {E : L2.XK} (hw : ((PySem.W.Codec.inLen 0 6240 l && l.all (PySem.W.Codec.inInt 0 4294967295)) && true) = true) (ha : PyUe17.answers_asked l = true) (hs : L2.SqL K H p (l.map L2.V.int)) (k : ∀ (H' : L2.Hp) (q : PySem.Addr), H' q = some (.lst ((PyUe17.answers l).map L2.V.int)) → Q (.ref q) H') : TT.sp_answers K [.ref p] H Q E := by
  simp only [Bool.and_eq_true, List.all_eq_true] at hw
  obtain ⟨⟨h1, h2⟩, _⟩ := hw
  have hb : ∀ x ∈ l, 0 ≤ x := fun x hx => by
    have := h2 x hx
    unfold PySem.W.Codec.inInt at this
    simp only [Bool.and_eq_true, decide_eq_true_eq] at this
    exact this.1
  have hlen : l.length ≤ 6240 := by
    unfold PySem.W.Codec.inLen PySem.W.Codec.inNat at h1
    simp only [Bool.and_eq_true, decide_eq_true_eq] at h1
    omega
  have e := TT.ints_back hb
  refine ⟨p, l.map Int.toNat, rfl, ?_, by rw [List.length_map]; omega, by rw [e]; exact ha, fun H' q hq => k H' q (by rw [hq, e])⟩
  have : TT.iv (l.map Int.toNat) = l.map L2.V.int := by rw [← TT.av_ints, e]
  rw [this]
  exact hs
end
section
open PySem PySem.W PyProof.Rows
set_option maxHeartbeats 0 in
theorem PySem.Challenge.cw_texttrees_s01_answers_holds : PySem.Challenge.rw_texttrees_s01_answers.Holds := by
  w_on; k_headS; (case hw => exact ⟨[.list [.int 1]], by decide +kernel, by decide +kernel⟩)
  k_fillS
  refine L2.walk_specK (r := PySem.Challenge.rw_texttrees_s01_answers) (k := 30) (CX := L2.CX0) (ps := ["calls"]) (sp := TT.sp_answers) (by decide +kernel) rfl rfl ⟨rfl, by decide, by decide⟩ (fun w h Y => PySem.W.kIn_of Y) ?F ?S (fun _ _ _ _ z => z)
  case F =>
    intro w mg fa h Y KX G hmg
    refine TT.fin KX (mg := mg) ?T ?g
    case T =>
      refine' ⟨_, _, _, TT.Txt.mk ?clT ?nT_first ?nT_first_text ?nT_parents ?nT_changes ?nT_kept ?nT_passed ?nT_now ?nT_given ?nT_deeds ?clD ?nD_files ?nD_writes ?clE ?nE_tree ?nE_remembered ?nE_disk ?nE_powered ?nE_copying ?nE_safe ?nE_used ?nE_number ?nE_size ?d_record ?d_record_size ?d_read ?d_body_at ?d_is_right ?d_changed ?m_Tree ?d_Tree_has ?d_Tree_numbers ?d_Tree_text_now ?d_Tree_text_of ?d_Tree_way_to ?d_Tree_made_of ?d_Tree_undone ?d_Tree_done_again ?d_Tree_put_state ?d_Tree_make ?d_Tree_go ?d_Tree_remember ?d_Tree_keep ?d_Tree_forget ?d_Tree_lowest_free_end ?d_Tree_first_may_go ?d_Tree_drop ?d_Tree_drop_first ?d_refusal_of_deed ?d_refusal_of_its_sort ?d_refusal_of_make ?d_refusal_of_change ?d_do_deed ?d_tree_made_by ?d_copy_of ?d_first_body ?d_other_body ?d_end_body ?d_tree_copied ?d_bodies_of_copy ?d_tree_of_first ?d_other_fits ?d_end_fits ?d_pairs_of ?d_pairs_fit ?d_take_end ?m_Disk ?d_Disk_send ?d_Disk_arrive ?d_Disk_arrive_in_part ?d_Disk_store ?d_Disk_wipe ?d_head ?d_number_of ?d_number_behind ?d_new_file ?d_tree_said ?d_found_file ?d_refused ?m_Editor ?d_Editor_use_new_file ?d_Editor_do ?d_Editor_refusal_of ?d_Editor_settle ?d_Editor_flush ?d_Editor_begin_copy ?d_Editor_turn ?d_Editor_lose_power ?d_Editor_start_anew ?d_Editor_spoil ?d_counted ?d_text_told ?d_tree_told ?d_file_told ?d_state_told ?d_past_told ?d_change ?d_undo ?d_redo ?d_go_where ?d_goto ?d_keep ?d_forget ?d_flush ?d_begin_copy ?d_turn ?d_power ?d_start ?d_tell_text ?d_tell_tree ?d_tell_file ?d_spoil ?d_tell_state ?d_was ?d_split_calls ?d_answers ?c_MAKE ?c_GO ?c_KEEP ?c_FORGET ?c_COPIED_FIRST ?c_COPIED_OTHER ?c_COPIED_END ?c_GRANTED ?c_BEYOND ?c_MISSING ?c_FULL ?c_NO_ROOM ?c_NONE_COUNTS ?c_NOWHERE ?c_NOT_NOW ?c_WRONG_POWER ?c_LONGEST_TEXT ?c_MOST_NUMBERS ?c_MOST_DEEDS ?c_HIGHEST_BYTE ?c_HEAD_SIZE ?c_LONGEST_FILE ?b_len ?b_sum ?b_max ?b_sorted ?b_list ?b_set ?b_all ?b_reversed ?b_enumerate ?b_zip ?b_range ?t_WHOLE_NUMBERS ?t_ROWS ?t_CALLS⟩
      case m_Tree =>
        refine' TT.makT_mk KX G (fun _ _ _ _ _ _ us hl => match us, hl with | [_, _, _], _ => rfl) ?aC ?mk ?kc ?a ?i ?l ?c ?k
        (case aC => k_is); (case mk => k_is); (case kc => k_is); (case a => k_is); (case i => k_is); (case l => k_is); (case c => k_is); (case k => k_is)
      case m_Disk =>
        refine' TT.makT_mk KX G (fun _ _ _ _ _ _ us hl => match us, hl with | [_], _ => rfl) ?aC ?mk ?kc ?a ?i ?l ?c ?k
        (case aC => k_is); (case mk => k_is); (case kc => k_is); (case a => k_is); (case i => k_is); (case l => k_is); (case c => k_is); (case k => k_is)
      case m_Editor =>
        refine' TT.makT_mk KX G (fun _ _ _ _ _ _ us hl => match us, hl with | [_], _ => rfl) ?aC ?mk ?kc ?a ?i ?l ?c ?k
        (case aC => k_is); (case mk => k_is); (case kc => k_is); (case a => k_is); (case i => k_is); (case l => k_is); (case c => k_is); (case k => k_is)
      case clT =>
        refine' ⟨?pg, ?hd, ?po, ?sa⟩
        (case pg => k_is); (case hd => k_is); (case po => k_is); (case sa => k_is)
      (case nT_first => (unfold L2.NoAttr; k_is))
      (case nT_first_text => (unfold L2.NoAttr; k_is))
      (case nT_parents => (unfold L2.NoAttr; k_is))
      (case nT_changes => (unfold L2.NoAttr; k_is))
      (case nT_kept => (unfold L2.NoAttr; k_is))
      (case nT_passed => (unfold L2.NoAttr; k_is))
      (case nT_now => (unfold L2.NoAttr; k_is))
      (case nT_given => (unfold L2.NoAttr; k_is))
      (case nT_deeds => (unfold L2.NoAttr; k_is))
      case clD =>
        refine' ⟨?pg, ?hd, ?po, ?sa⟩
        (case pg => k_is); (case hd => k_is); (case po => k_is); (case sa => k_is)
      (case nD_files => (unfold L2.NoAttr; k_is))
      (case nD_writes => (unfold L2.NoAttr; k_is))
      case clE =>
        refine' ⟨?pg, ?hd, ?po, ?sa⟩
        (case pg => k_is); (case hd => k_is); (case po => k_is); (case sa => k_is)
      (case nE_tree => (unfold L2.NoAttr; k_is))
      (case nE_remembered => (unfold L2.NoAttr; k_is))
      (case nE_disk => (unfold L2.NoAttr; k_is))
      (case nE_powered => (unfold L2.NoAttr; k_is))
      (case nE_copying => (unfold L2.NoAttr; k_is))
      (case nE_safe => (unfold L2.NoAttr; k_is))
      (case nE_used => (unfold L2.NoAttr; k_is))
      (case nE_number => (unfold L2.NoAttr; k_is))
      (case nE_size => (unfold L2.NoAttr; k_is))
      case d_record =>
        refine' TT.calT_mk KX G (fun _ _ _ _ _ _ us hl => match us, hl with | [_], _ => rfl) ?a ?l ?c ?k
        (case a => k_is); (case l => k_is); (case c => k_is); (case k => k_is)
      case d_record_size =>
        refine' TT.calT_mk KX G (fun _ _ _ _ _ _ us hl => match us, hl with | [_], _ => rfl) ?a ?l ?c ?k
        (case a => k_is); (case l => k_is); (case c => k_is); (case k => k_is)
      case d_read =>
        refine' TT.calT_mk KX G (fun _ _ _ _ _ _ us hl => match us, hl with | [_], _ => rfl) ?a ?l ?c ?k
        (case a => k_is); (case l => k_is); (case c => k_is); (case k => k_is)
      case d_body_at =>
        refine' TT.calT_mk KX G (fun _ _ _ _ _ _ us hl => match us, hl with | [_, _], _ => rfl) ?a ?l ?c ?k
        (case a => k_is); (case l => k_is); (case c => k_is); (case k => k_is)
      case d_is_right =>
        refine' TT.calT_mk KX G (fun _ _ _ _ _ _ us hl => match us, hl with | [_], _ => rfl) ?a ?l ?c ?k
        (case a => k_is); (case l => k_is); (case c => k_is); (case k => k_is)
      case d_changed =>
        refine' TT.calT_mk KX G (fun _ _ _ _ _ _ us hl => match us, hl with | [_, _, _, _], _ => rfl) ?a ?l ?c ?k
        (case a => k_is); (case l => k_is); (case c => k_is); (case k => k_is)
      case d_Tree_has =>
        refine' TT.metT_mk (fun _ _ _ _ _ _ us hl => match us, hl with | [_, _], _ => rfl) ?a ?i ?l ?c ?k
        (case a => k_is); (case i => k_is); (case l => k_is); (case c => k_is); (case k => k_is)
      case d_Tree_numbers =>
        refine' TT.metT_mk (fun _ _ _ _ _ _ us hl => match us, hl with | [_], _ => rfl) ?a ?i ?l ?c ?k
        (case a => k_is); (case i => k_is); (case l => k_is); (case c => k_is); (case k => k_is)
      case d_Tree_text_now =>
        refine' TT.metT_mk (fun _ _ _ _ _ _ us hl => match us, hl with | [_], _ => rfl) ?a ?i ?l ?c ?k
        (case a => k_is); (case i => k_is); (case l => k_is); (case c => k_is); (case k => k_is)
      case d_Tree_text_of =>
        refine' TT.metT_mk (fun _ _ _ _ _ _ us hl => match us, hl with | [_, _], _ => rfl) ?a ?i ?l ?c ?k
        (case a => k_is); (case i => k_is); (case l => k_is); (case c => k_is); (case k => k_is)
      case d_Tree_way_to =>
        refine' TT.metT_mk (fun _ _ _ _ _ _ us hl => match us, hl with | [_, _], _ => rfl) ?a ?i ?l ?c ?k
        (case a => k_is); (case i => k_is); (case l => k_is); (case c => k_is); (case k => k_is)
      case d_Tree_made_of =>
        refine' TT.metT_mk (fun _ _ _ _ _ _ us hl => match us, hl with | [_, _], _ => rfl) ?a ?i ?l ?c ?k
        (case a => k_is); (case i => k_is); (case l => k_is); (case c => k_is); (case k => k_is)
      case d_Tree_undone =>
        refine' TT.metT_mk (fun _ _ _ _ _ _ us hl => match us, hl with | [_], _ => rfl) ?a ?i ?l ?c ?k
        (case a => k_is); (case i => k_is); (case l => k_is); (case c => k_is); (case k => k_is)
      case d_Tree_done_again =>
        refine' TT.metT_mk (fun _ _ _ _ _ _ us hl => match us, hl with | [_], _ => rfl) ?a ?i ?l ?c ?k
        (case a => k_is); (case i => k_is); (case l => k_is); (case c => k_is); (case k => k_is)
      case d_Tree_put_state =>
        refine' TT.metT_mk (fun _ _ _ _ _ _ us hl => match us, hl with | [_, _, _, _, _], _ => rfl) ?a ?i ?l ?c ?k
        (case a => k_is); (case i => k_is); (case l => k_is); (case c => k_is); (case k => k_is)
      case d_Tree_make =>
        refine' TT.metT_mk (fun _ _ _ _ _ _ us hl => match us, hl with | [_, _, _, _], _ => rfl) ?a ?i ?l ?c ?k
        (case a => k_is); (case i => k_is); (case l => k_is); (case c => k_is); (case k => k_is)
      case d_Tree_go =>
        refine' TT.metT_mk (fun _ _ _ _ _ _ us hl => match us, hl with | [_, _], _ => rfl) ?a ?i ?l ?c ?k
        (case a => k_is); (case i => k_is); (case l => k_is); (case c => k_is); (case k => k_is)
      case d_Tree_remember =>
        refine' TT.metT_mk (fun _ _ _ _ _ _ us hl => match us, hl with | [_, _, _], _ => rfl) ?a ?i ?l ?c ?k
        (case a => k_is); (case i => k_is); (case l => k_is); (case c => k_is); (case k => k_is)
      case d_Tree_keep =>
        refine' TT.metT_mk (fun _ _ _ _ _ _ us hl => match us, hl with | [_, _, _], _ => rfl) ?a ?i ?l ?c ?k
        (case a => k_is); (case i => k_is); (case l => k_is); (case c => k_is); (case k => k_is)
      case d_Tree_forget =>
        refine' TT.metT_mk (fun _ _ _ _ _ _ us hl => match us, hl with | [_, _], _ => rfl) ?a ?i ?l ?c ?k
        (case a => k_is); (case i => k_is); (case l => k_is); (case c => k_is); (case k => k_is)
      case d_Tree_lowest_free_end =>
        refine' TT.metT_mk (fun _ _ _ _ _ _ us hl => match us, hl with | [_], _ => rfl) ?a ?i ?l ?c ?k
        (case a => k_is); (case i => k_is); (case l => k_is); (case c => k_is); (case k => k_is)
      case d_Tree_first_may_go =>
        refine' TT.metT_mk (fun _ _ _ _ _ _ us hl => match us, hl with | [_], _ => rfl) ?a ?i ?l ?c ?k
        (case a => k_is); (case i => k_is); (case l => k_is); (case c => k_is); (case k => k_is)
      case d_Tree_drop =>
        refine' TT.metT_mk (fun _ _ _ _ _ _ us hl => match us, hl with | [_, _], _ => rfl) ?a ?i ?l ?c ?k
        (case a => k_is); (case i => k_is); (case l => k_is); (case c => k_is); (case k => k_is)
      case d_Tree_drop_first =>
        refine' TT.metT_mk (fun _ _ _ _ _ _ us hl => match us, hl with | [_], _ => rfl) ?a ?i ?l ?c ?k
        (case a => k_is); (case i => k_is); (case l => k_is); (case c => k_is); (case k => k_is)
      case d_refusal_of_deed =>
        refine' TT.calT_mk KX G (fun _ _ _ _ _ _ us hl => match us, hl with | [_, _], _ => rfl) ?a ?l ?c ?k
        (case a => k_is); (case l => k_is); (case c => k_is); (case k => k_is)
      case d_refusal_of_its_sort =>
        refine' TT.calT_mk KX G (fun _ _ _ _ _ _ us hl => match us, hl with | [_, _], _ => rfl) ?a ?l ?c ?k
        (case a => k_is); (case l => k_is); (case c => k_is); (case k => k_is)
      case d_refusal_of_make =>
        refine' TT.calT_mk KX G (fun _ _ _ _ _ _ us hl => match us, hl with | [_, _], _ => rfl) ?a ?l ?c ?k
        (case a => k_is); (case l => k_is); (case c => k_is); (case k => k_is)
      case d_refusal_of_change =>
        refine' TT.calT_mk KX G (fun _ _ _ _ _ _ us hl => match us, hl with | [_, _, _, _], _ => rfl) ?a ?l ?c ?k
        (case a => k_is); (case l => k_is); (case c => k_is); (case k => k_is)
      case d_do_deed =>
        refine' TT.calT_mk KX G (fun _ _ _ _ _ _ us hl => match us, hl with | [_, _], _ => rfl) ?a ?l ?c ?k
        (case a => k_is); (case l => k_is); (case c => k_is); (case k => k_is)
      case d_tree_made_by =>
        refine' TT.calT_mk KX G (fun _ _ _ _ _ _ us hl => match us, hl with | [_], _ => rfl) ?a ?l ?c ?k
        (case a => k_is); (case l => k_is); (case c => k_is); (case k => k_is)
      case d_copy_of =>
        refine' TT.calT_mk KX G (fun _ _ _ _ _ _ us hl => match us, hl with | [_], _ => rfl) ?a ?l ?c ?k
        (case a => k_is); (case l => k_is); (case c => k_is); (case k => k_is)
      case d_first_body =>
        refine' TT.calT_mk KX G (fun _ _ _ _ _ _ us hl => match us, hl with | [_], _ => rfl) ?a ?l ?c ?k
        (case a => k_is); (case l => k_is); (case c => k_is); (case k => k_is)
      case d_other_body =>
        refine' TT.calT_mk KX G (fun _ _ _ _ _ _ us hl => match us, hl with | [_, _], _ => rfl) ?a ?l ?c ?k
        (case a => k_is); (case l => k_is); (case c => k_is); (case k => k_is)
      case d_end_body =>
        refine' TT.calT_mk KX G (fun _ _ _ _ _ _ us hl => match us, hl with | [_], _ => rfl) ?a ?l ?c ?k
        (case a => k_is); (case l => k_is); (case c => k_is); (case k => k_is)
      case d_tree_copied =>
        refine' TT.calT_mk KX G (fun _ _ _ _ _ _ us hl => match us, hl with | [_], _ => rfl) ?a ?l ?c ?k
        (case a => k_is); (case l => k_is); (case c => k_is); (case k => k_is)
      case d_bodies_of_copy =>
        refine' TT.calT_mk KX G (fun _ _ _ _ _ _ us hl => match us, hl with | [_], _ => rfl) ?a ?l ?c ?k
        (case a => k_is); (case l => k_is); (case c => k_is); (case k => k_is)
      case d_tree_of_first =>
        refine' TT.calT_mk KX G (fun _ _ _ _ _ _ us hl => match us, hl with | [_], _ => rfl) ?a ?l ?c ?k
        (case a => k_is); (case l => k_is); (case c => k_is); (case k => k_is)
      case d_other_fits =>
        refine' TT.calT_mk KX G (fun _ _ _ _ _ _ us hl => match us, hl with | [_, _], _ => rfl) ?a ?l ?c ?k
        (case a => k_is); (case l => k_is); (case c => k_is); (case k => k_is)
      case d_end_fits =>
        refine' TT.calT_mk KX G (fun _ _ _ _ _ _ us hl => match us, hl with | [_, _], _ => rfl) ?a ?l ?c ?k
        (case a => k_is); (case l => k_is); (case c => k_is); (case k => k_is)
      case d_pairs_of =>
        refine' TT.calT_mk KX G (fun _ _ _ _ _ _ us hl => match us, hl with | [_], _ => rfl) ?a ?l ?c ?k
        (case a => k_is); (case l => k_is); (case c => k_is); (case k => k_is)
      case d_pairs_fit =>
        refine' TT.calT_mk KX G (fun _ _ _ _ _ _ us hl => match us, hl with | [_, _], _ => rfl) ?a ?l ?c ?k
        (case a => k_is); (case l => k_is); (case c => k_is); (case k => k_is)
      case d_take_end =>
        refine' TT.calT_mk KX G (fun _ _ _ _ _ _ us hl => match us, hl with | [_, _], _ => rfl) ?a ?l ?c ?k
        (case a => k_is); (case l => k_is); (case c => k_is); (case k => k_is)
      case d_Disk_send =>
        refine' TT.metT_mk (fun _ _ _ _ _ _ us hl => match us, hl with | [_, _, _, _], _ => rfl) ?a ?i ?l ?c ?k
        (case a => k_is); (case i => k_is); (case l => k_is); (case c => k_is); (case k => k_is)
      case d_Disk_arrive =>
        refine' TT.metT_mk (fun _ _ _ _ _ _ us hl => match us, hl with | [_], _ => rfl) ?a ?i ?l ?c ?k
        (case a => k_is); (case i => k_is); (case l => k_is); (case c => k_is); (case k => k_is)
      case d_Disk_arrive_in_part =>
        refine' TT.metT_mk (fun _ _ _ _ _ _ us hl => match us, hl with | [_, _], _ => rfl) ?a ?i ?l ?c ?k
        (case a => k_is); (case i => k_is); (case l => k_is); (case c => k_is); (case k => k_is)
      case d_Disk_store =>
        refine' TT.metT_mk (fun _ _ _ _ _ _ us hl => match us, hl with | [_, _, _, _], _ => rfl) ?a ?i ?l ?c ?k
        (case a => k_is); (case i => k_is); (case l => k_is); (case c => k_is); (case k => k_is)
      case d_Disk_wipe =>
        refine' TT.metT_mk (fun _ _ _ _ _ _ us hl => match us, hl with | [_, _], _ => rfl) ?a ?i ?l ?c ?k
        (case a => k_is); (case i => k_is); (case l => k_is); (case c => k_is); (case k => k_is)
      case d_head =>
        refine' TT.calT_mk KX G (fun _ _ _ _ _ _ us hl => match us, hl with | [_], _ => rfl) ?a ?l ?c ?k
        (case a => k_is); (case l => k_is); (case c => k_is); (case k => k_is)
      case d_number_of =>
        refine' TT.calT_mk KX G (fun _ _ _ _ _ _ us hl => match us, hl with | [_], _ => rfl) ?a ?l ?c ?k
        (case a => k_is); (case l => k_is); (case c => k_is); (case k => k_is)
      case d_number_behind =>
        refine' TT.calT_mk KX G (fun _ _ _ _ _ _ us hl => match us, hl with | [_], _ => rfl) ?a ?l ?c ?k
        (case a => k_is); (case l => k_is); (case c => k_is); (case k => k_is)
      case d_new_file =>
        refine' TT.calT_mk KX G (fun _ _ _ _ _ _ us hl => match us, hl with | [_, _], _ => rfl) ?a ?l ?c ?k
        (case a => k_is); (case l => k_is); (case c => k_is); (case k => k_is)
      case d_tree_said =>
        refine' TT.calT_mk KX G (fun _ _ _ _ _ _ us hl => match us, hl with | [_], _ => rfl) ?a ?l ?c ?k
        (case a => k_is); (case l => k_is); (case c => k_is); (case k => k_is)
      case d_found_file =>
        refine' TT.calT_mk KX G (fun _ _ _ _ _ _ us hl => match us, hl with | [_], _ => rfl) ?a ?l ?c ?k
        (case a => k_is); (case l => k_is); (case c => k_is); (case k => k_is)
      case d_refused =>
        refine' TT.calT_mk KX G (fun _ _ _ _ _ _ us hl => match us, hl with | [_], _ => rfl) ?a ?l ?c ?k
        (case a => k_is); (case l => k_is); (case c => k_is); (case k => k_is)
      case d_Editor_use_new_file =>
        refine' TT.metT_mk (fun _ _ _ _ _ _ us hl => match us, hl with | [_, _, _], _ => rfl) ?a ?i ?l ?c ?k
        (case a => k_is); (case i => k_is); (case l => k_is); (case c => k_is); (case k => k_is)
      case d_Editor_do =>
        refine' TT.metT_mk (fun _ _ _ _ _ _ us hl => match us, hl with | [_, _], _ => rfl) ?a ?i ?l ?c ?k
        (case a => k_is); (case i => k_is); (case l => k_is); (case c => k_is); (case k => k_is)
      case d_Editor_refusal_of =>
        refine' TT.metT_mk (fun _ _ _ _ _ _ us hl => match us, hl with | [_, _], _ => rfl) ?a ?i ?l ?c ?k
        (case a => k_is); (case i => k_is); (case l => k_is); (case c => k_is); (case k => k_is)
      case d_Editor_settle =>
        refine' TT.metT_mk (fun _ _ _ _ _ _ us hl => match us, hl with | [_], _ => rfl) ?a ?i ?l ?c ?k
        (case a => k_is); (case i => k_is); (case l => k_is); (case c => k_is); (case k => k_is)
      case d_Editor_flush =>
        refine' TT.metT_mk (fun _ _ _ _ _ _ us hl => match us, hl with | [_], _ => rfl) ?a ?i ?l ?c ?k
        (case a => k_is); (case i => k_is); (case l => k_is); (case c => k_is); (case k => k_is)
      case d_Editor_begin_copy =>
        refine' TT.metT_mk (fun _ _ _ _ _ _ us hl => match us, hl with | [_], _ => rfl) ?a ?i ?l ?c ?k
        (case a => k_is); (case i => k_is); (case l => k_is); (case c => k_is); (case k => k_is)
      case d_Editor_turn =>
        refine' TT.metT_mk (fun _ _ _ _ _ _ us hl => match us, hl with | [_], _ => rfl) ?a ?i ?l ?c ?k
        (case a => k_is); (case i => k_is); (case l => k_is); (case c => k_is); (case k => k_is)
      case d_Editor_lose_power =>
        refine' TT.metT_mk (fun _ _ _ _ _ _ us hl => match us, hl with | [_, _], _ => rfl) ?a ?i ?l ?c ?k
        (case a => k_is); (case i => k_is); (case l => k_is); (case c => k_is); (case k => k_is)
      case d_Editor_start_anew =>
        refine' TT.metT_mk (fun _ _ _ _ _ _ us hl => match us, hl with | [_], _ => rfl) ?a ?i ?l ?c ?k
        (case a => k_is); (case i => k_is); (case l => k_is); (case c => k_is); (case k => k_is)
      case d_Editor_spoil =>
        refine' TT.metT_mk (fun _ _ _ _ _ _ us hl => match us, hl with | [_, _, _, _], _ => rfl) ?a ?i ?l ?c ?k
        (case a => k_is); (case i => k_is); (case l => k_is); (case c => k_is); (case k => k_is)
      case d_counted =>
        refine' TT.calT_mk KX G (fun _ _ _ _ _ _ us hl => match us, hl with | [_], _ => rfl) ?a ?l ?c ?k
        (case a => k_is); (case l => k_is); (case c => k_is); (case k => k_is)
      case d_text_told =>
        refine' TT.calT_mk KX G (fun _ _ _ _ _ _ us hl => match us, hl with | [_, _], _ => rfl) ?a ?l ?c ?k
        (case a => k_is); (case l => k_is); (case c => k_is); (case k => k_is)
      case d_tree_told =>
        refine' TT.calT_mk KX G (fun _ _ _ _ _ _ us hl => match us, hl with | [_], _ => rfl) ?a ?l ?c ?k
        (case a => k_is); (case l => k_is); (case c => k_is); (case k => k_is)
      case d_file_told =>
        refine' TT.calT_mk KX G (fun _ _ _ _ _ _ us hl => match us, hl with | [_, _], _ => rfl) ?a ?l ?c ?k
        (case a => k_is); (case l => k_is); (case c => k_is); (case k => k_is)
      case d_state_told =>
        refine' TT.calT_mk KX G (fun _ _ _ _ _ _ us hl => match us, hl with | [_], _ => rfl) ?a ?l ?c ?k
        (case a => k_is); (case l => k_is); (case c => k_is); (case k => k_is)
      case d_past_told =>
        refine' TT.calT_mk KX G (fun _ _ _ _ _ _ us hl => match us, hl with | [_, _], _ => rfl) ?a ?l ?c ?k
        (case a => k_is); (case l => k_is); (case c => k_is); (case k => k_is)
      case d_change =>
        refine' TT.calT_mk KX G (fun _ _ _ _ _ _ us hl => match us, hl with | [_, _], _ => rfl) ?a ?l ?c ?k
        (case a => k_is); (case l => k_is); (case c => k_is); (case k => k_is)
      case d_undo =>
        refine' TT.calT_mk KX G (fun _ _ _ _ _ _ us hl => match us, hl with | [_, _], _ => rfl) ?a ?l ?c ?k
        (case a => k_is); (case l => k_is); (case c => k_is); (case k => k_is)
      case d_redo =>
        refine' TT.calT_mk KX G (fun _ _ _ _ _ _ us hl => match us, hl with | [_, _], _ => rfl) ?a ?l ?c ?k
        (case a => k_is); (case l => k_is); (case c => k_is); (case k => k_is)
      case d_go_where =>
        refine' TT.calT_mk KX G (fun _ _ _ _ _ _ us hl => match us, hl with | [_, _], _ => rfl) ?a ?l ?c ?k
        (case a => k_is); (case l => k_is); (case c => k_is); (case k => k_is)
      case d_goto =>
        refine' TT.calT_mk KX G (fun _ _ _ _ _ _ us hl => match us, hl with | [_, _], _ => rfl) ?a ?l ?c ?k
        (case a => k_is); (case l => k_is); (case c => k_is); (case k => k_is)
      case d_keep =>
        refine' TT.calT_mk KX G (fun _ _ _ _ _ _ us hl => match us, hl with | [_, _], _ => rfl) ?a ?l ?c ?k
        (case a => k_is); (case l => k_is); (case c => k_is); (case k => k_is)
      case d_forget =>
        refine' TT.calT_mk KX G (fun _ _ _ _ _ _ us hl => match us, hl with | [_, _], _ => rfl) ?a ?l ?c ?k
        (case a => k_is); (case l => k_is); (case c => k_is); (case k => k_is)
      case d_flush =>
        refine' TT.calT_mk KX G (fun _ _ _ _ _ _ us hl => match us, hl with | [_, _], _ => rfl) ?a ?l ?c ?k
        (case a => k_is); (case l => k_is); (case c => k_is); (case k => k_is)
      case d_begin_copy =>
        refine' TT.calT_mk KX G (fun _ _ _ _ _ _ us hl => match us, hl with | [_, _], _ => rfl) ?a ?l ?c ?k
        (case a => k_is); (case l => k_is); (case c => k_is); (case k => k_is)
      case d_turn =>
        refine' TT.calT_mk KX G (fun _ _ _ _ _ _ us hl => match us, hl with | [_, _], _ => rfl) ?a ?l ?c ?k
        (case a => k_is); (case l => k_is); (case c => k_is); (case k => k_is)
      case d_power =>
        refine' TT.calT_mk KX G (fun _ _ _ _ _ _ us hl => match us, hl with | [_, _], _ => rfl) ?a ?l ?c ?k
        (case a => k_is); (case l => k_is); (case c => k_is); (case k => k_is)
      case d_start =>
        refine' TT.calT_mk KX G (fun _ _ _ _ _ _ us hl => match us, hl with | [_, _], _ => rfl) ?a ?l ?c ?k
        (case a => k_is); (case l => k_is); (case c => k_is); (case k => k_is)
      case d_tell_text =>
        refine' TT.calT_mk KX G (fun _ _ _ _ _ _ us hl => match us, hl with | [_, _], _ => rfl) ?a ?l ?c ?k
        (case a => k_is); (case l => k_is); (case c => k_is); (case k => k_is)
      case d_tell_tree =>
        refine' TT.calT_mk KX G (fun _ _ _ _ _ _ us hl => match us, hl with | [_, _], _ => rfl) ?a ?l ?c ?k
        (case a => k_is); (case l => k_is); (case c => k_is); (case k => k_is)
      case d_tell_file =>
        refine' TT.calT_mk KX G (fun _ _ _ _ _ _ us hl => match us, hl with | [_, _], _ => rfl) ?a ?l ?c ?k
        (case a => k_is); (case l => k_is); (case c => k_is); (case k => k_is)
      case d_spoil =>
        refine' TT.calT_mk KX G (fun _ _ _ _ _ _ us hl => match us, hl with | [_, _], _ => rfl) ?a ?l ?c ?k
        (case a => k_is); (case l => k_is); (case c => k_is); (case k => k_is)
      case d_tell_state =>
        refine' TT.calT_mk KX G (fun _ _ _ _ _ _ us hl => match us, hl with | [_, _], _ => rfl) ?a ?l ?c ?k
        (case a => k_is); (case l => k_is); (case c => k_is); (case k => k_is)
      case d_was =>
        refine' TT.calT_mk KX G (fun _ _ _ _ _ _ us hl => match us, hl with | [_, _], _ => rfl) ?a ?l ?c ?k
        (case a => k_is); (case l => k_is); (case c => k_is); (case k => k_is)
      case d_split_calls =>
        refine' TT.calT_mk KX G (fun _ _ _ _ _ _ us hl => match us, hl with | [_], _ => rfl) ?a ?l ?c ?k
        (case a => k_is); (case l => k_is); (case c => k_is); (case k => k_is)
      case d_answers =>
        refine' TT.calT_mk KX G (fun _ _ _ _ _ _ us hl => match us, hl with | [_], _ => rfl) ?a ?l ?c ?k
        (case a => k_is); (case l => k_is); (case c => k_is); (case k => k_is)
      (case c_MAKE => (refine' TT.conT_mk KX G ?a; (case a => k_is)))
      (case c_GO => (refine' TT.conT_mk KX G ?a; (case a => k_is)))
      (case c_KEEP => (refine' TT.conT_mk KX G ?a; (case a => k_is)))
      (case c_FORGET => (refine' TT.conT_mk KX G ?a; (case a => k_is)))
      (case c_COPIED_FIRST => (refine' TT.conT_mk KX G ?a; (case a => k_is)))
      (case c_COPIED_OTHER => (refine' TT.conT_mk KX G ?a; (case a => k_is)))
      (case c_COPIED_END => (refine' TT.conT_mk KX G ?a; (case a => k_is)))
      (case c_GRANTED => (refine' TT.conT_mk KX G ?a; (case a => k_is)))
      (case c_BEYOND => (refine' TT.conT_mk KX G ?a; (case a => k_is)))
      (case c_MISSING => (refine' TT.conT_mk KX G ?a; (case a => k_is)))
      (case c_FULL => (refine' TT.conT_mk KX G ?a; (case a => k_is)))
      (case c_NO_ROOM => (refine' TT.conT_mk KX G ?a; (case a => k_is)))
      (case c_NONE_COUNTS => (refine' TT.conT_mk KX G ?a; (case a => k_is)))
      (case c_NOWHERE => (refine' TT.conT_mk KX G ?a; (case a => k_is)))
      (case c_NOT_NOW => (refine' TT.conT_mk KX G ?a; (case a => k_is)))
      (case c_WRONG_POWER => (refine' TT.conT_mk KX G ?a; (case a => k_is)))
      (case c_LONGEST_TEXT => (refine' TT.conT_mk KX G ?a; (case a => k_is)))
      (case c_MOST_NUMBERS => (refine' TT.conT_mk KX G ?a; (case a => k_is)))
      (case c_MOST_DEEDS => (refine' TT.conT_mk KX G ?a; (case a => k_is)))
      (case c_HIGHEST_BYTE => (refine' TT.conT_mk KX G ?a; (case a => k_is)))
      (case c_HEAD_SIZE => (refine' TT.conT_mk KX G ?a; (case a => k_is)))
      (case c_LONGEST_FILE => (refine' TT.conT_mk KX G ?a; (case a => k_is)))
      (case b_len => (refine' PySem.W.mg_none_of KX G ?a; (case a => k_is)))
      (case b_sum => (refine' PySem.W.mg_none_of KX G ?a; (case a => k_is)))
      (case b_max => (refine' PySem.W.mg_none_of KX G ?a; (case a => k_is)))
      (case b_sorted => (refine' PySem.W.mg_none_of KX G ?a; (case a => k_is)))
      (case b_list => (refine' PySem.W.mg_none_of KX G ?a; (case a => k_is)))
      (case b_set => (refine' PySem.W.mg_none_of KX G ?a; (case a => k_is)))
      (case b_all => (refine' PySem.W.mg_none_of KX G ?a; (case a => k_is)))
      (case b_reversed => (refine' PySem.W.mg_none_of KX G ?a; (case a => k_is)))
      (case b_enumerate => (refine' PySem.W.mg_none_of KX G ?a; (case a => k_is)))
      (case b_zip => (refine' PySem.W.mg_none_of KX G ?a; (case a => k_is)))
      (case b_range => (refine' PySem.W.mg_none_of KX G ?a; (case a => k_is)))
      case t_WHOLE_NUMBERS =>
        refine' TT.tupT_mk KX G ?taW ?tl ?tc ?td ?tz ?tv
        (case taW => k_is); (case tl => k_is); (case tc => rfl); (case td => rfl); (case tz => decide)
        (case tv => exact .cons ⟨_, rfl⟩ (.cons ⟨_, rfl⟩ (.cons ⟨_, rfl⟩ (.cons ⟨_, rfl⟩ (.cons ⟨_, rfl⟩ (.cons ⟨_, rfl⟩ (.cons ⟨_, rfl⟩ (.cons ⟨_, rfl⟩ (.cons ⟨_, rfl⟩ (.cons ⟨_, rfl⟩ (.cons ⟨_, rfl⟩ (.cons ⟨_, rfl⟩ (.cons ⟨_, rfl⟩ (.cons ⟨_, rfl⟩ (.cons ⟨_, rfl⟩ (.cons ⟨_, rfl⟩ (.cons ⟨_, rfl⟩ (.nil))))))))))))))))))
      case t_ROWS =>
        refine' TT.tupT_mk KX G ?taR ?tl ?tc ?td ?tz ?tv
        (case taR => k_is); (case tl => k_is); (case tc => rfl); (case td => rfl); (case tz => decide)
        (case tv => exact .cons ⟨_, rfl⟩ (.cons ⟨_, rfl⟩ (.cons ⟨_, rfl⟩ (.cons ⟨_, rfl⟩ (.cons ⟨_, rfl⟩ (.cons ⟨_, rfl⟩ (.cons ⟨_, rfl⟩ (.cons ⟨_, rfl⟩ (.cons ⟨_, rfl⟩ (.cons ⟨_, rfl⟩ (.cons ⟨_, rfl⟩ (.cons ⟨_, rfl⟩ (.cons ⟨_, rfl⟩ (.cons ⟨_, rfl⟩ (.cons ⟨_, rfl⟩ (.cons ⟨_, rfl⟩ (.cons ⟨_, rfl⟩ (.nil))))))))))))))))))
      case t_CALLS =>
        refine' TT.callsT_mk KX G ?taC ?tlC ?tcC ?tdC ?tzC ?tvC ?d0 ?d1 ?d2 ?d3 ?d4 ?d5 ?d6 ?d7 ?d8 ?d9 ?d10 ?d11 ?d12 ?d13 ?d14 ?d15 ?d16
        (case taC => k_is); (case tlC => k_is); (case tcC => rfl); (case tdC => rfl); (case tzC => decide)
        (case tvC => exact .cons rfl (.cons rfl (.cons rfl (.cons rfl (.cons rfl (.cons rfl (.cons rfl (.cons rfl (.cons rfl (.cons rfl (.cons rfl (.cons rfl (.cons rfl (.cons rfl (.cons rfl (.cons rfl (.cons rfl (.nil))))))))))))))))))
        case d0 =>
          refine' TT.atT_mk2 (fun _ _ _ _ _ _ us hl => match us, hl with | [_, _], _ => rfl) ?l ?c ?k
          (case l => k_is); (case c => k_is); (case k => k_is)
        case d1 =>
          refine' TT.atT_mk2 (fun _ _ _ _ _ _ us hl => match us, hl with | [_, _], _ => rfl) ?l ?c ?k
          (case l => k_is); (case c => k_is); (case k => k_is)
        case d2 =>
          refine' TT.atT_mk2 (fun _ _ _ _ _ _ us hl => match us, hl with | [_, _], _ => rfl) ?l ?c ?k
          (case l => k_is); (case c => k_is); (case k => k_is)
        case d3 =>
          refine' TT.atT_mk2 (fun _ _ _ _ _ _ us hl => match us, hl with | [_, _], _ => rfl) ?l ?c ?k
          (case l => k_is); (case c => k_is); (case k => k_is)
        case d4 =>
          refine' TT.atT_mk2 (fun _ _ _ _ _ _ us hl => match us, hl with | [_, _], _ => rfl) ?l ?c ?k
          (case l => k_is); (case c => k_is); (case k => k_is)
        case d5 =>
          refine' TT.atT_mk2 (fun _ _ _ _ _ _ us hl => match us, hl with | [_, _], _ => rfl) ?l ?c ?k
          (case l => k_is); (case c => k_is); (case k => k_is)
        case d6 =>
          refine' TT.atT_mk2 (fun _ _ _ _ _ _ us hl => match us, hl with | [_, _], _ => rfl) ?l ?c ?k
          (case l => k_is); (case c => k_is); (case k => k_is)
        case d7 =>
          refine' TT.atT_mk2 (fun _ _ _ _ _ _ us hl => match us, hl with | [_, _], _ => rfl) ?l ?c ?k
          (case l => k_is); (case c => k_is); (case k => k_is)
        case d8 =>
          refine' TT.atT_mk2 (fun _ _ _ _ _ _ us hl => match us, hl with | [_, _], _ => rfl) ?l ?c ?k
          (case l => k_is); (case c => k_is); (case k => k_is)
        case d9 =>
          refine' TT.atT_mk2 (fun _ _ _ _ _ _ us hl => match us, hl with | [_, _], _ => rfl) ?l ?c ?k
          (case l => k_is); (case c => k_is); (case k => k_is)
        case d10 =>
          refine' TT.atT_mk2 (fun _ _ _ _ _ _ us hl => match us, hl with | [_, _], _ => rfl) ?l ?c ?k
          (case l => k_is); (case c => k_is); (case k => k_is)
        case d11 =>
          refine' TT.atT_mk2 (fun _ _ _ _ _ _ us hl => match us, hl with | [_, _], _ => rfl) ?l ?c ?k
          (case l => k_is); (case c => k_is); (case k => k_is)
        case d12 =>
          refine' TT.atT_mk2 (fun _ _ _ _ _ _ us hl => match us, hl with | [_, _], _ => rfl) ?l ?c ?k
          (case l => k_is); (case c => k_is); (case k => k_is)
        case d13 =>
          refine' TT.atT_mk2 (fun _ _ _ _ _ _ us hl => match us, hl with | [_, _], _ => rfl) ?l ?c ?k
          (case l => k_is); (case c => k_is); (case k => k_is)
        case d14 =>
          refine' TT.atT_mk2 (fun _ _ _ _ _ _ us hl => match us, hl with | [_, _], _ => rfl) ?l ?c ?k
          (case l => k_is); (case c => k_is); (case k => k_is)
        case d15 =>
          refine' TT.atT_mk2 (fun _ _ _ _ _ _ us hl => match us, hl with | [_, _], _ => rfl) ?l ?c ?k
          (case l => k_is); (case c => k_is); (case k => k_is)
        case d16 =>
          refine' TT.atT_mk2 (fun _ _ _ _ _ _ us hl => match us, hl with | [_, _], _ => rfl) ?l ?c ?k
          (case l => k_is); (case c => k_is); (case k => k_is)
    case g =>
      intro ⟨CT, CD, CE, T⟩
      obtain ⟨fd, h1, h2⟩ := TT.end_answers (P := PySem.Challenge.rw_texttrees_s01_answers.prog) (w := w) T hmg
      exact ⟨fd, h1, fun base _ _ => h2 base⟩
  case S =>
    intro K H xs a hO hwi hask hx
    cases hx with
    | cons h1 h2 =>
      cases h2
      cases h1 with
      | lst hs ha =>
        have e := L2.ints_dw a.1 _ ha
        subst e
        exact TT.start_answers hwi hask hs fun H' p hp => .lst (L2.SqL.of hp) (L2.dw_ints _)
end
