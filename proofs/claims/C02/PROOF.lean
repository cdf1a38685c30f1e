import PyProof.Rows.All
import Wide.All
import OpenK.AllK
import Wide.FinOn
import Open.SpecLaws
import KE.OsGo
import HandS.ForSpec
import HandS.Codes
import HandS.Comp
import HandS.Dict
import HandS.Iter
import HandS.NoneIn
import HandS.SetKeys
import HandS.Walk
import HandS.WordsList
import HandS.Text
import KE.OsArith
import HandS.Words
import HandS.WordsDict
import PySem.Challenge.RW_backwardrun_s01_answers
/-! ## Base1 -/
set_option Elab.async false
set_option maxRecDepth 100000
set_option maxHeartbeats 2000000
set_option linter.unusedVariables false
namespace BR
open PySem PySem.Spec PyProof.Rows L2

/-! ### small words -/
theorem lk_here {k : Str} {v : V} {r : List (Str × V)} : List.lookup k ((k, v) :: r) = some v := by
  have e : (k == k) = true := beq_self_eq_true k
  simp only [List.lookup, e]
theorem lk_past {k g : Str} {v : V} {r : List (Str × V)} (h : (k == g) = false) : List.lookup k ((g, v) :: r) = List.lookup k r := by
  simp only [List.lookup, h]
theorem put_here {f : Str} {v x : V} {r : List (Str × V)} : putF f v ((f, x) :: r) = (f, v) :: r := if_pos rfl
theorem put_past {f g : Str} {v x : V} {r : List (Str × V)} (h : ¬ g = f) : putF f v ((g, x) :: r) = (g, x) :: putF f v r := if_neg h

/-! ### two rules: a call of what an expression gives; a class made without arguments -/
def tCallE (Ok : Addr → Sp → Prop) (tf : TE) (t : TA) : TE := fun σ H Q => tf σ H fun v H1 => ∃ f sp, v = V.ref f ∧ Ok f sp ∧ t σ H1 fun vs H2 => sp vs H2 Q C8.E0
theorem pe_callE {X : Cx} {k : Nat} {fe e : Expr} {es : List Expr} {pos : Pos} {tf : TE} {t : TA} (hf : PE X fe tf) (hr : Room k X.A) (ha : PA X (e :: es) t)
    (ht : eval (.Call fe (e :: es) [] pos) X.env = (do callWith pos (← eval fe X.env) [] (backTo pos (starEach (e :: es) X.env)) (backToKw pos (keywordEach [] X.env))) := by rfl)
    (he : starEach (e :: es) X.env = (false, eval e X.env) :: starEach es X.env := by rfl) (hpl : (backTo pos (starEach es X.env)).any (·.1) = false := by rfl) :
    PE X (.Call fe (e :: es) [] pos) (tCallE (fun f sp => C8.CalAt X.prog X.w X.K X.mg X.base k f sp) tf t) := by
  refine ⟨fun pins s σ H Q I h => ?_⟩
  refine Call_ (thn (hf.run pins s σ H _ I h) fun u s1 ⟨y, H1, I1, ry, f, sp, ey, hc, q⟩ => ?_) ht
  subst ey
  obtain rfl : u = Value.ref f := ry
  obtain ⟨fd, ps, F, kp, b⟩ := hc.ex
  refine PySem.W.callWith_K (h₀ := X.base) I.ok.mod.kin kp (thn (ha.run pos pins s1 σ _ _ I1 q) fun us s2 ⟨vs, H2, I2, r, q⟩ => ⟨I2.kIn, ?_⟩) he hpl
  exact run_fn F hr b .nil C8.pass0 I2 r (by rw [List.append_nil]; exact q)
theorem pe_mk0 {X : Cx} {k j : Nat} {C : Addr} {x : Str} {sp : Sp} {dvs : List V} {p pos : Pos} (c : C8.Mak X.prog X.w X.K X.mg X.base k x C sp dvs) (hr : Room j X.A) (hk : k + 1 ≤ j) (hg : Gl X x)
    (hdb : (x == ("__debug__" : Str)) = false := by decide) : PE X (.Call (.Name x p) [] [] pos) (tMake C sp dvs C8.E0 tNil) := by
  obtain ⟨f, fd, ps, ds, M, F, hm, b, d⟩ := c.ex
  exact pe_make0 M F (hr.mono hk) hg hm b d C8.pass0 hdb

/-- for .. in what is a list or a tuple -/
def iSeq (K : PySem.W.Frag) (tl : TE) : TI := fun σ H R => tl σ H fun x H1 => ∃ a, x = .ref a ∧ ((∃ xs, SqL K H1 a xs ∧ R (Itl K a) H1) ∨ ∃ xs, SqT K H1 a xs ∧ R (Itt K a) H1)
theorem pi_seq {X : Cx} {tg l : Expr} {tl : TE} (hl : PE X l tl) : PI X tg l (iSeq X.K tl) := ⟨by
  intro pins s σ H R I h
  refine thn (hl.run pins s σ H _ I h) ?_
  rintro v s1 ⟨x, H1, I1, r1, a, rfl, q⟩
  cases r1
  have new : ∀ b ∈ [s1.heap.objs.size], FpOk X pins H1 b := fun b hb => by
    cases List.mem_singleton.mp hb
    exact I1.fpOk (Nat.le_refl s1.heap.objs.size) (I1.hok.fresh (Nat.le_refl s1.heap.objs.size))
  rcases q with ⟨xs, hq, q⟩ | ⟨xs, hq, q⟩
  · obtain ⟨us, ru, p, _⟩ := I1.list hq
    exact wpAny_pyIter_list p.isList ⟨_, _, _, _, H1, rfl, I1.kept (t' := s1.toks) (fun _ _ e => Heap.get?_push_of_some _ e), turn_list a _, ⟨_, Heap.get?_push_size _ rfl, rfl, rfl⟩, new, q⟩
  · obtain ⟨us, ru, p, _⟩ := I1.tuple hq
    exact wpAny_pyIter_tuple (show s1.heap.IsTuple a us.toArray from p) ⟨_, _, _, _, H1, rfl, I1.kept (t' := s1.toks) (fun _ _ e => Heap.get?_push_of_some _ e), turn_tuple a _, ⟨_, Heap.get?_push_size _ rfl, rfl, rfl⟩, new, q⟩⟩

/-! ### the text -/
def top (i : Nat) : Stmt := PySem.Challenge.pw_backwardrun_s01_answers.main.body.getD i (.Pass ⟨0, 0, 0, 0⟩)
abbrev s_Machine___init__ : Stmt := inClass (top 5) 0
theorem sc_Machine___init__ : FnScope ["self", "loaded"] ["self", "loaded"] (C8.fnScope s_Machine___init__) := C8.fnScope_by (by decide +kernel)
theorem bi_Machine___init__ {K : PySem.W.Frag} {f : Addr} {fd : FuncData} (F : C8.Fun K "__init__" "Machine.__init__" s_Machine___init__ f fd) (df : fd.defaults = .none) : Binds K fd ["self", "loaded"] [] := F.binds df fun _ _ _ _ _ _ us hl => match us, hl with | [_, _], _ => rfl
abbrev s_Machine_byte_at : Stmt := inClass (top 5) 1
theorem sc_Machine_byte_at : FnScope ["self", "place"] ["self", "place"] (C8.fnScope s_Machine_byte_at) := C8.fnScope_by (by decide +kernel)
theorem bi_Machine_byte_at {K : PySem.W.Frag} {f : Addr} {fd : FuncData} (F : C8.Fun K "byte_at" "Machine.byte_at" s_Machine_byte_at f fd) (df : fd.defaults = .none) : Binds K fd ["self", "place"] [] := F.binds df fun _ _ _ _ _ _ us hl => match us, hl with | [_, _], _ => rfl
abbrev s_Machine_put_a_at : Stmt := inClass (top 5) 2
theorem sc_Machine_put_a_at : FnScope ["self", "place"] ["self", "place"] (C8.fnScope s_Machine_put_a_at) := C8.fnScope_by (by decide +kernel)
theorem bi_Machine_put_a_at {K : PySem.W.Frag} {f : Addr} {fd : FuncData} (F : C8.Fun K "put_a_at" "Machine.put_a_at" s_Machine_put_a_at f fd) (df : fd.defaults = .none) : Binds K fd ["self", "place"] [] := F.binds df fun _ _ _ _ _ _ us hl => match us, hl with | [_, _], _ => rfl
abbrev s_Machine_set_a : Stmt := inClass (top 5) 3
theorem sc_Machine_set_a : FnScope ["self", "value"] ["self", "value"] (C8.fnScope s_Machine_set_a) := C8.fnScope_by (by decide +kernel)
theorem bi_Machine_set_a {K : PySem.W.Frag} {f : Addr} {fd : FuncData} (F : C8.Fun K "set_a" "Machine.set_a" s_Machine_set_a f fd) (df : fd.defaults = .none) : Binds K fd ["self", "value"] [] := F.binds df fun _ _ _ _ _ _ us hl => match us, hl with | [_, _], _ => rfl
abbrev s_Machine_set_x : Stmt := inClass (top 5) 4
theorem sc_Machine_set_x : FnScope ["self", "value"] ["self", "value"] (C8.fnScope s_Machine_set_x) := C8.fnScope_by (by decide +kernel)
theorem bi_Machine_set_x {K : PySem.W.Frag} {f : Addr} {fd : FuncData} (F : C8.Fun K "set_x" "Machine.set_x" s_Machine_set_x f fd) (df : fd.defaults = .none) : Binds K fd ["self", "value"] [] := F.binds df fun _ _ _ _ _ _ us hl => match us, hl with | [_, _], _ => rfl
abbrev s_Machine_jump_to : Stmt := inClass (top 5) 5
theorem sc_Machine_jump_to : FnScope ["self", "place"] ["self", "place"] (C8.fnScope s_Machine_jump_to) := C8.fnScope_by (by decide +kernel)
theorem bi_Machine_jump_to {K : PySem.W.Frag} {f : Addr} {fd : FuncData} (F : C8.Fun K "jump_to" "Machine.jump_to" s_Machine_jump_to f fd) (df : fd.defaults = .none) : Binds K fd ["self", "place"] [] := F.binds df fun _ _ _ _ _ _ us hl => match us, hl with | [_, _], _ => rfl
abbrev s_rest : Stmt := top 6
theorem sc_rest : FnScope ["machine", "n"] ["machine", "n"] (C8.fnScope s_rest) := C8.fnScope_by (by decide +kernel)
theorem bi_rest {K : PySem.W.Frag} {f : Addr} {fd : FuncData} (F : C8.Fun K "rest" "rest" s_rest f fd) (df : fd.defaults = .none) : Binds K fd ["machine", "n"] [] := F.binds df fun _ _ _ _ _ _ us hl => match us, hl with | [_, _], _ => rfl
abbrev s_a_is_n : Stmt := top 7
theorem sc_a_is_n : FnScope ["machine", "n"] ["machine", "n"] (C8.fnScope s_a_is_n) := C8.fnScope_by (by decide +kernel)
theorem bi_a_is_n {K : PySem.W.Frag} {f : Addr} {fd : FuncData} (F : C8.Fun K "a_is_n" "a_is_n" s_a_is_n f fd) (df : fd.defaults = .none) : Binds K fd ["machine", "n"] [] := F.binds df fun _ _ _ _ _ _ us hl => match us, hl with | [_, _], _ => rfl
abbrev s_a_is_byte : Stmt := top 8
theorem sc_a_is_byte : FnScope ["machine", "n"] ["machine", "n"] (C8.fnScope s_a_is_byte) := C8.fnScope_by (by decide +kernel)
theorem bi_a_is_byte {K : PySem.W.Frag} {f : Addr} {fd : FuncData} (F : C8.Fun K "a_is_byte" "a_is_byte" s_a_is_byte f fd) (df : fd.defaults = .none) : Binds K fd ["machine", "n"] [] := F.binds df fun _ _ _ _ _ _ us hl => match us, hl with | [_, _], _ => rfl
abbrev s_put_a : Stmt := top 9
theorem sc_put_a : FnScope ["machine", "n"] ["machine", "n"] (C8.fnScope s_put_a) := C8.fnScope_by (by decide +kernel)
theorem bi_put_a {K : PySem.W.Frag} {f : Addr} {fd : FuncData} (F : C8.Fun K "put_a" "put_a" s_put_a f fd) (df : fd.defaults = .none) : Binds K fd ["machine", "n"] [] := F.binds df fun _ _ _ _ _ _ us hl => match us, hl with | [_, _], _ => rfl
abbrev s_a_is_byte_x_further : Stmt := top 10
theorem sc_a_is_byte_x_further : FnScope ["machine", "n"] ["machine", "n"] (C8.fnScope s_a_is_byte_x_further) := C8.fnScope_by (by decide +kernel)
theorem bi_a_is_byte_x_further {K : PySem.W.Frag} {f : Addr} {fd : FuncData} (F : C8.Fun K "a_is_byte_x_further" "a_is_byte_x_further" s_a_is_byte_x_further f fd) (df : fd.defaults = .none) : Binds K fd ["machine", "n"] [] := F.binds df fun _ _ _ _ _ _ us hl => match us, hl with | [_, _], _ => rfl
abbrev s_put_a_x_further : Stmt := top 11
theorem sc_put_a_x_further : FnScope ["machine", "n"] ["machine", "n"] (C8.fnScope s_put_a_x_further) := C8.fnScope_by (by decide +kernel)
theorem bi_put_a_x_further {K : PySem.W.Frag} {f : Addr} {fd : FuncData} (F : C8.Fun K "put_a_x_further" "put_a_x_further" s_put_a_x_further f fd) (df : fd.defaults = .none) : Binds K fd ["machine", "n"] [] := F.binds df fun _ _ _ _ _ _ us hl => match us, hl with | [_, _], _ => rfl
abbrev s_x_is_n : Stmt := top 12
theorem sc_x_is_n : FnScope ["machine", "n"] ["machine", "n"] (C8.fnScope s_x_is_n) := C8.fnScope_by (by decide +kernel)
theorem bi_x_is_n {K : PySem.W.Frag} {f : Addr} {fd : FuncData} (F : C8.Fun K "x_is_n" "x_is_n" s_x_is_n f fd) (df : fd.defaults = .none) : Binds K fd ["machine", "n"] [] := F.binds df fun _ _ _ _ _ _ us hl => match us, hl with | [_, _], _ => rfl
abbrev s_add_n_to_x : Stmt := top 13
theorem sc_add_n_to_x : FnScope ["machine", "n"] ["machine", "n"] (C8.fnScope s_add_n_to_x) := C8.fnScope_by (by decide +kernel)
theorem bi_add_n_to_x {K : PySem.W.Frag} {f : Addr} {fd : FuncData} (F : C8.Fun K "add_n_to_x" "add_n_to_x" s_add_n_to_x f fd) (df : fd.defaults = .none) : Binds K fd ["machine", "n"] [] := F.binds df fun _ _ _ _ _ _ us hl => match us, hl with | [_, _], _ => rfl
abbrev s_add_byte : Stmt := top 14
theorem sc_add_byte : FnScope ["machine", "n", "total"] ["machine", "n"] (C8.fnScope s_add_byte) := C8.fnScope_by (by decide +kernel)
theorem bi_add_byte {K : PySem.W.Frag} {f : Addr} {fd : FuncData} (F : C8.Fun K "add_byte" "add_byte" s_add_byte f fd) (df : fd.defaults = .none) : Binds K fd ["machine", "n"] [] := F.binds df fun _ _ _ _ _ _ us hl => match us, hl with | [_, _], _ => rfl
abbrev s_take_byte : Stmt := top 15
theorem sc_take_byte : FnScope ["machine", "n", "byte"] ["machine", "n"] (C8.fnScope s_take_byte) := C8.fnScope_by (by decide +kernel)
theorem bi_take_byte {K : PySem.W.Frag} {f : Addr} {fd : FuncData} (F : C8.Fun K "take_byte" "take_byte" s_take_byte f fd) (df : fd.defaults = .none) : Binds K fd ["machine", "n"] [] := F.binds df fun _ _ _ _ _ _ us hl => match us, hl with | [_, _], _ => rfl
abbrev s_and_byte : Stmt := top 16
theorem sc_and_byte : FnScope ["machine", "n"] ["machine", "n"] (C8.fnScope s_and_byte) := C8.fnScope_by (by decide +kernel)
theorem bi_and_byte {K : PySem.W.Frag} {f : Addr} {fd : FuncData} (F : C8.Fun K "and_byte" "and_byte" s_and_byte f fd) (df : fd.defaults = .none) : Binds K fd ["machine", "n"] [] := F.binds df fun _ _ _ _ _ _ us hl => match us, hl with | [_, _], _ => rfl
abbrev s_exclusive_or_byte : Stmt := top 17
theorem sc_exclusive_or_byte : FnScope ["machine", "n"] ["machine", "n"] (C8.fnScope s_exclusive_or_byte) := C8.fnScope_by (by decide +kernel)
theorem bi_exclusive_or_byte {K : PySem.W.Frag} {f : Addr} {fd : FuncData} (F : C8.Fun K "exclusive_or_byte" "exclusive_or_byte" s_exclusive_or_byte f fd) (df : fd.defaults = .none) : Binds K fd ["machine", "n"] [] := F.binds df fun _ _ _ _ _ _ us hl => match us, hl with | [_, _], _ => rfl
abbrev s_jump : Stmt := top 18
theorem sc_jump : FnScope ["machine", "n"] ["machine", "n"] (C8.fnScope s_jump) := C8.fnScope_by (by decide +kernel)
theorem bi_jump {K : PySem.W.Frag} {f : Addr} {fd : FuncData} (F : C8.Fun K "jump" "jump" s_jump f fd) (df : fd.defaults = .none) : Binds K fd ["machine", "n"] [] := F.binds df fun _ _ _ _ _ _ us hl => match us, hl with | [_, _], _ => rfl
abbrev s_jump_if_zero : Stmt := top 19
theorem sc_jump_if_zero : FnScope ["machine", "n"] ["machine", "n"] (C8.fnScope s_jump_if_zero) := C8.fnScope_by (by decide +kernel)
theorem bi_jump_if_zero {K : PySem.W.Frag} {f : Addr} {fd : FuncData} (F : C8.Fun K "jump_if_zero" "jump_if_zero" s_jump_if_zero f fd) (df : fd.defaults = .none) : Binds K fd ["machine", "n"] [] := F.binds df fun _ _ _ _ _ _ us hl => match us, hl with | [_, _], _ => rfl
abbrev s_jump_if_not_zero : Stmt := top 20
theorem sc_jump_if_not_zero : FnScope ["machine", "n"] ["machine", "n"] (C8.fnScope s_jump_if_not_zero) := C8.fnScope_by (by decide +kernel)
theorem bi_jump_if_not_zero {K : PySem.W.Frag} {f : Addr} {fd : FuncData} (F : C8.Fun K "jump_if_not_zero" "jump_if_not_zero" s_jump_if_not_zero f fd) (df : fd.defaults = .none) : Binds K fd ["machine", "n"] [] := F.binds df fun _ _ _ _ _ _ us hl => match us, hl with | [_, _], _ => rfl
abbrev s_jump_if_carry : Stmt := top 21
theorem sc_jump_if_carry : FnScope ["machine", "n"] ["machine", "n"] (C8.fnScope s_jump_if_carry) := C8.fnScope_by (by decide +kernel)
theorem bi_jump_if_carry {K : PySem.W.Frag} {f : Addr} {fd : FuncData} (F : C8.Fun K "jump_if_carry" "jump_if_carry" s_jump_if_carry f fd) (df : fd.defaults = .none) : Binds K fd ["machine", "n"] [] := F.binds df fun _ _ _ _ _ _ us hl => match us, hl with | [_, _], _ => rfl
abbrev s_do_instruction : Stmt := top 23
theorem sc_do_instruction : FnScope ["machine", "which", "n"] ["machine"] (C8.fnScope s_do_instruction) := C8.fnScope_by (by decide +kernel)
theorem bi_do_instruction {K : PySem.W.Frag} {f : Addr} {fd : FuncData} (F : C8.Fun K "do_instruction" "do_instruction" s_do_instruction f fd) (df : fd.defaults = .none) : Binds K fd ["machine"] [] := F.binds df fun _ _ _ _ _ _ us hl => match us, hl with | [_], _ => rfl
abbrev s_Moment___init__ : Stmt := inClass (top 27) 0
theorem sc_Moment___init__ : FnScope ["self", "frame", "done", "machine"] ["self", "frame", "done", "machine"] (C8.fnScope s_Moment___init__) := C8.fnScope_by (by decide +kernel)
theorem bi_Moment___init__ {K : PySem.W.Frag} {f : Addr} {fd : FuncData} (F : C8.Fun K "__init__" "Moment.__init__" s_Moment___init__ f fd) (df : fd.defaults = .none) : Binds K fd ["self", "frame", "done", "machine"] [] := F.binds df fun _ _ _ _ _ _ us hl => match us, hl with | [_, _, _, _], _ => rfl
abbrev s_Moment_all_numbers : Stmt := inClass (top 27) 1
theorem sc_Moment_all_numbers : FnScope ["self"] ["self"] (C8.fnScope s_Moment_all_numbers) := C8.fnScope_by (by decide +kernel)
theorem bi_Moment_all_numbers {K : PySem.W.Frag} {f : Addr} {fd : FuncData} (F : C8.Fun K "all_numbers" "Moment.all_numbers" s_Moment_all_numbers f fd) (df : fd.defaults = .none) : Binds K fd ["self"] [] := F.binds df fun _ _ _ _ _ _ us hl => match us, hl with | [_], _ => rfl
abbrev s_group_by_number : Stmt := top 28
theorem sc_group_by_number : FnScope ["changes", "by_number", "number", "place", "byte"] ["changes"] (C8.fnScope s_group_by_number) := C8.fnScope_by (by decide +kernel)
theorem bi_group_by_number {K : PySem.W.Frag} {f : Addr} {fd : FuncData} (F : C8.Fun K "group_by_number" "group_by_number" s_group_by_number f fd) (df : fd.defaults = .none) : Binds K fd ["changes"] [] := F.binds df fun _ _ _ _ _ _ us hl => match us, hl with | [_], _ => rfl
abbrev s_add_moment : Stmt := top 29
theorem sc_add_moment : FnScope ["moments", "frame", "done", "machine", "by_number", "place", "byte"] ["moments", "frame", "done", "machine", "by_number"] (C8.fnScope s_add_moment) := C8.fnScope_by (by decide +kernel)
theorem bi_add_moment {K : PySem.W.Frag} {f : Addr} {fd : FuncData} (F : C8.Fun K "add_moment" "add_moment" s_add_moment f fd) (df : fd.defaults = .none) : Binds K fd ["moments", "frame", "done", "machine", "by_number"] [] := F.binds df fun _ _ _ _ _ _ us hl => match us, hl with | [_, _, _, _, _], _ => rfl
abbrev s_add_frame : Stmt := top 30
theorem sc_add_frame : FnScope ["moments", "frame", "pad", "machine", "by_number", "done"] ["moments", "frame", "pad", "machine", "by_number"] (C8.fnScope s_add_frame) := C8.fnScope_by (by decide +kernel)
theorem bi_add_frame {K : PySem.W.Frag} {f : Addr} {fd : FuncData} (F : C8.Fun K "add_frame" "add_frame" s_add_frame f fd) (df : fd.defaults = .none) : Binds K fd ["moments", "frame", "pad", "machine", "by_number"] [] := F.binds df fun _ _ _ _ _ _ us hl => match us, hl with | [_, _, _, _, _], _ => rfl
abbrev s_moments_of_run : Stmt := top 31
theorem sc_moments_of_run : FnScope ["loaded", "frame_pads", "changes", "machine", "by_number", "moments", "frame", "pad"] ["loaded", "frame_pads", "changes"] (C8.fnScope s_moments_of_run) := C8.fnScope_by (by decide +kernel)
theorem bi_moments_of_run {K : PySem.W.Frag} {f : Addr} {fd : FuncData} (F : C8.Fun K "moments_of_run" "moments_of_run" s_moments_of_run f fd) (df : fd.defaults = .none) : Binds K fd ["loaded", "frame_pads", "changes"] [] := F.binds df fun _ _ _ _ _ _ us hl => match us, hl with | [_, _, _], _ => rfl
abbrev s_Session___init__ : Stmt := inClass (top 36) 0
theorem sc_Session___init__ : FnScope ["self"] ["self"] (C8.fnScope s_Session___init__) := C8.fnScope_by (by decide +kernel)
theorem bi_Session___init__ {K : PySem.W.Frag} {f : Addr} {fd : FuncData} (F : C8.Fun K "__init__" "Session.__init__" s_Session___init__ f fd) (df : fd.defaults = .none) : Binds K fd ["self"] [] := F.binds df fun _ _ _ _ _ _ us hl => match us, hl with | [_], _ => rfl
abbrev s_Session_start_over : Stmt := inClass (top 36) 1
theorem sc_Session_start_over : FnScope ["self", "loaded"] ["self", "loaded"] (C8.fnScope s_Session_start_over) := C8.fnScope_by (by decide +kernel)
theorem bi_Session_start_over {K : PySem.W.Frag} {f : Addr} {fd : FuncData} (F : C8.Fun K "start_over" "Session.start_over" s_Session_start_over f fd) (df : fd.defaults = .none) : Binds K fd ["self", "loaded"] [] := F.binds df fun _ _ _ _ _ _ us hl => match us, hl with | [_, _], _ => rfl
abbrev s_Session_find_moments : Stmt := inClass (top 36) 2
theorem sc_Session_find_moments : FnScope ["self"] ["self"] (C8.fnScope s_Session_find_moments) := C8.fnScope_by (by decide +kernel)
theorem bi_Session_find_moments {K : PySem.W.Frag} {f : Addr} {fd : FuncData} (F : C8.Fun K "find_moments" "Session.find_moments" s_Session_find_moments f fd) (df : fd.defaults = .none) : Binds K fd ["self"] [] := F.binds df fun _ _ _ _ _ _ us hl => match us, hl with | [_], _ => rfl
abbrev s_Session_add_pads : Stmt := inClass (top 36) 3
theorem sc_Session_add_pads : FnScope ["self", "more"] ["self", "more"] (C8.fnScope s_Session_add_pads) := C8.fnScope_by (by decide +kernel)
theorem bi_Session_add_pads {K : PySem.W.Frag} {f : Addr} {fd : FuncData} (F : C8.Fun K "add_pads" "Session.add_pads" s_Session_add_pads f fd) (df : fd.defaults = .none) : Binds K fd ["self", "more"] [] := F.binds df fun _ _ _ _ _ _ us hl => match us, hl with | [_, _], _ => rfl
abbrev s_Session_change_by_hand : Stmt := inClass (top 36) 4
theorem sc_Session_change_by_hand : FnScope ["self", "place", "byte"] ["self", "place", "byte"] (C8.fnScope s_Session_change_by_hand) := C8.fnScope_by (by decide +kernel)
theorem bi_Session_change_by_hand {K : PySem.W.Frag} {f : Addr} {fd : FuncData} (F : C8.Fun K "change_by_hand" "Session.change_by_hand" s_Session_change_by_hand f fd) (df : fd.defaults = .none) : Binds K fd ["self", "place", "byte"] [] := F.binds df fun _ _ _ _ _ _ us hl => match us, hl with | [_, _, _], _ => rfl
abbrev s_Session_undo_last_change : Stmt := inClass (top 36) 5
theorem sc_Session_undo_last_change : FnScope ["self", "change"] ["self"] (C8.fnScope s_Session_undo_last_change) := C8.fnScope_by (by decide +kernel)
theorem bi_Session_undo_last_change {K : PySem.W.Frag} {f : Addr} {fd : FuncData} (F : C8.Fun K "undo_last_change" "Session.undo_last_change" s_Session_undo_last_change f fd) (df : fd.defaults = .none) : Binds K fd ["self"] [] := F.binds df fun _ _ _ _ _ _ us hl => match us, hl with | [_], _ => rfl
abbrev s_Session_end_number : Stmt := inClass (top 36) 6
theorem sc_Session_end_number : FnScope ["self"] ["self"] (C8.fnScope s_Session_end_number) := C8.fnScope_by (by decide +kernel)
theorem bi_Session_end_number {K : PySem.W.Frag} {f : Addr} {fd : FuncData} (F : C8.Fun K "end_number" "Session.end_number" s_Session_end_number f fd) (df : fd.defaults = .none) : Binds K fd ["self"] [] := F.binds df fun _ _ _ _ _ _ us hl => match us, hl with | [_], _ => rfl
abbrev s_Session_moment_now : Stmt := inClass (top 36) 7
theorem sc_Session_moment_now : FnScope ["self"] ["self"] (C8.fnScope s_Session_moment_now) := C8.fnScope_by (by decide +kernel)
theorem bi_Session_moment_now {K : PySem.W.Frag} {f : Addr} {fd : FuncData} (F : C8.Fun K "moment_now" "Session.moment_now" s_Session_moment_now f fd) (df : fd.defaults = .none) : Binds K fd ["self"] [] := F.binds df fun _ _ _ _ _ _ us hl => match us, hl with | [_], _ => rfl
abbrev s_Session_where_now : Stmt := inClass (top 36) 8
theorem sc_Session_where_now : FnScope ["self", "moment"] ["self"] (C8.fnScope s_Session_where_now) := C8.fnScope_by (by decide +kernel)
theorem bi_Session_where_now {K : PySem.W.Frag} {f : Addr} {fd : FuncData} (F : C8.Fun K "where_now" "Session.where_now" s_Session_where_now f fd) (df : fd.defaults = .none) : Binds K fd ["self"] [] := F.binds df fun _ _ _ _ _ _ us hl => match us, hl with | [_], _ => rfl
abbrev s_Session_reason_at : Stmt := inClass (top 36) 9
theorem sc_Session_reason_at : FnScope ["self", "number", "moment"] ["self", "number"] (C8.fnScope s_Session_reason_at) := C8.fnScope_by (by decide +kernel)
theorem bi_Session_reason_at {K : PySem.W.Frag} {f : Addr} {fd : FuncData} (F : C8.Fun K "reason_at" "Session.reason_at" s_Session_reason_at f fd) (df : fd.defaults = .none) : Binds K fd ["self", "number"] [] := F.binds df fun _ _ _ _ _ _ us hl => match us, hl with | [_, _], _ => rfl
abbrev s_Session_last_write : Stmt := inClass (top 36) 10
theorem sc_Session_last_write : FnScope ["self", "place", "number"] ["self", "place"] (C8.fnScope s_Session_last_write) := C8.fnScope_by (by decide +kernel)
theorem bi_Session_last_write {K : PySem.W.Frag} {f : Addr} {fd : FuncData} (F : C8.Fun K "last_write" "Session.last_write" s_Session_last_write f fd) (df : fd.defaults = .none) : Binds K fd ["self", "place"] [] := F.binds df fun _ _ _ _ _ _ us hl => match us, hl with | [_, _], _ => rfl
abbrev s_are_bytes : Stmt := top 44
theorem sc_are_bytes : FnScope ["numbers", "number"] ["numbers"] (C8.fnScope s_are_bytes) := C8.fnScope_by (by decide +kernel)
theorem bi_are_bytes {K : PySem.W.Frag} {f : Addr} {fd : FuncData} (F : C8.Fun K "are_bytes" "are_bytes" s_are_bytes f fd) (df : fd.defaults = .none) : Binds K fd ["numbers"] [] := F.binds df fun _ _ _ _ _ _ us hl => match us, hl with | [_], _ => rfl
abbrev s_is_place : Stmt := top 45
theorem sc_is_place : FnScope ["number"] ["number"] (C8.fnScope s_is_place) := C8.fnScope_by (by decide +kernel)
theorem bi_is_place {K : PySem.W.Frag} {f : Addr} {fd : FuncData} (F : C8.Fun K "is_place" "is_place" s_is_place f fd) (df : fd.defaults = .none) : Binds K fd ["number"] [] := F.binds df fun _ _ _ _ _ _ us hl => match us, hl with | [_], _ => rfl
abbrev s_begin : Stmt := top 46
theorem sc_begin : FnScope ["session", "numbers"] ["session", "numbers"] (C8.fnScope s_begin) := C8.fnScope_by (by decide +kernel)
theorem bi_begin {K : PySem.W.Frag} {f : Addr} {fd : FuncData} (F : C8.Fun K "begin" "begin" s_begin f fd) (df : fd.defaults = .none) : Binds K fd ["session", "numbers"] [] := F.binds df fun _ _ _ _ _ _ us hl => match us, hl with | [_, _], _ => rfl
abbrev s_pads : Stmt := top 47
theorem sc_pads : FnScope ["session", "numbers"] ["session", "numbers"] (C8.fnScope s_pads) := C8.fnScope_by (by decide +kernel)
theorem bi_pads {K : PySem.W.Frag} {f : Addr} {fd : FuncData} (F : C8.Fun K "pads" "pads" s_pads f fd) (df : fd.defaults = .none) : Binds K fd ["session", "numbers"] [] := F.binds df fun _ _ _ _ _ _ us hl => match us, hl with | [_, _], _ => rfl
abbrev s_step : Stmt := top 48
theorem sc_step : FnScope ["session", "numbers", "n", "many"] ["session", "numbers"] (C8.fnScope s_step) := C8.fnScope_by (by decide +kernel)
theorem bi_step {K : PySem.W.Frag} {f : Addr} {fd : FuncData} (F : C8.Fun K "step" "step" s_step f fd) (df : fd.defaults = .none) : Binds K fd ["session", "numbers"] [] := F.binds df fun _ _ _ _ _ _ us hl => match us, hl with | [_, _], _ => rfl
abbrev s_back : Stmt := top 49
theorem sc_back : FnScope ["session", "numbers", "n", "many"] ["session", "numbers"] (C8.fnScope s_back) := C8.fnScope_by (by decide +kernel)
theorem bi_back {K : PySem.W.Frag} {f : Addr} {fd : FuncData} (F : C8.Fun K "back" "back" s_back f fd) (df : fd.defaults = .none) : Binds K fd ["session", "numbers"] [] := F.binds df fun _ _ _ _ _ _ us hl => match us, hl with | [_, _], _ => rfl
abbrev s_tell_place : Stmt := top 50
theorem sc_tell_place : FnScope ["places", "numbers", "place", "on"] ["places", "numbers"] (C8.fnScope s_tell_place) := C8.fnScope_by (by decide +kernel)
theorem bi_tell_place {K : PySem.W.Frag} {f : Addr} {fd : FuncData} (F : C8.Fun K "tell_place" "tell_place" s_tell_place f fd) (df : fd.defaults = .none) : Binds K fd ["places", "numbers"] [] := F.binds df fun _ _ _ _ _ _ us hl => match us, hl with | [_, _], _ => rfl
abbrev s_stop : Stmt := top 51
theorem sc_stop : FnScope ["session", "numbers"] ["session", "numbers"] (C8.fnScope s_stop) := C8.fnScope_by (by decide +kernel)
theorem bi_stop {K : PySem.W.Frag} {f : Addr} {fd : FuncData} (F : C8.Fun K "stop" "stop" s_stop f fd) (df : fd.defaults = .none) : Binds K fd ["session", "numbers"] [] := F.binds df fun _ _ _ _ _ _ us hl => match us, hl with | [_, _], _ => rfl
abbrev s_watch : Stmt := top 52
theorem sc_watch : FnScope ["session", "numbers"] ["session", "numbers"] (C8.fnScope s_watch) := C8.fnScope_by (by decide +kernel)
theorem bi_watch {K : PySem.W.Frag} {f : Addr} {fd : FuncData} (F : C8.Fun K "watch" "watch" s_watch f fd) (df : fd.defaults = .none) : Binds K fd ["session", "numbers"] [] := F.binds df fun _ _ _ _ _ _ us hl => match us, hl with | [_, _], _ => rfl
abbrev s_arrive : Stmt := top 53
theorem sc_arrive : FnScope ["session", "number"] ["session", "number"] (C8.fnScope s_arrive) := C8.fnScope_by (by decide +kernel)
theorem bi_arrive {K : PySem.W.Frag} {f : Addr} {fd : FuncData} (F : C8.Fun K "arrive" "arrive" s_arrive f fd) (df : fd.defaults = .none) : Binds K fd ["session", "number"] [] := F.binds df fun _ _ _ _ _ _ us hl => match us, hl with | [_, _], _ => rfl
abbrev s_go : Stmt := top 54
theorem sc_go : FnScope ["session", "numbers", "end", "number"] ["session", "numbers"] (C8.fnScope s_go) := C8.fnScope_by (by decide +kernel)
theorem bi_go {K : PySem.W.Frag} {f : Addr} {fd : FuncData} (F : C8.Fun K "go" "go" s_go f fd) (df : fd.defaults = .none) : Binds K fd ["session", "numbers"] [] := F.binds df fun _ _ _ _ _ _ us hl => match us, hl with | [_, _], _ => rfl
abbrev s_rewind : Stmt := top 55
theorem sc_rewind : FnScope ["session", "numbers", "number"] ["session", "numbers"] (C8.fnScope s_rewind) := C8.fnScope_by (by decide +kernel)
theorem bi_rewind {K : PySem.W.Frag} {f : Addr} {fd : FuncData} (F : C8.Fun K "rewind" "rewind" s_rewind f fd) (df : fd.defaults = .none) : Binds K fd ["session", "numbers"] [] := F.binds df fun _ _ _ _ _ _ us hl => match us, hl with | [_, _], _ => rfl
abbrev s_to : Stmt := top 56
theorem sc_to : FnScope ["session", "numbers", "n"] ["session", "numbers"] (C8.fnScope s_to) := C8.fnScope_by (by decide +kernel)
theorem bi_to {K : PySem.W.Frag} {f : Addr} {fd : FuncData} (F : C8.Fun K "to" "to" s_to f fd) (df : fd.defaults = .none) : Binds K fd ["session", "numbers"] [] := F.binds df fun _ _ _ _ _ _ us hl => match us, hl with | [_, _], _ => rfl
abbrev s_where : Stmt := top 57
theorem sc_where : FnScope ["session", "numbers"] ["session", "numbers"] (C8.fnScope s_where) := C8.fnScope_by (by decide +kernel)
theorem bi_where {K : PySem.W.Frag} {f : Addr} {fd : FuncData} (F : C8.Fun K "where" "where" s_where f fd) (df : fd.defaults = .none) : Binds K fd ["session", "numbers"] [] := F.binds df fun _ _ _ _ _ _ us hl => match us, hl with | [_, _], _ => rfl
abbrev s_state : Stmt := top 58
theorem sc_state : FnScope ["session", "numbers"] ["session", "numbers"] (C8.fnScope s_state) := C8.fnScope_by (by decide +kernel)
theorem bi_state {K : PySem.W.Frag} {f : Addr} {fd : FuncData} (F : C8.Fun K "state" "state" s_state f fd) (df : fd.defaults = .none) : Binds K fd ["session", "numbers"] [] := F.binds df fun _ _ _ _ _ _ us hl => match us, hl with | [_, _], _ => rfl
abbrev s_wrote : Stmt := top 59
theorem sc_wrote : FnScope ["session", "numbers", "place", "number", "moment"] ["session", "numbers"] (C8.fnScope s_wrote) := C8.fnScope_by (by decide +kernel)
theorem bi_wrote {K : PySem.W.Frag} {f : Addr} {fd : FuncData} (F : C8.Fun K "wrote" "wrote" s_wrote f fd) (df : fd.defaults = .none) : Binds K fd ["session", "numbers"] [] := F.binds df fun _ _ _ _ _ _ us hl => match us, hl with | [_, _], _ => rfl
abbrev s_poke : Stmt := top 60
theorem sc_poke : FnScope ["session", "numbers", "place", "byte"] ["session", "numbers"] (C8.fnScope s_poke) := C8.fnScope_by (by decide +kernel)
theorem bi_poke {K : PySem.W.Frag} {f : Addr} {fd : FuncData} (F : C8.Fun K "poke" "poke" s_poke f fd) (df : fd.defaults = .none) : Binds K fd ["session", "numbers"] [] := F.binds df fun _ _ _ _ _ _ us hl => match us, hl with | [_, _], _ => rfl
abbrev s_unpoke : Stmt := top 61
theorem sc_unpoke : FnScope ["session", "numbers"] ["session", "numbers"] (C8.fnScope s_unpoke) := C8.fnScope_by (by decide +kernel)
theorem bi_unpoke {K : PySem.W.Frag} {f : Addr} {fd : FuncData} (F : C8.Fun K "unpoke" "unpoke" s_unpoke f fd) (df : fd.defaults = .none) : Binds K fd ["session", "numbers"] [] := F.binds df fun _ _ _ _ _ _ us hl => match us, hl with | [_, _], _ => rfl
abbrev s_answer_call : Stmt := top 63
theorem sc_answer_call : FnScope ["session", "call", "numbers"] ["session", "call", "numbers"] (C8.fnScope s_answer_call) := C8.fnScope_by (by decide +kernel)
theorem bi_answer_call {K : PySem.W.Frag} {f : Addr} {fd : FuncData} (F : C8.Fun K "answer_call" "answer_call" s_answer_call f fd) (df : fd.defaults = .none) : Binds K fd ["session", "call", "numbers"] [] := F.binds df fun _ _ _ _ _ _ us hl => match us, hl with | [_, _, _], _ => rfl
abbrev s_numbers_start : Stmt := top 67
theorem sc_numbers_start : FnScope ["calls", "at"] ["calls", "at"] (C8.fnScope s_numbers_start) := C8.fnScope_by (by decide +kernel)
theorem bi_numbers_start {K : PySem.W.Frag} {f : Addr} {fd : FuncData} (F : C8.Fun K "numbers_start" "numbers_start" s_numbers_start f fd) (df : fd.defaults = .none) : Binds K fd ["calls", "at"] [] := F.binds df fun _ _ _ _ _ _ us hl => match us, hl with | [_, _], _ => rfl
abbrev s_numbers_end : Stmt := top 68
theorem sc_numbers_end : FnScope ["calls", "at", "many"] ["calls", "at"] (C8.fnScope s_numbers_end) := C8.fnScope_by (by decide +kernel)
theorem bi_numbers_end {K : PySem.W.Frag} {f : Addr} {fd : FuncData} (F : C8.Fun K "numbers_end" "numbers_end" s_numbers_end f fd) (df : fd.defaults = .none) : Binds K fd ["calls", "at"] [] := F.binds df fun _ _ _ _ _ _ us hl => match us, hl with | [_, _], _ => rfl
abbrev s_answers : Stmt := top 69
theorem sc_answers : FnScope ["calls", "session", "answered", "at", "end", "answer"] ["calls"] (C8.fnScope s_answers) := C8.fnScope_by (by decide +kernel)
theorem bi_answers {K : PySem.W.Frag} {f : Addr} {fd : FuncData} (F : C8.Fun K "answers" "answers" s_answers f fd) (df : fd.defaults = .none) : Binds K fd ["calls"] [] := F.binds df fun _ _ _ _ _ _ us hl => match us, hl with | [_], _ => rfl

/-! ### what the top has left: defs, methods, classes, tables -/
structure DefEx (K : PySem.W.Frag) (mg : Str → Option Value) (x : Str) (st : Stmt) : Prop where
  ex : ∃ f fd, C8.Def K mg x st f fd ∧ fd.defaults = .none
structure MetEx (K : PySem.W.Frag) (C : Addr) (x qual : Str) (st : Stmt) : Prop where
  ex : ∃ f fd, C8.Fun K x qual st f fd ∧ Meth K C x f ∧ fd.defaults = .none
structure MakEx (K : PySem.W.Frag) (mg : Str → Option Value) (x : Str) (C : Addr) (qual : Str) (st : Stmt) : Prop where
  ex : ∃ f fd, C8.Fun K "__init__" qual st f fd ∧ Mk K C f ∧ mg x = some (.ref C) ∧ fd.defaults = .none
/-- a written dict with whole numbers as keys and values -/
def KDI (K : PySem.W.Frag) (a : Addr) (tb : List (Int × Int)) : Prop := ∃ es n, K.lookup a = some ⟨.type "dict", none, .dict es n, #[]⟩ ∧ (∀ e ∈ es, ∃ x t, e.key = .int x t ∧ e.hash = hashInt x) ∧
  ∀ k v, tb.lookup k = some v → ∃ u, findBy Value.isInt es k = some u ∧ RelV (.int v) u
def F_Machine (v0 v1 v2 v3 v4 v5 v6 : V) : List (Str × V) := [("cells", v0), ("a", v1), ("x", v2), ("place", v3), ("zero", v4), ("carry", v5), ("written", v6)]
theorem gt_Machine_cells {v0 v1 v2 v3 v4 v5 v6 : V} : (F_Machine v0 v1 v2 v3 v4 v5 v6).lookup ("cells" : Str) = some v0 := lk_here
theorem pt_Machine_cells {v0 v1 v2 v3 v4 v5 v6 y : V} : putF "cells" y (F_Machine v0 v1 v2 v3 v4 v5 v6) = F_Machine y v1 v2 v3 v4 v5 v6 := put_here
theorem rd_Machine_cells {K : PySem.W.Frag} {C a dx : Addr} {H : Hp} {v0 v1 v2 v3 v4 v5 v6 : V} {Q : VK} (hc : Cls K C) (hn : NoAttr K C "cells") (h : H a = some (.ins C dx (F_Machine v0 v1 v2 v3 v4 v5 v6))) (q : Q v0 H) : ∃ a1 C1 dx1 fs v, V.ref a = .ref a1 ∧ H a1 = some (.ins C1 dx1 fs) ∧ Cls K C1 ∧ NoAttr K C1 "cells" ∧ fs.lookup ("cells" : Str) = some v ∧ Q v H := ⟨a, C, dx, _, _, rfl, h, hc, hn, gt_Machine_cells, q⟩
theorem wr_Machine_cells {K : PySem.W.Frag} {C a dx : Addr} {H : Hp} {v0 v1 v2 v3 v4 v5 v6 y : V} {R : Hp → Prop} (hc : Cls K C) (hn : NoAttr K C "cells") (h : H a = some (.ins C dx (F_Machine v0 v1 v2 v3 v4 v5 v6))) (q : R (upd H a (.ins C dx (F_Machine y v1 v2 v3 v4 v5 v6)))) : ∃ a1 C1 dx1 fs, V.ref a = .ref a1 ∧ H a1 = some (.ins C1 dx1 fs) ∧ Cls K C1 ∧ NoAttr K C1 "cells" ∧ fs.length < 1000 ∧ R (upd H a1 (.ins C1 dx1 (putF "cells" y fs))) := ⟨a, C, dx, _, rfl, h, hc, hn, by show 7 < 1000; decide, by rw [pt_Machine_cells]; exact q⟩
theorem gt_Machine_a {v0 v1 v2 v3 v4 v5 v6 : V} : (F_Machine v0 v1 v2 v3 v4 v5 v6).lookup ("a" : Str) = some v1 := (lk_past (by decide +kernel)).trans (lk_here)
theorem pt_Machine_a {v0 v1 v2 v3 v4 v5 v6 y : V} : putF "a" y (F_Machine v0 v1 v2 v3 v4 v5 v6) = F_Machine v0 y v2 v3 v4 v5 v6 := (put_past (by decide +kernel)).trans (congrArg _ (put_here))
theorem rd_Machine_a {K : PySem.W.Frag} {C a dx : Addr} {H : Hp} {v0 v1 v2 v3 v4 v5 v6 : V} {Q : VK} (hc : Cls K C) (hn : NoAttr K C "a") (h : H a = some (.ins C dx (F_Machine v0 v1 v2 v3 v4 v5 v6))) (q : Q v1 H) : ∃ a1 C1 dx1 fs v, V.ref a = .ref a1 ∧ H a1 = some (.ins C1 dx1 fs) ∧ Cls K C1 ∧ NoAttr K C1 "a" ∧ fs.lookup ("a" : Str) = some v ∧ Q v H := ⟨a, C, dx, _, _, rfl, h, hc, hn, gt_Machine_a, q⟩
theorem wr_Machine_a {K : PySem.W.Frag} {C a dx : Addr} {H : Hp} {v0 v1 v2 v3 v4 v5 v6 y : V} {R : Hp → Prop} (hc : Cls K C) (hn : NoAttr K C "a") (h : H a = some (.ins C dx (F_Machine v0 v1 v2 v3 v4 v5 v6))) (q : R (upd H a (.ins C dx (F_Machine v0 y v2 v3 v4 v5 v6)))) : ∃ a1 C1 dx1 fs, V.ref a = .ref a1 ∧ H a1 = some (.ins C1 dx1 fs) ∧ Cls K C1 ∧ NoAttr K C1 "a" ∧ fs.length < 1000 ∧ R (upd H a1 (.ins C1 dx1 (putF "a" y fs))) := ⟨a, C, dx, _, rfl, h, hc, hn, by show 7 < 1000; decide, by rw [pt_Machine_a]; exact q⟩
theorem gt_Machine_x {v0 v1 v2 v3 v4 v5 v6 : V} : (F_Machine v0 v1 v2 v3 v4 v5 v6).lookup ("x" : Str) = some v2 := (lk_past (by decide +kernel)).trans ((lk_past (by decide +kernel)).trans (lk_here))
theorem pt_Machine_x {v0 v1 v2 v3 v4 v5 v6 y : V} : putF "x" y (F_Machine v0 v1 v2 v3 v4 v5 v6) = F_Machine v0 v1 y v3 v4 v5 v6 := (put_past (by decide +kernel)).trans (congrArg _ ((put_past (by decide +kernel)).trans (congrArg _ (put_here))))
theorem rd_Machine_x {K : PySem.W.Frag} {C a dx : Addr} {H : Hp} {v0 v1 v2 v3 v4 v5 v6 : V} {Q : VK} (hc : Cls K C) (hn : NoAttr K C "x") (h : H a = some (.ins C dx (F_Machine v0 v1 v2 v3 v4 v5 v6))) (q : Q v2 H) : ∃ a1 C1 dx1 fs v, V.ref a = .ref a1 ∧ H a1 = some (.ins C1 dx1 fs) ∧ Cls K C1 ∧ NoAttr K C1 "x" ∧ fs.lookup ("x" : Str) = some v ∧ Q v H := ⟨a, C, dx, _, _, rfl, h, hc, hn, gt_Machine_x, q⟩
theorem wr_Machine_x {K : PySem.W.Frag} {C a dx : Addr} {H : Hp} {v0 v1 v2 v3 v4 v5 v6 y : V} {R : Hp → Prop} (hc : Cls K C) (hn : NoAttr K C "x") (h : H a = some (.ins C dx (F_Machine v0 v1 v2 v3 v4 v5 v6))) (q : R (upd H a (.ins C dx (F_Machine v0 v1 y v3 v4 v5 v6)))) : ∃ a1 C1 dx1 fs, V.ref a = .ref a1 ∧ H a1 = some (.ins C1 dx1 fs) ∧ Cls K C1 ∧ NoAttr K C1 "x" ∧ fs.length < 1000 ∧ R (upd H a1 (.ins C1 dx1 (putF "x" y fs))) := ⟨a, C, dx, _, rfl, h, hc, hn, by show 7 < 1000; decide, by rw [pt_Machine_x]; exact q⟩
theorem gt_Machine_place {v0 v1 v2 v3 v4 v5 v6 : V} : (F_Machine v0 v1 v2 v3 v4 v5 v6).lookup ("place" : Str) = some v3 := (lk_past (by decide +kernel)).trans ((lk_past (by decide +kernel)).trans ((lk_past (by decide +kernel)).trans (lk_here)))
theorem pt_Machine_place {v0 v1 v2 v3 v4 v5 v6 y : V} : putF "place" y (F_Machine v0 v1 v2 v3 v4 v5 v6) = F_Machine v0 v1 v2 y v4 v5 v6 := (put_past (by decide +kernel)).trans (congrArg _ ((put_past (by decide +kernel)).trans (congrArg _ ((put_past (by decide +kernel)).trans (congrArg _ (put_here))))))
theorem rd_Machine_place {K : PySem.W.Frag} {C a dx : Addr} {H : Hp} {v0 v1 v2 v3 v4 v5 v6 : V} {Q : VK} (hc : Cls K C) (hn : NoAttr K C "place") (h : H a = some (.ins C dx (F_Machine v0 v1 v2 v3 v4 v5 v6))) (q : Q v3 H) : ∃ a1 C1 dx1 fs v, V.ref a = .ref a1 ∧ H a1 = some (.ins C1 dx1 fs) ∧ Cls K C1 ∧ NoAttr K C1 "place" ∧ fs.lookup ("place" : Str) = some v ∧ Q v H := ⟨a, C, dx, _, _, rfl, h, hc, hn, gt_Machine_place, q⟩
theorem wr_Machine_place {K : PySem.W.Frag} {C a dx : Addr} {H : Hp} {v0 v1 v2 v3 v4 v5 v6 y : V} {R : Hp → Prop} (hc : Cls K C) (hn : NoAttr K C "place") (h : H a = some (.ins C dx (F_Machine v0 v1 v2 v3 v4 v5 v6))) (q : R (upd H a (.ins C dx (F_Machine v0 v1 v2 y v4 v5 v6)))) : ∃ a1 C1 dx1 fs, V.ref a = .ref a1 ∧ H a1 = some (.ins C1 dx1 fs) ∧ Cls K C1 ∧ NoAttr K C1 "place" ∧ fs.length < 1000 ∧ R (upd H a1 (.ins C1 dx1 (putF "place" y fs))) := ⟨a, C, dx, _, rfl, h, hc, hn, by show 7 < 1000; decide, by rw [pt_Machine_place]; exact q⟩
theorem gt_Machine_zero {v0 v1 v2 v3 v4 v5 v6 : V} : (F_Machine v0 v1 v2 v3 v4 v5 v6).lookup ("zero" : Str) = some v4 := (lk_past (by decide +kernel)).trans ((lk_past (by decide +kernel)).trans ((lk_past (by decide +kernel)).trans ((lk_past (by decide +kernel)).trans (lk_here))))
theorem pt_Machine_zero {v0 v1 v2 v3 v4 v5 v6 y : V} : putF "zero" y (F_Machine v0 v1 v2 v3 v4 v5 v6) = F_Machine v0 v1 v2 v3 y v5 v6 := (put_past (by decide +kernel)).trans (congrArg _ ((put_past (by decide +kernel)).trans (congrArg _ ((put_past (by decide +kernel)).trans (congrArg _ ((put_past (by decide +kernel)).trans (congrArg _ (put_here))))))))
theorem rd_Machine_zero {K : PySem.W.Frag} {C a dx : Addr} {H : Hp} {v0 v1 v2 v3 v4 v5 v6 : V} {Q : VK} (hc : Cls K C) (hn : NoAttr K C "zero") (h : H a = some (.ins C dx (F_Machine v0 v1 v2 v3 v4 v5 v6))) (q : Q v4 H) : ∃ a1 C1 dx1 fs v, V.ref a = .ref a1 ∧ H a1 = some (.ins C1 dx1 fs) ∧ Cls K C1 ∧ NoAttr K C1 "zero" ∧ fs.lookup ("zero" : Str) = some v ∧ Q v H := ⟨a, C, dx, _, _, rfl, h, hc, hn, gt_Machine_zero, q⟩
theorem wr_Machine_zero {K : PySem.W.Frag} {C a dx : Addr} {H : Hp} {v0 v1 v2 v3 v4 v5 v6 y : V} {R : Hp → Prop} (hc : Cls K C) (hn : NoAttr K C "zero") (h : H a = some (.ins C dx (F_Machine v0 v1 v2 v3 v4 v5 v6))) (q : R (upd H a (.ins C dx (F_Machine v0 v1 v2 v3 y v5 v6)))) : ∃ a1 C1 dx1 fs, V.ref a = .ref a1 ∧ H a1 = some (.ins C1 dx1 fs) ∧ Cls K C1 ∧ NoAttr K C1 "zero" ∧ fs.length < 1000 ∧ R (upd H a1 (.ins C1 dx1 (putF "zero" y fs))) := ⟨a, C, dx, _, rfl, h, hc, hn, by show 7 < 1000; decide, by rw [pt_Machine_zero]; exact q⟩
theorem gt_Machine_carry {v0 v1 v2 v3 v4 v5 v6 : V} : (F_Machine v0 v1 v2 v3 v4 v5 v6).lookup ("carry" : Str) = some v5 := (lk_past (by decide +kernel)).trans ((lk_past (by decide +kernel)).trans ((lk_past (by decide +kernel)).trans ((lk_past (by decide +kernel)).trans ((lk_past (by decide +kernel)).trans (lk_here)))))
theorem pt_Machine_carry {v0 v1 v2 v3 v4 v5 v6 y : V} : putF "carry" y (F_Machine v0 v1 v2 v3 v4 v5 v6) = F_Machine v0 v1 v2 v3 v4 y v6 := (put_past (by decide +kernel)).trans (congrArg _ ((put_past (by decide +kernel)).trans (congrArg _ ((put_past (by decide +kernel)).trans (congrArg _ ((put_past (by decide +kernel)).trans (congrArg _ ((put_past (by decide +kernel)).trans (congrArg _ (put_here))))))))))
theorem rd_Machine_carry {K : PySem.W.Frag} {C a dx : Addr} {H : Hp} {v0 v1 v2 v3 v4 v5 v6 : V} {Q : VK} (hc : Cls K C) (hn : NoAttr K C "carry") (h : H a = some (.ins C dx (F_Machine v0 v1 v2 v3 v4 v5 v6))) (q : Q v5 H) : ∃ a1 C1 dx1 fs v, V.ref a = .ref a1 ∧ H a1 = some (.ins C1 dx1 fs) ∧ Cls K C1 ∧ NoAttr K C1 "carry" ∧ fs.lookup ("carry" : Str) = some v ∧ Q v H := ⟨a, C, dx, _, _, rfl, h, hc, hn, gt_Machine_carry, q⟩
theorem wr_Machine_carry {K : PySem.W.Frag} {C a dx : Addr} {H : Hp} {v0 v1 v2 v3 v4 v5 v6 y : V} {R : Hp → Prop} (hc : Cls K C) (hn : NoAttr K C "carry") (h : H a = some (.ins C dx (F_Machine v0 v1 v2 v3 v4 v5 v6))) (q : R (upd H a (.ins C dx (F_Machine v0 v1 v2 v3 v4 y v6)))) : ∃ a1 C1 dx1 fs, V.ref a = .ref a1 ∧ H a1 = some (.ins C1 dx1 fs) ∧ Cls K C1 ∧ NoAttr K C1 "carry" ∧ fs.length < 1000 ∧ R (upd H a1 (.ins C1 dx1 (putF "carry" y fs))) := ⟨a, C, dx, _, rfl, h, hc, hn, by show 7 < 1000; decide, by rw [pt_Machine_carry]; exact q⟩
theorem gt_Machine_written {v0 v1 v2 v3 v4 v5 v6 : V} : (F_Machine v0 v1 v2 v3 v4 v5 v6).lookup ("written" : Str) = some v6 := (lk_past (by decide +kernel)).trans ((lk_past (by decide +kernel)).trans ((lk_past (by decide +kernel)).trans ((lk_past (by decide +kernel)).trans ((lk_past (by decide +kernel)).trans ((lk_past (by decide +kernel)).trans (lk_here))))))
theorem pt_Machine_written {v0 v1 v2 v3 v4 v5 v6 y : V} : putF "written" y (F_Machine v0 v1 v2 v3 v4 v5 v6) = F_Machine v0 v1 v2 v3 v4 v5 y := (put_past (by decide +kernel)).trans (congrArg _ ((put_past (by decide +kernel)).trans (congrArg _ ((put_past (by decide +kernel)).trans (congrArg _ ((put_past (by decide +kernel)).trans (congrArg _ ((put_past (by decide +kernel)).trans (congrArg _ ((put_past (by decide +kernel)).trans (congrArg _ (put_here))))))))))))
theorem rd_Machine_written {K : PySem.W.Frag} {C a dx : Addr} {H : Hp} {v0 v1 v2 v3 v4 v5 v6 : V} {Q : VK} (hc : Cls K C) (hn : NoAttr K C "written") (h : H a = some (.ins C dx (F_Machine v0 v1 v2 v3 v4 v5 v6))) (q : Q v6 H) : ∃ a1 C1 dx1 fs v, V.ref a = .ref a1 ∧ H a1 = some (.ins C1 dx1 fs) ∧ Cls K C1 ∧ NoAttr K C1 "written" ∧ fs.lookup ("written" : Str) = some v ∧ Q v H := ⟨a, C, dx, _, _, rfl, h, hc, hn, gt_Machine_written, q⟩
theorem wr_Machine_written {K : PySem.W.Frag} {C a dx : Addr} {H : Hp} {v0 v1 v2 v3 v4 v5 v6 y : V} {R : Hp → Prop} (hc : Cls K C) (hn : NoAttr K C "written") (h : H a = some (.ins C dx (F_Machine v0 v1 v2 v3 v4 v5 v6))) (q : R (upd H a (.ins C dx (F_Machine v0 v1 v2 v3 v4 v5 y)))) : ∃ a1 C1 dx1 fs, V.ref a = .ref a1 ∧ H a1 = some (.ins C1 dx1 fs) ∧ Cls K C1 ∧ NoAttr K C1 "written" ∧ fs.length < 1000 ∧ R (upd H a1 (.ins C1 dx1 (putF "written" y fs))) := ⟨a, C, dx, _, rfl, h, hc, hn, by show 7 < 1000; decide, by rw [pt_Machine_written]; exact q⟩
theorem me_Machine_byte_at {C a dx : Addr} {H : Hp} {v0 v1 v2 v3 v4 v5 v6 : V} {R : Prop} (h : H a = some (.ins C dx (F_Machine v0 v1 v2 v3 v4 v5 v6))) (q : R) : ∃ a1 dx1 fs, V.ref a = .ref a1 ∧ H a1 = some (.ins C dx1 fs) ∧ fs.lookup ("byte_at" : Str) = none ∧ R := ⟨a, dx, _, rfl, h, (lk_past (by decide +kernel)).trans ((lk_past (by decide +kernel)).trans ((lk_past (by decide +kernel)).trans ((lk_past (by decide +kernel)).trans ((lk_past (by decide +kernel)).trans ((lk_past (by decide +kernel)).trans ((lk_past (by decide +kernel)).trans (rfl))))))), q⟩
theorem me_Machine_put_a_at {C a dx : Addr} {H : Hp} {v0 v1 v2 v3 v4 v5 v6 : V} {R : Prop} (h : H a = some (.ins C dx (F_Machine v0 v1 v2 v3 v4 v5 v6))) (q : R) : ∃ a1 dx1 fs, V.ref a = .ref a1 ∧ H a1 = some (.ins C dx1 fs) ∧ fs.lookup ("put_a_at" : Str) = none ∧ R := ⟨a, dx, _, rfl, h, (lk_past (by decide +kernel)).trans ((lk_past (by decide +kernel)).trans ((lk_past (by decide +kernel)).trans ((lk_past (by decide +kernel)).trans ((lk_past (by decide +kernel)).trans ((lk_past (by decide +kernel)).trans ((lk_past (by decide +kernel)).trans (rfl))))))), q⟩
theorem me_Machine_set_a {C a dx : Addr} {H : Hp} {v0 v1 v2 v3 v4 v5 v6 : V} {R : Prop} (h : H a = some (.ins C dx (F_Machine v0 v1 v2 v3 v4 v5 v6))) (q : R) : ∃ a1 dx1 fs, V.ref a = .ref a1 ∧ H a1 = some (.ins C dx1 fs) ∧ fs.lookup ("set_a" : Str) = none ∧ R := ⟨a, dx, _, rfl, h, (lk_past (by decide +kernel)).trans ((lk_past (by decide +kernel)).trans ((lk_past (by decide +kernel)).trans ((lk_past (by decide +kernel)).trans ((lk_past (by decide +kernel)).trans ((lk_past (by decide +kernel)).trans ((lk_past (by decide +kernel)).trans (rfl))))))), q⟩
theorem me_Machine_set_x {C a dx : Addr} {H : Hp} {v0 v1 v2 v3 v4 v5 v6 : V} {R : Prop} (h : H a = some (.ins C dx (F_Machine v0 v1 v2 v3 v4 v5 v6))) (q : R) : ∃ a1 dx1 fs, V.ref a = .ref a1 ∧ H a1 = some (.ins C dx1 fs) ∧ fs.lookup ("set_x" : Str) = none ∧ R := ⟨a, dx, _, rfl, h, (lk_past (by decide +kernel)).trans ((lk_past (by decide +kernel)).trans ((lk_past (by decide +kernel)).trans ((lk_past (by decide +kernel)).trans ((lk_past (by decide +kernel)).trans ((lk_past (by decide +kernel)).trans ((lk_past (by decide +kernel)).trans (rfl))))))), q⟩
theorem me_Machine_jump_to {C a dx : Addr} {H : Hp} {v0 v1 v2 v3 v4 v5 v6 : V} {R : Prop} (h : H a = some (.ins C dx (F_Machine v0 v1 v2 v3 v4 v5 v6))) (q : R) : ∃ a1 dx1 fs, V.ref a = .ref a1 ∧ H a1 = some (.ins C dx1 fs) ∧ fs.lookup ("jump_to" : Str) = none ∧ R := ⟨a, dx, _, rfl, h, (lk_past (by decide +kernel)).trans ((lk_past (by decide +kernel)).trans ((lk_past (by decide +kernel)).trans ((lk_past (by decide +kernel)).trans ((lk_past (by decide +kernel)).trans ((lk_past (by decide +kernel)).trans ((lk_past (by decide +kernel)).trans (rfl))))))), q⟩
theorem pn_Machine_cells { y : V} : putF "cells" y ([] : List (Str × V)) = ([("cells", y)] : List (Str × V)) := rfl
theorem ini_Machine_cells {K : PySem.W.Frag} {C a dx : Addr} {H : Hp} { y : V} {R : Hp → Prop} (hc : Cls K C) (hn : NoAttr K C "cells") (h : H a = some (.ins C dx [])) (q : R (upd H a (.ins C dx [("cells", y)]))) : ∃ a1 C1 dx1 fs, V.ref a = .ref a1 ∧ H a1 = some (.ins C1 dx1 fs) ∧ Cls K C1 ∧ NoAttr K C1 "cells" ∧ fs.length < 1000 ∧ R (upd H a1 (.ins C1 dx1 (putF "cells" y fs))) := ⟨a, C, dx, _, rfl, h, hc, hn, by show 0 < 1000; decide, by rw [pn_Machine_cells]; exact q⟩
theorem pn_Machine_a {v0 y : V} : putF "a" y ([("cells", v0)] : List (Str × V)) = ([("cells", v0), ("a", y)] : List (Str × V)) := (put_past (by decide +kernel)).trans (congrArg _ (rfl))
theorem ini_Machine_a {K : PySem.W.Frag} {C a dx : Addr} {H : Hp} {v0 y : V} {R : Hp → Prop} (hc : Cls K C) (hn : NoAttr K C "a") (h : H a = some (.ins C dx [("cells", v0)])) (q : R (upd H a (.ins C dx [("cells", v0), ("a", y)]))) : ∃ a1 C1 dx1 fs, V.ref a = .ref a1 ∧ H a1 = some (.ins C1 dx1 fs) ∧ Cls K C1 ∧ NoAttr K C1 "a" ∧ fs.length < 1000 ∧ R (upd H a1 (.ins C1 dx1 (putF "a" y fs))) := ⟨a, C, dx, _, rfl, h, hc, hn, by show 1 < 1000; decide, by rw [pn_Machine_a]; exact q⟩
theorem pn_Machine_x {v0 v1 y : V} : putF "x" y ([("cells", v0), ("a", v1)] : List (Str × V)) = ([("cells", v0), ("a", v1), ("x", y)] : List (Str × V)) := (put_past (by decide +kernel)).trans (congrArg _ ((put_past (by decide +kernel)).trans (congrArg _ (rfl))))
theorem ini_Machine_x {K : PySem.W.Frag} {C a dx : Addr} {H : Hp} {v0 v1 y : V} {R : Hp → Prop} (hc : Cls K C) (hn : NoAttr K C "x") (h : H a = some (.ins C dx [("cells", v0), ("a", v1)])) (q : R (upd H a (.ins C dx [("cells", v0), ("a", v1), ("x", y)]))) : ∃ a1 C1 dx1 fs, V.ref a = .ref a1 ∧ H a1 = some (.ins C1 dx1 fs) ∧ Cls K C1 ∧ NoAttr K C1 "x" ∧ fs.length < 1000 ∧ R (upd H a1 (.ins C1 dx1 (putF "x" y fs))) := ⟨a, C, dx, _, rfl, h, hc, hn, by show 2 < 1000; decide, by rw [pn_Machine_x]; exact q⟩
theorem pn_Machine_place {v0 v1 v2 y : V} : putF "place" y ([("cells", v0), ("a", v1), ("x", v2)] : List (Str × V)) = ([("cells", v0), ("a", v1), ("x", v2), ("place", y)] : List (Str × V)) := (put_past (by decide +kernel)).trans (congrArg _ ((put_past (by decide +kernel)).trans (congrArg _ ((put_past (by decide +kernel)).trans (congrArg _ (rfl))))))
theorem ini_Machine_place {K : PySem.W.Frag} {C a dx : Addr} {H : Hp} {v0 v1 v2 y : V} {R : Hp → Prop} (hc : Cls K C) (hn : NoAttr K C "place") (h : H a = some (.ins C dx [("cells", v0), ("a", v1), ("x", v2)])) (q : R (upd H a (.ins C dx [("cells", v0), ("a", v1), ("x", v2), ("place", y)]))) : ∃ a1 C1 dx1 fs, V.ref a = .ref a1 ∧ H a1 = some (.ins C1 dx1 fs) ∧ Cls K C1 ∧ NoAttr K C1 "place" ∧ fs.length < 1000 ∧ R (upd H a1 (.ins C1 dx1 (putF "place" y fs))) := ⟨a, C, dx, _, rfl, h, hc, hn, by show 3 < 1000; decide, by rw [pn_Machine_place]; exact q⟩
theorem pn_Machine_zero {v0 v1 v2 v3 y : V} : putF "zero" y ([("cells", v0), ("a", v1), ("x", v2), ("place", v3)] : List (Str × V)) = ([("cells", v0), ("a", v1), ("x", v2), ("place", v3), ("zero", y)] : List (Str × V)) := (put_past (by decide +kernel)).trans (congrArg _ ((put_past (by decide +kernel)).trans (congrArg _ ((put_past (by decide +kernel)).trans (congrArg _ ((put_past (by decide +kernel)).trans (congrArg _ (rfl))))))))
theorem ini_Machine_zero {K : PySem.W.Frag} {C a dx : Addr} {H : Hp} {v0 v1 v2 v3 y : V} {R : Hp → Prop} (hc : Cls K C) (hn : NoAttr K C "zero") (h : H a = some (.ins C dx [("cells", v0), ("a", v1), ("x", v2), ("place", v3)])) (q : R (upd H a (.ins C dx [("cells", v0), ("a", v1), ("x", v2), ("place", v3), ("zero", y)]))) : ∃ a1 C1 dx1 fs, V.ref a = .ref a1 ∧ H a1 = some (.ins C1 dx1 fs) ∧ Cls K C1 ∧ NoAttr K C1 "zero" ∧ fs.length < 1000 ∧ R (upd H a1 (.ins C1 dx1 (putF "zero" y fs))) := ⟨a, C, dx, _, rfl, h, hc, hn, by show 4 < 1000; decide, by rw [pn_Machine_zero]; exact q⟩
theorem pn_Machine_carry {v0 v1 v2 v3 v4 y : V} : putF "carry" y ([("cells", v0), ("a", v1), ("x", v2), ("place", v3), ("zero", v4)] : List (Str × V)) = ([("cells", v0), ("a", v1), ("x", v2), ("place", v3), ("zero", v4), ("carry", y)] : List (Str × V)) := (put_past (by decide +kernel)).trans (congrArg _ ((put_past (by decide +kernel)).trans (congrArg _ ((put_past (by decide +kernel)).trans (congrArg _ ((put_past (by decide +kernel)).trans (congrArg _ ((put_past (by decide +kernel)).trans (congrArg _ (rfl))))))))))
theorem ini_Machine_carry {K : PySem.W.Frag} {C a dx : Addr} {H : Hp} {v0 v1 v2 v3 v4 y : V} {R : Hp → Prop} (hc : Cls K C) (hn : NoAttr K C "carry") (h : H a = some (.ins C dx [("cells", v0), ("a", v1), ("x", v2), ("place", v3), ("zero", v4)])) (q : R (upd H a (.ins C dx [("cells", v0), ("a", v1), ("x", v2), ("place", v3), ("zero", v4), ("carry", y)]))) : ∃ a1 C1 dx1 fs, V.ref a = .ref a1 ∧ H a1 = some (.ins C1 dx1 fs) ∧ Cls K C1 ∧ NoAttr K C1 "carry" ∧ fs.length < 1000 ∧ R (upd H a1 (.ins C1 dx1 (putF "carry" y fs))) := ⟨a, C, dx, _, rfl, h, hc, hn, by show 5 < 1000; decide, by rw [pn_Machine_carry]; exact q⟩
theorem pn_Machine_written {v0 v1 v2 v3 v4 v5 y : V} : putF "written" y ([("cells", v0), ("a", v1), ("x", v2), ("place", v3), ("zero", v4), ("carry", v5)] : List (Str × V)) = ([("cells", v0), ("a", v1), ("x", v2), ("place", v3), ("zero", v4), ("carry", v5), ("written", y)] : List (Str × V)) := (put_past (by decide +kernel)).trans (congrArg _ ((put_past (by decide +kernel)).trans (congrArg _ ((put_past (by decide +kernel)).trans (congrArg _ ((put_past (by decide +kernel)).trans (congrArg _ ((put_past (by decide +kernel)).trans (congrArg _ ((put_past (by decide +kernel)).trans (congrArg _ (rfl))))))))))))
theorem ini_Machine_written {K : PySem.W.Frag} {C a dx : Addr} {H : Hp} {v0 v1 v2 v3 v4 v5 y : V} {R : Hp → Prop} (hc : Cls K C) (hn : NoAttr K C "written") (h : H a = some (.ins C dx [("cells", v0), ("a", v1), ("x", v2), ("place", v3), ("zero", v4), ("carry", v5)])) (q : R (upd H a (.ins C dx [("cells", v0), ("a", v1), ("x", v2), ("place", v3), ("zero", v4), ("carry", v5), ("written", y)]))) : ∃ a1 C1 dx1 fs, V.ref a = .ref a1 ∧ H a1 = some (.ins C1 dx1 fs) ∧ Cls K C1 ∧ NoAttr K C1 "written" ∧ fs.length < 1000 ∧ R (upd H a1 (.ins C1 dx1 (putF "written" y fs))) := ⟨a, C, dx, _, rfl, h, hc, hn, by show 6 < 1000; decide, by rw [pn_Machine_written]; exact q⟩
def F_Moment (v0 v1 v2 v3 v4 v5 v6 v7 v8 : V) : List (Str × V) := [("frame", v0), ("done", v1), ("a", v2), ("x", v3), ("place", v4), ("zero", v5), ("carry", v6), ("cells", v7), ("written", v8)]
theorem gt_Moment_frame {v0 v1 v2 v3 v4 v5 v6 v7 v8 : V} : (F_Moment v0 v1 v2 v3 v4 v5 v6 v7 v8).lookup ("frame" : Str) = some v0 := lk_here
theorem pt_Moment_frame {v0 v1 v2 v3 v4 v5 v6 v7 v8 y : V} : putF "frame" y (F_Moment v0 v1 v2 v3 v4 v5 v6 v7 v8) = F_Moment y v1 v2 v3 v4 v5 v6 v7 v8 := put_here
theorem rd_Moment_frame {K : PySem.W.Frag} {C a dx : Addr} {H : Hp} {v0 v1 v2 v3 v4 v5 v6 v7 v8 : V} {Q : VK} (hc : Cls K C) (hn : NoAttr K C "frame") (h : H a = some (.ins C dx (F_Moment v0 v1 v2 v3 v4 v5 v6 v7 v8))) (q : Q v0 H) : ∃ a1 C1 dx1 fs v, V.ref a = .ref a1 ∧ H a1 = some (.ins C1 dx1 fs) ∧ Cls K C1 ∧ NoAttr K C1 "frame" ∧ fs.lookup ("frame" : Str) = some v ∧ Q v H := ⟨a, C, dx, _, _, rfl, h, hc, hn, gt_Moment_frame, q⟩
theorem wr_Moment_frame {K : PySem.W.Frag} {C a dx : Addr} {H : Hp} {v0 v1 v2 v3 v4 v5 v6 v7 v8 y : V} {R : Hp → Prop} (hc : Cls K C) (hn : NoAttr K C "frame") (h : H a = some (.ins C dx (F_Moment v0 v1 v2 v3 v4 v5 v6 v7 v8))) (q : R (upd H a (.ins C dx (F_Moment y v1 v2 v3 v4 v5 v6 v7 v8)))) : ∃ a1 C1 dx1 fs, V.ref a = .ref a1 ∧ H a1 = some (.ins C1 dx1 fs) ∧ Cls K C1 ∧ NoAttr K C1 "frame" ∧ fs.length < 1000 ∧ R (upd H a1 (.ins C1 dx1 (putF "frame" y fs))) := ⟨a, C, dx, _, rfl, h, hc, hn, by show 9 < 1000; decide, by rw [pt_Moment_frame]; exact q⟩
theorem gt_Moment_done {v0 v1 v2 v3 v4 v5 v6 v7 v8 : V} : (F_Moment v0 v1 v2 v3 v4 v5 v6 v7 v8).lookup ("done" : Str) = some v1 := (lk_past (by decide +kernel)).trans (lk_here)
theorem pt_Moment_done {v0 v1 v2 v3 v4 v5 v6 v7 v8 y : V} : putF "done" y (F_Moment v0 v1 v2 v3 v4 v5 v6 v7 v8) = F_Moment v0 y v2 v3 v4 v5 v6 v7 v8 := (put_past (by decide +kernel)).trans (congrArg _ (put_here))
theorem rd_Moment_done {K : PySem.W.Frag} {C a dx : Addr} {H : Hp} {v0 v1 v2 v3 v4 v5 v6 v7 v8 : V} {Q : VK} (hc : Cls K C) (hn : NoAttr K C "done") (h : H a = some (.ins C dx (F_Moment v0 v1 v2 v3 v4 v5 v6 v7 v8))) (q : Q v1 H) : ∃ a1 C1 dx1 fs v, V.ref a = .ref a1 ∧ H a1 = some (.ins C1 dx1 fs) ∧ Cls K C1 ∧ NoAttr K C1 "done" ∧ fs.lookup ("done" : Str) = some v ∧ Q v H := ⟨a, C, dx, _, _, rfl, h, hc, hn, gt_Moment_done, q⟩
theorem wr_Moment_done {K : PySem.W.Frag} {C a dx : Addr} {H : Hp} {v0 v1 v2 v3 v4 v5 v6 v7 v8 y : V} {R : Hp → Prop} (hc : Cls K C) (hn : NoAttr K C "done") (h : H a = some (.ins C dx (F_Moment v0 v1 v2 v3 v4 v5 v6 v7 v8))) (q : R (upd H a (.ins C dx (F_Moment v0 y v2 v3 v4 v5 v6 v7 v8)))) : ∃ a1 C1 dx1 fs, V.ref a = .ref a1 ∧ H a1 = some (.ins C1 dx1 fs) ∧ Cls K C1 ∧ NoAttr K C1 "done" ∧ fs.length < 1000 ∧ R (upd H a1 (.ins C1 dx1 (putF "done" y fs))) := ⟨a, C, dx, _, rfl, h, hc, hn, by show 9 < 1000; decide, by rw [pt_Moment_done]; exact q⟩
theorem gt_Moment_a {v0 v1 v2 v3 v4 v5 v6 v7 v8 : V} : (F_Moment v0 v1 v2 v3 v4 v5 v6 v7 v8).lookup ("a" : Str) = some v2 := (lk_past (by decide +kernel)).trans ((lk_past (by decide +kernel)).trans (lk_here))
theorem pt_Moment_a {v0 v1 v2 v3 v4 v5 v6 v7 v8 y : V} : putF "a" y (F_Moment v0 v1 v2 v3 v4 v5 v6 v7 v8) = F_Moment v0 v1 y v3 v4 v5 v6 v7 v8 := (put_past (by decide +kernel)).trans (congrArg _ ((put_past (by decide +kernel)).trans (congrArg _ (put_here))))
theorem rd_Moment_a {K : PySem.W.Frag} {C a dx : Addr} {H : Hp} {v0 v1 v2 v3 v4 v5 v6 v7 v8 : V} {Q : VK} (hc : Cls K C) (hn : NoAttr K C "a") (h : H a = some (.ins C dx (F_Moment v0 v1 v2 v3 v4 v5 v6 v7 v8))) (q : Q v2 H) : ∃ a1 C1 dx1 fs v, V.ref a = .ref a1 ∧ H a1 = some (.ins C1 dx1 fs) ∧ Cls K C1 ∧ NoAttr K C1 "a" ∧ fs.lookup ("a" : Str) = some v ∧ Q v H := ⟨a, C, dx, _, _, rfl, h, hc, hn, gt_Moment_a, q⟩
theorem wr_Moment_a {K : PySem.W.Frag} {C a dx : Addr} {H : Hp} {v0 v1 v2 v3 v4 v5 v6 v7 v8 y : V} {R : Hp → Prop} (hc : Cls K C) (hn : NoAttr K C "a") (h : H a = some (.ins C dx (F_Moment v0 v1 v2 v3 v4 v5 v6 v7 v8))) (q : R (upd H a (.ins C dx (F_Moment v0 v1 y v3 v4 v5 v6 v7 v8)))) : ∃ a1 C1 dx1 fs, V.ref a = .ref a1 ∧ H a1 = some (.ins C1 dx1 fs) ∧ Cls K C1 ∧ NoAttr K C1 "a" ∧ fs.length < 1000 ∧ R (upd H a1 (.ins C1 dx1 (putF "a" y fs))) := ⟨a, C, dx, _, rfl, h, hc, hn, by show 9 < 1000; decide, by rw [pt_Moment_a]; exact q⟩
theorem gt_Moment_x {v0 v1 v2 v3 v4 v5 v6 v7 v8 : V} : (F_Moment v0 v1 v2 v3 v4 v5 v6 v7 v8).lookup ("x" : Str) = some v3 := (lk_past (by decide +kernel)).trans ((lk_past (by decide +kernel)).trans ((lk_past (by decide +kernel)).trans (lk_here)))
theorem pt_Moment_x {v0 v1 v2 v3 v4 v5 v6 v7 v8 y : V} : putF "x" y (F_Moment v0 v1 v2 v3 v4 v5 v6 v7 v8) = F_Moment v0 v1 v2 y v4 v5 v6 v7 v8 := (put_past (by decide +kernel)).trans (congrArg _ ((put_past (by decide +kernel)).trans (congrArg _ ((put_past (by decide +kernel)).trans (congrArg _ (put_here))))))
theorem rd_Moment_x {K : PySem.W.Frag} {C a dx : Addr} {H : Hp} {v0 v1 v2 v3 v4 v5 v6 v7 v8 : V} {Q : VK} (hc : Cls K C) (hn : NoAttr K C "x") (h : H a = some (.ins C dx (F_Moment v0 v1 v2 v3 v4 v5 v6 v7 v8))) (q : Q v3 H) : ∃ a1 C1 dx1 fs v, V.ref a = .ref a1 ∧ H a1 = some (.ins C1 dx1 fs) ∧ Cls K C1 ∧ NoAttr K C1 "x" ∧ fs.lookup ("x" : Str) = some v ∧ Q v H := ⟨a, C, dx, _, _, rfl, h, hc, hn, gt_Moment_x, q⟩
theorem wr_Moment_x {K : PySem.W.Frag} {C a dx : Addr} {H : Hp} {v0 v1 v2 v3 v4 v5 v6 v7 v8 y : V} {R : Hp → Prop} (hc : Cls K C) (hn : NoAttr K C "x") (h : H a = some (.ins C dx (F_Moment v0 v1 v2 v3 v4 v5 v6 v7 v8))) (q : R (upd H a (.ins C dx (F_Moment v0 v1 v2 y v4 v5 v6 v7 v8)))) : ∃ a1 C1 dx1 fs, V.ref a = .ref a1 ∧ H a1 = some (.ins C1 dx1 fs) ∧ Cls K C1 ∧ NoAttr K C1 "x" ∧ fs.length < 1000 ∧ R (upd H a1 (.ins C1 dx1 (putF "x" y fs))) := ⟨a, C, dx, _, rfl, h, hc, hn, by show 9 < 1000; decide, by rw [pt_Moment_x]; exact q⟩
theorem gt_Moment_place {v0 v1 v2 v3 v4 v5 v6 v7 v8 : V} : (F_Moment v0 v1 v2 v3 v4 v5 v6 v7 v8).lookup ("place" : Str) = some v4 := (lk_past (by decide +kernel)).trans ((lk_past (by decide +kernel)).trans ((lk_past (by decide +kernel)).trans ((lk_past (by decide +kernel)).trans (lk_here))))
theorem pt_Moment_place {v0 v1 v2 v3 v4 v5 v6 v7 v8 y : V} : putF "place" y (F_Moment v0 v1 v2 v3 v4 v5 v6 v7 v8) = F_Moment v0 v1 v2 v3 y v5 v6 v7 v8 := (put_past (by decide +kernel)).trans (congrArg _ ((put_past (by decide +kernel)).trans (congrArg _ ((put_past (by decide +kernel)).trans (congrArg _ ((put_past (by decide +kernel)).trans (congrArg _ (put_here))))))))
theorem rd_Moment_place {K : PySem.W.Frag} {C a dx : Addr} {H : Hp} {v0 v1 v2 v3 v4 v5 v6 v7 v8 : V} {Q : VK} (hc : Cls K C) (hn : NoAttr K C "place") (h : H a = some (.ins C dx (F_Moment v0 v1 v2 v3 v4 v5 v6 v7 v8))) (q : Q v4 H) : ∃ a1 C1 dx1 fs v, V.ref a = .ref a1 ∧ H a1 = some (.ins C1 dx1 fs) ∧ Cls K C1 ∧ NoAttr K C1 "place" ∧ fs.lookup ("place" : Str) = some v ∧ Q v H := ⟨a, C, dx, _, _, rfl, h, hc, hn, gt_Moment_place, q⟩
theorem wr_Moment_place {K : PySem.W.Frag} {C a dx : Addr} {H : Hp} {v0 v1 v2 v3 v4 v5 v6 v7 v8 y : V} {R : Hp → Prop} (hc : Cls K C) (hn : NoAttr K C "place") (h : H a = some (.ins C dx (F_Moment v0 v1 v2 v3 v4 v5 v6 v7 v8))) (q : R (upd H a (.ins C dx (F_Moment v0 v1 v2 v3 y v5 v6 v7 v8)))) : ∃ a1 C1 dx1 fs, V.ref a = .ref a1 ∧ H a1 = some (.ins C1 dx1 fs) ∧ Cls K C1 ∧ NoAttr K C1 "place" ∧ fs.length < 1000 ∧ R (upd H a1 (.ins C1 dx1 (putF "place" y fs))) := ⟨a, C, dx, _, rfl, h, hc, hn, by show 9 < 1000; decide, by rw [pt_Moment_place]; exact q⟩
theorem gt_Moment_zero {v0 v1 v2 v3 v4 v5 v6 v7 v8 : V} : (F_Moment v0 v1 v2 v3 v4 v5 v6 v7 v8).lookup ("zero" : Str) = some v5 := (lk_past (by decide +kernel)).trans ((lk_past (by decide +kernel)).trans ((lk_past (by decide +kernel)).trans ((lk_past (by decide +kernel)).trans ((lk_past (by decide +kernel)).trans (lk_here)))))
theorem pt_Moment_zero {v0 v1 v2 v3 v4 v5 v6 v7 v8 y : V} : putF "zero" y (F_Moment v0 v1 v2 v3 v4 v5 v6 v7 v8) = F_Moment v0 v1 v2 v3 v4 y v6 v7 v8 := (put_past (by decide +kernel)).trans (congrArg _ ((put_past (by decide +kernel)).trans (congrArg _ ((put_past (by decide +kernel)).trans (congrArg _ ((put_past (by decide +kernel)).trans (congrArg _ ((put_past (by decide +kernel)).trans (congrArg _ (put_here))))))))))
theorem rd_Moment_zero {K : PySem.W.Frag} {C a dx : Addr} {H : Hp} {v0 v1 v2 v3 v4 v5 v6 v7 v8 : V} {Q : VK} (hc : Cls K C) (hn : NoAttr K C "zero") (h : H a = some (.ins C dx (F_Moment v0 v1 v2 v3 v4 v5 v6 v7 v8))) (q : Q v5 H) : ∃ a1 C1 dx1 fs v, V.ref a = .ref a1 ∧ H a1 = some (.ins C1 dx1 fs) ∧ Cls K C1 ∧ NoAttr K C1 "zero" ∧ fs.lookup ("zero" : Str) = some v ∧ Q v H := ⟨a, C, dx, _, _, rfl, h, hc, hn, gt_Moment_zero, q⟩
theorem wr_Moment_zero {K : PySem.W.Frag} {C a dx : Addr} {H : Hp} {v0 v1 v2 v3 v4 v5 v6 v7 v8 y : V} {R : Hp → Prop} (hc : Cls K C) (hn : NoAttr K C "zero") (h : H a = some (.ins C dx (F_Moment v0 v1 v2 v3 v4 v5 v6 v7 v8))) (q : R (upd H a (.ins C dx (F_Moment v0 v1 v2 v3 v4 y v6 v7 v8)))) : ∃ a1 C1 dx1 fs, V.ref a = .ref a1 ∧ H a1 = some (.ins C1 dx1 fs) ∧ Cls K C1 ∧ NoAttr K C1 "zero" ∧ fs.length < 1000 ∧ R (upd H a1 (.ins C1 dx1 (putF "zero" y fs))) := ⟨a, C, dx, _, rfl, h, hc, hn, by show 9 < 1000; decide, by rw [pt_Moment_zero]; exact q⟩
theorem gt_Moment_carry {v0 v1 v2 v3 v4 v5 v6 v7 v8 : V} : (F_Moment v0 v1 v2 v3 v4 v5 v6 v7 v8).lookup ("carry" : Str) = some v6 := (lk_past (by decide +kernel)).trans ((lk_past (by decide +kernel)).trans ((lk_past (by decide +kernel)).trans ((lk_past (by decide +kernel)).trans ((lk_past (by decide +kernel)).trans ((lk_past (by decide +kernel)).trans (lk_here))))))
theorem pt_Moment_carry {v0 v1 v2 v3 v4 v5 v6 v7 v8 y : V} : putF "carry" y (F_Moment v0 v1 v2 v3 v4 v5 v6 v7 v8) = F_Moment v0 v1 v2 v3 v4 v5 y v7 v8 := (put_past (by decide +kernel)).trans (congrArg _ ((put_past (by decide +kernel)).trans (congrArg _ ((put_past (by decide +kernel)).trans (congrArg _ ((put_past (by decide +kernel)).trans (congrArg _ ((put_past (by decide +kernel)).trans (congrArg _ ((put_past (by decide +kernel)).trans (congrArg _ (put_here))))))))))))
theorem rd_Moment_carry {K : PySem.W.Frag} {C a dx : Addr} {H : Hp} {v0 v1 v2 v3 v4 v5 v6 v7 v8 : V} {Q : VK} (hc : Cls K C) (hn : NoAttr K C "carry") (h : H a = some (.ins C dx (F_Moment v0 v1 v2 v3 v4 v5 v6 v7 v8))) (q : Q v6 H) : ∃ a1 C1 dx1 fs v, V.ref a = .ref a1 ∧ H a1 = some (.ins C1 dx1 fs) ∧ Cls K C1 ∧ NoAttr K C1 "carry" ∧ fs.lookup ("carry" : Str) = some v ∧ Q v H := ⟨a, C, dx, _, _, rfl, h, hc, hn, gt_Moment_carry, q⟩
theorem wr_Moment_carry {K : PySem.W.Frag} {C a dx : Addr} {H : Hp} {v0 v1 v2 v3 v4 v5 v6 v7 v8 y : V} {R : Hp → Prop} (hc : Cls K C) (hn : NoAttr K C "carry") (h : H a = some (.ins C dx (F_Moment v0 v1 v2 v3 v4 v5 v6 v7 v8))) (q : R (upd H a (.ins C dx (F_Moment v0 v1 v2 v3 v4 v5 y v7 v8)))) : ∃ a1 C1 dx1 fs, V.ref a = .ref a1 ∧ H a1 = some (.ins C1 dx1 fs) ∧ Cls K C1 ∧ NoAttr K C1 "carry" ∧ fs.length < 1000 ∧ R (upd H a1 (.ins C1 dx1 (putF "carry" y fs))) := ⟨a, C, dx, _, rfl, h, hc, hn, by show 9 < 1000; decide, by rw [pt_Moment_carry]; exact q⟩
theorem gt_Moment_cells {v0 v1 v2 v3 v4 v5 v6 v7 v8 : V} : (F_Moment v0 v1 v2 v3 v4 v5 v6 v7 v8).lookup ("cells" : Str) = some v7 := (lk_past (by decide +kernel)).trans ((lk_past (by decide +kernel)).trans ((lk_past (by decide +kernel)).trans ((lk_past (by decide +kernel)).trans ((lk_past (by decide +kernel)).trans ((lk_past (by decide +kernel)).trans ((lk_past (by decide +kernel)).trans (lk_here)))))))
theorem pt_Moment_cells {v0 v1 v2 v3 v4 v5 v6 v7 v8 y : V} : putF "cells" y (F_Moment v0 v1 v2 v3 v4 v5 v6 v7 v8) = F_Moment v0 v1 v2 v3 v4 v5 v6 y v8 := (put_past (by decide +kernel)).trans (congrArg _ ((put_past (by decide +kernel)).trans (congrArg _ ((put_past (by decide +kernel)).trans (congrArg _ ((put_past (by decide +kernel)).trans (congrArg _ ((put_past (by decide +kernel)).trans (congrArg _ ((put_past (by decide +kernel)).trans (congrArg _ ((put_past (by decide +kernel)).trans (congrArg _ (put_here))))))))))))))
theorem rd_Moment_cells {K : PySem.W.Frag} {C a dx : Addr} {H : Hp} {v0 v1 v2 v3 v4 v5 v6 v7 v8 : V} {Q : VK} (hc : Cls K C) (hn : NoAttr K C "cells") (h : H a = some (.ins C dx (F_Moment v0 v1 v2 v3 v4 v5 v6 v7 v8))) (q : Q v7 H) : ∃ a1 C1 dx1 fs v, V.ref a = .ref a1 ∧ H a1 = some (.ins C1 dx1 fs) ∧ Cls K C1 ∧ NoAttr K C1 "cells" ∧ fs.lookup ("cells" : Str) = some v ∧ Q v H := ⟨a, C, dx, _, _, rfl, h, hc, hn, gt_Moment_cells, q⟩
theorem wr_Moment_cells {K : PySem.W.Frag} {C a dx : Addr} {H : Hp} {v0 v1 v2 v3 v4 v5 v6 v7 v8 y : V} {R : Hp → Prop} (hc : Cls K C) (hn : NoAttr K C "cells") (h : H a = some (.ins C dx (F_Moment v0 v1 v2 v3 v4 v5 v6 v7 v8))) (q : R (upd H a (.ins C dx (F_Moment v0 v1 v2 v3 v4 v5 v6 y v8)))) : ∃ a1 C1 dx1 fs, V.ref a = .ref a1 ∧ H a1 = some (.ins C1 dx1 fs) ∧ Cls K C1 ∧ NoAttr K C1 "cells" ∧ fs.length < 1000 ∧ R (upd H a1 (.ins C1 dx1 (putF "cells" y fs))) := ⟨a, C, dx, _, rfl, h, hc, hn, by show 9 < 1000; decide, by rw [pt_Moment_cells]; exact q⟩
theorem gt_Moment_written {v0 v1 v2 v3 v4 v5 v6 v7 v8 : V} : (F_Moment v0 v1 v2 v3 v4 v5 v6 v7 v8).lookup ("written" : Str) = some v8 := (lk_past (by decide +kernel)).trans ((lk_past (by decide +kernel)).trans ((lk_past (by decide +kernel)).trans ((lk_past (by decide +kernel)).trans ((lk_past (by decide +kernel)).trans ((lk_past (by decide +kernel)).trans ((lk_past (by decide +kernel)).trans ((lk_past (by decide +kernel)).trans (lk_here))))))))
theorem pt_Moment_written {v0 v1 v2 v3 v4 v5 v6 v7 v8 y : V} : putF "written" y (F_Moment v0 v1 v2 v3 v4 v5 v6 v7 v8) = F_Moment v0 v1 v2 v3 v4 v5 v6 v7 y := (put_past (by decide +kernel)).trans (congrArg _ ((put_past (by decide +kernel)).trans (congrArg _ ((put_past (by decide +kernel)).trans (congrArg _ ((put_past (by decide +kernel)).trans (congrArg _ ((put_past (by decide +kernel)).trans (congrArg _ ((put_past (by decide +kernel)).trans (congrArg _ ((put_past (by decide +kernel)).trans (congrArg _ ((put_past (by decide +kernel)).trans (congrArg _ (put_here))))))))))))))))
theorem rd_Moment_written {K : PySem.W.Frag} {C a dx : Addr} {H : Hp} {v0 v1 v2 v3 v4 v5 v6 v7 v8 : V} {Q : VK} (hc : Cls K C) (hn : NoAttr K C "written") (h : H a = some (.ins C dx (F_Moment v0 v1 v2 v3 v4 v5 v6 v7 v8))) (q : Q v8 H) : ∃ a1 C1 dx1 fs v, V.ref a = .ref a1 ∧ H a1 = some (.ins C1 dx1 fs) ∧ Cls K C1 ∧ NoAttr K C1 "written" ∧ fs.lookup ("written" : Str) = some v ∧ Q v H := ⟨a, C, dx, _, _, rfl, h, hc, hn, gt_Moment_written, q⟩
theorem wr_Moment_written {K : PySem.W.Frag} {C a dx : Addr} {H : Hp} {v0 v1 v2 v3 v4 v5 v6 v7 v8 y : V} {R : Hp → Prop} (hc : Cls K C) (hn : NoAttr K C "written") (h : H a = some (.ins C dx (F_Moment v0 v1 v2 v3 v4 v5 v6 v7 v8))) (q : R (upd H a (.ins C dx (F_Moment v0 v1 v2 v3 v4 v5 v6 v7 y)))) : ∃ a1 C1 dx1 fs, V.ref a = .ref a1 ∧ H a1 = some (.ins C1 dx1 fs) ∧ Cls K C1 ∧ NoAttr K C1 "written" ∧ fs.length < 1000 ∧ R (upd H a1 (.ins C1 dx1 (putF "written" y fs))) := ⟨a, C, dx, _, rfl, h, hc, hn, by show 9 < 1000; decide, by rw [pt_Moment_written]; exact q⟩
theorem me_Moment_all_numbers {C a dx : Addr} {H : Hp} {v0 v1 v2 v3 v4 v5 v6 v7 v8 : V} {R : Prop} (h : H a = some (.ins C dx (F_Moment v0 v1 v2 v3 v4 v5 v6 v7 v8))) (q : R) : ∃ a1 dx1 fs, V.ref a = .ref a1 ∧ H a1 = some (.ins C dx1 fs) ∧ fs.lookup ("all_numbers" : Str) = none ∧ R := ⟨a, dx, _, rfl, h, (lk_past (by decide +kernel)).trans ((lk_past (by decide +kernel)).trans ((lk_past (by decide +kernel)).trans ((lk_past (by decide +kernel)).trans ((lk_past (by decide +kernel)).trans ((lk_past (by decide +kernel)).trans ((lk_past (by decide +kernel)).trans ((lk_past (by decide +kernel)).trans ((lk_past (by decide +kernel)).trans (rfl))))))))), q⟩
theorem pn_Moment_frame { y : V} : putF "frame" y ([] : List (Str × V)) = ([("frame", y)] : List (Str × V)) := rfl
theorem ini_Moment_frame {K : PySem.W.Frag} {C a dx : Addr} {H : Hp} { y : V} {R : Hp → Prop} (hc : Cls K C) (hn : NoAttr K C "frame") (h : H a = some (.ins C dx [])) (q : R (upd H a (.ins C dx [("frame", y)]))) : ∃ a1 C1 dx1 fs, V.ref a = .ref a1 ∧ H a1 = some (.ins C1 dx1 fs) ∧ Cls K C1 ∧ NoAttr K C1 "frame" ∧ fs.length < 1000 ∧ R (upd H a1 (.ins C1 dx1 (putF "frame" y fs))) := ⟨a, C, dx, _, rfl, h, hc, hn, by show 0 < 1000; decide, by rw [pn_Moment_frame]; exact q⟩
theorem pn_Moment_done {v0 y : V} : putF "done" y ([("frame", v0)] : List (Str × V)) = ([("frame", v0), ("done", y)] : List (Str × V)) := (put_past (by decide +kernel)).trans (congrArg _ (rfl))
theorem ini_Moment_done {K : PySem.W.Frag} {C a dx : Addr} {H : Hp} {v0 y : V} {R : Hp → Prop} (hc : Cls K C) (hn : NoAttr K C "done") (h : H a = some (.ins C dx [("frame", v0)])) (q : R (upd H a (.ins C dx [("frame", v0), ("done", y)]))) : ∃ a1 C1 dx1 fs, V.ref a = .ref a1 ∧ H a1 = some (.ins C1 dx1 fs) ∧ Cls K C1 ∧ NoAttr K C1 "done" ∧ fs.length < 1000 ∧ R (upd H a1 (.ins C1 dx1 (putF "done" y fs))) := ⟨a, C, dx, _, rfl, h, hc, hn, by show 1 < 1000; decide, by rw [pn_Moment_done]; exact q⟩
theorem pn_Moment_a {v0 v1 y : V} : putF "a" y ([("frame", v0), ("done", v1)] : List (Str × V)) = ([("frame", v0), ("done", v1), ("a", y)] : List (Str × V)) := (put_past (by decide +kernel)).trans (congrArg _ ((put_past (by decide +kernel)).trans (congrArg _ (rfl))))
theorem ini_Moment_a {K : PySem.W.Frag} {C a dx : Addr} {H : Hp} {v0 v1 y : V} {R : Hp → Prop} (hc : Cls K C) (hn : NoAttr K C "a") (h : H a = some (.ins C dx [("frame", v0), ("done", v1)])) (q : R (upd H a (.ins C dx [("frame", v0), ("done", v1), ("a", y)]))) : ∃ a1 C1 dx1 fs, V.ref a = .ref a1 ∧ H a1 = some (.ins C1 dx1 fs) ∧ Cls K C1 ∧ NoAttr K C1 "a" ∧ fs.length < 1000 ∧ R (upd H a1 (.ins C1 dx1 (putF "a" y fs))) := ⟨a, C, dx, _, rfl, h, hc, hn, by show 2 < 1000; decide, by rw [pn_Moment_a]; exact q⟩
theorem pn_Moment_x {v0 v1 v2 y : V} : putF "x" y ([("frame", v0), ("done", v1), ("a", v2)] : List (Str × V)) = ([("frame", v0), ("done", v1), ("a", v2), ("x", y)] : List (Str × V)) := (put_past (by decide +kernel)).trans (congrArg _ ((put_past (by decide +kernel)).trans (congrArg _ ((put_past (by decide +kernel)).trans (congrArg _ (rfl))))))
theorem ini_Moment_x {K : PySem.W.Frag} {C a dx : Addr} {H : Hp} {v0 v1 v2 y : V} {R : Hp → Prop} (hc : Cls K C) (hn : NoAttr K C "x") (h : H a = some (.ins C dx [("frame", v0), ("done", v1), ("a", v2)])) (q : R (upd H a (.ins C dx [("frame", v0), ("done", v1), ("a", v2), ("x", y)]))) : ∃ a1 C1 dx1 fs, V.ref a = .ref a1 ∧ H a1 = some (.ins C1 dx1 fs) ∧ Cls K C1 ∧ NoAttr K C1 "x" ∧ fs.length < 1000 ∧ R (upd H a1 (.ins C1 dx1 (putF "x" y fs))) := ⟨a, C, dx, _, rfl, h, hc, hn, by show 3 < 1000; decide, by rw [pn_Moment_x]; exact q⟩
theorem pn_Moment_place {v0 v1 v2 v3 y : V} : putF "place" y ([("frame", v0), ("done", v1), ("a", v2), ("x", v3)] : List (Str × V)) = ([("frame", v0), ("done", v1), ("a", v2), ("x", v3), ("place", y)] : List (Str × V)) := (put_past (by decide +kernel)).trans (congrArg _ ((put_past (by decide +kernel)).trans (congrArg _ ((put_past (by decide +kernel)).trans (congrArg _ ((put_past (by decide +kernel)).trans (congrArg _ (rfl))))))))
theorem ini_Moment_place {K : PySem.W.Frag} {C a dx : Addr} {H : Hp} {v0 v1 v2 v3 y : V} {R : Hp → Prop} (hc : Cls K C) (hn : NoAttr K C "place") (h : H a = some (.ins C dx [("frame", v0), ("done", v1), ("a", v2), ("x", v3)])) (q : R (upd H a (.ins C dx [("frame", v0), ("done", v1), ("a", v2), ("x", v3), ("place", y)]))) : ∃ a1 C1 dx1 fs, V.ref a = .ref a1 ∧ H a1 = some (.ins C1 dx1 fs) ∧ Cls K C1 ∧ NoAttr K C1 "place" ∧ fs.length < 1000 ∧ R (upd H a1 (.ins C1 dx1 (putF "place" y fs))) := ⟨a, C, dx, _, rfl, h, hc, hn, by show 4 < 1000; decide, by rw [pn_Moment_place]; exact q⟩
theorem pn_Moment_zero {v0 v1 v2 v3 v4 y : V} : putF "zero" y ([("frame", v0), ("done", v1), ("a", v2), ("x", v3), ("place", v4)] : List (Str × V)) = ([("frame", v0), ("done", v1), ("a", v2), ("x", v3), ("place", v4), ("zero", y)] : List (Str × V)) := (put_past (by decide +kernel)).trans (congrArg _ ((put_past (by decide +kernel)).trans (congrArg _ ((put_past (by decide +kernel)).trans (congrArg _ ((put_past (by decide +kernel)).trans (congrArg _ ((put_past (by decide +kernel)).trans (congrArg _ (rfl))))))))))
theorem ini_Moment_zero {K : PySem.W.Frag} {C a dx : Addr} {H : Hp} {v0 v1 v2 v3 v4 y : V} {R : Hp → Prop} (hc : Cls K C) (hn : NoAttr K C "zero") (h : H a = some (.ins C dx [("frame", v0), ("done", v1), ("a", v2), ("x", v3), ("place", v4)])) (q : R (upd H a (.ins C dx [("frame", v0), ("done", v1), ("a", v2), ("x", v3), ("place", v4), ("zero", y)]))) : ∃ a1 C1 dx1 fs, V.ref a = .ref a1 ∧ H a1 = some (.ins C1 dx1 fs) ∧ Cls K C1 ∧ NoAttr K C1 "zero" ∧ fs.length < 1000 ∧ R (upd H a1 (.ins C1 dx1 (putF "zero" y fs))) := ⟨a, C, dx, _, rfl, h, hc, hn, by show 5 < 1000; decide, by rw [pn_Moment_zero]; exact q⟩
theorem pn_Moment_carry {v0 v1 v2 v3 v4 v5 y : V} : putF "carry" y ([("frame", v0), ("done", v1), ("a", v2), ("x", v3), ("place", v4), ("zero", v5)] : List (Str × V)) = ([("frame", v0), ("done", v1), ("a", v2), ("x", v3), ("place", v4), ("zero", v5), ("carry", y)] : List (Str × V)) := (put_past (by decide +kernel)).trans (congrArg _ ((put_past (by decide +kernel)).trans (congrArg _ ((put_past (by decide +kernel)).trans (congrArg _ ((put_past (by decide +kernel)).trans (congrArg _ ((put_past (by decide +kernel)).trans (congrArg _ ((put_past (by decide +kernel)).trans (congrArg _ (rfl))))))))))))
theorem ini_Moment_carry {K : PySem.W.Frag} {C a dx : Addr} {H : Hp} {v0 v1 v2 v3 v4 v5 y : V} {R : Hp → Prop} (hc : Cls K C) (hn : NoAttr K C "carry") (h : H a = some (.ins C dx [("frame", v0), ("done", v1), ("a", v2), ("x", v3), ("place", v4), ("zero", v5)])) (q : R (upd H a (.ins C dx [("frame", v0), ("done", v1), ("a", v2), ("x", v3), ("place", v4), ("zero", v5), ("carry", y)]))) : ∃ a1 C1 dx1 fs, V.ref a = .ref a1 ∧ H a1 = some (.ins C1 dx1 fs) ∧ Cls K C1 ∧ NoAttr K C1 "carry" ∧ fs.length < 1000 ∧ R (upd H a1 (.ins C1 dx1 (putF "carry" y fs))) := ⟨a, C, dx, _, rfl, h, hc, hn, by show 6 < 1000; decide, by rw [pn_Moment_carry]; exact q⟩
theorem pn_Moment_cells {v0 v1 v2 v3 v4 v5 v6 y : V} : putF "cells" y ([("frame", v0), ("done", v1), ("a", v2), ("x", v3), ("place", v4), ("zero", v5), ("carry", v6)] : List (Str × V)) = ([("frame", v0), ("done", v1), ("a", v2), ("x", v3), ("place", v4), ("zero", v5), ("carry", v6), ("cells", y)] : List (Str × V)) := (put_past (by decide +kernel)).trans (congrArg _ ((put_past (by decide +kernel)).trans (congrArg _ ((put_past (by decide +kernel)).trans (congrArg _ ((put_past (by decide +kernel)).trans (congrArg _ ((put_past (by decide +kernel)).trans (congrArg _ ((put_past (by decide +kernel)).trans (congrArg _ ((put_past (by decide +kernel)).trans (congrArg _ (rfl))))))))))))))
theorem ini_Moment_cells {K : PySem.W.Frag} {C a dx : Addr} {H : Hp} {v0 v1 v2 v3 v4 v5 v6 y : V} {R : Hp → Prop} (hc : Cls K C) (hn : NoAttr K C "cells") (h : H a = some (.ins C dx [("frame", v0), ("done", v1), ("a", v2), ("x", v3), ("place", v4), ("zero", v5), ("carry", v6)])) (q : R (upd H a (.ins C dx [("frame", v0), ("done", v1), ("a", v2), ("x", v3), ("place", v4), ("zero", v5), ("carry", v6), ("cells", y)]))) : ∃ a1 C1 dx1 fs, V.ref a = .ref a1 ∧ H a1 = some (.ins C1 dx1 fs) ∧ Cls K C1 ∧ NoAttr K C1 "cells" ∧ fs.length < 1000 ∧ R (upd H a1 (.ins C1 dx1 (putF "cells" y fs))) := ⟨a, C, dx, _, rfl, h, hc, hn, by show 7 < 1000; decide, by rw [pn_Moment_cells]; exact q⟩
theorem pn_Moment_written {v0 v1 v2 v3 v4 v5 v6 v7 y : V} : putF "written" y ([("frame", v0), ("done", v1), ("a", v2), ("x", v3), ("place", v4), ("zero", v5), ("carry", v6), ("cells", v7)] : List (Str × V)) = ([("frame", v0), ("done", v1), ("a", v2), ("x", v3), ("place", v4), ("zero", v5), ("carry", v6), ("cells", v7), ("written", y)] : List (Str × V)) := (put_past (by decide +kernel)).trans (congrArg _ ((put_past (by decide +kernel)).trans (congrArg _ ((put_past (by decide +kernel)).trans (congrArg _ ((put_past (by decide +kernel)).trans (congrArg _ ((put_past (by decide +kernel)).trans (congrArg _ ((put_past (by decide +kernel)).trans (congrArg _ ((put_past (by decide +kernel)).trans (congrArg _ ((put_past (by decide +kernel)).trans (congrArg _ (rfl))))))))))))))))
theorem ini_Moment_written {K : PySem.W.Frag} {C a dx : Addr} {H : Hp} {v0 v1 v2 v3 v4 v5 v6 v7 y : V} {R : Hp → Prop} (hc : Cls K C) (hn : NoAttr K C "written") (h : H a = some (.ins C dx [("frame", v0), ("done", v1), ("a", v2), ("x", v3), ("place", v4), ("zero", v5), ("carry", v6), ("cells", v7)])) (q : R (upd H a (.ins C dx [("frame", v0), ("done", v1), ("a", v2), ("x", v3), ("place", v4), ("zero", v5), ("carry", v6), ("cells", v7), ("written", y)]))) : ∃ a1 C1 dx1 fs, V.ref a = .ref a1 ∧ H a1 = some (.ins C1 dx1 fs) ∧ Cls K C1 ∧ NoAttr K C1 "written" ∧ fs.length < 1000 ∧ R (upd H a1 (.ins C1 dx1 (putF "written" y fs))) := ⟨a, C, dx, _, rfl, h, hc, hn, by show 8 < 1000; decide, by rw [pn_Moment_written]; exact q⟩
def F_Session (v0 v1 v2 v3 v4 v5 v6 : V) : List (Str × V) := [("loaded", v0), ("frame_pads", v1), ("changes", v2), ("stop_places", v3), ("watch_places", v4), ("now", v5), ("moments", v6)]
theorem gt_Session_loaded {v0 v1 v2 v3 v4 v5 v6 : V} : (F_Session v0 v1 v2 v3 v4 v5 v6).lookup ("loaded" : Str) = some v0 := lk_here
theorem pt_Session_loaded {v0 v1 v2 v3 v4 v5 v6 y : V} : putF "loaded" y (F_Session v0 v1 v2 v3 v4 v5 v6) = F_Session y v1 v2 v3 v4 v5 v6 := put_here
theorem rd_Session_loaded {K : PySem.W.Frag} {C a dx : Addr} {H : Hp} {v0 v1 v2 v3 v4 v5 v6 : V} {Q : VK} (hc : Cls K C) (hn : NoAttr K C "loaded") (h : H a = some (.ins C dx (F_Session v0 v1 v2 v3 v4 v5 v6))) (q : Q v0 H) : ∃ a1 C1 dx1 fs v, V.ref a = .ref a1 ∧ H a1 = some (.ins C1 dx1 fs) ∧ Cls K C1 ∧ NoAttr K C1 "loaded" ∧ fs.lookup ("loaded" : Str) = some v ∧ Q v H := ⟨a, C, dx, _, _, rfl, h, hc, hn, gt_Session_loaded, q⟩
theorem wr_Session_loaded {K : PySem.W.Frag} {C a dx : Addr} {H : Hp} {v0 v1 v2 v3 v4 v5 v6 y : V} {R : Hp → Prop} (hc : Cls K C) (hn : NoAttr K C "loaded") (h : H a = some (.ins C dx (F_Session v0 v1 v2 v3 v4 v5 v6))) (q : R (upd H a (.ins C dx (F_Session y v1 v2 v3 v4 v5 v6)))) : ∃ a1 C1 dx1 fs, V.ref a = .ref a1 ∧ H a1 = some (.ins C1 dx1 fs) ∧ Cls K C1 ∧ NoAttr K C1 "loaded" ∧ fs.length < 1000 ∧ R (upd H a1 (.ins C1 dx1 (putF "loaded" y fs))) := ⟨a, C, dx, _, rfl, h, hc, hn, by show 7 < 1000; decide, by rw [pt_Session_loaded]; exact q⟩
theorem gt_Session_frame_pads {v0 v1 v2 v3 v4 v5 v6 : V} : (F_Session v0 v1 v2 v3 v4 v5 v6).lookup ("frame_pads" : Str) = some v1 := (lk_past (by decide +kernel)).trans (lk_here)
theorem pt_Session_frame_pads {v0 v1 v2 v3 v4 v5 v6 y : V} : putF "frame_pads" y (F_Session v0 v1 v2 v3 v4 v5 v6) = F_Session v0 y v2 v3 v4 v5 v6 := (put_past (by decide +kernel)).trans (congrArg _ (put_here))
theorem rd_Session_frame_pads {K : PySem.W.Frag} {C a dx : Addr} {H : Hp} {v0 v1 v2 v3 v4 v5 v6 : V} {Q : VK} (hc : Cls K C) (hn : NoAttr K C "frame_pads") (h : H a = some (.ins C dx (F_Session v0 v1 v2 v3 v4 v5 v6))) (q : Q v1 H) : ∃ a1 C1 dx1 fs v, V.ref a = .ref a1 ∧ H a1 = some (.ins C1 dx1 fs) ∧ Cls K C1 ∧ NoAttr K C1 "frame_pads" ∧ fs.lookup ("frame_pads" : Str) = some v ∧ Q v H := ⟨a, C, dx, _, _, rfl, h, hc, hn, gt_Session_frame_pads, q⟩
theorem wr_Session_frame_pads {K : PySem.W.Frag} {C a dx : Addr} {H : Hp} {v0 v1 v2 v3 v4 v5 v6 y : V} {R : Hp → Prop} (hc : Cls K C) (hn : NoAttr K C "frame_pads") (h : H a = some (.ins C dx (F_Session v0 v1 v2 v3 v4 v5 v6))) (q : R (upd H a (.ins C dx (F_Session v0 y v2 v3 v4 v5 v6)))) : ∃ a1 C1 dx1 fs, V.ref a = .ref a1 ∧ H a1 = some (.ins C1 dx1 fs) ∧ Cls K C1 ∧ NoAttr K C1 "frame_pads" ∧ fs.length < 1000 ∧ R (upd H a1 (.ins C1 dx1 (putF "frame_pads" y fs))) := ⟨a, C, dx, _, rfl, h, hc, hn, by show 7 < 1000; decide, by rw [pt_Session_frame_pads]; exact q⟩
theorem gt_Session_changes {v0 v1 v2 v3 v4 v5 v6 : V} : (F_Session v0 v1 v2 v3 v4 v5 v6).lookup ("changes" : Str) = some v2 := (lk_past (by decide +kernel)).trans ((lk_past (by decide +kernel)).trans (lk_here))
theorem pt_Session_changes {v0 v1 v2 v3 v4 v5 v6 y : V} : putF "changes" y (F_Session v0 v1 v2 v3 v4 v5 v6) = F_Session v0 v1 y v3 v4 v5 v6 := (put_past (by decide +kernel)).trans (congrArg _ ((put_past (by decide +kernel)).trans (congrArg _ (put_here))))
theorem rd_Session_changes {K : PySem.W.Frag} {C a dx : Addr} {H : Hp} {v0 v1 v2 v3 v4 v5 v6 : V} {Q : VK} (hc : Cls K C) (hn : NoAttr K C "changes") (h : H a = some (.ins C dx (F_Session v0 v1 v2 v3 v4 v5 v6))) (q : Q v2 H) : ∃ a1 C1 dx1 fs v, V.ref a = .ref a1 ∧ H a1 = some (.ins C1 dx1 fs) ∧ Cls K C1 ∧ NoAttr K C1 "changes" ∧ fs.lookup ("changes" : Str) = some v ∧ Q v H := ⟨a, C, dx, _, _, rfl, h, hc, hn, gt_Session_changes, q⟩
theorem wr_Session_changes {K : PySem.W.Frag} {C a dx : Addr} {H : Hp} {v0 v1 v2 v3 v4 v5 v6 y : V} {R : Hp → Prop} (hc : Cls K C) (hn : NoAttr K C "changes") (h : H a = some (.ins C dx (F_Session v0 v1 v2 v3 v4 v5 v6))) (q : R (upd H a (.ins C dx (F_Session v0 v1 y v3 v4 v5 v6)))) : ∃ a1 C1 dx1 fs, V.ref a = .ref a1 ∧ H a1 = some (.ins C1 dx1 fs) ∧ Cls K C1 ∧ NoAttr K C1 "changes" ∧ fs.length < 1000 ∧ R (upd H a1 (.ins C1 dx1 (putF "changes" y fs))) := ⟨a, C, dx, _, rfl, h, hc, hn, by show 7 < 1000; decide, by rw [pt_Session_changes]; exact q⟩
theorem gt_Session_stop_places {v0 v1 v2 v3 v4 v5 v6 : V} : (F_Session v0 v1 v2 v3 v4 v5 v6).lookup ("stop_places" : Str) = some v3 := (lk_past (by decide +kernel)).trans ((lk_past (by decide +kernel)).trans ((lk_past (by decide +kernel)).trans (lk_here)))
theorem pt_Session_stop_places {v0 v1 v2 v3 v4 v5 v6 y : V} : putF "stop_places" y (F_Session v0 v1 v2 v3 v4 v5 v6) = F_Session v0 v1 v2 y v4 v5 v6 := (put_past (by decide +kernel)).trans (congrArg _ ((put_past (by decide +kernel)).trans (congrArg _ ((put_past (by decide +kernel)).trans (congrArg _ (put_here))))))
theorem rd_Session_stop_places {K : PySem.W.Frag} {C a dx : Addr} {H : Hp} {v0 v1 v2 v3 v4 v5 v6 : V} {Q : VK} (hc : Cls K C) (hn : NoAttr K C "stop_places") (h : H a = some (.ins C dx (F_Session v0 v1 v2 v3 v4 v5 v6))) (q : Q v3 H) : ∃ a1 C1 dx1 fs v, V.ref a = .ref a1 ∧ H a1 = some (.ins C1 dx1 fs) ∧ Cls K C1 ∧ NoAttr K C1 "stop_places" ∧ fs.lookup ("stop_places" : Str) = some v ∧ Q v H := ⟨a, C, dx, _, _, rfl, h, hc, hn, gt_Session_stop_places, q⟩
theorem wr_Session_stop_places {K : PySem.W.Frag} {C a dx : Addr} {H : Hp} {v0 v1 v2 v3 v4 v5 v6 y : V} {R : Hp → Prop} (hc : Cls K C) (hn : NoAttr K C "stop_places") (h : H a = some (.ins C dx (F_Session v0 v1 v2 v3 v4 v5 v6))) (q : R (upd H a (.ins C dx (F_Session v0 v1 v2 y v4 v5 v6)))) : ∃ a1 C1 dx1 fs, V.ref a = .ref a1 ∧ H a1 = some (.ins C1 dx1 fs) ∧ Cls K C1 ∧ NoAttr K C1 "stop_places" ∧ fs.length < 1000 ∧ R (upd H a1 (.ins C1 dx1 (putF "stop_places" y fs))) := ⟨a, C, dx, _, rfl, h, hc, hn, by show 7 < 1000; decide, by rw [pt_Session_stop_places]; exact q⟩
theorem gt_Session_watch_places {v0 v1 v2 v3 v4 v5 v6 : V} : (F_Session v0 v1 v2 v3 v4 v5 v6).lookup ("watch_places" : Str) = some v4 := (lk_past (by decide +kernel)).trans ((lk_past (by decide +kernel)).trans ((lk_past (by decide +kernel)).trans ((lk_past (by decide +kernel)).trans (lk_here))))
theorem pt_Session_watch_places {v0 v1 v2 v3 v4 v5 v6 y : V} : putF "watch_places" y (F_Session v0 v1 v2 v3 v4 v5 v6) = F_Session v0 v1 v2 v3 y v5 v6 := (put_past (by decide +kernel)).trans (congrArg _ ((put_past (by decide +kernel)).trans (congrArg _ ((put_past (by decide +kernel)).trans (congrArg _ ((put_past (by decide +kernel)).trans (congrArg _ (put_here))))))))
theorem rd_Session_watch_places {K : PySem.W.Frag} {C a dx : Addr} {H : Hp} {v0 v1 v2 v3 v4 v5 v6 : V} {Q : VK} (hc : Cls K C) (hn : NoAttr K C "watch_places") (h : H a = some (.ins C dx (F_Session v0 v1 v2 v3 v4 v5 v6))) (q : Q v4 H) : ∃ a1 C1 dx1 fs v, V.ref a = .ref a1 ∧ H a1 = some (.ins C1 dx1 fs) ∧ Cls K C1 ∧ NoAttr K C1 "watch_places" ∧ fs.lookup ("watch_places" : Str) = some v ∧ Q v H := ⟨a, C, dx, _, _, rfl, h, hc, hn, gt_Session_watch_places, q⟩
theorem wr_Session_watch_places {K : PySem.W.Frag} {C a dx : Addr} {H : Hp} {v0 v1 v2 v3 v4 v5 v6 y : V} {R : Hp → Prop} (hc : Cls K C) (hn : NoAttr K C "watch_places") (h : H a = some (.ins C dx (F_Session v0 v1 v2 v3 v4 v5 v6))) (q : R (upd H a (.ins C dx (F_Session v0 v1 v2 v3 y v5 v6)))) : ∃ a1 C1 dx1 fs, V.ref a = .ref a1 ∧ H a1 = some (.ins C1 dx1 fs) ∧ Cls K C1 ∧ NoAttr K C1 "watch_places" ∧ fs.length < 1000 ∧ R (upd H a1 (.ins C1 dx1 (putF "watch_places" y fs))) := ⟨a, C, dx, _, rfl, h, hc, hn, by show 7 < 1000; decide, by rw [pt_Session_watch_places]; exact q⟩
theorem gt_Session_now {v0 v1 v2 v3 v4 v5 v6 : V} : (F_Session v0 v1 v2 v3 v4 v5 v6).lookup ("now" : Str) = some v5 := (lk_past (by decide +kernel)).trans ((lk_past (by decide +kernel)).trans ((lk_past (by decide +kernel)).trans ((lk_past (by decide +kernel)).trans ((lk_past (by decide +kernel)).trans (lk_here)))))
theorem pt_Session_now {v0 v1 v2 v3 v4 v5 v6 y : V} : putF "now" y (F_Session v0 v1 v2 v3 v4 v5 v6) = F_Session v0 v1 v2 v3 v4 y v6 := (put_past (by decide +kernel)).trans (congrArg _ ((put_past (by decide +kernel)).trans (congrArg _ ((put_past (by decide +kernel)).trans (congrArg _ ((put_past (by decide +kernel)).trans (congrArg _ ((put_past (by decide +kernel)).trans (congrArg _ (put_here))))))))))
theorem rd_Session_now {K : PySem.W.Frag} {C a dx : Addr} {H : Hp} {v0 v1 v2 v3 v4 v5 v6 : V} {Q : VK} (hc : Cls K C) (hn : NoAttr K C "now") (h : H a = some (.ins C dx (F_Session v0 v1 v2 v3 v4 v5 v6))) (q : Q v5 H) : ∃ a1 C1 dx1 fs v, V.ref a = .ref a1 ∧ H a1 = some (.ins C1 dx1 fs) ∧ Cls K C1 ∧ NoAttr K C1 "now" ∧ fs.lookup ("now" : Str) = some v ∧ Q v H := ⟨a, C, dx, _, _, rfl, h, hc, hn, gt_Session_now, q⟩
theorem wr_Session_now {K : PySem.W.Frag} {C a dx : Addr} {H : Hp} {v0 v1 v2 v3 v4 v5 v6 y : V} {R : Hp → Prop} (hc : Cls K C) (hn : NoAttr K C "now") (h : H a = some (.ins C dx (F_Session v0 v1 v2 v3 v4 v5 v6))) (q : R (upd H a (.ins C dx (F_Session v0 v1 v2 v3 v4 y v6)))) : ∃ a1 C1 dx1 fs, V.ref a = .ref a1 ∧ H a1 = some (.ins C1 dx1 fs) ∧ Cls K C1 ∧ NoAttr K C1 "now" ∧ fs.length < 1000 ∧ R (upd H a1 (.ins C1 dx1 (putF "now" y fs))) := ⟨a, C, dx, _, rfl, h, hc, hn, by show 7 < 1000; decide, by rw [pt_Session_now]; exact q⟩
theorem gt_Session_moments {v0 v1 v2 v3 v4 v5 v6 : V} : (F_Session v0 v1 v2 v3 v4 v5 v6).lookup ("moments" : Str) = some v6 := (lk_past (by decide +kernel)).trans ((lk_past (by decide +kernel)).trans ((lk_past (by decide +kernel)).trans ((lk_past (by decide +kernel)).trans ((lk_past (by decide +kernel)).trans ((lk_past (by decide +kernel)).trans (lk_here))))))
theorem pt_Session_moments {v0 v1 v2 v3 v4 v5 v6 y : V} : putF "moments" y (F_Session v0 v1 v2 v3 v4 v5 v6) = F_Session v0 v1 v2 v3 v4 v5 y := (put_past (by decide +kernel)).trans (congrArg _ ((put_past (by decide +kernel)).trans (congrArg _ ((put_past (by decide +kernel)).trans (congrArg _ ((put_past (by decide +kernel)).trans (congrArg _ ((put_past (by decide +kernel)).trans (congrArg _ ((put_past (by decide +kernel)).trans (congrArg _ (put_here))))))))))))
theorem rd_Session_moments {K : PySem.W.Frag} {C a dx : Addr} {H : Hp} {v0 v1 v2 v3 v4 v5 v6 : V} {Q : VK} (hc : Cls K C) (hn : NoAttr K C "moments") (h : H a = some (.ins C dx (F_Session v0 v1 v2 v3 v4 v5 v6))) (q : Q v6 H) : ∃ a1 C1 dx1 fs v, V.ref a = .ref a1 ∧ H a1 = some (.ins C1 dx1 fs) ∧ Cls K C1 ∧ NoAttr K C1 "moments" ∧ fs.lookup ("moments" : Str) = some v ∧ Q v H := ⟨a, C, dx, _, _, rfl, h, hc, hn, gt_Session_moments, q⟩
theorem wr_Session_moments {K : PySem.W.Frag} {C a dx : Addr} {H : Hp} {v0 v1 v2 v3 v4 v5 v6 y : V} {R : Hp → Prop} (hc : Cls K C) (hn : NoAttr K C "moments") (h : H a = some (.ins C dx (F_Session v0 v1 v2 v3 v4 v5 v6))) (q : R (upd H a (.ins C dx (F_Session v0 v1 v2 v3 v4 v5 y)))) : ∃ a1 C1 dx1 fs, V.ref a = .ref a1 ∧ H a1 = some (.ins C1 dx1 fs) ∧ Cls K C1 ∧ NoAttr K C1 "moments" ∧ fs.length < 1000 ∧ R (upd H a1 (.ins C1 dx1 (putF "moments" y fs))) := ⟨a, C, dx, _, rfl, h, hc, hn, by show 7 < 1000; decide, by rw [pt_Session_moments]; exact q⟩
theorem me_Session_start_over {C a dx : Addr} {H : Hp} {v0 v1 v2 v3 v4 v5 v6 : V} {R : Prop} (h : H a = some (.ins C dx (F_Session v0 v1 v2 v3 v4 v5 v6))) (q : R) : ∃ a1 dx1 fs, V.ref a = .ref a1 ∧ H a1 = some (.ins C dx1 fs) ∧ fs.lookup ("start_over" : Str) = none ∧ R := ⟨a, dx, _, rfl, h, (lk_past (by decide +kernel)).trans ((lk_past (by decide +kernel)).trans ((lk_past (by decide +kernel)).trans ((lk_past (by decide +kernel)).trans ((lk_past (by decide +kernel)).trans ((lk_past (by decide +kernel)).trans ((lk_past (by decide +kernel)).trans (rfl))))))), q⟩
theorem me_Session_find_moments {C a dx : Addr} {H : Hp} {v0 v1 v2 v3 v4 v5 v6 : V} {R : Prop} (h : H a = some (.ins C dx (F_Session v0 v1 v2 v3 v4 v5 v6))) (q : R) : ∃ a1 dx1 fs, V.ref a = .ref a1 ∧ H a1 = some (.ins C dx1 fs) ∧ fs.lookup ("find_moments" : Str) = none ∧ R := ⟨a, dx, _, rfl, h, (lk_past (by decide +kernel)).trans ((lk_past (by decide +kernel)).trans ((lk_past (by decide +kernel)).trans ((lk_past (by decide +kernel)).trans ((lk_past (by decide +kernel)).trans ((lk_past (by decide +kernel)).trans ((lk_past (by decide +kernel)).trans (rfl))))))), q⟩
theorem me_Session_add_pads {C a dx : Addr} {H : Hp} {v0 v1 v2 v3 v4 v5 v6 : V} {R : Prop} (h : H a = some (.ins C dx (F_Session v0 v1 v2 v3 v4 v5 v6))) (q : R) : ∃ a1 dx1 fs, V.ref a = .ref a1 ∧ H a1 = some (.ins C dx1 fs) ∧ fs.lookup ("add_pads" : Str) = none ∧ R := ⟨a, dx, _, rfl, h, (lk_past (by decide +kernel)).trans ((lk_past (by decide +kernel)).trans ((lk_past (by decide +kernel)).trans ((lk_past (by decide +kernel)).trans ((lk_past (by decide +kernel)).trans ((lk_past (by decide +kernel)).trans ((lk_past (by decide +kernel)).trans (rfl))))))), q⟩
theorem me_Session_change_by_hand {C a dx : Addr} {H : Hp} {v0 v1 v2 v3 v4 v5 v6 : V} {R : Prop} (h : H a = some (.ins C dx (F_Session v0 v1 v2 v3 v4 v5 v6))) (q : R) : ∃ a1 dx1 fs, V.ref a = .ref a1 ∧ H a1 = some (.ins C dx1 fs) ∧ fs.lookup ("change_by_hand" : Str) = none ∧ R := ⟨a, dx, _, rfl, h, (lk_past (by decide +kernel)).trans ((lk_past (by decide +kernel)).trans ((lk_past (by decide +kernel)).trans ((lk_past (by decide +kernel)).trans ((lk_past (by decide +kernel)).trans ((lk_past (by decide +kernel)).trans ((lk_past (by decide +kernel)).trans (rfl))))))), q⟩
theorem me_Session_undo_last_change {C a dx : Addr} {H : Hp} {v0 v1 v2 v3 v4 v5 v6 : V} {R : Prop} (h : H a = some (.ins C dx (F_Session v0 v1 v2 v3 v4 v5 v6))) (q : R) : ∃ a1 dx1 fs, V.ref a = .ref a1 ∧ H a1 = some (.ins C dx1 fs) ∧ fs.lookup ("undo_last_change" : Str) = none ∧ R := ⟨a, dx, _, rfl, h, (lk_past (by decide +kernel)).trans ((lk_past (by decide +kernel)).trans ((lk_past (by decide +kernel)).trans ((lk_past (by decide +kernel)).trans ((lk_past (by decide +kernel)).trans ((lk_past (by decide +kernel)).trans ((lk_past (by decide +kernel)).trans (rfl))))))), q⟩
theorem me_Session_end_number {C a dx : Addr} {H : Hp} {v0 v1 v2 v3 v4 v5 v6 : V} {R : Prop} (h : H a = some (.ins C dx (F_Session v0 v1 v2 v3 v4 v5 v6))) (q : R) : ∃ a1 dx1 fs, V.ref a = .ref a1 ∧ H a1 = some (.ins C dx1 fs) ∧ fs.lookup ("end_number" : Str) = none ∧ R := ⟨a, dx, _, rfl, h, (lk_past (by decide +kernel)).trans ((lk_past (by decide +kernel)).trans ((lk_past (by decide +kernel)).trans ((lk_past (by decide +kernel)).trans ((lk_past (by decide +kernel)).trans ((lk_past (by decide +kernel)).trans ((lk_past (by decide +kernel)).trans (rfl))))))), q⟩
theorem me_Session_moment_now {C a dx : Addr} {H : Hp} {v0 v1 v2 v3 v4 v5 v6 : V} {R : Prop} (h : H a = some (.ins C dx (F_Session v0 v1 v2 v3 v4 v5 v6))) (q : R) : ∃ a1 dx1 fs, V.ref a = .ref a1 ∧ H a1 = some (.ins C dx1 fs) ∧ fs.lookup ("moment_now" : Str) = none ∧ R := ⟨a, dx, _, rfl, h, (lk_past (by decide +kernel)).trans ((lk_past (by decide +kernel)).trans ((lk_past (by decide +kernel)).trans ((lk_past (by decide +kernel)).trans ((lk_past (by decide +kernel)).trans ((lk_past (by decide +kernel)).trans ((lk_past (by decide +kernel)).trans (rfl))))))), q⟩
theorem me_Session_where_now {C a dx : Addr} {H : Hp} {v0 v1 v2 v3 v4 v5 v6 : V} {R : Prop} (h : H a = some (.ins C dx (F_Session v0 v1 v2 v3 v4 v5 v6))) (q : R) : ∃ a1 dx1 fs, V.ref a = .ref a1 ∧ H a1 = some (.ins C dx1 fs) ∧ fs.lookup ("where_now" : Str) = none ∧ R := ⟨a, dx, _, rfl, h, (lk_past (by decide +kernel)).trans ((lk_past (by decide +kernel)).trans ((lk_past (by decide +kernel)).trans ((lk_past (by decide +kernel)).trans ((lk_past (by decide +kernel)).trans ((lk_past (by decide +kernel)).trans ((lk_past (by decide +kernel)).trans (rfl))))))), q⟩
theorem me_Session_reason_at {C a dx : Addr} {H : Hp} {v0 v1 v2 v3 v4 v5 v6 : V} {R : Prop} (h : H a = some (.ins C dx (F_Session v0 v1 v2 v3 v4 v5 v6))) (q : R) : ∃ a1 dx1 fs, V.ref a = .ref a1 ∧ H a1 = some (.ins C dx1 fs) ∧ fs.lookup ("reason_at" : Str) = none ∧ R := ⟨a, dx, _, rfl, h, (lk_past (by decide +kernel)).trans ((lk_past (by decide +kernel)).trans ((lk_past (by decide +kernel)).trans ((lk_past (by decide +kernel)).trans ((lk_past (by decide +kernel)).trans ((lk_past (by decide +kernel)).trans ((lk_past (by decide +kernel)).trans (rfl))))))), q⟩
theorem me_Session_last_write {C a dx : Addr} {H : Hp} {v0 v1 v2 v3 v4 v5 v6 : V} {R : Prop} (h : H a = some (.ins C dx (F_Session v0 v1 v2 v3 v4 v5 v6))) (q : R) : ∃ a1 dx1 fs, V.ref a = .ref a1 ∧ H a1 = some (.ins C dx1 fs) ∧ fs.lookup ("last_write" : Str) = none ∧ R := ⟨a, dx, _, rfl, h, (lk_past (by decide +kernel)).trans ((lk_past (by decide +kernel)).trans ((lk_past (by decide +kernel)).trans ((lk_past (by decide +kernel)).trans ((lk_past (by decide +kernel)).trans ((lk_past (by decide +kernel)).trans ((lk_past (by decide +kernel)).trans (rfl))))))), q⟩
theorem pn_Session_loaded { y : V} : putF "loaded" y ([] : List (Str × V)) = ([("loaded", y)] : List (Str × V)) := rfl
theorem ini_Session_loaded {K : PySem.W.Frag} {C a dx : Addr} {H : Hp} { y : V} {R : Hp → Prop} (hc : Cls K C) (hn : NoAttr K C "loaded") (h : H a = some (.ins C dx [])) (q : R (upd H a (.ins C dx [("loaded", y)]))) : ∃ a1 C1 dx1 fs, V.ref a = .ref a1 ∧ H a1 = some (.ins C1 dx1 fs) ∧ Cls K C1 ∧ NoAttr K C1 "loaded" ∧ fs.length < 1000 ∧ R (upd H a1 (.ins C1 dx1 (putF "loaded" y fs))) := ⟨a, C, dx, _, rfl, h, hc, hn, by show 0 < 1000; decide, by rw [pn_Session_loaded]; exact q⟩
theorem pn_Session_frame_pads {v0 y : V} : putF "frame_pads" y ([("loaded", v0)] : List (Str × V)) = ([("loaded", v0), ("frame_pads", y)] : List (Str × V)) := (put_past (by decide +kernel)).trans (congrArg _ (rfl))
theorem ini_Session_frame_pads {K : PySem.W.Frag} {C a dx : Addr} {H : Hp} {v0 y : V} {R : Hp → Prop} (hc : Cls K C) (hn : NoAttr K C "frame_pads") (h : H a = some (.ins C dx [("loaded", v0)])) (q : R (upd H a (.ins C dx [("loaded", v0), ("frame_pads", y)]))) : ∃ a1 C1 dx1 fs, V.ref a = .ref a1 ∧ H a1 = some (.ins C1 dx1 fs) ∧ Cls K C1 ∧ NoAttr K C1 "frame_pads" ∧ fs.length < 1000 ∧ R (upd H a1 (.ins C1 dx1 (putF "frame_pads" y fs))) := ⟨a, C, dx, _, rfl, h, hc, hn, by show 1 < 1000; decide, by rw [pn_Session_frame_pads]; exact q⟩
theorem pn_Session_changes {v0 v1 y : V} : putF "changes" y ([("loaded", v0), ("frame_pads", v1)] : List (Str × V)) = ([("loaded", v0), ("frame_pads", v1), ("changes", y)] : List (Str × V)) := (put_past (by decide +kernel)).trans (congrArg _ ((put_past (by decide +kernel)).trans (congrArg _ (rfl))))
theorem ini_Session_changes {K : PySem.W.Frag} {C a dx : Addr} {H : Hp} {v0 v1 y : V} {R : Hp → Prop} (hc : Cls K C) (hn : NoAttr K C "changes") (h : H a = some (.ins C dx [("loaded", v0), ("frame_pads", v1)])) (q : R (upd H a (.ins C dx [("loaded", v0), ("frame_pads", v1), ("changes", y)]))) : ∃ a1 C1 dx1 fs, V.ref a = .ref a1 ∧ H a1 = some (.ins C1 dx1 fs) ∧ Cls K C1 ∧ NoAttr K C1 "changes" ∧ fs.length < 1000 ∧ R (upd H a1 (.ins C1 dx1 (putF "changes" y fs))) := ⟨a, C, dx, _, rfl, h, hc, hn, by show 2 < 1000; decide, by rw [pn_Session_changes]; exact q⟩
theorem pn_Session_stop_places {v0 v1 v2 y : V} : putF "stop_places" y ([("loaded", v0), ("frame_pads", v1), ("changes", v2)] : List (Str × V)) = ([("loaded", v0), ("frame_pads", v1), ("changes", v2), ("stop_places", y)] : List (Str × V)) := (put_past (by decide +kernel)).trans (congrArg _ ((put_past (by decide +kernel)).trans (congrArg _ ((put_past (by decide +kernel)).trans (congrArg _ (rfl))))))
theorem ini_Session_stop_places {K : PySem.W.Frag} {C a dx : Addr} {H : Hp} {v0 v1 v2 y : V} {R : Hp → Prop} (hc : Cls K C) (hn : NoAttr K C "stop_places") (h : H a = some (.ins C dx [("loaded", v0), ("frame_pads", v1), ("changes", v2)])) (q : R (upd H a (.ins C dx [("loaded", v0), ("frame_pads", v1), ("changes", v2), ("stop_places", y)]))) : ∃ a1 C1 dx1 fs, V.ref a = .ref a1 ∧ H a1 = some (.ins C1 dx1 fs) ∧ Cls K C1 ∧ NoAttr K C1 "stop_places" ∧ fs.length < 1000 ∧ R (upd H a1 (.ins C1 dx1 (putF "stop_places" y fs))) := ⟨a, C, dx, _, rfl, h, hc, hn, by show 3 < 1000; decide, by rw [pn_Session_stop_places]; exact q⟩
theorem pn_Session_watch_places {v0 v1 v2 v3 y : V} : putF "watch_places" y ([("loaded", v0), ("frame_pads", v1), ("changes", v2), ("stop_places", v3)] : List (Str × V)) = ([("loaded", v0), ("frame_pads", v1), ("changes", v2), ("stop_places", v3), ("watch_places", y)] : List (Str × V)) := (put_past (by decide +kernel)).trans (congrArg _ ((put_past (by decide +kernel)).trans (congrArg _ ((put_past (by decide +kernel)).trans (congrArg _ ((put_past (by decide +kernel)).trans (congrArg _ (rfl))))))))
theorem ini_Session_watch_places {K : PySem.W.Frag} {C a dx : Addr} {H : Hp} {v0 v1 v2 v3 y : V} {R : Hp → Prop} (hc : Cls K C) (hn : NoAttr K C "watch_places") (h : H a = some (.ins C dx [("loaded", v0), ("frame_pads", v1), ("changes", v2), ("stop_places", v3)])) (q : R (upd H a (.ins C dx [("loaded", v0), ("frame_pads", v1), ("changes", v2), ("stop_places", v3), ("watch_places", y)]))) : ∃ a1 C1 dx1 fs, V.ref a = .ref a1 ∧ H a1 = some (.ins C1 dx1 fs) ∧ Cls K C1 ∧ NoAttr K C1 "watch_places" ∧ fs.length < 1000 ∧ R (upd H a1 (.ins C1 dx1 (putF "watch_places" y fs))) := ⟨a, C, dx, _, rfl, h, hc, hn, by show 4 < 1000; decide, by rw [pn_Session_watch_places]; exact q⟩
theorem pn_Session_now {v0 v1 v2 v3 v4 y : V} : putF "now" y ([("loaded", v0), ("frame_pads", v1), ("changes", v2), ("stop_places", v3), ("watch_places", v4)] : List (Str × V)) = ([("loaded", v0), ("frame_pads", v1), ("changes", v2), ("stop_places", v3), ("watch_places", v4), ("now", y)] : List (Str × V)) := (put_past (by decide +kernel)).trans (congrArg _ ((put_past (by decide +kernel)).trans (congrArg _ ((put_past (by decide +kernel)).trans (congrArg _ ((put_past (by decide +kernel)).trans (congrArg _ ((put_past (by decide +kernel)).trans (congrArg _ (rfl))))))))))
theorem ini_Session_now {K : PySem.W.Frag} {C a dx : Addr} {H : Hp} {v0 v1 v2 v3 v4 y : V} {R : Hp → Prop} (hc : Cls K C) (hn : NoAttr K C "now") (h : H a = some (.ins C dx [("loaded", v0), ("frame_pads", v1), ("changes", v2), ("stop_places", v3), ("watch_places", v4)])) (q : R (upd H a (.ins C dx [("loaded", v0), ("frame_pads", v1), ("changes", v2), ("stop_places", v3), ("watch_places", v4), ("now", y)]))) : ∃ a1 C1 dx1 fs, V.ref a = .ref a1 ∧ H a1 = some (.ins C1 dx1 fs) ∧ Cls K C1 ∧ NoAttr K C1 "now" ∧ fs.length < 1000 ∧ R (upd H a1 (.ins C1 dx1 (putF "now" y fs))) := ⟨a, C, dx, _, rfl, h, hc, hn, by show 5 < 1000; decide, by rw [pn_Session_now]; exact q⟩
theorem pn_Session_moments {v0 v1 v2 v3 v4 v5 y : V} : putF "moments" y ([("loaded", v0), ("frame_pads", v1), ("changes", v2), ("stop_places", v3), ("watch_places", v4), ("now", v5)] : List (Str × V)) = ([("loaded", v0), ("frame_pads", v1), ("changes", v2), ("stop_places", v3), ("watch_places", v4), ("now", v5), ("moments", y)] : List (Str × V)) := (put_past (by decide +kernel)).trans (congrArg _ ((put_past (by decide +kernel)).trans (congrArg _ ((put_past (by decide +kernel)).trans (congrArg _ ((put_past (by decide +kernel)).trans (congrArg _ ((put_past (by decide +kernel)).trans (congrArg _ ((put_past (by decide +kernel)).trans (congrArg _ (rfl))))))))))))
theorem ini_Session_moments {K : PySem.W.Frag} {C a dx : Addr} {H : Hp} {v0 v1 v2 v3 v4 v5 y : V} {R : Hp → Prop} (hc : Cls K C) (hn : NoAttr K C "moments") (h : H a = some (.ins C dx [("loaded", v0), ("frame_pads", v1), ("changes", v2), ("stop_places", v3), ("watch_places", v4), ("now", v5)])) (q : R (upd H a (.ins C dx [("loaded", v0), ("frame_pads", v1), ("changes", v2), ("stop_places", v3), ("watch_places", v4), ("now", v5), ("moments", y)]))) : ∃ a1 C1 dx1 fs, V.ref a = .ref a1 ∧ H a1 = some (.ins C1 dx1 fs) ∧ Cls K C1 ∧ NoAttr K C1 "moments" ∧ fs.length < 1000 ∧ R (upd H a1 (.ins C1 dx1 (putF "moments" y fs))) := ⟨a, C, dx, _, rfl, h, hc, hn, by show 6 < 1000; decide, by rw [pn_Session_moments]; exact q⟩
structure Ads where
  c_Machine : Addr
  c_Moment : Addr
  c_Session : Addr
  t_INSTRUCTIONS : Addr
  l_INSTRUCTIONS : List Addr
  t_CALLS : Addr
  l_CALLS : List Addr
  t_ROW_CALLS : Addr
  t_HOW_MANY_NUMBERS : Addr
structure Txt (K : PySem.W.Frag) (mg : Str → Option Value) (α : Ads) : Prop where
  c_Machine : Cls K α.c_Machine
  n_Machine_cells : NoAttr K α.c_Machine "cells"
  n_Machine_a : NoAttr K α.c_Machine "a"
  n_Machine_x : NoAttr K α.c_Machine "x"
  n_Machine_place : NoAttr K α.c_Machine "place"
  n_Machine_zero : NoAttr K α.c_Machine "zero"
  n_Machine_carry : NoAttr K α.c_Machine "carry"
  n_Machine_written : NoAttr K α.c_Machine "written"
  c_Moment : Cls K α.c_Moment
  n_Moment_frame : NoAttr K α.c_Moment "frame"
  n_Moment_done : NoAttr K α.c_Moment "done"
  n_Moment_a : NoAttr K α.c_Moment "a"
  n_Moment_x : NoAttr K α.c_Moment "x"
  n_Moment_place : NoAttr K α.c_Moment "place"
  n_Moment_zero : NoAttr K α.c_Moment "zero"
  n_Moment_carry : NoAttr K α.c_Moment "carry"
  n_Moment_cells : NoAttr K α.c_Moment "cells"
  n_Moment_written : NoAttr K α.c_Moment "written"
  c_Session : Cls K α.c_Session
  n_Session_loaded : NoAttr K α.c_Session "loaded"
  n_Session_frame_pads : NoAttr K α.c_Session "frame_pads"
  n_Session_changes : NoAttr K α.c_Session "changes"
  n_Session_stop_places : NoAttr K α.c_Session "stop_places"
  n_Session_watch_places : NoAttr K α.c_Session "watch_places"
  n_Session_now : NoAttr K α.c_Session "now"
  n_Session_moments : NoAttr K α.c_Session "moments"
  g_PLACES : ∃ u, mg "PLACES" = some u ∧ RelV (.int 128) u
  g_VALUES : ∃ u, mg "VALUES" = some u ∧ RelV (.int 256) u
  g_KINDS : ∃ u, mg "KINDS" = some u ∧ RelV (.int 16) u
  g_REST : ∃ u, mg "REST" = some u ∧ RelV (.int 0) u
  g_INSTRUCTIONS : ∃ u, mg "INSTRUCTIONS" = some u ∧ RelV (.ref α.t_INSTRUCTIONS) u
  tab_INSTRUCTIONS : ∀ H : Hp, SqT K H α.t_INSTRUCTIONS (α.l_INSTRUCTIONS.map V.ref)
  nm_INSTRUCTIONS : (["rest", "a_is_n", "a_is_byte", "put_a", "a_is_byte_x_further", "put_a_x_further", "x_is_n", "add_n_to_x", "add_byte", "take_byte", "and_byte", "exclusive_or_byte", "jump", "jump_if_zero", "jump_if_not_zero", "jump_if_carry"] : List Str).map mg = α.l_INSTRUCTIONS.map fun a => some (Value.ref a)
  g_PAD_PLACE : ∃ u, mg "PAD_PLACE" = some u ∧ RelV (.int 127) u
  g_FRAME_LIMIT : ∃ u, mg "FRAME_LIMIT" = some u ∧ RelV (.int 300) u
  g_NO_REASON : ∃ u, mg "NO_REASON" = some u ∧ RelV (.int 0) u
  g_AT_A_STOP : ∃ u, mg "AT_A_STOP" = some u ∧ RelV (.int 1) u
  g_BEHIND_A_WATCHED_WRITE : ∃ u, mg "BEHIND_A_WATCHED_WRITE" = some u ∧ RelV (.int 2) u
  g_MOST_FRAMES : ∃ u, mg "MOST_FRAMES" = some u ∧ RelV (.int 20) u
  g_MOST_CHANGES : ∃ u, mg "MOST_CHANGES" = some u ∧ RelV (.int 20) u
  g_OUT_OF_BOUNDS : ∃ u, mg "OUT_OF_BOUNDS" = some u ∧ RelV (.int (-1)) u
  g_NO_SUCH_INSTRUCTION : ∃ u, mg "NO_SUCH_INSTRUCTION" = some u ∧ RelV (.int (-3)) u
  g_TOO_MANY : ∃ u, mg "TOO_MANY" = some u ∧ RelV (.int (-5)) u
  g_NONE_CHANGED : ∃ u, mg "NONE_CHANGED" = some u ∧ RelV (.int (-7)) u
  g_CALLS : ∃ u, mg "CALLS" = some u ∧ RelV (.ref α.t_CALLS) u
  tab_CALLS : ∀ H : Hp, SqT K H α.t_CALLS (α.l_CALLS.map V.ref)
  nm_CALLS : (["begin", "pads", "step", "back", "stop", "watch", "go", "rewind", "to", "where", "state", "wrote", "poke", "unpoke"] : List Str).map mg = α.l_CALLS.map fun a => some (Value.ref a)
  g_ROW_CALLS : ∃ u, mg "ROW_CALLS" = some u ∧ RelV (.ref α.t_ROW_CALLS) u
  tab_ROW_CALLS : ∀ H : Hp, SqT K H α.t_ROW_CALLS [V.int 0, V.int 1]
  g_HOW_MANY_NUMBERS : ∃ u, mg "HOW_MANY_NUMBERS" = some u ∧ RelV (.ref α.t_HOW_MANY_NUMBERS) u
  dic_HOW_MANY_NUMBERS : KDI K α.t_HOW_MANY_NUMBERS [(2, 1), (3, 1), (4, 2), (5, 2), (6, 0), (7, 0), (8, 1), (9, 0), (10, 0), (11, 1), (12, 2), (13, 0)]
  z_len : mg "len" = none
  z_list : mg "list" = none
  z_int : mg "int" = none
  z_range : mg "range" = none
  z_enumerate : mg "enumerate" = none
  z_min : mg "min" = none
  z_all : mg "all" = none
  z_max : mg "max" = none
  k_Machine : MakEx K mg "Machine" α.c_Machine "Machine.__init__" s_Machine___init__
  m_Machine_byte_at : MetEx K α.c_Machine "byte_at" "Machine.byte_at" s_Machine_byte_at
  m_Machine_put_a_at : MetEx K α.c_Machine "put_a_at" "Machine.put_a_at" s_Machine_put_a_at
  m_Machine_set_a : MetEx K α.c_Machine "set_a" "Machine.set_a" s_Machine_set_a
  m_Machine_set_x : MetEx K α.c_Machine "set_x" "Machine.set_x" s_Machine_set_x
  m_Machine_jump_to : MetEx K α.c_Machine "jump_to" "Machine.jump_to" s_Machine_jump_to
  d_rest : DefEx K mg "rest" s_rest
  d_a_is_n : DefEx K mg "a_is_n" s_a_is_n
  d_a_is_byte : DefEx K mg "a_is_byte" s_a_is_byte
  d_put_a : DefEx K mg "put_a" s_put_a
  d_a_is_byte_x_further : DefEx K mg "a_is_byte_x_further" s_a_is_byte_x_further
  d_put_a_x_further : DefEx K mg "put_a_x_further" s_put_a_x_further
  d_x_is_n : DefEx K mg "x_is_n" s_x_is_n
  d_add_n_to_x : DefEx K mg "add_n_to_x" s_add_n_to_x
  d_add_byte : DefEx K mg "add_byte" s_add_byte
  d_take_byte : DefEx K mg "take_byte" s_take_byte
  d_and_byte : DefEx K mg "and_byte" s_and_byte
  d_exclusive_or_byte : DefEx K mg "exclusive_or_byte" s_exclusive_or_byte
  d_jump : DefEx K mg "jump" s_jump
  d_jump_if_zero : DefEx K mg "jump_if_zero" s_jump_if_zero
  d_jump_if_not_zero : DefEx K mg "jump_if_not_zero" s_jump_if_not_zero
  d_jump_if_carry : DefEx K mg "jump_if_carry" s_jump_if_carry
  d_do_instruction : DefEx K mg "do_instruction" s_do_instruction
  k_Moment : MakEx K mg "Moment" α.c_Moment "Moment.__init__" s_Moment___init__
  m_Moment_all_numbers : MetEx K α.c_Moment "all_numbers" "Moment.all_numbers" s_Moment_all_numbers
  d_group_by_number : DefEx K mg "group_by_number" s_group_by_number
  d_add_moment : DefEx K mg "add_moment" s_add_moment
  d_add_frame : DefEx K mg "add_frame" s_add_frame
  d_moments_of_run : DefEx K mg "moments_of_run" s_moments_of_run
  k_Session : MakEx K mg "Session" α.c_Session "Session.__init__" s_Session___init__
  m_Session_start_over : MetEx K α.c_Session "start_over" "Session.start_over" s_Session_start_over
  m_Session_find_moments : MetEx K α.c_Session "find_moments" "Session.find_moments" s_Session_find_moments
  m_Session_add_pads : MetEx K α.c_Session "add_pads" "Session.add_pads" s_Session_add_pads
  m_Session_change_by_hand : MetEx K α.c_Session "change_by_hand" "Session.change_by_hand" s_Session_change_by_hand
  m_Session_undo_last_change : MetEx K α.c_Session "undo_last_change" "Session.undo_last_change" s_Session_undo_last_change
  m_Session_end_number : MetEx K α.c_Session "end_number" "Session.end_number" s_Session_end_number
  m_Session_moment_now : MetEx K α.c_Session "moment_now" "Session.moment_now" s_Session_moment_now
  m_Session_where_now : MetEx K α.c_Session "where_now" "Session.where_now" s_Session_where_now
  m_Session_reason_at : MetEx K α.c_Session "reason_at" "Session.reason_at" s_Session_reason_at
  m_Session_last_write : MetEx K α.c_Session "last_write" "Session.last_write" s_Session_last_write
  d_are_bytes : DefEx K mg "are_bytes" s_are_bytes
  d_is_place : DefEx K mg "is_place" s_is_place
  d_begin : DefEx K mg "begin" s_begin
  d_pads : DefEx K mg "pads" s_pads
  d_step : DefEx K mg "step" s_step
  d_back : DefEx K mg "back" s_back
  d_tell_place : DefEx K mg "tell_place" s_tell_place
  d_stop : DefEx K mg "stop" s_stop
  d_watch : DefEx K mg "watch" s_watch
  d_arrive : DefEx K mg "arrive" s_arrive
  d_go : DefEx K mg "go" s_go
  d_rewind : DefEx K mg "rewind" s_rewind
  d_to : DefEx K mg "to" s_to
  d_where : DefEx K mg "where" s_where
  d_state : DefEx K mg "state" s_state
  d_wrote : DefEx K mg "wrote" s_wrote
  d_poke : DefEx K mg "poke" s_poke
  d_unpoke : DefEx K mg "unpoke" s_unpoke
  d_answer_call : DefEx K mg "answer_call" s_answer_call
  d_numbers_start : DefEx K mg "numbers_start" s_numbers_start
  d_numbers_end : DefEx K mg "numbers_end" s_numbers_end
  d_answers : DefEx K mg "answers" s_answers
theorem txt_mk {K : PySem.W.Frag} {mg : Str → Option Value} {c_Machine : Addr} {c_Moment : Addr} {c_Session : Addr} {t_INSTRUCTIONS : Addr} {l_INSTRUCTIONS : List Addr} {t_CALLS : Addr} {l_CALLS : List Addr} {t_ROW_CALLS : Addr} {t_HOW_MANY_NUMBERS : Addr} (f_c_Machine : Cls K c_Machine) (f_n_Machine_cells : PySem.W.findIn K (.ref c_Machine) "cells" = some none) (f_n_Machine_a : PySem.W.findIn K (.ref c_Machine) "a" = some none) (f_n_Machine_x : PySem.W.findIn K (.ref c_Machine) "x" = some none) (f_n_Machine_place : PySem.W.findIn K (.ref c_Machine) "place" = some none) (f_n_Machine_zero : PySem.W.findIn K (.ref c_Machine) "zero" = some none) (f_n_Machine_carry : PySem.W.findIn K (.ref c_Machine) "carry" = some none) (f_n_Machine_written : PySem.W.findIn K (.ref c_Machine) "written" = some none) (f_c_Moment : Cls K c_Moment) (f_n_Moment_frame : PySem.W.findIn K (.ref c_Moment) "frame" = some none) (f_n_Moment_done : PySem.W.findIn K (.ref c_Moment) "done" = some none) (f_n_Moment_a : PySem.W.findIn K (.ref c_Moment) "a" = some none) (f_n_Moment_x : PySem.W.findIn K (.ref c_Moment) "x" = some none) (f_n_Moment_place : PySem.W.findIn K (.ref c_Moment) "place" = some none) (f_n_Moment_zero : PySem.W.findIn K (.ref c_Moment) "zero" = some none) (f_n_Moment_carry : PySem.W.findIn K (.ref c_Moment) "carry" = some none) (f_n_Moment_cells : PySem.W.findIn K (.ref c_Moment) "cells" = some none) (f_n_Moment_written : PySem.W.findIn K (.ref c_Moment) "written" = some none) (f_c_Session : Cls K c_Session) (f_n_Session_loaded : PySem.W.findIn K (.ref c_Session) "loaded" = some none) (f_n_Session_frame_pads : PySem.W.findIn K (.ref c_Session) "frame_pads" = some none) (f_n_Session_changes : PySem.W.findIn K (.ref c_Session) "changes" = some none) (f_n_Session_stop_places : PySem.W.findIn K (.ref c_Session) "stop_places" = some none) (f_n_Session_watch_places : PySem.W.findIn K (.ref c_Session) "watch_places" = some none) (f_n_Session_now : PySem.W.findIn K (.ref c_Session) "now" = some none) (f_n_Session_moments : PySem.W.findIn K (.ref c_Session) "moments" = some none) (f_g_PLACES : ∃ u, mg "PLACES" = some u ∧ RelV (.int 128) u) (f_g_VALUES : ∃ u, mg "VALUES" = some u ∧ RelV (.int 256) u) (f_g_KINDS : ∃ u, mg "KINDS" = some u ∧ RelV (.int 16) u) (f_g_REST : ∃ u, mg "REST" = some u ∧ RelV (.int 0) u) (f_g_INSTRUCTIONS : ∃ u, mg "INSTRUCTIONS" = some u ∧ RelV (.ref t_INSTRUCTIONS) u) (f_tab_INSTRUCTIONS : ∀ H : Hp, SqT K H t_INSTRUCTIONS (l_INSTRUCTIONS.map V.ref)) (f_nm_INSTRUCTIONS : (["rest", "a_is_n", "a_is_byte", "put_a", "a_is_byte_x_further", "put_a_x_further", "x_is_n", "add_n_to_x", "add_byte", "take_byte", "and_byte", "exclusive_or_byte", "jump", "jump_if_zero", "jump_if_not_zero", "jump_if_carry"] : List Str).map mg = l_INSTRUCTIONS.map fun a => some (Value.ref a)) (f_g_PAD_PLACE : ∃ u, mg "PAD_PLACE" = some u ∧ RelV (.int 127) u) (f_g_FRAME_LIMIT : ∃ u, mg "FRAME_LIMIT" = some u ∧ RelV (.int 300) u) (f_g_NO_REASON : ∃ u, mg "NO_REASON" = some u ∧ RelV (.int 0) u) (f_g_AT_A_STOP : ∃ u, mg "AT_A_STOP" = some u ∧ RelV (.int 1) u) (f_g_BEHIND_A_WATCHED_WRITE : ∃ u, mg "BEHIND_A_WATCHED_WRITE" = some u ∧ RelV (.int 2) u) (f_g_MOST_FRAMES : ∃ u, mg "MOST_FRAMES" = some u ∧ RelV (.int 20) u) (f_g_MOST_CHANGES : ∃ u, mg "MOST_CHANGES" = some u ∧ RelV (.int 20) u) (f_g_OUT_OF_BOUNDS : ∃ u, mg "OUT_OF_BOUNDS" = some u ∧ RelV (.int (-1)) u) (f_g_NO_SUCH_INSTRUCTION : ∃ u, mg "NO_SUCH_INSTRUCTION" = some u ∧ RelV (.int (-3)) u) (f_g_TOO_MANY : ∃ u, mg "TOO_MANY" = some u ∧ RelV (.int (-5)) u) (f_g_NONE_CHANGED : ∃ u, mg "NONE_CHANGED" = some u ∧ RelV (.int (-7)) u) (f_g_CALLS : ∃ u, mg "CALLS" = some u ∧ RelV (.ref t_CALLS) u) (f_tab_CALLS : ∀ H : Hp, SqT K H t_CALLS (l_CALLS.map V.ref)) (f_nm_CALLS : (["begin", "pads", "step", "back", "stop", "watch", "go", "rewind", "to", "where", "state", "wrote", "poke", "unpoke"] : List Str).map mg = l_CALLS.map fun a => some (Value.ref a)) (f_g_ROW_CALLS : ∃ u, mg "ROW_CALLS" = some u ∧ RelV (.ref t_ROW_CALLS) u) (f_tab_ROW_CALLS : ∀ H : Hp, SqT K H t_ROW_CALLS [V.int 0, V.int 1]) (f_g_HOW_MANY_NUMBERS : ∃ u, mg "HOW_MANY_NUMBERS" = some u ∧ RelV (.ref t_HOW_MANY_NUMBERS) u) (f_dic_HOW_MANY_NUMBERS : KDI K t_HOW_MANY_NUMBERS [(2, 1), (3, 1), (4, 2), (5, 2), (6, 0), (7, 0), (8, 1), (9, 0), (10, 0), (11, 1), (12, 2), (13, 0)]) (f_z_len : mg "len" = none) (f_z_list : mg "list" = none) (f_z_int : mg "int" = none) (f_z_range : mg "range" = none) (f_z_enumerate : mg "enumerate" = none) (f_z_min : mg "min" = none) (f_z_all : mg "all" = none) (f_z_max : mg "max" = none) (f_k_Machine : MakEx K mg "Machine" c_Machine "Machine.__init__" s_Machine___init__) (f_m_Machine_byte_at : MetEx K c_Machine "byte_at" "Machine.byte_at" s_Machine_byte_at) (f_m_Machine_put_a_at : MetEx K c_Machine "put_a_at" "Machine.put_a_at" s_Machine_put_a_at) (f_m_Machine_set_a : MetEx K c_Machine "set_a" "Machine.set_a" s_Machine_set_a) (f_m_Machine_set_x : MetEx K c_Machine "set_x" "Machine.set_x" s_Machine_set_x) (f_m_Machine_jump_to : MetEx K c_Machine "jump_to" "Machine.jump_to" s_Machine_jump_to) (f_d_rest : DefEx K mg "rest" s_rest) (f_d_a_is_n : DefEx K mg "a_is_n" s_a_is_n) (f_d_a_is_byte : DefEx K mg "a_is_byte" s_a_is_byte) (f_d_put_a : DefEx K mg "put_a" s_put_a) (f_d_a_is_byte_x_further : DefEx K mg "a_is_byte_x_further" s_a_is_byte_x_further) (f_d_put_a_x_further : DefEx K mg "put_a_x_further" s_put_a_x_further) (f_d_x_is_n : DefEx K mg "x_is_n" s_x_is_n) (f_d_add_n_to_x : DefEx K mg "add_n_to_x" s_add_n_to_x) (f_d_add_byte : DefEx K mg "add_byte" s_add_byte) (f_d_take_byte : DefEx K mg "take_byte" s_take_byte) (f_d_and_byte : DefEx K mg "and_byte" s_and_byte) (f_d_exclusive_or_byte : DefEx K mg "exclusive_or_byte" s_exclusive_or_byte) (f_d_jump : DefEx K mg "jump" s_jump) (f_d_jump_if_zero : DefEx K mg "jump_if_zero" s_jump_if_zero) (f_d_jump_if_not_zero : DefEx K mg "jump_if_not_zero" s_jump_if_not_zero) (f_d_jump_if_carry : DefEx K mg "jump_if_carry" s_jump_if_carry) (f_d_do_instruction : DefEx K mg "do_instruction" s_do_instruction) (f_k_Moment : MakEx K mg "Moment" c_Moment "Moment.__init__" s_Moment___init__) (f_m_Moment_all_numbers : MetEx K c_Moment "all_numbers" "Moment.all_numbers" s_Moment_all_numbers) (f_d_group_by_number : DefEx K mg "group_by_number" s_group_by_number) (f_d_add_moment : DefEx K mg "add_moment" s_add_moment) (f_d_add_frame : DefEx K mg "add_frame" s_add_frame) (f_d_moments_of_run : DefEx K mg "moments_of_run" s_moments_of_run) (f_k_Session : MakEx K mg "Session" c_Session "Session.__init__" s_Session___init__) (f_m_Session_start_over : MetEx K c_Session "start_over" "Session.start_over" s_Session_start_over) (f_m_Session_find_moments : MetEx K c_Session "find_moments" "Session.find_moments" s_Session_find_moments) (f_m_Session_add_pads : MetEx K c_Session "add_pads" "Session.add_pads" s_Session_add_pads) (f_m_Session_change_by_hand : MetEx K c_Session "change_by_hand" "Session.change_by_hand" s_Session_change_by_hand) (f_m_Session_undo_last_change : MetEx K c_Session "undo_last_change" "Session.undo_last_change" s_Session_undo_last_change) (f_m_Session_end_number : MetEx K c_Session "end_number" "Session.end_number" s_Session_end_number) (f_m_Session_moment_now : MetEx K c_Session "moment_now" "Session.moment_now" s_Session_moment_now) (f_m_Session_where_now : MetEx K c_Session "where_now" "Session.where_now" s_Session_where_now) (f_m_Session_reason_at : MetEx K c_Session "reason_at" "Session.reason_at" s_Session_reason_at) (f_m_Session_last_write : MetEx K c_Session "last_write" "Session.last_write" s_Session_last_write) (f_d_are_bytes : DefEx K mg "are_bytes" s_are_bytes) (f_d_is_place : DefEx K mg "is_place" s_is_place) (f_d_begin : DefEx K mg "begin" s_begin) (f_d_pads : DefEx K mg "pads" s_pads) (f_d_step : DefEx K mg "step" s_step) (f_d_back : DefEx K mg "back" s_back) (f_d_tell_place : DefEx K mg "tell_place" s_tell_place) (f_d_stop : DefEx K mg "stop" s_stop) (f_d_watch : DefEx K mg "watch" s_watch) (f_d_arrive : DefEx K mg "arrive" s_arrive) (f_d_go : DefEx K mg "go" s_go) (f_d_rewind : DefEx K mg "rewind" s_rewind) (f_d_to : DefEx K mg "to" s_to) (f_d_where : DefEx K mg "where" s_where) (f_d_state : DefEx K mg "state" s_state) (f_d_wrote : DefEx K mg "wrote" s_wrote) (f_d_poke : DefEx K mg "poke" s_poke) (f_d_unpoke : DefEx K mg "unpoke" s_unpoke) (f_d_answer_call : DefEx K mg "answer_call" s_answer_call) (f_d_numbers_start : DefEx K mg "numbers_start" s_numbers_start) (f_d_numbers_end : DefEx K mg "numbers_end" s_numbers_end) (f_d_answers : DefEx K mg "answers" s_answers) : ∃ α, Txt K mg α := ⟨⟨c_Machine, c_Moment, c_Session, t_INSTRUCTIONS, l_INSTRUCTIONS, t_CALLS, l_CALLS, t_ROW_CALLS, t_HOW_MANY_NUMBERS⟩, ⟨f_c_Machine, f_n_Machine_cells, f_n_Machine_a, f_n_Machine_x, f_n_Machine_place, f_n_Machine_zero, f_n_Machine_carry, f_n_Machine_written, f_c_Moment, f_n_Moment_frame, f_n_Moment_done, f_n_Moment_a, f_n_Moment_x, f_n_Moment_place, f_n_Moment_zero, f_n_Moment_carry, f_n_Moment_cells, f_n_Moment_written, f_c_Session, f_n_Session_loaded, f_n_Session_frame_pads, f_n_Session_changes, f_n_Session_stop_places, f_n_Session_watch_places, f_n_Session_now, f_n_Session_moments, f_g_PLACES, f_g_VALUES, f_g_KINDS, f_g_REST, f_g_INSTRUCTIONS, f_tab_INSTRUCTIONS, f_nm_INSTRUCTIONS, f_g_PAD_PLACE, f_g_FRAME_LIMIT, f_g_NO_REASON, f_g_AT_A_STOP, f_g_BEHIND_A_WATCHED_WRITE, f_g_MOST_FRAMES, f_g_MOST_CHANGES, f_g_OUT_OF_BOUNDS, f_g_NO_SUCH_INSTRUCTION, f_g_TOO_MANY, f_g_NONE_CHANGED, f_g_CALLS, f_tab_CALLS, f_nm_CALLS, f_g_ROW_CALLS, f_tab_ROW_CALLS, f_g_HOW_MANY_NUMBERS, f_dic_HOW_MANY_NUMBERS, f_z_len, f_z_list, f_z_int, f_z_range, f_z_enumerate, f_z_min, f_z_all, f_z_max, f_k_Machine, f_m_Machine_byte_at, f_m_Machine_put_a_at, f_m_Machine_set_a, f_m_Machine_set_x, f_m_Machine_jump_to, f_d_rest, f_d_a_is_n, f_d_a_is_byte, f_d_put_a, f_d_a_is_byte_x_further, f_d_put_a_x_further, f_d_x_is_n, f_d_add_n_to_x, f_d_add_byte, f_d_take_byte, f_d_and_byte, f_d_exclusive_or_byte, f_d_jump, f_d_jump_if_zero, f_d_jump_if_not_zero, f_d_jump_if_carry, f_d_do_instruction, f_k_Moment, f_m_Moment_all_numbers, f_d_group_by_number, f_d_add_moment, f_d_add_frame, f_d_moments_of_run, f_k_Session, f_m_Session_start_over, f_m_Session_find_moments, f_m_Session_add_pads, f_m_Session_change_by_hand, f_m_Session_undo_last_change, f_m_Session_end_number, f_m_Session_moment_now, f_m_Session_where_now, f_m_Session_reason_at, f_m_Session_last_write, f_d_are_bytes, f_d_is_place, f_d_begin, f_d_pads, f_d_step, f_d_back, f_d_tell_place, f_d_stop, f_d_watch, f_d_arrive, f_d_go, f_d_rewind, f_d_to, f_d_where, f_d_state, f_d_wrote, f_d_poke, f_d_unpoke, f_d_answer_call, f_d_numbers_start, f_d_numbers_end, f_d_answers⟩⟩
section
variable {P : Program} {w : World} {K : PySem.W.Frag} {mg : Str → Option Value} {base : Heap}
/-- the body of a def, in its frame -/
abbrev BodyOk (P : Program) (w : World) (K : PySem.W.Frag) (mg : Str → Option Value) (base : Heap) (N : List Str) (qual : Str) (st : Stmt) (k : Nat) (sp : Sp) : Prop := ∀ (f : Addr) (cdv : Value) (A : Around) (outer : List Env) (s : Shared) (H : Hp) (vs : List V) (Q : VK) (E : XK), Room k (A.deeper (envOfC qual (C8.fnScope st) s.heap.objs.size f cdv)) → sp vs H Q E →
  ∃ t, PSs (cxOf C8.CX0 P w K mg base N qual (C8.fnScope st) f cdv A outer s H E).nox (C8.fnBody st) t ∧ t { nx := fun _ H' => Q .non H', rt := Q } (L2.start N vs) H
theorem cal_of {x : Str} {st : Stmt} {N ps : List Str} {k : Nat} {sp : Sp} (D : DefEx K mg x st) (S : FnScope N ps (C8.fnScope st)) (bi : ∀ {f : Addr} {fd : FuncData}, C8.Fun K x x st f fd → fd.defaults = .none → Binds K fd ps []) (len : ∀ vs H Q E, sp vs H Q E → vs.length = ps.length)
    (hb : BodyOk P w K mg base N x st k sp) : C8.Cal P w K mg base (k + 1) x sp [] := by
  obtain ⟨f, fd, F, df⟩ := D.ex
  exact C8.cal0 F (bi F.fn df) .nil S len (hb f)
theorem met_of {C : Addr} {x qual : Str} {st : Stmt} {N ps : List Str} {k : Nat} {sp : Sp} (D : MetEx K C x qual st) (c : Cls K C) (S : FnScope N ps (C8.fnScope st)) (bi : ∀ {f : Addr} {fd : FuncData}, C8.Fun K x qual st f fd → fd.defaults = .none → Binds K fd ps []) (len : ∀ vs H Q E, sp vs H Q E → vs.length = ps.length)
    (hb : BodyOk P w K mg base N qual st k sp) : C8.Met P w K mg base (k + 1) C x sp [] := by
  obtain ⟨f, fd, F, me, df⟩ := D.ex
  exact C8.met0 c me F (bi F df) S len (hb f)
theorem mak_of {C : Addr} {x qual : Str} {st : Stmt} {N ps : List Str} {k : Nat} {sp : Sp} (D : MakEx K mg x C qual st) (S : FnScope N ps (C8.fnScope st)) (bi : ∀ {f : Addr} {fd : FuncData}, C8.Fun K "__init__" qual st f fd → fd.defaults = .none → Binds K fd ps []) (len : ∀ vs H Q E, sp vs H Q E → vs.length = ps.length)
    (hb : BodyOk P w K mg base N qual st k sp) : C8.Mak P w K mg base (k + 1) x C sp [] := by
  obtain ⟨f, fd, F, M, hm, df⟩ := D.ex
  exact C8.mak0 M hm F (bi F df) .nil S len (hb f)
/-- a def by the address that its name holds -/
theorem cal_at {k : Nat} {x : Str} {sp : Sp} {a : Addr} (c : C8.Cal P w K mg base k x sp []) (h : mg x = some (.ref a)) : C8.CalAt P w K mg base k a sp := by
  obtain ⟨f, fd, ps, ds, F, hm, kp, b, d⟩ := c.ex
  cases d
  have e : f = a := by
    rw [hm] at h
    injection Option.some.inj h
  subst e
  exact ⟨fd, ps, F, kp, b⟩
end


/-! ### the facts, from what the end finds -/
section
variable {K : PySem.W.Frag} {h : Heap} {mg : Str → Option Value}
theorem def_mk {x : Str} {st : Stmt} {f : Addr} {oc : Value} {od an : Option Addr} {osl : Array (Option Value)} {kV doc pm cdv ct : Value} (X : K.In h) (G : h.Ns mainGlobals mg) (a : PySem.W.nsIn K mainGlobals x = some (some (.ref f)))
    (l : K.lookup f = some ⟨oc, od, .func (PySem.W.fnOf x x (C8.fnArgs st) (C8.fnBody st) (C8.fnScope st) .none kV doc pm an cdv ct), osl⟩) (c : PySem.W.codeIn K cdv x = true) (k : PySem.W.keepIn K (.ref f) = true) : DefEx K mg x st :=
  ⟨f, _, ⟨⟨oc, od, .none, kV, doc, pm, an, cdv, ct, osl, rfl, l, c⟩, PySem.W.mg_of X G a, k⟩, rfl⟩
theorem met_mk {C : Addr} {x qual : Str} {st : Stmt} {f : Addr} {oc : Value} {od an : Option Addr} {osl : Array (Option Value)} {kV doc pm cdv ct : Value} (a : PySem.W.findIn K (.ref C) x = some (some (.ref f))) (i : PySem.W.isFn K (.ref f) = true)
    (l : K.lookup f = some ⟨oc, od, .func (PySem.W.fnOf x qual (C8.fnArgs st) (C8.fnBody st) (C8.fnScope st) .none kV doc pm an cdv ct), osl⟩) (c : PySem.W.codeIn K cdv qual = true) (k : PySem.W.keepIn K (.ref f) = true) : MetEx K C x qual st :=
  ⟨f, _, ⟨oc, od, .none, kV, doc, pm, an, cdv, ct, osl, rfl, l, c⟩, ⟨a, i, k⟩, rfl⟩
theorem mak_mk {C : Addr} {x qual : Str} {st : Stmt} {f : Addr} {oc : Value} {od an : Option Addr} {osl : Array (Option Value)} {kV doc pm cdv ct : Value} (X : K.In h) (G : h.Ns mainGlobals mg) (g : PySem.W.nsIn K mainGlobals x = some (some (.ref C))) (a : PySem.W.findIn K (.ref C) "__init__" = some (some (.ref f))) (i : PySem.W.isFn K (.ref f) = true)
    (l : K.lookup f = some ⟨oc, od, .func (PySem.W.fnOf "__init__" qual (C8.fnArgs st) (C8.fnBody st) (C8.fnScope st) .none kV doc pm an cdv ct), osl⟩) (c : PySem.W.codeIn K cdv qual = true) (mk : PySem.W.makesIn K C = true) (kc : PySem.W.keepIn K (.ref C) = true) : MakEx K mg x C qual st :=
  ⟨f, _, ⟨oc, od, .none, kV, doc, pm, an, cdv, ct, osl, rfl, l, c⟩, ⟨mk, a, i, kc⟩, PySem.W.mg_of X G g, rfl⟩
theorem glob_mk {x : Str} {u : Value} {v : V} (X : K.In h) (G : h.Ns mainGlobals mg) (a : PySem.W.nsIn K mainGlobals x = some (some u)) (r : RelV v u) : ∃ u, mg x = some u ∧ RelV v u := ⟨u, PySem.W.mg_of X G a, r⟩
theorem tab_mk {t : Addr} {xs : List V} {its : Array Value} {n : Nat} {dd : Option Addr} {sl : Array (Option Value)} (l : K.lookup t = some ⟨.type "tuple", dd, .seq its n, sl⟩) (hz : decide (its.size ≤ sizeLine) = true) (r : Vals xs its.toList) (H : Hp) : SqT K H t xs :=
  Or.inr ⟨_, its, n, l, rfl, rfl, of_decide_eq_true hz, r⟩
theorem vals_refs : ∀ l : List Addr, Vals (l.map V.ref) (l.map Value.ref)
  | [] => .nil
  | _ :: r => .cons rfl (vals_refs r)
theorem tabF_mk {t : Addr} {us : List Addr} {its : Array Value} {n : Nat} {dd : Option Addr} {sl : Array (Option Value)} (l : K.lookup t = some ⟨.type "tuple", dd, .seq its n, sl⟩) (e : its.toList = us.map Value.ref) (hz : decide (us.length ≤ sizeLine) = true) (H : Hp) : SqT K H t (us.map V.ref) :=
  Or.inr ⟨_, its, n, l, rfl, rfl, by
    have q := of_decide_eq_true hz
    have e2 := congrArg List.length e
    rw [Array.length_toList, List.length_map] at e2
    omega, by rw [e]; exact vals_refs us⟩
theorem nm_cons {x : Str} {xs : List Str} {a : Addr} {us : List Addr} (X : K.In h) (G : h.Ns mainGlobals mg) (e : PySem.W.nsIn K mainGlobals x = some (some (.ref a))) (r : xs.map mg = us.map fun a => some (Value.ref a)) : (x :: xs).map mg = (a :: us).map fun a => some (Value.ref a) := by
  rw [List.map_cons, List.map_cons, PySem.W.mg_of X G e, r]
theorem dic_mk {t : Addr} {es : Array DictEntry} {n : Nat} {tb : List (Int × Int)} (l : K.lookup t = some ⟨.type "dict", none, .dict es n, #[]⟩)
    (hk : (es.toList.all fun e => match e.key with | .int x _ => decide (e.hash = hashInt x) | _ => false) = true)
    (hv : (tb.all fun p => match findBy Value.isInt es p.1 with | some (.int y _) => decide (y = p.2) | _ => false) = true) : KDI K t tb := by
  refine ⟨es, n, l, fun e he => ?_, fun k v e => ?_⟩
  · have q := List.all_eq_true.mp hk e (Array.mem_toList_iff.mpr he)
    split at q
    · rename_i x t hx
      exact ⟨x, t, hx, of_decide_eq_true q⟩
    · cases q
  · have m : (k, v) ∈ tb := by
      have := List.lookup_eq_some_iff.mp e
      obtain ⟨l1, l2, rfl, _⟩ := this
      simp
    have q := List.all_eq_true.mp hv (k, v) m
    dsimp only at q
    split at q
    · rename_i y t hy
      have e2 : y = v := of_decide_eq_true q
      subst e2
      exact ⟨_, hy, t, rfl⟩
    · cases q
end
/-- d[k] of a written dict with whole numbers as keys -/
def rIxK (K : PySem.W.Frag) : R2 := fun x y H Q => ∃ p tb k v, x = .ref p ∧ y = .int k ∧ KDI K p tb ∧ tb.lookup k = some v ∧ Q (.int v) H
theorem ix_kdi {X : Cx} : IxR X (rIxK X.K) := by
  intro value slice pins s σ H x y v u Q I rx ry h hs
  obtain ⟨p, tb, k, r, rfl, rfl, ⟨es, n, hl, hk, hf⟩, e, q⟩ := h
  obtain rfl : v = Value.ref p := rx
  obtain ⟨t, rfl⟩ := ry
  obtain ⟨u0, hu, ru⟩ := hf k r e
  have hm : s.heap.MapOf (intKind X.prog X.w) p (fun k => findBy Value.isInt es k) := ⟨_, es, n, I.kIn _ _ hl, ⟨rfl, rfl, rfl⟩, rfl, fun e he => by
    obtain ⟨x, t, e1, e2⟩ := hk e he
    exact ⟨x, by rw [e1]; exact intKind_is X.prog X.w x t, e2⟩, fun _ => rfl⟩
  exact tail_any hm.typeIs slot_dict_getitem.lookup (wpAny_getItem_of (intKind_is X.prog X.w k t) hm hu ⟨.int r, H, I.tok _, ru, q⟩) hs
end BR
/-! ## Mach1 -/
set_option Elab.async false
set_option maxRecDepth 100000
set_option maxHeartbeats 2000000
set_option linter.unusedVariables false
namespace BR
open PySem PySem.Spec PyProof.Rows L2

/-! ### the machine's object -/
abbrev nV (n : Nat) : V := .int (n : Int)
def wV : Option Nat → V
  | none => .non
  | some n => nV n
abbrev Mach := CsBase.Mach
structure Good (M : Mach) : Prop where
  sz : M.mem.size = 128
  byt : ∀ i : Nat, M.mem.getD i 0 < 256
  a : M.a < 256
  x : M.x < 256
  pc : M.pc < 128
abbrev mF (c : Addr) (M : Mach) (w : Option Nat) : List (Str × V) := F_Machine (.ref c) (nV M.a) (nV M.x) (nV M.pc) (.bl M.z) (.bl M.c) (wV w)
structure MAt (C : Addr) (H : Hp) (m c dx : Addr) (M : Mach) (w : Option Nat) : Prop where
  obj : H m = some (.ins C dx (mF c M w))
  cel : H c = some (.lst (M.mem.toList.map nV))
  good : Good M
theorem MAt.ne {C : Addr} {H : Hp} {m c dx : Addr} {M : Mach} {w : Option Nat} (h : MAt C H m c dx M w) : c ≠ m := fun e => by
  have a := h.obj
  rw [← e, h.cel] at a
  cases a
/-- all but the machine and its bytes is as it was -/
def Fr (m c : Addr) (H H' : Hp) : Prop := ∀ b o, H b = some o → b ≠ m → b ≠ c → H' b = some o
theorem Fr.refl {m c : Addr} {H : Hp} : Fr m c H H := fun _ _ h _ _ => h
theorem Fr.trans {m c : Addr} {H H1 H2 : Hp} (a : Fr m c H H1) (b : Fr m c H1 H2) : Fr m c H H2 := fun x o h n1 n2 => b x o (a x o h n1 n2) n1 n2
theorem Fr.m {m c : Addr} {H H1 : Hp} {o : HO} (a : Fr m c H H1) : Fr m c H (upd H1 m o) := fun x u h n1 n2 => by
  rw [upd_ne n1]
  exact a x u h n1 n2
theorem Fr.c {m c : Addr} {H H1 : Hp} {o : HO} (a : Fr m c H H1) : Fr m c H (upd H1 c o) := fun x u h n1 n2 => by
  rw [upd_ne n2]
  exact a x u h n1 n2
/-- the attributes changed, the bytes as they were -/
theorem MAt.upd {C : Addr} {H H1 : Hp} {m c dx : Addr} {M M1 : Mach} {w w1 : Option Nat} {fs : List (Str × V)} (h : MAt C H m c dx M w) (hc : H1 c = H c) (e : fs = mF c M1 w1) (em : M1.mem = M.mem) (g : Good M1) : MAt C (upd H1 m (.ins C dx fs)) m c dx M1 w1 :=
  ⟨by rw [upd_same, e], by rw [upd_ne h.ne, hc, h.cel, em], g⟩


/-! ### promises -/
def spByte (C : Addr) : Sp := fun vs H Q _ => ∃ (m c dx : Addr) (M : Mach) (w : Option Nat) (p : Nat), vs = [.ref m, nV p] ∧ MAt C H m c dx M w ∧ Q (nV (CsBase.byteAt M p)) H
/-- what changes the machine: from M and a whole number z -/
def spZ (C : Addr) (g : Mach → Int → Mach) : Sp := fun vs H Q _ => ∃ (m c dx : Addr) (M : Mach) (w : Option Nat) (z : Int), vs = [.ref m, .int z] ∧ MAt C H m c dx M w ∧
  ∀ H' : Hp, MAt C H' m c dx (g M z) w → Fr m c H H' → Q .non H'
/-- .. from M and a number n; gw: the place last written behind it -/
def spN (C : Addr) (g : Mach → Nat → Mach) (gw : Mach → Nat → Option Nat → Option Nat) : Sp := fun vs H Q _ => ∃ (m c dx : Addr) (M : Mach) (w : Option Nat) (n : Nat), vs = [.ref m, nV n] ∧ MAt C H m c dx M w ∧
  ∀ H' : Hp, MAt C H' m c dx (g M n) (gw M n w) → Fr m c H H' → Q .non H'
def setA (M : Mach) (z : Int) : Mach := { M with a := (z % 256).toNat, z := decide (z % 256 = 0) }
def setX (M : Mach) (z : Int) : Mach := { M with x := (z % 256).toNat, z := decide (z % 256 = 0) }
def jumpTo (M : Mach) (n : Nat) : Mach := { M with pc := n % 128 }
def putA (M : Mach) (n : Nat) : Mach := CsBase.put M n M.a
abbrev keepW : Mach → Nat → Option Nat → Option Nat := fun _ _ w => w
abbrev putW : Mach → Nat → Option Nat → Option Nat := fun _ n _ => some (n % 128)
theorem mod_nat (n k : Nat) : (n : Int) % (k : Int) = ((n % k : Nat) : Int) := rfl
theorem cell_at {M : Mach} (g : Good M) (p : Nat) : (M.mem.toList.map nV)[p % 128]? = some (nV (CsBase.byteAt M p)) := by
  have h : p % 128 < M.mem.size := by
    rw [g.sz]
    exact Nat.mod_lt _ (by decide)
  rw [List.getElem?_map, List.getElem?_eq_getElem (by rw [Array.length_toList]; exact h)]
  show some (nV M.mem.toList[p % 128]) = some (nV (M.mem.getD (p % 128) 0))
  rw [Array.getElem_toList, Array.getD_eq_getD_getElem?, Array.getElem?_eq_getElem h]
  rfl
theorem Good.mod {M : Mach} (g : Good M) (p : Nat) : CsBase.byteAt M p < 256 := g.byt _
theorem good_put {M : Mach} (g : Good M) (p v : Nat) : Good (CsBase.put M p v) := by
  refine ⟨?_, fun i => ?_, g.a, g.x, g.pc⟩
  · show (M.mem.setIfInBounds _ _).size = 128
    rw [Array.size_setIfInBounds]
    exact g.sz
  · show (M.mem.setIfInBounds (p % 128) (v % 256)).getD i 0 < 256
    rw [Array.getD_eq_getD_getElem?, Array.getElem?_setIfInBounds]
    split
    · split
      · show v % 256 < 256
        exact Nat.mod_lt _ (by decide)
      · show (0 : Nat) < 256
        decide
    · rw [← Array.getD_eq_getD_getElem?]
      exact g.byt i
theorem good_setA {M : Mach} (g : Good M) (z : Int) : Good (setA M z) := ⟨g.sz, g.byt, by
  have e0 : (0 : Int) ≤ z % 256 := Int.emod_nonneg _ (by decide)
  have e1 : z % 256 < 256 := Int.emod_lt_of_pos _ (by decide)
  show (z % 256).toNat < 256
  omega, g.x, g.pc⟩
theorem good_setX {M : Mach} (g : Good M) (z : Int) : Good (setX M z) := ⟨g.sz, g.byt, g.a, by
  have e0 : (0 : Int) ≤ z % 256 := Int.emod_nonneg _ (by decide)
  have e1 : z % 256 < 256 := Int.emod_lt_of_pos _ (by decide)
  show (z % 256).toNat < 256
  omega, g.pc⟩
theorem good_jump {M : Mach} (g : Good M) (n : Nat) : Good (jumpTo M n) := ⟨g.sz, g.byt, g.a, g.x, Nat.mod_lt _ (by decide)⟩
theorem good_c {M : Mach} (g : Good M) (c : Bool) : Good { M with c := c } := ⟨g.sz, g.byt, g.a, g.x, g.pc⟩

section
variable {P : Program} {w : World} {K : PySem.W.Frag} {mg : Str → Option Value} {base : Heap} {α : Ads}

theorem ok_set_a (T : Txt K mg α) : C8.Met P w K mg base 1 α.c_Machine "set_a" (spZ α.c_Machine setA) [] := by
  refine met_of T.m_Machine_set_a T.c_Machine sc_Machine_set_a bi_Machine_set_a (fun vs H Q E h => ?_) fun f cdv A outer s H vs Q E hr h => ⟨_, (pss_cons (ps_fld (pv 0) (pe_op op_mod (pv 1) (C8.pe_gc (by rfl) T.g_VALUES)) rfl)
    (pss_one (ps_fld (pv 0) (pe_cmpR op_eq (pe_fld (pv 0) rfl) pe_int (nomark _)) rfl))), ?_⟩
  · obtain ⟨m, c, dx, M, w, z, rfl, _⟩ := h
    rfl
  · obtain ⟨m, c, dx, M, w, z, rfl, h, k⟩ := h
    have e2 : (((z % 256).toNat : Nat) : Int) = z % 256 := Int.toNat_of_nonneg (Int.emod_nonneg _ (by decide))
    refine ⟨_, rfl, _, _, rfl, rfl, (by show (0 : Int) < 256; decide), _, rfl, wr_Machine_a T.c_Machine T.n_Machine_a h.obj ?_⟩
    refine ⟨_, rfl, _, _, _, _, _, rfl, upd_same, T.c_Machine, T.n_Machine_a, gt_Machine_a, rfl, _, rfl, wr_Machine_zero T.c_Machine T.n_Machine_zero upd_same ?_⟩
    refine k _ (h.upd (upd_ne h.ne) ?_ rfl (good_setA h.good z)) Fr.refl.m.m
    show F_Machine _ _ _ _ _ _ _ = F_Machine _ _ _ _ _ _ _
    simp only [setA, nV, e2, V.int.injEq]
theorem ok_set_x (T : Txt K mg α) : C8.Met P w K mg base 1 α.c_Machine "set_x" (spZ α.c_Machine setX) [] := by
  refine met_of T.m_Machine_set_x T.c_Machine sc_Machine_set_x bi_Machine_set_x (fun vs H Q E h => ?_) fun f cdv A outer s H vs Q E hr h => ⟨_, (pss_cons (ps_fld (pv 0) (pe_op op_mod (pv 1) (C8.pe_gc (by rfl) T.g_VALUES)) rfl)
    (pss_one (ps_fld (pv 0) (pe_cmpR op_eq (pe_fld (pv 0) rfl) pe_int (nomark _)) rfl))), ?_⟩
  · obtain ⟨m, c, dx, M, w, z, rfl, _⟩ := h
    rfl
  · obtain ⟨m, c, dx, M, w, z, rfl, h, k⟩ := h
    have e2 : (((z % 256).toNat : Nat) : Int) = z % 256 := Int.toNat_of_nonneg (Int.emod_nonneg _ (by decide))
    refine ⟨_, rfl, _, _, rfl, rfl, (by show (0 : Int) < 256; decide), _, rfl, wr_Machine_x T.c_Machine T.n_Machine_x h.obj ?_⟩
    refine ⟨_, rfl, _, _, _, _, _, rfl, upd_same, T.c_Machine, T.n_Machine_x, gt_Machine_x, rfl, _, rfl, wr_Machine_zero T.c_Machine T.n_Machine_zero upd_same ?_⟩
    refine k _ (h.upd (upd_ne h.ne) ?_ rfl (good_setX h.good z)) Fr.refl.m.m
    show F_Machine _ _ _ _ _ _ _ = F_Machine _ _ _ _ _ _ _
    simp only [setX, nV, e2, V.int.injEq]
theorem ok_jump_to (T : Txt K mg α) : C8.Met P w K mg base 1 α.c_Machine "jump_to" (spN α.c_Machine jumpTo keepW) [] := by
  refine met_of T.m_Machine_jump_to T.c_Machine sc_Machine_jump_to bi_Machine_jump_to (fun vs H Q E h => ?_) fun f cdv A outer s H vs Q E hr h => ⟨_, (pss_one (ps_fld (pv 0) (pe_op op_mod (pv 1) (C8.pe_gc (by rfl) T.g_PLACES)) rfl)), ?_⟩
  · obtain ⟨m, c, dx, M, w, z, rfl, _⟩ := h
    rfl
  · obtain ⟨m, c, dx, M, w, n, rfl, h, k⟩ := h
    refine ⟨_, rfl, _, _, rfl, rfl, (by show (0 : Int) < 128; decide), _, rfl, wr_Machine_place T.c_Machine T.n_Machine_place h.obj ?_⟩
    exact k _ (h.upd rfl rfl rfl (good_jump h.good n)) Fr.refl.m
theorem ok_byte_at (T : Txt K mg α) : C8.Met P w K mg base 1 α.c_Machine "byte_at" (spByte α.c_Machine) [] := by
  refine met_of T.m_Machine_byte_at T.c_Machine sc_Machine_byte_at bi_Machine_byte_at (fun vs H Q E h => ?_) fun f cdv A outer s H vs Q E hr h => ⟨_, (pss_one (ps_ret (pe_ix ix_list (pe_fld (pv 0) rfl) (pe_op op_mod (pv 1) (C8.pe_gc (by rfl) T.g_PLACES)) (fun _ _ => rfl)))), ?_⟩
  · obtain ⟨m, c, dx, M, w, z, rfl, _⟩ := h
    rfl
  · obtain ⟨m, c, dx, M, w, p, rfl, h, k⟩ := h
    exact ⟨_, rfl, _, _, _, _, _, rfl, h.obj, T.c_Machine, T.n_Machine_cells, gt_Machine_cells, _, rfl, _, _, rfl, rfl, (by show (0 : Int) < 128; decide), c, _, _, _, rfl, rfl, SqL.of h.cel, at_of (j := p % 128) rfl (cell_at h.good p), k⟩
theorem ixN_of {n j : Nat} (hj : j < n) : ixN n ((j : Nat) : Int) = some j := by
  unfold ixN
  rw [if_pos (by omega), if_pos (by omega)]
  simp
theorem put_list {M : Mach} (g : Good M) (p : Nat) : (M.mem.toList.map nV).set (p % 128) (nV M.a) = (putA M p).mem.toList.map nV := by
  show _ = (M.mem.setIfInBounds (p % 128) (M.a % 256)).toList.map nV
  rw [Array.toList_setIfInBounds, List.map_set, Nat.mod_eq_of_lt g.a]
theorem ok_put_a_at (T : Txt K mg α) : C8.Met P w K mg base 1 α.c_Machine "put_a_at" (spN α.c_Machine putA putW) [] := by
  refine met_of T.m_Machine_put_a_at T.c_Machine sc_Machine_put_a_at bi_Machine_put_a_at (fun vs H Q E h => ?_) fun f cdv A outer s H vs Q E hr h => ⟨_, (pss_cons (ps_fld (pv 0) (pe_op op_mod (pv 1) (C8.pe_gc (by rfl) T.g_PLACES)) rfl)
    (pss_one (ps_asg (pe_fld (pv 0) rfl) (pg_sub (pe_fld (pv 0) rfl) (pe_fld (pv 0) rfl) set_list)))), ?_⟩
  · obtain ⟨m, c, dx, M, w, z, rfl, _⟩ := h
    rfl
  · obtain ⟨m, c, dx, M, w, p, rfl, h, k⟩ := h
    refine ⟨_, rfl, _, _, rfl, rfl, (by show (0 : Int) < 128; decide), _, rfl, wr_Machine_written T.c_Machine T.n_Machine_written h.obj ?_⟩
    have hn : p % 128 < (M.mem.toList.map nV).length := by
      rw [List.length_map, Array.length_toList, h.good.sz]
      exact Nat.mod_lt _ (by decide)
    refine ⟨_, rfl, _, _, _, _, _, rfl, upd_same, T.c_Machine, T.n_Machine_a, gt_Machine_a, _, rfl, _, _, _, _, _, rfl, upd_same, T.c_Machine, T.n_Machine_cells, gt_Machine_cells, _, rfl, _, _, _, _, _, rfl, upd_same, T.c_Machine, T.n_Machine_written, gt_Machine_written, c, _, _, p % 128, rfl, rfl, (upd_ne h.ne).trans h.cel, ixN_of hn, ?_⟩
    refine k _ ⟨?_, ?_, good_put h.good p _⟩ Fr.refl.m.c
    · rw [upd_ne (Ne.symm h.ne), upd_same]
      rfl
    · rw [upd_same, put_list h.good]

/-! ### a machine that is loaded -/
theorem loadedList (l : List Nat) : (CsBase.loaded l).mem.toList = (List.range 128).map fun i => l.getD i 0 % 256 := by
  have h : ∀ (r : List Nat) (w : Array Nat), (r.foldl (fun (w : Array Nat) (i : Nat) => w.push (l.getD i 0 % 256)) w).toList = w.toList ++ r.map fun i => l.getD i 0 % 256 := by
    intro r
    induction r with
    | nil => intro w; simp
    | cons x r ih =>
      intro w
      rw [List.foldl_cons, ih, Array.toList_push, List.map_cons, List.append_assoc]
      rfl
  have e := h (List.range CsBase.SIZE) #[]
  exact e
theorem loaded_eq {l : List Nat} (hl : l.length ≤ 128) (hb : ∀ n ∈ l, n < 256) : (CsBase.loaded l).mem.toList = l ++ List.replicate (128 - l.length) 0 := by
  rw [loadedList]
  apply List.ext_getElem?
  intro i
  rw [List.getElem?_map]
  by_cases h : i < l.length
  · rw [List.getElem?_append_left h, List.getElem?_range (by omega), List.getElem?_eq_getElem h]
    show some (l.getD i 0 % 256) = some l[i]
    rw [List.getD_eq_getElem?_getD, List.getElem?_eq_getElem h]
    show some (l[i] % 256) = some l[i]
    rw [Nat.mod_eq_of_lt (hb _ (List.getElem_mem h))]
  · rw [List.getElem?_append_right (by omega), List.getElem?_replicate]
    by_cases h2 : i < 128
    · rw [List.getElem?_range h2, if_pos (by omega)]
      show some (l.getD i 0 % 256) = some 0
      rw [List.getD_eq_getElem?_getD, List.getElem?_eq_none (by omega)]
      rfl
    · rw [if_neg (by omega), List.getElem?_eq_none (by rw [List.length_range]; omega)]
      rfl
theorem good_loaded (l : List Nat) : Good (CsBase.loaded l) := by
  have hs : (CsBase.loaded l).mem.size = 128 := by
    rw [← Array.length_toList, loadedList, List.length_map, List.length_range]
  refine ⟨hs, fun i => ?_, by show (0 : Nat) < 256; decide, by show (0 : Nat) < 256; decide, by show (0 : Nat) < 128; decide⟩
  rw [Array.getD_eq_getD_getElem?, ← Array.getElem?_toList, loadedList, List.getElem?_map]
  by_cases h : i < 128
  · rw [List.getElem?_range h]
    exact Nat.mod_lt _ (by decide)
  · rw [List.getElem?_eq_none (by rw [List.length_range]; omega)]
    show (0 : Nat) < 256
    decide
def spInitM (K : PySem.W.Frag) (C : Addr) : Sp := fun vs H Q _ => ∃ (p dx l : Addr) (ns : List Nat), vs = [.ref p, .ref l] ∧ H p = some (.ins C dx []) ∧ H l = some (.lst (ns.map nV)) ∧ ns.length ≤ 128 ∧ (∀ n ∈ ns, n < 256) ∧
  ∀ (H' : Hp) (c : Addr), H c = none → MAt C H' p c dx (CsBase.loaded ns) none → (∀ b o, H b = some o → b ≠ p → H' b = some o) → Q .non H'
theorem ok_initM (T : Txt K mg α) : C8.Mak P w K mg base 1 "Machine" α.c_Machine (spInitM K α.c_Machine) [] := by
  refine mak_of T.k_Machine sc_Machine___init__ bi_Machine___init__ (fun vs H Q E h => ?_) fun f cdv A outer s H vs Q E hr h => ⟨_, (pss_cons (ps_fld (pv 0) (pe_op op_cat (pv 1) (pe_op op_rep (pe_lst (pa_cons pe_int pa_nil)) (pe_op op_sub (C8.pe_gc (by rfl) T.g_PLACES) (pe_callB call_len_seq (by rfl) T.z_len (by decide +kernel) (pa_cons (pv 1) pa_nil))))) rfl)
    (pss_cons (ps_fld (pv 0) pe_int rfl)
    (pss_cons (ps_fld (pv 0) pe_int rfl)
    (pss_cons (ps_fld (pv 0) pe_int rfl)
    (pss_cons (ps_fld (pv 0) pe_bl rfl)
    (pss_cons (ps_fld (pv 0) pe_bl rfl)
    (pss_one (ps_fld (pv 0) pe_non rfl)))))))), ?_⟩
  · obtain ⟨p, dx, l, ns, rfl, _⟩ := h
    rfl
  · obtain ⟨p, dx, l, ns, rfl, hp, hl, h1, h2, k⟩ := h
    have nlp : l ≠ p := fun e => by
      rw [e, hp] at hl
      cases hl
    -- [0], PLACES - len(loaded)
    refine ⟨_, rfl, by show 1 ≤ sizeLine; decide, fun q hq => ?_⟩
    have elen : ((ns.map nV).length : Int) = (ns.length : Int) := by rw [List.length_map]
    have nql : l ≠ q := ne_of_none hl hq
    have npq : p ≠ q := ne_of_none hp hq
    refine ⟨_, rfl, l, _, rfl, .inl (SqL.of ((upd_ne nql).trans hl)), _, _, rfl, rfl, q, _, _, rfl, rfl, upd_same, ?_, ?_, ?_, fun r hr' => ?_⟩
    · show -(2 ^ 63) ≤ (128 : Int) - ((ns.map nV).length : Int)
      rw [elen]; omega
    · show (128 : Int) - ((ns.map nV).length : Int) < 2 ^ 63
      rw [elen]; omega
    · show 1 * ((128 : Int) - ((ns.map nV).length : Int)).toNat ≤ sizeLine
      rw [elen]
      exact Nat.le_trans (show _ ≤ 128 by omega) (by decide)
    have nrl : l ≠ r := ne_of_none ((upd_ne nql).trans hl) hr'
    have npr : p ≠ r := ne_of_none ((upd_ne npq).trans hp) hr'
    have nqr : q ≠ r := ne_of_none upd_same hr'
    have er : (List.replicate ((128 : Int) - ((ns.map nV).length : Int)).toNat [V.int 0]).flatten = (List.replicate (128 - ns.length) 0).map nV := by
      rw [elen, show ((128 : Int) - (ns.length : Int)).toNat = 128 - ns.length by omega, List.map_replicate]
      induction (128 - ns.length) with
      | zero => rfl
      | succ n ih => rw [List.replicate_succ, List.flatten_cons, ih, List.replicate_succ]; rfl
    refine ⟨l, r, _, _, rfl, rfl, (upd_ne nrl).trans ((upd_ne nql).trans hl), upd_same, ?_, fun c hc => ?_⟩
    · show (ns.map nV).length + (List.replicate ((128 : Int) - ((ns.map nV).length : Int)).toNat [V.int 0]).flatten.length ≤ sizeLine
      rw [er, List.length_map, List.length_map, List.length_replicate]
      exact Nat.le_trans (show _ ≤ 128 by omega) (by decide)
    have npc : p ≠ c := ne_of_none ((upd_ne npr).trans ((upd_ne npq).trans hp)) hc
    have hcr : c ≠ r := Ne.symm (ne_of_none upd_same hc)
    have hcq : c ≠ q := Ne.symm (ne_of_none ((upd_ne nqr).trans upd_same) hc)
    have hc0 : H c = none := by
      rw [upd_ne hcr, upd_ne hcq] at hc
      exact hc
    refine ⟨_, rfl, ini_Machine_cells T.c_Machine T.n_Machine_cells ((upd_ne npc).trans ((upd_ne npr).trans ((upd_ne npq).trans hp))) ?_⟩
    refine ⟨_, rfl, ini_Machine_a T.c_Machine T.n_Machine_a upd_same ?_⟩
    refine ⟨_, rfl, ini_Machine_x T.c_Machine T.n_Machine_x upd_same ?_⟩
    refine ⟨_, rfl, ini_Machine_place T.c_Machine T.n_Machine_place upd_same ?_⟩
    refine ⟨_, rfl, ini_Machine_zero T.c_Machine T.n_Machine_zero upd_same ?_⟩
    refine ⟨_, rfl, ini_Machine_carry T.c_Machine T.n_Machine_carry upd_same ?_⟩
    refine ⟨_, rfl, ini_Machine_written T.c_Machine T.n_Machine_written upd_same ?_⟩
    refine k _ c hc0 ⟨upd_same, ?_, good_loaded ns⟩ fun b o hb nb => ?_
    · rw [upd_ne (Ne.symm npc), upd_ne (Ne.symm npc), upd_ne (Ne.symm npc), upd_ne (Ne.symm npc), upd_ne (Ne.symm npc), upd_ne (Ne.symm npc), upd_ne (Ne.symm npc), upd_same, er, loaded_eq h1 h2, List.map_append]
    · rw [upd_ne nb, upd_ne nb, upd_ne nb, upd_ne nb, upd_ne nb, upd_ne nb, upd_ne nb, upd_ne (ne_of_none hb hc0), upd_ne (ne_of_none hb ?_), upd_ne (ne_of_none hb hq)]
      · exact hb
      · rw [upd_ne (Ne.symm nqr)] at hr'
        exact hr'

/-! ### the 16 instructions -/
/-- what instruction i does with n, the place being two further already -/
def gI : Nat → Mach → Nat → Mach
  | 1, M, n => setA M n
  | 2, M, n => setA M (CsBase.byteAt M n)
  | 3, M, n => putA M n
  | 4, M, n => setA M (CsBase.byteAt M (n + M.x))
  | 5, M, n => putA M (n + M.x)
  | 6, M, n => setX M n
  | 7, M, n => setX M ((M.x : Int) + (n : Int))
  | 8, M, n => setA { M with c := decide ((256 : Int) ≤ (M.a : Int) + (CsBase.byteAt M n : Int)) } ((M.a : Int) + (CsBase.byteAt M n : Int))
  | 9, M, n => setA { M with c := decide ((M.a : Int) < (CsBase.byteAt M n : Int)) } ((M.a : Int) - (CsBase.byteAt M n : Int))
  | 10, M, n => setA M (Builtin.bitAnd (M.a : Int) (CsBase.byteAt M n : Int))
  | 11, M, n => setA M (Builtin.bitXor (M.a : Int) (CsBase.byteAt M n : Int))
  | 12, M, n => jumpTo M n
  | 13, M, n => if M.z = true then jumpTo M n else M
  | 14, M, n => if M.z = true then M else jumpTo M n
  | 15, M, n => if M.c = true then jumpTo M n else M
  | _, M, _ => M
def gW : Nat → Mach → Nat → Option Nat → Option Nat
  | 3, _, n, _ => some (n % 128)
  | 5, M, n, _ => some ((n + M.x) % 128)
  | _, _, _, w => w
abbrev spI (C : Addr) (i : Nat) : Sp := spN C (gI i) (gW i)
/-- the methods that the instructions call -/
structure MM (P : Program) (w : World) (K : PySem.W.Frag) (mg : Str → Option Value) (base : Heap) (C : Addr) : Prop where
  set_a : C8.Met P w K mg base 1 C "set_a" (spZ C setA) []
  set_x : C8.Met P w K mg base 1 C "set_x" (spZ C setX) []
  jump_to : C8.Met P w K mg base 1 C "jump_to" (spN C jumpTo keepW) []
  byte_at : C8.Met P w K mg base 1 C "byte_at" (spByte C) []
  put_a_at : C8.Met P w K mg base 1 C "put_a_at" (spN C putA putW) []
theorem lenN {C : Addr} {g : Mach → Nat → Mach} {gw : Mach → Nat → Option Nat → Option Nat} (vs : List V) (H : Hp) (Q : VK) (E : XK) (h : spN C g gw vs H Q E) : vs.length = 2 := by
  obtain ⟨m, c, dx, M, w, n, rfl, _⟩ := h
  rfl
theorem ok_rest (T : Txt K mg α) (MM : MM P w K mg base α.c_Machine) : C8.Cal P w K mg base 2 "rest" (spI α.c_Machine 0) [] := by
  have h_Machine_set_a := MM.set_a
  have h_Machine_set_x := MM.set_x
  have h_Machine_jump_to := MM.jump_to
  have h_Machine_byte_at := MM.byte_at
  have h_Machine_put_a_at := MM.put_a_at
  refine cal_of T.d_rest sc_rest bi_rest lenN fun f cdv A outer s H vs Q E hr h => ⟨_, (pss_one ps_pass), ?_⟩
  · obtain ⟨m, c, dx, M, w, n, rfl, h, k⟩ := h
    exact k H h Fr.refl
theorem ok_a_is_n (T : Txt K mg α) (MM : MM P w K mg base α.c_Machine) : C8.Cal P w K mg base 2 "a_is_n" (spI α.c_Machine 1) [] := by
  have h_Machine_set_a := MM.set_a
  have h_Machine_set_x := MM.set_x
  have h_Machine_jump_to := MM.jump_to
  have h_Machine_byte_at := MM.byte_at
  have h_Machine_put_a_at := MM.put_a_at
  refine cal_of T.d_a_is_n sc_a_is_n bi_a_is_n lenN fun f cdv A outer s H vs Q E hr h => ⟨_, (pss_one (ps_expr (C8.pe_mt h_Machine_set_a hr (by decide) (pv 0) (pa_cons (pv 1) pa_nil)))), ?_⟩
  · obtain ⟨m, c, dx, M, w, n, rfl, h, k⟩ := h
    exact ⟨_, rfl, me_Machine_set_a h.obj ⟨_, rfl, m, c, dx, M, w, _, rfl, h, k⟩⟩
theorem ok_a_is_byte (T : Txt K mg α) (MM : MM P w K mg base α.c_Machine) : C8.Cal P w K mg base 2 "a_is_byte" (spI α.c_Machine 2) [] := by
  have h_Machine_set_a := MM.set_a
  have h_Machine_set_x := MM.set_x
  have h_Machine_jump_to := MM.jump_to
  have h_Machine_byte_at := MM.byte_at
  have h_Machine_put_a_at := MM.put_a_at
  refine cal_of T.d_a_is_byte sc_a_is_byte bi_a_is_byte lenN fun f cdv A outer s H vs Q E hr h => ⟨_, (pss_one (ps_expr (C8.pe_mt h_Machine_set_a hr (by decide) (pv 0) (pa_cons (C8.pe_mt h_Machine_byte_at hr (by decide) (pv 0) (pa_cons (pv 1) pa_nil)) pa_nil)))), ?_⟩
  · obtain ⟨m, c, dx, M, w, n, rfl, h, k⟩ := h
    exact ⟨_, rfl, me_Machine_set_a h.obj ⟨_, rfl, me_Machine_byte_at h.obj ⟨_, rfl, m, c, dx, M, w, n, rfl, h, m, c, dx, M, w, _, rfl, h, k⟩⟩⟩
theorem ok_put_a (T : Txt K mg α) (MM : MM P w K mg base α.c_Machine) : C8.Cal P w K mg base 2 "put_a" (spI α.c_Machine 3) [] := by
  have h_Machine_set_a := MM.set_a
  have h_Machine_set_x := MM.set_x
  have h_Machine_jump_to := MM.jump_to
  have h_Machine_byte_at := MM.byte_at
  have h_Machine_put_a_at := MM.put_a_at
  refine cal_of T.d_put_a sc_put_a bi_put_a lenN fun f cdv A outer s H vs Q E hr h => ⟨_, (pss_one (ps_expr (C8.pe_mt h_Machine_put_a_at hr (by decide) (pv 0) (pa_cons (pv 1) pa_nil)))), ?_⟩
  · obtain ⟨m, c, dx, M, w, n, rfl, h, k⟩ := h
    exact ⟨_, rfl, me_Machine_put_a_at h.obj ⟨_, rfl, m, c, dx, M, w, n, rfl, h, k⟩⟩
theorem ok_a_is_byte_x_further (T : Txt K mg α) (MM : MM P w K mg base α.c_Machine) : C8.Cal P w K mg base 2 "a_is_byte_x_further" (spI α.c_Machine 4) [] := by
  have h_Machine_set_a := MM.set_a
  have h_Machine_set_x := MM.set_x
  have h_Machine_jump_to := MM.jump_to
  have h_Machine_byte_at := MM.byte_at
  have h_Machine_put_a_at := MM.put_a_at
  refine cal_of T.d_a_is_byte_x_further sc_a_is_byte_x_further bi_a_is_byte_x_further lenN fun f cdv A outer s H vs Q E hr h => ⟨_, (pss_one (ps_expr (C8.pe_mt h_Machine_set_a hr (by decide) (pv 0) (pa_cons (C8.pe_mt h_Machine_byte_at hr (by decide) (pv 0) (pa_cons (pe_op op_add (pv 1) (pe_fld (pv 0) rfl)) pa_nil)) pa_nil)))), ?_⟩
  · obtain ⟨m, c, dx, M, w, n, rfl, h, k⟩ := h
    exact ⟨_, rfl, me_Machine_set_a h.obj ⟨_, rfl, me_Machine_byte_at h.obj ⟨_, rfl, _, rfl, _, _, _, _, _, rfl, h.obj, T.c_Machine, T.n_Machine_x, gt_Machine_x, _, _, rfl, rfl, m, c, dx, M, w, n + M.x, rfl, h, m, c, dx, M, w, _, rfl, h, k⟩⟩⟩
theorem ok_put_a_x_further (T : Txt K mg α) (MM : MM P w K mg base α.c_Machine) : C8.Cal P w K mg base 2 "put_a_x_further" (spI α.c_Machine 5) [] := by
  have h_Machine_set_a := MM.set_a
  have h_Machine_set_x := MM.set_x
  have h_Machine_jump_to := MM.jump_to
  have h_Machine_byte_at := MM.byte_at
  have h_Machine_put_a_at := MM.put_a_at
  refine cal_of T.d_put_a_x_further sc_put_a_x_further bi_put_a_x_further lenN fun f cdv A outer s H vs Q E hr h => ⟨_, (pss_one (ps_expr (C8.pe_mt h_Machine_put_a_at hr (by decide) (pv 0) (pa_cons (pe_op op_add (pv 1) (pe_fld (pv 0) rfl)) pa_nil)))), ?_⟩
  · obtain ⟨m, c, dx, M, w, n, rfl, h, k⟩ := h
    exact ⟨_, rfl, me_Machine_put_a_at h.obj ⟨_, rfl, _, rfl, _, _, _, _, _, rfl, h.obj, T.c_Machine, T.n_Machine_x, gt_Machine_x, _, _, rfl, rfl, m, c, dx, M, w, n + M.x, rfl, h, k⟩⟩
theorem ok_x_is_n (T : Txt K mg α) (MM : MM P w K mg base α.c_Machine) : C8.Cal P w K mg base 2 "x_is_n" (spI α.c_Machine 6) [] := by
  have h_Machine_set_a := MM.set_a
  have h_Machine_set_x := MM.set_x
  have h_Machine_jump_to := MM.jump_to
  have h_Machine_byte_at := MM.byte_at
  have h_Machine_put_a_at := MM.put_a_at
  refine cal_of T.d_x_is_n sc_x_is_n bi_x_is_n lenN fun f cdv A outer s H vs Q E hr h => ⟨_, (pss_one (ps_expr (C8.pe_mt h_Machine_set_x hr (by decide) (pv 0) (pa_cons (pv 1) pa_nil)))), ?_⟩
  · obtain ⟨m, c, dx, M, w, n, rfl, h, k⟩ := h
    exact ⟨_, rfl, me_Machine_set_x h.obj ⟨_, rfl, m, c, dx, M, w, _, rfl, h, k⟩⟩
theorem ok_add_n_to_x (T : Txt K mg α) (MM : MM P w K mg base α.c_Machine) : C8.Cal P w K mg base 2 "add_n_to_x" (spI α.c_Machine 7) [] := by
  have h_Machine_set_a := MM.set_a
  have h_Machine_set_x := MM.set_x
  have h_Machine_jump_to := MM.jump_to
  have h_Machine_byte_at := MM.byte_at
  have h_Machine_put_a_at := MM.put_a_at
  refine cal_of T.d_add_n_to_x sc_add_n_to_x bi_add_n_to_x lenN fun f cdv A outer s H vs Q E hr h => ⟨_, (pss_one (ps_expr (C8.pe_mt h_Machine_set_x hr (by decide) (pv 0) (pa_cons (pe_op op_add (pe_fld (pv 0) rfl) (pv 1)) pa_nil)))), ?_⟩
  · obtain ⟨m, c, dx, M, w, n, rfl, h, k⟩ := h
    exact ⟨_, rfl, me_Machine_set_x h.obj ⟨_, rfl, _, _, _, _, _, rfl, h.obj, T.c_Machine, T.n_Machine_x, gt_Machine_x, _, rfl, _, _, rfl, rfl, m, c, dx, M, w, _, rfl, h, k⟩⟩
theorem ok_add_byte (T : Txt K mg α) (MM : MM P w K mg base α.c_Machine) : C8.Cal P w K mg base 2 "add_byte" (spI α.c_Machine 8) [] := by
  have h_Machine_set_a := MM.set_a
  have h_Machine_set_x := MM.set_x
  have h_Machine_jump_to := MM.jump_to
  have h_Machine_byte_at := MM.byte_at
  have h_Machine_put_a_at := MM.put_a_at
  refine cal_of T.d_add_byte sc_add_byte bi_add_byte lenN fun f cdv A outer s H vs Q E hr h => ⟨_, (pss_cons (ps_set (i := 2) sc_add_byte.nd rfl (Or.inl rfl) (pe_op op_add (pe_fld (pv 0) rfl) (C8.pe_mt h_Machine_byte_at hr (by decide) (pv 0) (pa_cons (pv 1) pa_nil))))
    (pss_cons (ps_fld (pv 0) (pe_cmpR op_ge (pv 2) (C8.pe_gc (by rfl) T.g_VALUES) (nomark _)) rfl)
    (pss_one (ps_expr (C8.pe_mt h_Machine_set_a hr (by decide) (pv 0) (pa_cons (pv 2) pa_nil)))))), ?_⟩
  · obtain ⟨m, c, dx, M, w, n, rfl, h, k⟩ := h
    refine ⟨_, rfl, _, _, _, _, _, rfl, h.obj, T.c_Machine, T.n_Machine_a, gt_Machine_a, _, rfl, me_Machine_byte_at h.obj ⟨_, rfl, m, c, dx, M, w, n, rfl, h, _, _, rfl, rfl, ?_⟩⟩
    refine ⟨_, rfl, _, _, rfl, rfl, _, rfl, wr_Machine_carry T.c_Machine T.n_Machine_carry h.obj ?_⟩
    have h1 : MAt α.c_Machine (upd H m (.ins α.c_Machine dx (mF c { M with c := decide ((256 : Int) ≤ (M.a : Int) + (CsBase.byteAt M n : Int)) } w))) m c dx { M with c := decide ((256 : Int) ≤ (M.a : Int) + (CsBase.byteAt M n : Int)) } w := h.upd rfl rfl rfl (good_c h.good _)
    exact ⟨_, rfl, me_Machine_set_a h1.obj ⟨_, rfl, m, c, dx, _, w, _, rfl, h1, fun H' h' f => k H' h' (Fr.refl.m.trans f)⟩⟩
theorem ok_take_byte (T : Txt K mg α) (MM : MM P w K mg base α.c_Machine) : C8.Cal P w K mg base 2 "take_byte" (spI α.c_Machine 9) [] := by
  have h_Machine_set_a := MM.set_a
  have h_Machine_set_x := MM.set_x
  have h_Machine_jump_to := MM.jump_to
  have h_Machine_byte_at := MM.byte_at
  have h_Machine_put_a_at := MM.put_a_at
  refine cal_of T.d_take_byte sc_take_byte bi_take_byte lenN fun f cdv A outer s H vs Q E hr h => ⟨_, (pss_cons (ps_set (i := 2) sc_take_byte.nd rfl (Or.inl rfl) (C8.pe_mt h_Machine_byte_at hr (by decide) (pv 0) (pa_cons (pv 1) pa_nil)))
    (pss_cons (ps_fld (pv 0) (pe_cmpR op_gt (pv 2) (pe_fld (pv 0) rfl) (nomark _)) rfl)
    (pss_one (ps_expr (C8.pe_mt h_Machine_set_a hr (by decide) (pv 0) (pa_cons (pe_op op_sub (pe_fld (pv 0) rfl) (pv 2)) pa_nil)))))), ?_⟩
  · obtain ⟨m, c, dx, M, w, n, rfl, h, k⟩ := h
    refine ⟨_, rfl, me_Machine_byte_at h.obj ⟨_, rfl, m, c, dx, M, w, n, rfl, h, ?_⟩⟩
    refine ⟨_, rfl, _, rfl, _, _, _, _, _, rfl, h.obj, T.c_Machine, T.n_Machine_a, gt_Machine_a, _, _, rfl, rfl, _, rfl, wr_Machine_carry T.c_Machine T.n_Machine_carry h.obj ?_⟩
    have h1 : MAt α.c_Machine (upd H m (.ins α.c_Machine dx (mF c { M with c := decide ((M.a : Int) < (CsBase.byteAt M n : Int)) } w))) m c dx { M with c := decide ((M.a : Int) < (CsBase.byteAt M n : Int)) } w := h.upd rfl rfl rfl (good_c h.good _)
    exact ⟨_, rfl, me_Machine_set_a h1.obj ⟨_, rfl, _, _, _, _, _, rfl, h1.obj, T.c_Machine, T.n_Machine_a, gt_Machine_a, _, rfl, _, _, rfl, rfl, m, c, dx, _, w, _, rfl, h1, fun H' h' f => k H' h' (Fr.refl.m.trans f)⟩⟩
theorem ok_and_byte (T : Txt K mg α) (MM : MM P w K mg base α.c_Machine) : C8.Cal P w K mg base 2 "and_byte" (spI α.c_Machine 10) [] := by
  have h_Machine_set_a := MM.set_a
  have h_Machine_set_x := MM.set_x
  have h_Machine_jump_to := MM.jump_to
  have h_Machine_byte_at := MM.byte_at
  have h_Machine_put_a_at := MM.put_a_at
  refine cal_of T.d_and_byte sc_and_byte bi_and_byte lenN fun f cdv A outer s H vs Q E hr h => ⟨_, (pss_one (ps_expr (C8.pe_mt h_Machine_set_a hr (by decide) (pv 0) (pa_cons (pe_op op_and (pe_fld (pv 0) rfl) (C8.pe_mt h_Machine_byte_at hr (by decide) (pv 0) (pa_cons (pv 1) pa_nil))) pa_nil)))), ?_⟩
  · obtain ⟨m, c, dx, M, w, n, rfl, h, k⟩ := h
    exact ⟨_, rfl, me_Machine_set_a h.obj ⟨_, rfl, _, _, _, _, _, rfl, h.obj, T.c_Machine, T.n_Machine_a, gt_Machine_a, _, rfl, me_Machine_byte_at h.obj ⟨_, rfl, m, c, dx, M, w, n, rfl, h, _, _, rfl, rfl, m, c, dx, M, w, _, rfl, h, k⟩⟩⟩
theorem ok_exclusive_or_byte (T : Txt K mg α) (MM : MM P w K mg base α.c_Machine) : C8.Cal P w K mg base 2 "exclusive_or_byte" (spI α.c_Machine 11) [] := by
  have h_Machine_set_a := MM.set_a
  have h_Machine_set_x := MM.set_x
  have h_Machine_jump_to := MM.jump_to
  have h_Machine_byte_at := MM.byte_at
  have h_Machine_put_a_at := MM.put_a_at
  refine cal_of T.d_exclusive_or_byte sc_exclusive_or_byte bi_exclusive_or_byte lenN fun f cdv A outer s H vs Q E hr h => ⟨_, (pss_one (ps_expr (C8.pe_mt h_Machine_set_a hr (by decide) (pv 0) (pa_cons (pe_op op_xor (pe_fld (pv 0) rfl) (C8.pe_mt h_Machine_byte_at hr (by decide) (pv 0) (pa_cons (pv 1) pa_nil))) pa_nil)))), ?_⟩
  · obtain ⟨m, c, dx, M, w, n, rfl, h, k⟩ := h
    exact ⟨_, rfl, me_Machine_set_a h.obj ⟨_, rfl, _, _, _, _, _, rfl, h.obj, T.c_Machine, T.n_Machine_a, gt_Machine_a, _, rfl, me_Machine_byte_at h.obj ⟨_, rfl, m, c, dx, M, w, n, rfl, h, _, _, rfl, rfl, m, c, dx, M, w, _, rfl, h, k⟩⟩⟩
theorem ok_jump (T : Txt K mg α) (MM : MM P w K mg base α.c_Machine) : C8.Cal P w K mg base 2 "jump" (spI α.c_Machine 12) [] := by
  have h_Machine_set_a := MM.set_a
  have h_Machine_set_x := MM.set_x
  have h_Machine_jump_to := MM.jump_to
  have h_Machine_byte_at := MM.byte_at
  have h_Machine_put_a_at := MM.put_a_at
  refine cal_of T.d_jump sc_jump bi_jump lenN fun f cdv A outer s H vs Q E hr h => ⟨_, (pss_one (ps_expr (C8.pe_mt h_Machine_jump_to hr (by decide) (pv 0) (pa_cons (pv 1) pa_nil)))), ?_⟩
  · obtain ⟨m, c, dx, M, w, n, rfl, h, k⟩ := h
    exact ⟨_, rfl, me_Machine_jump_to h.obj ⟨_, rfl, m, c, dx, M, w, n, rfl, h, k⟩⟩
theorem ok_jump_if_zero (T : Txt K mg α) (MM : MM P w K mg base α.c_Machine) : C8.Cal P w K mg base 2 "jump_if_zero" (spI α.c_Machine 13) [] := by
  have h_Machine_set_a := MM.set_a
  have h_Machine_set_x := MM.set_x
  have h_Machine_jump_to := MM.jump_to
  have h_Machine_byte_at := MM.byte_at
  have h_Machine_put_a_at := MM.put_a_at
  refine cal_of T.d_jump_if_zero sc_jump_if_zero bi_jump_if_zero lenN fun f cdv A outer s H vs Q E hr h => ⟨_, (pss_one (ps_if (pt_val (pe_fld (pv 0) rfl))
      (pss_one (ps_expr (C8.pe_mt h_Machine_jump_to hr (by decide) (pv 0) (pa_cons (pv 1) pa_nil))))
      pss_nil)), ?_⟩
  · obtain ⟨m, c, dx, M, w, n, rfl, h, k⟩ := h
    refine ⟨_, rfl, _, _, _, _, _, rfl, h.obj, T.c_Machine, T.n_Machine_zero, gt_Machine_zero, _, rfl, ite2 (fun e => ?_) (fun e => ?_)⟩
    · have e1 : gI 13 M n = jumpTo M n := if_pos e
      rw [e1] at k
      exact ⟨_, rfl, me_Machine_jump_to h.obj ⟨_, rfl, m, c, dx, M, w, n, rfl, h, k⟩⟩
    · have e1 : gI 13 M n = M := if_neg e
      rw [e1] at k
      exact k H h Fr.refl
theorem ok_jump_if_not_zero (T : Txt K mg α) (MM : MM P w K mg base α.c_Machine) : C8.Cal P w K mg base 2 "jump_if_not_zero" (spI α.c_Machine 14) [] := by
  have h_Machine_set_a := MM.set_a
  have h_Machine_set_x := MM.set_x
  have h_Machine_jump_to := MM.jump_to
  have h_Machine_byte_at := MM.byte_at
  have h_Machine_put_a_at := MM.put_a_at
  refine cal_of T.d_jump_if_not_zero sc_jump_if_not_zero bi_jump_if_not_zero lenN fun f cdv A outer s H vs Q E hr h => ⟨_, (pss_one (ps_if (pt_not (pt_val (pe_fld (pv 0) rfl)))
      (pss_one (ps_expr (C8.pe_mt h_Machine_jump_to hr (by decide) (pv 0) (pa_cons (pv 1) pa_nil))))
      pss_nil)), ?_⟩
  · obtain ⟨m, c, dx, M, w, n, rfl, h, k⟩ := h
    refine ⟨_, rfl, _, _, _, _, _, rfl, h.obj, T.c_Machine, T.n_Machine_zero, gt_Machine_zero, _, rfl, ite2 (fun e => ?_) (fun e => ?_)⟩
    · have e1 : gI 14 M n = jumpTo M n := if_neg (by simpa using e)
      rw [e1] at k
      exact ⟨_, rfl, me_Machine_jump_to h.obj ⟨_, rfl, m, c, dx, M, w, n, rfl, h, k⟩⟩
    · have e1 : gI 14 M n = M := if_pos (by simpa using e)
      rw [e1] at k
      exact k H h Fr.refl
theorem ok_jump_if_carry (T : Txt K mg α) (MM : MM P w K mg base α.c_Machine) : C8.Cal P w K mg base 2 "jump_if_carry" (spI α.c_Machine 15) [] := by
  have h_Machine_set_a := MM.set_a
  have h_Machine_set_x := MM.set_x
  have h_Machine_jump_to := MM.jump_to
  have h_Machine_byte_at := MM.byte_at
  have h_Machine_put_a_at := MM.put_a_at
  refine cal_of T.d_jump_if_carry sc_jump_if_carry bi_jump_if_carry lenN fun f cdv A outer s H vs Q E hr h => ⟨_, (pss_one (ps_if (pt_val (pe_fld (pv 0) rfl))
      (pss_one (ps_expr (C8.pe_mt h_Machine_jump_to hr (by decide) (pv 0) (pa_cons (pv 1) pa_nil))))
      pss_nil)), ?_⟩
  · obtain ⟨m, c, dx, M, w, n, rfl, h, k⟩ := h
    refine ⟨_, rfl, _, _, _, _, _, rfl, h.obj, T.c_Machine, T.n_Machine_carry, gt_Machine_carry, _, rfl, ite2 (fun e => ?_) (fun e => ?_)⟩
    · have e1 : gI 15 M n = jumpTo M n := if_pos e
      rw [e1] at k
      exact ⟨_, rfl, me_Machine_jump_to h.obj ⟨_, rfl, m, c, dx, M, w, n, rfl, h, k⟩⟩
    · have e1 : gI 15 M n = M := if_neg e
      rw [e1] at k
      exact k H h Fr.refl

/-! ### an instruction done -/
def spDo (C : Addr) : Sp := fun vs H Q _ => ∃ (m c dx : Addr) (M : Mach) (w : Option Nat), vs = [.ref m] ∧ MAt C H m c dx M w ∧
  ∀ H' : Hp, MAt C H' m c dx (CsBase.step M) (CsBase.writes M) → Fr m c H H' → Q (.bl (CsBase.rests M)) H'
theorem modZ (n : Nat) : (((n : Int) % 256).toNat : Nat) = n % 256 := by omega
theorem zB (n : Nat) : decide ((n : Int) % 256 = 0) = (n % 256 == 0) := by
  by_cases h : n % 256 = 0
  · rw [decide_eq_true (by omega), h]
    rfl
  · rw [decide_eq_false (by omega)]
    exact (beq_false_of_ne h).symm
theorem setA_nat (M : Mach) (n : Nat) : setA M (n : Int) = CsBase.inA M n := by
  show ({ M with a := _, z := _ } : Mach) = { M with a := _, z := _ }
  rw [modZ, zB]
theorem setX_nat (M : Mach) (n : Nat) : setX M (n : Int) = CsBase.inX M n := by
  show ({ M with x := _, z := _ } : Mach) = { M with x := _, z := _ }
  rw [modZ, zB]
theorem op_lt16 (M : Mach) : (CsBase.opAt M).1 < 16 := Nat.mod_lt _ (by decide)

/-- the machine two further -/
abbrev two (M : Mach) : Mach := jumpTo M (M.pc + 2)
theorem xorN (a b : Nat) : Builtin.bitXor (a : Int) (b : Int) = ((a ^^^ b : Nat) : Int) := by
  rw [Bits.bitXor_pp (Int.natCast_nonneg a) (Int.natCast_nonneg b)]
  rfl
theorem sub9 {a b : Nat} (hb : b < 256) : (((a : Int) - (b : Int)) % 256) = (((a + 256 - b : Nat) : Int) % 256) := by omega
theorem setA_congr {M : Mach} {y z : Int} (h : y % 256 = z % 256) : setA M y = setA M z := by
  unfold setA
  rw [h]
theorem step_is {M : Mach} (g : Good M) : ∀ i, i < 16 → (CsBase.opAt M).1 = i → CsBase.step M = gI i (two M) (CsBase.opAt M).2 := by
  intro i hi e
  have hb : ∀ p, CsBase.byteAt (two M) p = CsBase.byteAt M p := fun _ => rfl
  unfold CsBase.step
  simp only [e]
  rcases i with _ | _ | _ | _ | _ | _ | _ | _ | _ | _ | _ | _ | _ | _ | _ | _ | i
  · rfl
  · exact (setA_nat _ _).symm
  · exact (setA_nat _ _).symm
  · rfl
  · exact (setA_nat _ _).symm
  · rfl
  · exact (setX_nat _ _).symm
  · exact (setX_nat (two M) (M.x + (CsBase.opAt M).2)).symm
  · show _ = setA { two M with c := decide ((256 : Int) ≤ (M.a : Int) + (CsBase.byteAt M (CsBase.opAt M).2 : Int)) } ((M.a + CsBase.byteAt M (CsBase.opAt M).2 : Nat) : Int)
    rw [setA_nat]
    have e2 : decide ((256 : Int) ≤ (M.a : Int) + (CsBase.byteAt M (CsBase.opAt M).2 : Int)) = decide (256 ≤ M.a + CsBase.byteAt M (CsBase.opAt M).2) := decide_eq_decide.mpr (by omega)
    rw [e2]
    rfl
  · show _ = setA { two M with c := decide ((M.a : Int) < (CsBase.byteAt M (CsBase.opAt M).2 : Int)) } ((M.a : Int) - (CsBase.byteAt M (CsBase.opAt M).2 : Int))
    have hbb : CsBase.byteAt M (CsBase.opAt M).2 < 256 := g.mod _
    rw [setA_congr (sub9 hbb), setA_nat]
    have e2 : decide ((M.a : Int) < (CsBase.byteAt M (CsBase.opAt M).2 : Int)) = decide (M.a + 256 - CsBase.byteAt M (CsBase.opAt M).2 < 256) := decide_eq_decide.mpr (by omega)
    rw [e2]
    rfl
  · show _ = setA (two M) (Builtin.bitAnd (M.a : Int) (CsBase.byteAt M (CsBase.opAt M).2 : Int))
    rw [PySem.W.os_band, setA_nat]
    rfl
  · show _ = setA (two M) (Builtin.bitXor (M.a : Int) (CsBase.byteAt M (CsBase.opAt M).2 : Int))
    rw [xorN, setA_nat]
    rfl
  · rfl
  · rfl
  · show (if M.z = false then _ else _) = if M.z = true then _ else _
    by_cases hz : M.z = true
    · rw [if_pos hz, if_neg (by rw [hz]; decide)]
      rfl
    · rw [if_neg hz, if_pos (by simpa using hz)]
      rfl
  · rfl
  · omega
theorem writes_is (M : Mach) : ∀ i, i < 16 → (CsBase.opAt M).1 = i → CsBase.writes M = gW i (two M) (CsBase.opAt M).2 none := by
  intro i hi e
  have e2 : CsBase.opAt M = (i, (CsBase.opAt M).2) := by rw [← e]
  unfold CsBase.writes
  rw [e2]
  rcases i with _ | _ | _ | _ | _ | _ | _ | _ | _ | _ | _ | _ | _ | _ | _ | _ | i
  all_goals first | rfl | omega
theorem ok_do_instruction (T : Txt K mg α) (MM : MM P w K mg base α.c_Machine) (hI : ∀ i, i < 16 → ∃ f, α.l_INSTRUCTIONS[i]? = some f ∧ C8.CalAt P w K mg base 2 f (spI α.c_Machine i)) :
    C8.Cal P w K mg base 3 "do_instruction" (spDo α.c_Machine) [] := by
  have h_Machine_jump_to := MM.jump_to
  have h_Machine_byte_at := MM.byte_at
  refine cal_of T.d_do_instruction sc_do_instruction bi_do_instruction (fun vs H Q E h => ?_) fun f cdv A outer s H vs Q E hr h => ⟨_, (pss_cons (ps_set (i := 1) sc_do_instruction.nd rfl (Or.inl rfl) (pe_op op_mod (C8.pe_mt h_Machine_byte_at hr (by decide) (pv 0) (pa_cons (pe_fld (pv 0) rfl) pa_nil)) (C8.pe_gc (by rfl) T.g_KINDS)))
    (pss_cons (ps_set (i := 2) sc_do_instruction.nd rfl (Or.inl rfl) (C8.pe_mt h_Machine_byte_at hr (by decide) (pv 0) (pa_cons (pe_op op_add (pe_fld (pv 0) rfl) pe_int) pa_nil)))
    (pss_cons (ps_fld (pv 0) pe_non rfl)
    (pss_cons (ps_expr (C8.pe_mt h_Machine_jump_to hr (by decide) (pv 0) (pa_cons (pe_op op_add (pe_fld (pv 0) rfl) pe_int) pa_nil)))
    (pss_cons (ps_expr (pe_callE (pe_ix ix_tup (C8.pe_gc (by rfl) T.g_INSTRUCTIONS) (pv 1) (fun _ _ => rfl)) hr (pa_cons (pv 0) (pa_cons (pv 2) pa_nil))))
    (pss_one (ps_ret (pe_cmpR op_eq (pv 1) (C8.pe_gc (by rfl) T.g_REST) (nomark _))))))))), ?_⟩
  · obtain ⟨m, c, dx, M, w, rfl, _⟩ := h
    rfl
  · obtain ⟨m, c, dx, M, w, rfl, h, k⟩ := h
    refine ⟨_, rfl, me_Machine_byte_at h.obj ⟨_, rfl, _, _, _, _, _, rfl, h.obj, T.c_Machine, T.n_Machine_place, gt_Machine_place, m, c, dx, M, w, M.pc, rfl, h, _, _, rfl, rfl, (by show (0 : Int) < 16; decide), ?_⟩⟩
    refine ⟨_, rfl, me_Machine_byte_at h.obj ⟨_, rfl, _, _, _, _, _, rfl, h.obj, T.c_Machine, T.n_Machine_place, gt_Machine_place, _, _, rfl, rfl, m, c, dx, M, w, M.pc + 1, rfl, h, ?_⟩⟩
    refine ⟨_, rfl, wr_Machine_written T.c_Machine T.n_Machine_written h.obj ?_⟩
    have h1 : MAt α.c_Machine (upd H m (.ins α.c_Machine dx (mF c M none))) m c dx M none := h.upd rfl rfl rfl h.good
    refine ⟨_, rfl, me_Machine_jump_to h1.obj ⟨_, rfl, _, _, _, _, _, rfl, h1.obj, T.c_Machine, T.n_Machine_place, gt_Machine_place, _, _, rfl, rfl, m, c, dx, M, none, M.pc + 2, rfl, h1, fun H2 h2 f2 => ?_⟩⟩
    obtain ⟨g, hg, hc⟩ := hI (CsBase.opAt M).1 (op_lt16 M)
    refine ⟨_, rfl, α.t_INSTRUCTIONS, _, _, _, rfl, rfl, T.tab_INSTRUCTIONS H2, at_of (j := (CsBase.opAt M).1) rfl ?_, g, _, rfl, hc, _, rfl, _, rfl, m, c, dx, _, _, (CsBase.opAt M).2, rfl, h2, fun H3 h3 f3 => ?_⟩
    · rw [List.getElem?_map, hg]
      rfl
    have e1 := step_is h.good _ (op_lt16 M) rfl
    have e2 := writes_is M _ (op_lt16 M) rfl
    refine ⟨_, rfl, rfl, ?_⟩
    have q := k H3 (by rw [e1, e2]; exact h3) ((Fr.refl.m.trans f2).trans f3)
    have e3 : decide (V.int (((CsBase.opAt M).1 : Nat) : Int) = V.int 0) = CsBase.rests M := by
      show _ = ((CsBase.opAt M).1 == 0)
      by_cases hz : (CsBase.opAt M).1 = 0
      · rw [hz]
        rfl
      · rw [beq_false_of_ne hz]
        exact decide_eq_false fun e => hz (by injection e; omega)
    rw [← e3] at q
    exact q
end
end BR
/-! ## SpecLaws -/
/-! What the specification says, in words that a program's loops can meet. No word of the program here. -/
set_option linter.unusedVariables false
namespace SL
open Cs03

/-! ### the whole run, by its chain -/
theorem entered_f (s : Cs03.St) (m : CsBase.Mach) (f : Nat) : (entered s m f).f = f := by
  unfold entered
  split <;> rfl
theorem entered_k (s : Cs03.St) (m : CsBase.Mach) (f : Nat) : (entered s m f).k = 0 := by
  unfold entered
  split <;> rfl
/-- how much is left at most -/
def left (s : Cs03.St) (x : At) : Nat := CsBase.MOST * (s.pads.length - x.f) - x.k
theorem next_left {s : Cs03.St} {n : Nat} {x y : At} (hk : x.k < CsBase.MOST) (h : next s n x = some y) : y.k < CsBase.MOST ∧ left s y < left s x := by
  unfold next at h
  by_cases c : s.pads.length ≤ x.f
  · rw [if_pos c] at h
    cases h
  · rw [if_neg c] at h
    have h := Option.some.inj h
    have hpos : (0 : Nat) < CsBase.MOST := by decide
    have e1 : CsBase.MOST * (s.pads.length - x.f) = CsBase.MOST * (s.pads.length - (x.f + 1)) + CsBase.MOST := by
      rw [show s.pads.length - x.f = (s.pads.length - (x.f + 1)) + 1 by omega, Nat.mul_succ]
    by_cases d : CsBase.rests x.m = true ∨ CsBase.MOST ≤ x.k + 1
    · rw [if_pos d] at h
      have hf : y.f = x.f + 1 := by rw [← h]; exact entered_f ..
      have hk' : y.k = 0 := by rw [← h]; exact entered_k ..
      refine ⟨by omega, ?_⟩
      unfold left
      rw [hf, hk', e1]
      omega
    · rw [if_neg d] at h
      have hf : y.f = x.f := by rw [← h]; rfl
      have hk' : y.k = x.k + 1 := by rw [← h]; rfl
      have d2 : ¬ CsBase.MOST ≤ x.k + 1 := fun z => d (.inr z)
      refine ⟨by omega, ?_⟩
      unfold left
      rw [hf, hk', e1]
      omega
theorem trace_aux {s : Cs03.St} : ∀ (l : List At) (fuel n : Nat) (x : At), left s x < fuel → x.k < CsBase.MOST → l[0]? = some x → (∀ i y z, l[i]? = some y → l[i + 1]? = some z → next s (n + i) y = some z) →
    (∀ i y, l[i]? = some y → l[i + 1]? = none → next s (n + i) y = none) → traceFrom s fuel n x = l
  | [], _, _, _, _, _, h, _, _ => by simp at h
  | a :: r, 0, _, _, h, _, _, _, _ => absurd h (Nat.not_lt_zero _)
  | a :: r, fuel + 1, n, x, hf, hk, h0, hs, he => by
    have e : a = x := Option.some.inj h0
    subst e
    show (a :: match next s n a with | none => [] | some y => traceFrom s fuel (n + 1) y) = a :: r
    cases r with
    | nil =>
      have hn : next s n a = none := he 0 a rfl rfl
      rw [hn]
    | cons b r =>
      have hn : next s n a = some b := hs 0 a b rfl rfl
      rw [hn]
      have hl := next_left hk hn
      have ih := trace_aux (s := s) (b :: r) fuel (n + 1) b (by omega) hl.1 rfl (fun i y z hy hz => by
        have q := hs (i + 1) y z hy hz
        rw [show n + (i + 1) = n + 1 + i by omega] at q
        exact q) (fun i y hy hz => by
        have q := he (i + 1) y hy hz
        rw [show n + (i + 1) = n + 1 + i by omega] at q
        exact q)
      show a :: traceFrom s fuel (n + 1) b = a :: b :: r
      rw [ih]
/-- a list that begins as the run does, whose neighbours are steps of it, and whose last is its end, is the run -/
theorem trace_is {s : Cs03.St} {l : List At} (h0 : l[0]? = some (first s)) (hs : ∀ i y z, l[i]? = some y → l[i + 1]? = some z → next s i y = some z) (he : ∀ i y, l[i]? = some y → l[i + 1]? = none → next s i y = none) : trace s = l.toArray := by
  unfold trace
  have hk : (first s).k < CsBase.MOST := by
    show (entered s (CsBase.loaded s.program) 0).k < CsBase.MOST
    rw [entered_k]
    decide
  have hl : left s (first s) < CsBase.MOST * s.pads.length + 1 := by
    show CsBase.MOST * (s.pads.length - (entered s (CsBase.loaded s.program) 0).f) - (entered s (CsBase.loaded s.program) 0).k < _
    rw [entered_f, entered_k]
    show CsBase.MOST * (s.pads.length - 0) - 0 < _
    rw [Nat.sub_zero, Nat.sub_zero]
    omega
  rw [trace_aux l _ 0 (first s) hl hk h0 (fun i y z hy hz => by rw [Nat.zero_add]; exact hs i y z hy hz) (fun i y hy hz => by rw [Nat.zero_add]; exact he i y hy hz)]
/-- the run has at most so many places -/
theorem traceFrom_len (s : Cs03.St) : ∀ (fuel n : Nat) (x : At), (traceFrom s fuel n x).length ≤ fuel
  | 0, _, _ => Nat.le_refl _
  | fuel + 1, n, x => by
    show (x :: match next s n x with | none => [] | some y => traceFrom s fuel (n + 1) y).length ≤ fuel + 1
    rw [List.length_cons]
    cases next s n x with
    | none => exact Nat.succ_le_succ (Nat.zero_le _)
    | some y => exact Nat.succ_le_succ (traceFrom_len s fuel (n + 1) y)
theorem trace_size (s : Cs03.St) : (trace s).size ≤ CsBase.MOST * s.pads.length + 1 := by
  unfold trace
  rw [List.size_toArray]
  exact traceFrom_len ..
theorem trace_pos (s : Cs03.St) : 0 < (trace s).size := by
  unfold trace
  rw [List.size_toArray]
  exact Nat.succ_pos _
theorem long_lt (s : Cs03.St) : long (trace s) + 1 = (trace s).size := by
  have := trace_pos s
  unfold long
  omega

/-! ### the searches -/
theorem find_range {p : Nat → Bool} {n k : Nat} (hk : k < n) (hp : p k = true) (hn : ∀ j, j < k → p j = false) : (List.range n).find? p = some k := by
  rw [List.find?_range_eq_some]
  exact ⟨hp, List.mem_range.mpr hk, fun j hj => by rw [hn j hj]; rfl⟩
theorem find_range_none {p : Nat → Bool} {n : Nat} (hn : ∀ j, j < n → p j = false) : (List.range n).find? p = none := by
  rw [List.find?_eq_none]
  intro j hj
  rw [hn j (List.mem_range.mp hj)]
  exact Bool.false_ne_true
theorem last_range {p : Nat → Bool} : ∀ {n k : Nat}, k < n → p k = true → (∀ j, k < j → j < n → p j = false) → ((List.range n).filter p).getLast? = some k
  | 0, k, h, _, _ => absurd h (Nat.not_lt_zero _)
  | n + 1, k, h, hp, hn => by
    rw [List.range_succ, List.filter_append]
    by_cases e : k = n
    · subst e
      rw [List.filter_cons, if_pos hp, List.filter_nil, List.getLast?_append]
      rfl
    · rw [List.filter_cons, if_neg (by rw [hn n (by omega) (by omega)]; exact Bool.false_ne_true), List.filter_nil, List.append_nil]
      exact last_range (by omega) hp fun j h1 h2 => hn j h1 (by omega)
theorem last_range_none {p : Nat → Bool} {n : Nat} (hn : ∀ j, j < n → p j = false) : ((List.range n).filter p).getLast? = none := by
  rw [List.getLast?_eq_none_iff, List.filter_eq_nil_iff]
  intro j hj
  rw [hn j (List.mem_range.mp hj)]
  exact Bool.false_ne_true
/-- on to k: nothing between stops, and k stops or is the end -/
theorem ahead_is {s : Cs03.St} {t : Array At} {k : Nat} (hk : k ≤ long t) (h1 : s.now < k ∨ k = long t) (hn : ∀ j, s.now < j → j < k → why s t j = 0) (he : k = long t ∨ why s t k ≠ 0) : ahead s t = k := by
  unfold ahead
  by_cases c : s.now < k ∧ why s t k ≠ 0
  · rw [find_range (p := fun (n : Nat) => decide (s.now < n) && why s t n != 0) (k := k) (by omega) (by show (decide (s.now < k) && why s t k != 0) = true; rw [decide_eq_true c.1, Bool.true_and]; exact bne_iff_ne.mpr c.2) fun j hj => by
      by_cases d : s.now < j
      · simp only [hn j d hj, bne_self_eq_false, Bool.and_false]
      · simp only [decide_eq_false d, Bool.false_and]]
    rfl
  · have ek : k = long t := by
      rcases he with h | h
      · exact h
      · rcases h1 with z | z
        · exact absurd ⟨z, h⟩ c
        · exact z
    rw [find_range_none (p := fun (n : Nat) => decide (s.now < n) && why s t n != 0) fun j hj => by
      by_cases d : s.now < j
      · by_cases e : j = k
        · subst e
          have : why s t j = 0 := by
            by_cases z : why s t j = 0
            · exact z
            · exact absurd ⟨d, z⟩ c
          simp only [this, bne_self_eq_false, Bool.and_false]
        · simp only [hn j d (by omega), bne_self_eq_false, Bool.and_false]
      · simp only [decide_eq_false d, Bool.false_and]]
    exact ek.symm
/-- back to k -/
theorem behind_is {s : Cs03.St} {t : Array At} {k : Nat} (hs : s.now ≤ t.size) (hk : k < s.now ∨ k = 0) (hn : ∀ j, k < j → j < s.now → why s t j = 0) (he : k = 0 ∨ why s t k ≠ 0) : behind s t = k := by
  unfold behind
  rw [Nat.min_eq_left hs]
  by_cases c : k < s.now ∧ why s t k ≠ 0
  · rw [last_range (p := fun n => why s t n != 0) c.1 (bne_iff_ne.mpr c.2) fun j h1 h2 => by simp only [hn j h1 h2, bne_self_eq_false]]
    rfl
  · have ek : k = 0 := by
      rcases he with h | h
      · exact h
      · rcases hk with z | z
        · exact absurd ⟨z, h⟩ c
        · exact z
    rw [last_range_none (p := fun n => why s t n != 0) fun j hj => by
      by_cases e : j = k
      · subst e
        by_cases z : why s t j = 0
        · simp only [z, bne_self_eq_false]
        · exact absurd ⟨hj, z⟩ c
      · simp only [hn j (by omega) hj, bne_self_eq_false]]
    exact ek.symm
/-- where instruction n of t writes -/
def wr (t : Array At) (n : Nat) : Option Nat := (t[n]?).bind fun (x : At) => CsBase.writes x.m
theorem wrote_is {s : Cs03.St} {t : Array At} {p k : Nat} (hp : p < 128) (hk : k < s.now) (hw : wr t k = some p) (hn : ∀ j, k < j → j < s.now → wr t j ≠ some p) : Cs03.wrote s t p = some k := by
  unfold Cs03.wrote
  have e : p % CsBase.SIZE = p := Nat.mod_eq_of_lt hp
  rw [e]
  exact last_range hk (beq_iff_eq.mpr hw) fun j h1 h2 => beq_eq_false_iff_ne.mpr (hn j h1 h2)
theorem wrote_none {s : Cs03.St} {t : Array At} {p : Nat} (hp : p < 128) (hn : ∀ j, j < s.now → wr t j ≠ some p) : Cs03.wrote s t p = none := by
  unfold Cs03.wrote
  have e : p % CsBase.SIZE = p := Nat.mod_eq_of_lt hp
  rw [e]
  exact last_range_none fun j h1 => beq_eq_false_iff_ne.mpr (hn j h1)
/-- why, by its parts -/
theorem why_zero {s : Cs03.St} {t : Array At} {x : At} (h : t[0]? = some x) : why s t 0 = if s.stops.contains x.m.pc = true ∧ 0 < long t then 1 else 0 := by
  unfold why
  rw [h]
theorem why_succ {s : Cs03.St} {t : Array At} {n : Nat} {x : At} (h : t[n + 1]? = some x) : why s t (n + 1) = if s.stops.contains x.m.pc = true ∧ n + 1 < long t then 1 else match wr t n with
    | some p => if s.watches.contains p = true then 2 else 0
    | none => 0 := by
  unfold why
  rw [h]
  rfl

/-! ### the flat list -/
/-- a call as it stands in the list -/
def flat (c : List (List Int)) : List Int := match c with
  | [] => []
  | h :: rows => h ++ rows.flatMap fun r => (r.length : Int) :: r
theorem row_flat {r x t : List Int} (h : PyFlat.row r = some (x, t)) : r = (x.length : Int) :: x ++ t := by
  cases r with
  | nil => cases h
  | cons n r =>
    unfold PyFlat.row at h
    dsimp only at h
    by_cases c : 0 ≤ n ∧ n.toNat ≤ r.length
    · rw [if_pos c] at h
      obtain ⟨rfl, rfl⟩ := Prod.mk.inj (Option.some.inj h)
      rw [List.length_take, Nat.min_eq_left c.2, Int.toNat_of_nonneg c.1, List.cons_append, List.take_append_drop]
    · rw [if_neg c] at h
      cases h
theorem rows_flat : ∀ {k : Nat} {r : List Int} {xs : List (List Int)} {t : List Int}, PyFlat.rows k r = some (xs, t) → r = (xs.flatMap fun r => (r.length : Int) :: r) ++ t ∧ xs.length = k
  | 0, r, xs, t, h => by
    obtain ⟨rfl, rfl⟩ := Prod.mk.inj (Option.some.inj h)
    exact ⟨rfl, rfl⟩
  | k + 1, r, xs, t, h => by
    unfold PyFlat.rows at h
    cases e : PyFlat.row r with
    | none =>
      rw [e] at h
      cases h
    | some p =>
      obtain ⟨x, s⟩ := p
      rw [e] at h
      cases e2 : PyFlat.rows k s with
      | none =>
        simp only [e2] at h
        cases h
      | some q =>
        obtain ⟨ys, u⟩ := q
        simp only [e2] at h
        obtain ⟨rfl, rfl⟩ := Prod.mk.inj (Option.some.inj h)
        obtain ⟨h1, h2⟩ := rows_flat e2
        refine ⟨?_, by rw [List.length_cons, h2]⟩
        rw [row_flat e, h1, List.flatMap_cons, List.append_assoc]
theorem call_flat {shape : Int → Option (Nat × Nat)} {l t : List Int} {c : List (List Int)} (h : PyFlat.call shape l = some (c, t)) : l = flat c ++ t ∧ ∃ p ns rows, c = (p :: ns) :: rows ∧ shape p = some (ns.length, rows.length) := by
  cases l with
  | nil => cases h
  | cons p r =>
    unfold PyFlat.call at h
    dsimp only at h
    cases e : shape p with
    | none =>
      rw [e] at h
      cases h
    | some q =>
      obtain ⟨n, k⟩ := q
      simp only [e] at h
      by_cases d : r.length < n
      · rw [if_pos d] at h
        cases h
      · rw [if_neg d] at h
        cases e2 : PyFlat.rows k (r.drop n) with
        | none =>
          simp only [e2] at h
          cases h
        | some u =>
          obtain ⟨xs, u⟩ := u
          simp only [e2] at h
          obtain ⟨rfl, rfl⟩ := Prod.mk.inj (Option.some.inj h)
          obtain ⟨h1, h2⟩ := rows_flat e2
          refine ⟨?_, p, r.take n, xs, rfl, ?_⟩
          · show p :: r = (p :: r.take n ++ _) ++ u
            rw [List.cons_append, List.cons_append, List.append_assoc, ← h1, List.take_append_drop]
          · rw [List.length_take, Nat.min_eq_left (by omega), h2]
            exact e
theorem calls_flat {shape : Int → Option (Nat × Nat)} : ∀ {f : Nat} {l : List Int} {cs : List (List (List Int))}, PyFlat.calls shape f l = some cs → l = cs.flatMap flat ∧ ∀ c ∈ cs, ∃ p ns rows, c = (p :: ns) :: rows ∧ shape p = some (ns.length, rows.length)
  | f, [], cs, h => by
    have e : cs = [] := by
      cases f <;> exact (Option.some.inj h).symm
    subst e
    exact ⟨rfl, fun c hc => by cases hc⟩
  | 0, p :: r, cs, h => by cases h
  | f + 1, p :: r, cs, h => by
    unfold PyFlat.calls at h
    cases e : PyFlat.call shape (p :: r) with
    | none =>
      simp only [e] at h
      cases h
    | some q =>
      obtain ⟨c, t⟩ := q
      simp only [e] at h
      cases e2 : PyFlat.calls shape f t with
      | none =>
        simp only [e2] at h
        cases h
      | some ds =>
        simp only [e2] at h
        have h := Option.some.inj h
        subst h
        obtain ⟨h1, h2⟩ := call_flat e
        obtain ⟨h3, h4⟩ := calls_flat e2
        refine ⟨by rw [List.flatMap_cons, ← h3, ← h1], fun d hd => ?_⟩
        rcases List.mem_cons.mp hd with rfl | hd
        · exact h2
        · exact h4 d hd
theorem whole_id (c : List (List Int)) : PyCs03.whole c = c := by
  unfold PyCs03.whole
  split <;> rfl
theorem map_whole (cs : List (List (List Int))) : cs.map PyCs03.whole = cs := by
  have e : PyCs03.whole = id := funext whole_id
  rw [e, List.map_id]
end SL
namespace SL
open Cs03
/-! ### the run as it is made: what's there, and what's due next -/
def wAt (L : List At) : Nat → Option Nat
  | 0 => none
  | i + 1 => (L[i]?).bind fun (x : At) => CsBase.writes x.m
structure Ch (s : Cs03.St) (L : List At) : Prop where
  fst : ∀ x, L[0]? = some x → x = first s
  nxt : ∀ i y z, L[i]? = some y → L[i + 1]? = some z → next s i y = some z
structure Due (s : Cs03.St) (L : List At) (x : At) : Prop where
  fst : L = [] → x = first s
  nxt : ∀ i y, L[i]? = some y → L.length = i + 1 → next s i y = some x
theorem ch_nil (s : Cs03.St) : Ch s [] := ⟨fun x h => (by cases h), fun i y z h => (by simp at h)⟩
theorem get_snoc_lt {α : Type} {L : List α} {x : α} {i : Nat} (h : i < L.length) : (L ++ [x])[i]? = L[i]? := List.getElem?_append_left h
theorem get_snoc_eq {α : Type} {L : List α} {x : α} : (L ++ [x])[L.length]? = some x := by
  rw [List.getElem?_append_right (Nat.le_refl _), Nat.sub_self]
  rfl
theorem get_snoc_gt {α : Type} {L : List α} {x : α} {i : Nat} (h : L.length < i) : (L ++ [x])[i]? = none := List.getElem?_eq_none (by rw [List.length_append]; exact h)
theorem ch_snoc {s : Cs03.St} {L : List At} {x : At} (h : Ch s L) (d : Due s L x) : Ch s (L ++ [x]) := by
  refine ⟨fun y e => ?_, fun i y z e1 e2 => ?_⟩
  · cases L with
    | nil =>
      have e2 : x = y := Option.some.inj e
      rw [← e2]
      exact d.fst rfl
    | cons a r => exact h.fst y e
  · by_cases c : i + 1 < L.length
    · rw [get_snoc_lt (by omega)] at e1
      rw [get_snoc_lt c] at e2
      exact h.nxt i y z e1 e2
    · by_cases c2 : L.length < i + 1
      · rw [get_snoc_gt c2] at e2
        cases e2
      · have e : L.length = i + 1 := by omega
        rw [get_snoc_lt (by omega)] at e1
        rw [← e, get_snoc_eq] at e2
        rw [← Option.some.inj e2]
        exact d.nxt i y e1 e
theorem due_first (s : Cs03.St) : Due s [] (poked s 0 (entered s (CsBase.loaded s.program) 0)) := ⟨fun _ => rfl, fun i y h => (by simp at h)⟩
theorem due_next {s : Cs03.St} {L : List At} {x y : At} (h : next s L.length x = some y) : Due s (L ++ [x]) y := by
  refine ⟨fun e => ?_, fun i z e1 e2 => ?_⟩
  · have := congrArg List.length e
    rw [List.length_append] at this
    simp at this
  · have e : i = L.length := by
      rw [List.length_append] at e2
      simp at e2
      omega
    subst e
    rw [get_snoc_eq] at e1
    rw [← Option.some.inj e1]
    exact h
theorem ch_end {s : Cs03.St} {L : List At} {x : At} (h : Ch s (L ++ [x])) (e : next s L.length x = none) : trace s = (L ++ [x]).toArray := by
  refine trace_is ?_ h.nxt fun i y e1 e2 => ?_
  · cases L with
    | nil => rw [← h.fst x rfl]; rfl
    | cons a r => rw [← h.fst a rfl]; rfl
  · by_cases c : i < L.length
    · by_cases c2 : i + 1 < L.length
      · rw [get_snoc_lt c2, List.getElem?_eq_getElem c2] at e2
        cases e2
      · have e3 : i + 1 = L.length := by omega
        rw [e3, get_snoc_eq] at e2
        cases e2
    · by_cases c2 : L.length < i
      · rw [get_snoc_gt c2] at e1
        cases e1
      · have e3 : i = L.length := by omega
        subst e3
        rw [get_snoc_eq] at e1
        rw [← Option.some.inj e1]
        exact e
theorem wAt_lt {L : List At} {x : At} : ∀ {i : Nat}, i ≤ L.length → wAt (L ++ [x]) i = wAt L i
  | 0, _ => rfl
  | i + 1, h => by
    show ((L ++ [x])[i]?).bind _ = (L[i]?).bind _
    rw [get_snoc_lt (by omega)]
theorem wAt_last {L : List At} {x : At} : wAt (L ++ [x]) (L ++ [x]).length = CsBase.writes x.m := by
  rw [List.length_append]
  show ((L ++ [x])[L.length]?).bind _ = _
  rw [get_snoc_eq]
  rfl
theorem wr_wAt (L : List At) (n : Nat) : wr L.toArray n = wAt L (n + 1) := by
  show (L.toArray[n]?).bind _ = (L[n]?).bind _
  rw [List.getElem?_toArray]
/-- a frame's due beginning -/
abbrev DueE (s : Cs03.St) (L : List At) (M : CsBase.Mach) (f : Nat) : Prop := Due s L (poked s L.length (entered s M f))
theorem entered_pad {s : Cs03.St} {M : CsBase.Mach} {f v : Nat} (h : s.pads[f]? = some v) : entered s M f = ⟨CsBase.put M CsBase.PAD v, f, 0⟩ := by
  unfold entered
  rw [h]
theorem entered_end {s : Cs03.St} {M : CsBase.Mach} {f : Nat} (h : s.pads.length ≤ f) : entered s M f = ⟨M, f, 0⟩ := by
  unfold entered
  rw [List.getElem?_eq_none h]
theorem poked_f (s : Cs03.St) (n : Nat) (x : At) : (poked s n x).f = x.f := rfl
theorem poked_k (s : Cs03.St) (n : Nat) (x : At) : (poked s n x).k = x.k := rfl
/-- behind an instruction that ends its frame -/
theorem due_frame {s : Cs03.St} {L : List At} {M : CsBase.Mach} {f k n : Nat} {x : At} (hf : f < s.pads.length) (ex : x = poked s n ⟨M, f, k⟩) (h : CsBase.rests x.m = true ∨ 300 ≤ k + 1) : DueE s (L ++ [x]) (CsBase.step x.m) (f + 1) := by
  have e : (L ++ [x]).length = L.length + 1 := by rw [List.length_append]; rfl
  unfold DueE
  rw [e]
  refine due_next ?_
  have e1 : x.f = f := by rw [ex]; rfl
  have e2 : x.k = k := by rw [ex]; rfl
  unfold next
  rw [if_neg (by rw [e1]; omega), e1, e2]
  dsimp only
  rw [if_pos (show CsBase.rests x.m = true ∨ CsBase.MOST ≤ k + 1 from h)]
theorem due_within {s : Cs03.St} {L : List At} {M : CsBase.Mach} {f k n : Nat} {x : At} (hf : f < s.pads.length) (ex : x = poked s n ⟨M, f, k⟩) (h : CsBase.rests x.m = false) (h2 : k + 1 < 300) : Due s (L ++ [x]) (poked s (L ++ [x]).length ⟨CsBase.step x.m, f, k + 1⟩) := by
  have e : (L ++ [x]).length = L.length + 1 := by rw [List.length_append]; rfl
  rw [e]
  refine due_next ?_
  have e1 : x.f = f := by rw [ex]; rfl
  have e2 : x.k = k := by rw [ex]; rfl
  unfold next
  rw [if_neg (by rw [e1]; omega), e1, e2]
  dsimp only
  rw [if_neg]
  intro z
  rcases z with z | z
  · rw [h] at z
    cases z
  · have z : 300 ≤ k + 1 := z
    omega
/-- the run is the bytes', the pads' and the hand's -/
theorem trace_congr {s u : Cs03.St} (h1 : s.program = u.program) (h2 : s.pads = u.pads) (h3 : s.pokes = u.pokes) : trace s = trace u := by
  have hp : ∀ n x, poked s n x = poked u n x := fun n x => by unfold poked; rw [h3]
  have he : ∀ m f, entered s m f = entered u m f := fun m f => by unfold entered; rw [h2]
  have hn : ∀ n x, next s n x = next u n x := fun n x => by
    unfold next
    rw [h2]
    simp only [hp, he]
  have ht : ∀ (k n : Nat) (x : At), traceFrom s k n x = traceFrom u k n x := by
    intro k
    induction k with
    | zero => intro n x; rfl
    | succ k ih =>
      intro n x
      show (x :: match next s n x with | none => [] | some y => traceFrom s k (n + 1) y) = (x :: match next u n x with | none => [] | some y => traceFrom u k (n + 1) y)
      rw [hn]
      cases next u n x with
      | none => rfl
      | some y => exact congrArg _ (ih (n + 1) y)
  unfold trace first
  rw [h2, ht, hp, he, h1]
end SL
namespace SL
open Cs03
/-! ### the run is not shorter with more pads, nor ahead of a change by hand -/
theorem longer_aux {s u : Cs03.St} {l : List Nat} (h2 : u.pads = s.pads ++ l) (h3 : u.pokes = s.pokes) : ∀ (k k' n : Nat) (x x' : At), k ≤ k' → (x = x' ∨ s.pads.length ≤ x.f) → (traceFrom s k n x).length ≤ (traceFrom u k' n x').length
  | 0, _, _, _, _, _, _ => Nat.zero_le _
  | k + 1, 0, _, _, _, h, _ => absurd h (by omega)
  | k + 1, k' + 1, n, x, x', h, hx => by
    show (x :: match next s n x with | none => [] | some y => traceFrom s k (n + 1) y).length ≤ (x' :: match next u n x' with | none => [] | some y => traceFrom u k' (n + 1) y).length
    rw [List.length_cons, List.length_cons]
    refine Nat.succ_le_succ ?_
    by_cases c : s.pads.length ≤ x.f
    · have e : next s n x = none := by
        unfold next
        rw [if_pos c]
      rw [e]
      exact Nat.zero_le _
    · have e : x = x' := hx.resolve_right c
      subst e
      have c2 : ¬ u.pads.length ≤ x.f := by
        rw [h2, List.length_append]
        omega
      have hp : ∀ n z, poked u n z = poked s n z := fun n z => by unfold poked; rw [h3]
      unfold next
      rw [if_neg c, if_neg c2]
      dsimp only
      rw [hp]
      refine longer_aux h2 h3 k k' (n + 1) _ _ (by omega) ?_
      by_cases d : CsBase.rests x.m = true ∨ CsBase.MOST ≤ x.k + 1
      · rw [if_pos d, if_pos d]
        by_cases e : x.f + 1 < s.pads.length
        · refine .inl ?_
          have : entered u (CsBase.step x.m) (x.f + 1) = entered s (CsBase.step x.m) (x.f + 1) := by
            unfold entered
            rw [h2, List.getElem?_append_left e]
          rw [this]
        · refine .inr ?_
          rw [poked_f, entered_f]
          omega
      · rw [if_neg d, if_neg d]
        exact .inl rfl
theorem longer {s u : Cs03.St} {l : List Nat} (h1 : u.program = s.program) (h2 : u.pads = s.pads ++ l) (h3 : u.pokes = s.pokes) : long (trace s) ≤ long (trace u) := by
  have h : (trace s).size ≤ (trace u).size := by
    unfold trace
    rw [List.size_toArray, List.size_toArray]
    refine longer_aux h2 h3 _ _ 0 _ _ ?_ ?_
    · rw [h2, List.length_append]
      exact Nat.succ_le_succ (Nat.mul_le_mul (Nat.le_refl _) (Nat.le_add_right _ _))
    · have hp : ∀ n z, poked u n z = poked s n z := fun n z => by unfold poked; rw [h3]
      unfold first
      rw [hp, h1]
      by_cases e : 0 < s.pads.length
      · refine .inl ?_
        have : entered u (CsBase.loaded s.program) 0 = entered s (CsBase.loaded s.program) 0 := by
          unfold entered
          rw [h2, List.getElem?_append_left e]
        rw [this]
      · refine .inr ?_
        rw [poked_f, entered_f]
        omega
  unfold long
  omega
theorem poked_ne {s u : Cs03.St} {y : Poke} {n : Nat} {x : At} (h3 : u.pokes = s.pokes ++ [y]) (h : y.at_ ≠ n) : poked s n x = poked u n x := by
  have e : (u.pokes.filter fun (z : Poke) => z.at_ == n) = s.pokes.filter fun (z : Poke) => z.at_ == n := by
    rw [h3, List.filter_append, List.filter_cons, if_neg (by simpa using h), List.filter_nil, List.append_nil]
  unfold poked
  rw [e]
theorem ahead_aux {s u : Cs03.St} {y : Poke} (h2 : u.pads = s.pads) (h3 : u.pokes = s.pokes ++ [y]) : ∀ (k n : Nat) (x x' : At), n ≤ y.at_ → (n < y.at_ → x = x') → y.at_ - n < (traceFrom s k n x).length → y.at_ - n < (traceFrom u k n x').length
  | 0, _, _, _, _, _, h => absurd h (Nat.not_lt_zero _)
  | k + 1, n, x, x', hn, hx, h => by
    have h : y.at_ - n < (x :: match next s n x with | none => [] | some z => traceFrom s k (n + 1) z).length := h
    show y.at_ - n < (x' :: match next u n x' with | none => [] | some z => traceFrom u k (n + 1) z).length
    rw [List.length_cons] at h ⊢
    by_cases c : n = y.at_
    · omega
    · have e : x = x' := hx (by omega)
      subst e
      by_cases c1 : s.pads.length ≤ x.f
      · have e : next s n x = none := by
          unfold next
          rw [if_pos c1]
        rw [e] at h
        have h : y.at_ - n < 0 + 1 := h
        omega
      · have c2 : ¬ u.pads.length ≤ x.f := by
          rw [h2]
          exact c1
        unfold next at h ⊢
        rw [if_neg c1] at h
        rw [if_neg c2]
        dsimp only at h ⊢
        have he : ∀ m f, entered u m f = entered s m f := fun m f => by unfold entered; rw [h2]
        rw [he]
        have q := ahead_aux h2 h3 k (n + 1) (poked s (n + 1) (if CsBase.rests x.m = true ∨ CsBase.MOST ≤ x.k + 1 then entered s (CsBase.step x.m) (x.f + 1) else ⟨CsBase.step x.m, x.f, x.k + 1⟩)) (poked u (n + 1) (if CsBase.rests x.m = true ∨ CsBase.MOST ≤ x.k + 1 then entered s (CsBase.step x.m) (x.f + 1) else ⟨CsBase.step x.m, x.f, x.k + 1⟩)) (by omega) (fun z => poked_ne h3 (by omega)) (by omega)
        omega
theorem poke_ahead {s u : Cs03.St} {y : Poke} (h1 : u.program = s.program) (h2 : u.pads = s.pads) (h3 : u.pokes = s.pokes ++ [y]) (h : y.at_ ≤ long (trace s)) : y.at_ ≤ long (trace u) := by
  have q : y.at_ < (trace u).size := by
    have h0 : y.at_ < (trace s).size := by
      have := long_lt s
      omega
    unfold trace at h0 ⊢
    rw [List.size_toArray] at h0 ⊢
    rw [h2]
    refine ahead_aux h2 h3 _ 0 (first s) (first u) (Nat.zero_le _) (fun z => ?_) h0
    have he : ∀ m f, entered u m f = entered s m f := fun m f => by unfold entered; rw [h2]
    unfold first
    rw [he, h1]
    exact poked_ne h3 (by omega)
  have := long_lt u
  omega
end SL
/-! ## Mom1 -/
set_option Elab.async false
set_option maxRecDepth 100000
set_option maxHeartbeats 2000000
set_option linter.unusedVariables false
namespace BR
open PySem PySem.Spec PyProof.Rows L2

/-! ### lists of things, one by one -/
def Alls {α : Type} (R : Nat → V → α → Prop) (vs : List V) (ps : List α) : Prop := vs.length = ps.length ∧ ∀ i v p, vs[i]? = some v → ps[i]? = some p → R i v p
theorem Alls.nil {α : Type} {R : Nat → V → α → Prop} : Alls R [] [] := ⟨rfl, fun i v p h => by simp at h⟩
theorem Alls.get {α : Type} {R : Nat → V → α → Prop} {vs : List V} {ps : List α} (h : Alls R vs ps) {i : Nat} {p : α} (e : ps[i]? = some p) : ∃ v, vs[i]? = some v ∧ R i v p := by
  have hi : i < vs.length := by
    rw [h.1]
    exact (List.getElem?_eq_some_iff.mp e).1
  exact ⟨vs[i], List.getElem?_eq_getElem hi, h.2 i _ p (List.getElem?_eq_getElem hi) e⟩
theorem Alls.got {α : Type} {R : Nat → V → α → Prop} {vs : List V} {ps : List α} (h : Alls R vs ps) {i : Nat} {v : V} (e : vs[i]? = some v) : ∃ p, ps[i]? = some p ∧ R i v p := by
  have hi : i < ps.length := by
    rw [← h.1]
    exact (List.getElem?_eq_some_iff.mp e).1
  exact ⟨ps[i], List.getElem?_eq_getElem hi, h.2 i v _ e (List.getElem?_eq_getElem hi)⟩
theorem Alls.mono {α : Type} {R R' : Nat → V → α → Prop} {vs : List V} {ps : List α} (h : Alls R vs ps) (m : ∀ i v p, i < ps.length → R i v p → R' i v p) : Alls R' vs ps := ⟨h.1, fun i v p a b => m i v p (List.getElem?_eq_some_iff.mp b).1 (h.2 i v p a b)⟩
theorem Alls.snoc {α : Type} {R : Nat → V → α → Prop} {vs : List V} {ps : List α} {v : V} {p : α} (h : Alls R vs ps) (r : R ps.length v p) : Alls R (vs ++ [v]) (ps ++ [p]) := by
  refine ⟨by rw [List.length_append, List.length_append, h.1]; rfl, fun i w q a b => ?_⟩
  by_cases c : i < ps.length
  · rw [SL.get_snoc_lt (by rw [h.1]; exact c)] at a
    rw [SL.get_snoc_lt c] at b
    exact h.2 i w q a b
  · by_cases c2 : ps.length < i
    · rw [SL.get_snoc_gt c2] at b
      cases b
    · have e : i = ps.length := by omega
      subst e
      rw [SL.get_snoc_eq] at b
      rw [← h.1, SL.get_snoc_eq] at a
      rw [← Option.some.inj a, ← Option.some.inj b]
      exact r
theorem Alls.drop {α : Type} {R : Nat → V → α → Prop} {vs : List V} {ps : List α} (h : Alls R vs ps) : Alls R vs.dropLast ps.dropLast := by
  refine ⟨by rw [List.length_dropLast, List.length_dropLast, h.1], fun i v p a b => ?_⟩
  rw [List.getElem?_dropLast] at a b
  split at a
  · split at b
    · exact h.2 i v p a b
    · cases b
  · cases a

/-! ### what is of a run -/
abbrev At := Cs03.At
abbrev Poke := Cs03.Poke
def MomAt (C : Addr) (S : Addr → Prop) (H : Hp) (v : V) (x : At) (w : Option Nat) : Prop := ∃ b dx cb, v = .ref b ∧ ¬ S b ∧ ¬ S cb ∧
  H b = some (.ins C dx (F_Moment (nV x.f) (nV x.k) (nV x.m.a) (nV x.m.x) (nV x.m.pc) (.bl x.m.z) (.bl x.m.c) (.ref cb) (wV w))) ∧ H cb = some (.lst (x.m.mem.toList.map nV)) ∧ Good x.m
/-- the moments L, listed at l -/
def Moms (C : Addr) (S : Addr → Prop) (H : Hp) (l : Addr) (L : List At) : Prop := ∃ vs, H l = some (.lst vs) ∧ Alls (fun i v x => MomAt C S H v x (SL.wAt L i)) vs L
/-- all that isn't in S is as it was -/
def FrS (S : Addr → Prop) (H H' : Hp) : Prop := ∀ b o, H b = some o → ¬ S b → H' b = some o
theorem MomAt.fr {C : Addr} {S : Addr → Prop} {H H' : Hp} {v : V} {x : At} {w : Option Nat} (h : MomAt C S H v x w) (f : FrS S H H') : MomAt C S H' v x w := by
  obtain ⟨b, dx, cb, e, n1, n2, h1, h2, g⟩ := h
  exact ⟨b, dx, cb, e, n1, n2, f _ _ h1 n1, f _ _ h2 n2, g⟩
theorem MomAt.mono {C : Addr} {S S' : Addr → Prop} {H : Hp} {v : V} {x : At} {w : Option Nat} (h : MomAt C S H v x w) (f : ∀ b o, H b = some o → ¬ S b → ¬ S' b) : MomAt C S' H v x w := by
  obtain ⟨b, dx, cb, e, n1, n2, h1, h2, g⟩ := h
  exact ⟨b, dx, cb, e, f _ _ h1 n1, f _ _ h2 n2, h1, h2, g⟩
theorem Moms.fr {C : Addr} {S : Addr → Prop} {H H' : Hp} {l : Addr} {L : List At} (h : Moms C S H l L) (f : FrS S H H') (hl : H' l = H l) : Moms C S H' l L := by
  obtain ⟨vs, h1, h2⟩ := h
  exact ⟨vs, hl.trans h1, h2.mono fun _ _ _ _ r => r.fr f⟩
theorem Moms.mono {C : Addr} {S S' : Addr → Prop} {H : Hp} {l : Addr} {L : List At} (h : Moms C S H l L) (f : ∀ b o, H b = some o → ¬ S b → ¬ S' b) : Moms C S' H l L := by
  obtain ⟨vs, h1, h2⟩ := h
  exact ⟨vs, h1, h2.mono fun _ _ _ _ r => r.mono f⟩
/-- what is in S is there -/
def Trk (S : Addr → Prop) (H : Hp) : Prop := ∀ b, S b → ∃ o, H b = some o
theorem Trk.new {S : Addr → Prop} {H : Hp} (h : Trk S H) {b : Addr} (e : H b = none) : ¬ S b := fun z => by
  obtain ⟨o, q⟩ := h b z
  rw [e] at q
  cases q
theorem Trk.upd {S : Addr → Prop} {H : Hp} (h : Trk S H) (a : Addr) (o : HO) : Trk S (upd H a o) := fun b z => by
  by_cases e : b = a
  · subst e
    exact ⟨o, upd_same⟩
  · obtain ⟨u, q⟩ := h b z
    exact ⟨u, (upd_ne e).trans q⟩
theorem Trk.same {S : Addr → Prop} {H H' : Hp} (h : Trk S H) (s : Same H H') : Trk S H' := fun b z => by
  obtain ⟨o, q⟩ := h b z
  exact ⟨o, s b o q⟩

/-! ### what was changed by hand, by number -/
def TupAt (E : Addr → Prop) (H : Hp) (v : V) (p : Poke) : Prop := ∃ t, v = .ref t ∧ ¬ E t ∧ H t = some (.tup [nV p.p, nV p.v])
def ChgAt (E : Addr → Prop) (H : Hp) (v : V) (p : Poke) : Prop := ∃ t, v = .ref t ∧ ¬ E t ∧ H t = some (.tup [nV p.at_, nV p.p, nV p.v])
def Chg (E : Addr → Prop) (H : Hp) (a : Addr) (ps : List Poke) : Prop := ∃ vs, H a = some (.lst vs) ∧ Alls (fun _ v p => ChgAt E H v p) vs ps
theorem Chg.fr {E : Addr → Prop} {H H' : Hp} {a : Addr} {ps : List Poke} (h : Chg E H a ps) (f : FrS E H H') (e : H' a = H a) : Chg E H' a ps := by
  obtain ⟨vs, h1, h2⟩ := h
  refine ⟨vs, e.trans h1, h2.mono fun _ v p _ r => ?_⟩
  obtain ⟨t, e1, e2, e3⟩ := r
  exact ⟨t, e1, e2, f _ _ e3 e2⟩
theorem Chg.mono {E E' : Addr → Prop} {H : Hp} {a : Addr} {ps : List Poke} (h : Chg E H a ps) (f : ∀ b o, H b = some o → ¬ E b → ¬ E' b) : Chg E' H a ps := by
  obtain ⟨vs, h1, h2⟩ := h
  refine ⟨vs, h1, h2.mono fun _ v p _ r => ?_⟩
  obtain ⟨t, e1, e2, e3⟩ := r
  exact ⟨t, e1, f _ _ e3 e2, e3⟩
abbrev ofN (ps : List Poke) (n : Nat) : List Poke := ps.filter fun (y : Poke) => y.at_ == n
/-- one number's group -/
def Grp (E : Addr → Prop) (H : Hp) (kvs : List (L2.Key × V)) (ps : List Poke) (n : Nat) : Prop :=
  (valV kvs (Sum.inl (n : Int)) = none ∧ ofN ps n = []) ∨ ∃ g vs, valV kvs (Sum.inl (n : Int)) = some (.ref g) ∧ ¬ E g ∧ H g = some (.lst vs) ∧ Alls (fun _ v p => TupAt E H v p) vs (ofN ps n)
structure ByK (E : Addr → Prop) (H : Hp) (d : Addr) (kvs : List (L2.Key × V)) (ps : List Poke) : Prop where
  dic : H d = some (.dK kvs)
  few : kvs.length ≤ ps.length
  own : ¬ E d
  grp : ∀ n, Grp E H kvs ps n
  inj : ∀ (n m : Nat) g, valV kvs (Sum.inl (n : Int)) = some (.ref g) → valV kvs (Sum.inl (m : Int)) = some (.ref g) → n = m
def ByNum (E : Addr → Prop) (H : Hp) (d : Addr) (ps : List Poke) : Prop := ∃ kvs, ByK E H d kvs ps
theorem TupAt.fr {E : Addr → Prop} {H H' : Hp} {v : V} {p : Poke} (h : TupAt E H v p) (f : FrS E H H') : TupAt E H' v p := by
  obtain ⟨t, e1, e2, e3⟩ := h
  exact ⟨t, e1, e2, f _ _ e3 e2⟩
theorem ByNum.fr {E : Addr → Prop} {H H' : Hp} {d : Addr} {ps : List Poke} (h : ByNum E H d ps) (f : FrS E H H') : ByNum E H' d ps := by
  obtain ⟨kvs, h⟩ := h
  refine ⟨kvs, f _ _ h.dic h.own, h.few, h.own, fun n => ?_, h.inj⟩
  rcases h.grp n with q | ⟨g, vs, q1, q2, q3, q4⟩
  · exact .inl q
  · exact .inr ⟨g, vs, q1, q2, f _ _ q3 q2, q4.mono fun _ _ _ _ r => r.fr f⟩
theorem ByNum.mono {E E' : Addr → Prop} {H : Hp} {d : Addr} {ps : List Poke} (h : ByNum E H d ps) (f : ∀ b o, H b = some o → ¬ E b → ¬ E' b) : ByNum E' H d ps := by
  obtain ⟨kvs, h⟩ := h
  refine ⟨kvs, h.dic, h.few, f _ _ h.dic h.own, fun n => ?_, h.inj⟩
  rcases h.grp n with q | ⟨g, vs, q1, q2, q3, q4⟩
  · exact .inl q
  · refine .inr ⟨g, vs, q1, f _ _ q3 q2, q3, q4.mono fun _ _ _ _ r => ?_⟩
    obtain ⟨t, e1, e2, e3⟩ := r
    exact ⟨t, e1, f _ _ e3 e2, e3⟩
theorem Same.new {H : Hp} {q : Addr} {o : HO} (h : H q = none) : Same H (upd H q o) := fun b u e => by
  rw [upd_ne (ne_of_none e h)]
  exact e
theorem upd_free {H : Hp} {a q : Addr} {o : HO} (h : upd H a o q = none) : H q = none := by
  by_cases e : q = a
  · rw [e, upd_same] at h
    cases h
  · rw [upd_ne e] at h
    exact h
/-- there already -/
abbrev Old (H : Hp) : Addr → Prop := fun b => H b ≠ none
theorem not_old {H : Hp} {b : Addr} (h : H b = none) : ¬ Old H b := fun z => z h
theorem of_not_old {H : Hp} {b : Addr} (h : ¬ Old H b) : H b = none := Classical.byContradiction h
theorem trk_old {H H' : Hp} (s : Same H H') : Trk (Old H) H' := fun b z => by
  cases e : H b with
  | none => exact absurd e z
  | some o => exact ⟨o, s b o e⟩
theorem ofN_snoc_eq (ps : List Poke) (p : Poke) : ofN (ps ++ [p]) p.at_ = ofN ps p.at_ ++ [p] := by
  unfold ofN
  rw [List.filter_append, List.filter_cons, if_pos (beq_self_eq_true p.at_), List.filter_nil]
theorem ofN_snoc_ne (ps : List Poke) (p : Poke) {n : Nat} (h : p.at_ ≠ n) : ofN (ps ++ [p]) n = ofN ps n := by
  unfold ofN
  rw [List.filter_append, List.filter_cons, if_neg (by simpa using h), List.filter_nil, List.append_nil]
theorem inl_inj {n m : Nat} (h : (Sum.inl (n : Int) : L2.Key) = Sum.inl (m : Int)) : n = m := by
  injection h
  omega

section
variable {P : Program} {w : World} {K : PySem.W.Frag} {mg : Str → Option Value} {base : Heap} {α : Ads}
def spGroup : Sp := fun vs H Q _ => ∃ (a : Addr) (E : Addr → Prop) (ps : List Poke), vs = [.ref a] ∧ Chg E H a ps ∧ ps.length ≤ 1000 ∧
  ∀ (H' : Hp) (d : Addr), Same H H' → ByNum (Old H) H' d ps → Q (.ref d) H'
theorem by_existing {E : Addr → Prop} {H H1 : Hp} {d g t : Addr} {kvs : List (L2.Key × V)} {ps : List Poke} {p : Poke} {vs : List V} (h : ByK E H d kvs ps) (sm : Same H H1) (e : valV kvs (Sum.inl (p.at_ : Int)) = some (.ref g)) (hg : H g = some (.lst vs)) (ht : H t = none) (nt : ¬ E t) (h1 : H1 t = some (.tup [nV p.p, nV p.v])) :
    ByK E (upd H1 g (.lst (vs ++ [.ref t]))) d kvs (ps ++ [p]) := by
  have ngd : d ≠ g := ne_of h.dic hg (by intro z; cases z)
  have ngt : t ≠ g := fun z => by
    rw [z, hg] at ht
    cases ht
  have tup : ∀ v q, TupAt E H v q → TupAt E (upd H1 g (.lst (vs ++ [.ref t]))) v q := fun v q r => by
    obtain ⟨b, e1, e2, e3⟩ := r
    refine ⟨b, e1, e2, ?_⟩
    rw [upd_ne (ne_of e3 hg (by intro z; cases z))]
    exact sm _ _ e3
  refine ⟨?_, ?_, h.own, fun n => ?_, h.inj⟩
  · rw [upd_ne ngd]
    exact sm _ _ h.dic
  · rw [List.length_append]
    exact Nat.le_trans h.few (Nat.le_add_right _ _)
  · by_cases c : p.at_ = n
    · subst c
      rcases h.grp p.at_ with q | ⟨g', vs', q1, q2, q3, q4⟩
      · rw [e] at q
        cases q.1
      · have eg : g' = g := by
          rw [e] at q1
          injection Option.some.inj q1.symm
        subst eg
        have ev : vs' = vs := by
          rw [q3] at hg
          injection Option.some.inj hg
        subst ev
        refine .inr ⟨g', _, e, q2, upd_same, ?_⟩
        rw [ofN_snoc_eq]
        exact (q4.mono fun _ v q _ r => tup v q r).snoc ⟨t, rfl, nt, by rw [upd_ne ngt]; exact h1⟩
    · rw [Grp, ofN_snoc_ne _ _ c]
      rcases h.grp n with q | ⟨g', vs', q1, q2, q3, q4⟩
      · exact .inl q
      · have ng : g' ≠ g := fun z => c (h.inj p.at_ n g e (by rw [q1, z]))
        refine .inr ⟨g', vs', q1, q2, ?_, q4.mono fun _ v q _ r => tup v q r⟩
        rw [upd_ne ng]
        exact sm _ _ q3
theorem by_more {E : Addr → Prop} {H H1 : Hp} {d g : Addr} {kvs : List (L2.Key × V)} {ps : List Poke} {p : Poke} {t : Addr} (h : ByK E H d kvs ps) (sm : ∀ b o, H b = some o → b ≠ d → H1 b = some o) (e : valV kvs (Sum.inl (p.at_ : Int)) = none) (hg : H g = none) (ng : ¬ E g) (nt : ¬ E t)
    (hd : H1 d = some (.dK (putK kvs (Sum.inl (p.at_ : Int)) (.ref g)))) (h1 : H1 t = some (.tup [nV p.p, nV p.v])) (h2 : H1 g = some (.lst [.ref t])) : ByK E H1 d (putK kvs (Sum.inl (p.at_ : Int)) (.ref g)) (ps ++ [p]) := by
  have tup : ∀ v q, TupAt E H v q → TupAt E H1 v q := fun v q r => by
    obtain ⟨b, e1, e2, e3⟩ := r
    exact ⟨b, e1, e2, sm _ _ e3 (ne_of e3 h.dic (by intro z; cases z))⟩
  have val : ∀ n : Nat, valV (putK kvs (Sum.inl (p.at_ : Int)) (.ref g)) (Sum.inl (n : Int)) = if (Sum.inl (n : Int) : L2.Key) = Sum.inl (p.at_ : Int) then some (.ref g) else valV kvs (Sum.inl (n : Int)) := fun n => valV_put _ _ _ _
  have old : ∀ (n : Nat) g', valV kvs (Sum.inl (n : Int)) = some (.ref g') → g' ≠ g := fun n g' e1 z => by
    rcases h.grp n with q | ⟨g2, vs', q1, q2, q3, q4⟩
    · rw [e1] at q
      cases q.1
    · rw [e1] at q1
      have : g' = g2 := by injection Option.some.inj q1
      rw [← this, z, hg] at q3
      cases q3
  refine ⟨hd, ?_, h.own, fun n => ?_, fun n m g' e1 e2 => ?_⟩
  · rw [putK_new _ e, List.length_append, List.length_append]
    exact Nat.add_le_add_right h.few _
  · by_cases c : p.at_ = n
    · subst c
      have z : ofN ps p.at_ = [] := by
        rcases h.grp p.at_ with q | ⟨g', vs', q1, _⟩
        · exact q.2
        · rw [e] at q1
          cases q1
      refine .inr ⟨g, _, by rw [val, if_pos rfl], ng, h2, ?_⟩
      rw [ofN_snoc_eq, z]
      exact Alls.snoc (vs := []) (ps := []) .nil ⟨t, rfl, nt, h1⟩
    · rw [Grp, ofN_snoc_ne _ _ c, val, if_neg fun z => c (inl_inj z).symm]
      rcases h.grp n with q | ⟨g', vs', q1, q2, q3, q4⟩
      · exact .inl q
      · exact .inr ⟨g', vs', q1, q2, sm _ _ q3 (ne_of q3 h.dic (by intro z; cases z)), q4.mono fun _ v q _ r => tup v q r⟩
  · rw [val] at e1 e2
    by_cases c1 : (Sum.inl (n : Int) : L2.Key) = Sum.inl (p.at_ : Int)
    · by_cases c2 : (Sum.inl (m : Int) : L2.Key) = Sum.inl (p.at_ : Int)
      · exact (inl_inj c1).trans (inl_inj c2).symm
      · rw [if_pos c1] at e1
        rw [if_neg c2] at e2
        have : g = g' := by injection Option.some.inj e1
        exact absurd this.symm (old m g' e2)
    · by_cases c2 : (Sum.inl (m : Int) : L2.Key) = Sum.inl (p.at_ : Int)
      · rw [if_neg c1] at e1
        rw [if_pos c2] at e2
        have : g = g' := by injection Option.some.inj e2
        exact absurd this.symm (old n g' e1)
      · rw [if_neg c1] at e1
        rw [if_neg c2] at e2
        exact h.inj n m g' e1 e2
theorem take_snoc {β : Type} {l : List β} {i : Nat} {x : β} (h : l[i]? = some x) : l.take (i + 1) = l.take i ++ [x] := by
  rw [List.take_add_one, h]
  rfl
theorem ok_group (T : Txt K mg α) : C8.Cal P w K mg base 1 "group_by_number" spGroup [] := by
  refine cal_of T.d_group_by_number sc_group_by_number bi_group_by_number (fun vs H Q E h => ?_) fun f cdv A outer s H vs Q E hr h => ⟨_, (pss_cons (ps_set (i := 1) sc_group_by_number.nd rfl (Or.inl rfl) pe_dnewK)
    (pss_cons (ps_for PassesOwn.never rfl (pi_list (pv 0)) (pg_tup (by rfl) (pgs_cons (pg_name (i := 2) sc_group_by_number.nd rfl (Or.inl rfl)) (pgs_cons (pg_name (i := 3) sc_group_by_number.nd rfl (Or.inl rfl)) (pgs_cons (pg_name (i := 4) sc_group_by_number.nd rfl (Or.inl rfl)) pgs_nil))))
      (pss_one (ps_expr (pe_bm PySem.F.plainAttrs_list PySem.F.slot_list_append PySem.F.type_list_append mt_append (pe_dsetd (pv 1) (pv 2) (pe_lst pa_nil) ⟨rfl, rfl, rfl, rfl⟩) (pa_cons (pe_tup (pa_cons (pv 3) (pa_cons (pv 4) pa_nil))) pa_nil)))))
    (pss_one (ps_ret (pv 1))))), ?_⟩
  · obtain ⟨a, E, ps, rfl, _⟩ := h
    rfl
  · obtain ⟨a, E, ps, rfl, ⟨us, ha, hs⟩, hn, k⟩ := h
    refine fun d hd => ⟨_, rfl, a, rfl, ⟨_, SqL.of ((upd_ne (ne_of_none ha hd)).trans ha)⟩, ?_⟩
    refine for_list (K := K) (a := a) (xs := us) (fun i σ H' => Same H H' ∧ ByNum (Old H) H' d (ps.take i) ∧ ∃ x y z, σ = [some (.ref a), some (.ref d), x, y, z]) ⟨Same.new hd, ⟨[], upd_same, Nat.zero_le _, not_old hd, fun n => .inl ⟨rfl, rfl⟩, fun n m g e => by cases e⟩, _, _, _, rfl⟩ (fun i σ H' _ p => SqL.of (p.1 _ _ ha)) ?_ ?_
    · rintro i x σ H1 hx ⟨s1, ⟨kvs, hk⟩, x1, x2, x3, rfl⟩
      obtain ⟨p, hp, t0, rfl, _, ht0⟩ := hs.got hx
      have hsz : kvs.length < sizeLine := by
        refine Nat.lt_of_le_of_lt hk.few ?_
        rw [List.length_take]
        exact Nat.lt_of_le_of_lt (Nat.le_trans (Nat.min_le_right ..) hn) (by decide)
      refine ⟨t0, _, rfl, SqT.of (s1 _ _ ht0), rfl, _, _, rfl, _, _, rfl, _, _, rfl, rfl, ?_⟩
      refine ⟨_, rfl, d, rfl, .inl ⟨_, .inl hk.dic⟩, _, rfl, by show 0 ≤ sizeLine; decide, fun q hq => ?_⟩
      have ndq : d ≠ q := ne_of_none hk.dic hq
      have hqH : H q = none := s1.free hq
      refine ⟨kvs, Sum.inl (p.at_ : Int), (upd_ne ndq).trans hk.dic, rfl, hsz, fun v hv => ?_, fun hv => ?_⟩
      · -- there is a group already
        obtain ⟨g, vs, q1, q2, q3, q4⟩ : ∃ g vs, valV kvs (Sum.inl (p.at_ : Int)) = some (.ref g) ∧ ¬ Old H g ∧ H1 g = some (.lst vs) ∧ Alls (fun _ v p => TupAt (Old H) H1 v p) vs (ofN (ps.take i) p.at_) := by
          rcases hk.grp p.at_ with z | z
          · rw [hv] at z
            cases z.1
          · exact z
        have ev : v = .ref g := by
          rw [hv] at q1
          exact Option.some.inj q1
        subst ev
        have ngq : g ≠ q := ne_of_none q3 hq
        refine ⟨.inl ⟨rfl, _, SqL.of ((upd_ne ngq).trans q3)⟩, _, rfl, _, rfl, by show 2 ≤ sizeLine; decide, fun t ht => ?_⟩
        have htH1 : H1 t = none := upd_free ht
        have ngt : g ≠ t := ne_of_none q3 htH1
        have s2 : Same H1 (upd (upd H1 q (.lst [])) t (.tup [nV p.p, nV p.v])) := (Same.new hq).trans (Same.new ht)
        refine ⟨g, vs, _, rfl, rfl, s2 _ _ q3, ?_, ?_⟩
        · have : vs.length ≤ 1000 := by
            rw [q4.1]
            exact Nat.le_trans (List.length_filter_le _ _) (by rw [List.length_take]; omega)
          exact Nat.lt_of_le_of_lt this (by decide)
        refine ⟨fun b o hb => ?_, ⟨kvs, ?_⟩, _, _, _, rfl⟩
        · rw [upd_ne (fun z => q2 (by rw [← z, Old, hb]; exact fun y => by cases y))]
          exact s2 _ _ (s1 _ _ hb)
        · rw [take_snoc hp]
          exact by_existing hk s2 q1 q3 htH1 (not_old (s1.free htH1)) upd_same
      · -- a new one
        have hdq : (upd (upd H1 q (.lst [])) d (.dK (putK kvs (Sum.inl (p.at_ : Int)) (.ref q)))) q = some (.lst []) := by
          rw [upd_ne ndq.symm, upd_same]
        refine ⟨.inl ⟨rfl, _, SqL.of hdq⟩, _, rfl, _, rfl, by show 2 ≤ sizeLine; decide, fun t ht => ?_⟩
        have ntq : q ≠ t := ne_of_none hdq ht
        have ntd : d ≠ t := ne_of_none upd_same ht
        have htH1 : H1 t = none := upd_free (upd_free ht)
        refine ⟨q, [], _, rfl, rfl, (upd_ne ntq).trans hdq, by show 0 < sizeLine; decide, ?_⟩
        refine ⟨fun b o hb => ?_, ⟨putK kvs (Sum.inl (p.at_ : Int)) (.ref q), ?_⟩, _, _, _, rfl⟩
        · have nd : b ≠ d := fun z => hk.own (by rw [← z, Old, hb]; exact fun y => by cases y)
          rw [upd_ne (ne_of_none hb hqH), upd_ne (ne_of_none hb (s1.free htH1)), upd_ne nd, upd_ne (ne_of_none hb hqH)]
          exact s1 _ _ hb
        · rw [take_snoc hp]
          refine by_more hk (fun b o hb nb => ?_) hv hq (not_old hqH) (t := t) (not_old (s1.free htH1)) ?_ ?_ upd_same
          · rw [upd_ne (ne_of_none hb hq), upd_ne (ne_of_none hb htH1), upd_ne nb, upd_ne (ne_of_none hb hq)]
            exact hb
          · rw [upd_ne ndq, upd_ne ntd, upd_same]
          · rw [upd_ne ntq.symm, upd_same]
    · rintro σ H1 ⟨s1, hb, x, y, z, rfl⟩
      have e : ps.take us.length = ps := by rw [hs.1, List.take_length]
      rw [e] at hb
      exact ⟨_, rfl, k H1 d s1 hb⟩
end
end BR
/-! ## Mom2 -/
set_option Elab.async false
set_option maxRecDepth 100000
set_option maxHeartbeats 2000000
set_option linter.unusedVariables false
namespace BR
open PySem PySem.Spec PyProof.Rows L2
section
variable {P : Program} {w : World} {K : PySem.W.Frag} {mg : Str → Option Value} {base : Heap} {α : Ads}

theorem U1 {H : Hp} {m p : Addr} {o0 u : HO} (n : m ≠ p) (h : H m = some u) : (upd H p o0) m = some u := (upd_ne n).trans (h)
theorem U2 {H : Hp} {m p : Addr} {o0 o1 u : HO} (n : m ≠ p) (h : H m = some u) : (upd (upd H p o0) p o1) m = some u := (upd_ne n).trans ((upd_ne n).trans (h))
theorem U3 {H : Hp} {m p : Addr} {o0 o1 o2 u : HO} (n : m ≠ p) (h : H m = some u) : (upd (upd (upd H p o0) p o1) p o2) m = some u := (upd_ne n).trans ((upd_ne n).trans ((upd_ne n).trans (h)))
theorem U4 {H : Hp} {m p : Addr} {o0 o1 o2 o3 u : HO} (n : m ≠ p) (h : H m = some u) : (upd (upd (upd (upd H p o0) p o1) p o2) p o3) m = some u := (upd_ne n).trans ((upd_ne n).trans ((upd_ne n).trans ((upd_ne n).trans (h))))
theorem U5 {H : Hp} {m p : Addr} {o0 o1 o2 o3 o4 u : HO} (n : m ≠ p) (h : H m = some u) : (upd (upd (upd (upd (upd H p o0) p o1) p o2) p o3) p o4) m = some u := (upd_ne n).trans ((upd_ne n).trans ((upd_ne n).trans ((upd_ne n).trans ((upd_ne n).trans (h)))))
theorem U6 {H : Hp} {m p : Addr} {o0 o1 o2 o3 o4 o5 u : HO} (n : m ≠ p) (h : H m = some u) : (upd (upd (upd (upd (upd (upd H p o0) p o1) p o2) p o3) p o4) p o5) m = some u := (upd_ne n).trans ((upd_ne n).trans ((upd_ne n).trans ((upd_ne n).trans ((upd_ne n).trans ((upd_ne n).trans (h))))))
theorem U7 {H : Hp} {m p : Addr} {o0 o1 o2 o3 o4 o5 o6 u : HO} (n : m ≠ p) (h : H m = some u) : (upd (upd (upd (upd (upd (upd (upd H p o0) p o1) p o2) p o3) p o4) p o5) p o6) m = some u := (upd_ne n).trans ((upd_ne n).trans ((upd_ne n).trans ((upd_ne n).trans ((upd_ne n).trans ((upd_ne n).trans ((upd_ne n).trans (h)))))))
theorem U8 {H : Hp} {m p : Addr} {o0 o1 o2 o3 o4 o5 o6 o7 u : HO} (n : m ≠ p) (h : H m = some u) : (upd (upd (upd (upd (upd (upd (upd (upd H p o0) p o1) p o2) p o3) p o4) p o5) p o6) p o7) m = some u := (upd_ne n).trans ((upd_ne n).trans ((upd_ne n).trans ((upd_ne n).trans ((upd_ne n).trans ((upd_ne n).trans ((upd_ne n).trans ((upd_ne n).trans (h))))))))
theorem U9 {H : Hp} {m p : Addr} {o0 o1 o2 o3 o4 o5 o6 o7 o8 u : HO} (n : m ≠ p) (h : H m = some u) : (upd (upd (upd (upd (upd (upd (upd (upd (upd H p o0) p o1) p o2) p o3) p o4) p o5) p o6) p o7) p o8) m = some u := (upd_ne n).trans ((upd_ne n).trans ((upd_ne n).trans ((upd_ne n).trans ((upd_ne n).trans ((upd_ne n).trans ((upd_ne n).trans ((upd_ne n).trans ((upd_ne n).trans (h)))))))))
/-! ### a moment is made -/
abbrev moF (x : At) (cb : Addr) (w : Option Nat) : List (Str × V) := F_Moment (nV x.f) (nV x.k) (nV x.m.a) (nV x.m.x) (nV x.m.pc) (.bl x.m.z) (.bl x.m.c) (.ref cb) (wV w)
def spInitMo (α : Ads) : Sp := fun vs H Q _ => ∃ (p dx m c dm : Addr) (x : At) (w : Option Nat), vs = [.ref p, nV x.f, nV x.k, .ref m] ∧ H p = some (.ins α.c_Moment dx []) ∧ MAt α.c_Machine H m c dm x.m w ∧ m ≠ p ∧
  ∀ (H' : Hp) (cb : Addr), H cb = none → H' p = some (.ins α.c_Moment dx (moF x cb w)) → H' cb = some (.lst (x.m.mem.toList.map nV)) → (∀ b o, H b = some o → b ≠ p → H' b = some o) → Q .non H'
theorem ok_initMo (T : Txt K mg α) : C8.Mak P w K mg base 1 "Moment" α.c_Moment (spInitMo α) [] := by
  refine mak_of T.k_Moment sc_Moment___init__ bi_Moment___init__ (fun vs H Q E h => ?_) fun f cdv A outer s H vs Q E hr h => ⟨_, (pss_cons (ps_fld (pv 0) (pv 1) rfl)
    (pss_cons (ps_fld (pv 0) (pv 2) rfl)
    (pss_cons (ps_fld (pv 0) (pe_fld (pv 3) rfl) rfl)
    (pss_cons (ps_fld (pv 0) (pe_fld (pv 3) rfl) rfl)
    (pss_cons (ps_fld (pv 0) (pe_fld (pv 3) rfl) rfl)
    (pss_cons (ps_fld (pv 0) (pe_fld (pv 3) rfl) rfl)
    (pss_cons (ps_fld (pv 0) (pe_fld (pv 3) rfl) rfl)
    (pss_cons (ps_fld (pv 0) (pe_callTy call_list_of (by rfl) T.z_list (by decide +kernel) (pa_cons (pe_fld (pv 3) rfl) pa_nil)) rfl)
    (pss_one (ps_fld (pv 0) (pe_fld (pv 3) rfl) rfl)))))))))), ?_⟩
  · obtain ⟨p, dx, m, c, dm, x, w, rfl, _⟩ := h
    rfl
  · obtain ⟨p, dx, m, c, dm, x, w, rfl, hp, hm, nm, k⟩ := h
    have ncp : c ≠ p := ne_of hm.cel hp (by intro z; cases z)
    refine ⟨_, rfl, _, rfl, ini_Moment_frame T.c_Moment T.n_Moment_frame hp ?_⟩
    refine ⟨_, rfl, _, rfl, ini_Moment_done T.c_Moment T.n_Moment_done upd_same ?_⟩
    refine ⟨_, rfl, _, _, _, _, _, rfl, (U2 nm hm.obj), T.c_Machine, T.n_Machine_a, gt_Machine_a, _, rfl, ini_Moment_a T.c_Moment T.n_Moment_a upd_same ?_⟩
    refine ⟨_, rfl, _, _, _, _, _, rfl, (U3 nm hm.obj), T.c_Machine, T.n_Machine_x, gt_Machine_x, _, rfl, ini_Moment_x T.c_Moment T.n_Moment_x upd_same ?_⟩
    refine ⟨_, rfl, _, _, _, _, _, rfl, (U4 nm hm.obj), T.c_Machine, T.n_Machine_place, gt_Machine_place, _, rfl, ini_Moment_place T.c_Moment T.n_Moment_place upd_same ?_⟩
    refine ⟨_, rfl, _, _, _, _, _, rfl, (U5 nm hm.obj), T.c_Machine, T.n_Machine_zero, gt_Machine_zero, _, rfl, ini_Moment_zero T.c_Moment T.n_Moment_zero upd_same ?_⟩
    refine ⟨_, rfl, _, _, _, _, _, rfl, (U6 nm hm.obj), T.c_Machine, T.n_Machine_carry, gt_Machine_carry, _, rfl, ini_Moment_carry T.c_Moment T.n_Moment_carry upd_same ?_⟩
    refine ⟨_, rfl, _, _, _, _, _, rfl, (U7 nm hm.obj), T.c_Machine, T.n_Machine_cells, gt_Machine_cells, c, _, rfl, .inl (SqL.of (U7 ncp hm.cel)), fun cb hcb => ?_⟩
    have hcb0 : H cb = none := upd_free (upd_free (upd_free (upd_free (upd_free (upd_free (upd_free hcb))))))
    have ncb : cb ≠ p := fun z => by
      rw [z, hp] at hcb0
      cases hcb0
    have nmb : m ≠ cb := ne_of_none hm.obj hcb0
    refine ⟨_, rfl, ini_Moment_cells T.c_Moment T.n_Moment_cells (((upd_ne ncb.symm).trans upd_same)) ?_⟩
    refine ⟨_, rfl, _, _, _, _, _, rfl, (U1 nm ((upd_ne nmb).trans (U7 nm hm.obj))), T.c_Machine, T.n_Machine_written, gt_Machine_written, _, rfl, ini_Moment_written T.c_Moment T.n_Moment_written upd_same ?_⟩
    refine k _ cb hcb0 upd_same ?_ fun b o hb nb => ?_
    · rw [upd_ne ncb, upd_ne ncb, upd_same]
    · refine U2 nb ((upd_ne (ne_of_none hb hcb0)).trans (U7 nb hb))

/-! ### the run while it is made -/
def Fr3 (m c l : Addr) (H H' : Hp) : Prop := ∀ b o, H b = some o → b ≠ m → b ≠ c → b ≠ l → H' b = some o
theorem Fr3.refl {m c l : Addr} {H : Hp} : Fr3 m c l H H := fun _ _ h _ _ _ => h
theorem Fr3.trans {m c l : Addr} {H H1 H2 : Hp} (a : Fr3 m c l H H1) (b : Fr3 m c l H1 H2) : Fr3 m c l H H2 := fun x o h n1 n2 n3 => b x o (a x o h n1 n2 n3) n1 n2 n3
theorem Fr3.of {m c l : Addr} {H H1 : Hp} (a : Fr m c H H1) : Fr3 m c l H H1 := fun x o h n1 n2 n3 => a x o h n1 n2
theorem MAt.same {C : Addr} {H H1 : Hp} {m c dx : Addr} {M : Mach} {w : Option Nat} (h : MAt C H m c dx M w) (s : Same H H1) : MAt C H1 m c dx M w := ⟨s _ _ h.obj, s _ _ h.cel, h.good⟩
abbrev E3 (m c l : Addr) : Addr → Prop := fun b => b = m ∨ b = c ∨ b = l
structure Run (α : Ads) (S : Addr → Prop) (H : Hp) (l m c dm d : Addr) (L : List At) (M : Mach) (w : Option Nat) (ps : List Poke) : Prop where
  moms : Moms α.c_Moment S H l L
  mach : MAt α.c_Machine H m c dm M w
  hand : ByNum (E3 m c l) H d ps
  trk : Trk S H
  sm : S m
  sc : S c
  sl : S l
  nlc : l ≠ c
theorem Run.nlm {α : Ads} {S : Addr → Prop} {H : Hp} {l m c dm d : Addr} {L : List At} {M : Mach} {w : Option Nat} {ps : List Poke} (h : Run α S H l m c dm d L M w ps) : l ≠ m := by
  obtain ⟨vs, h1, _⟩ := h.moms
  exact ne_of h1 h.mach.obj (by intro z; cases z)
/-- all but the machine is as it was -/
theorem Run.to {α : Ads} {S : Addr → Prop} {H H' : Hp} {l m c dm d : Addr} {L : List At} {M M' : Mach} {w w' : Option Nat} {ps : List Poke} (h : Run α S H l m c dm d L M w ps) (hm : MAt α.c_Machine H' m c dm M' w') (f : Fr m c H H') : Run α S H' l m c dm d L M' w' ps := by
  have fs : FrS S H H' := fun b o e n => f b o e (fun z => n (z ▸ h.sm)) (fun z => n (z ▸ h.sc))
  refine ⟨?_, hm, h.hand.fr fun b o e n => f b o e (fun z => n (.inl z)) (fun z => n (.inr (.inl z))), fun b hb => ?_, h.sm, h.sc, h.sl, h.nlc⟩
  · obtain ⟨vs, h1, h2⟩ := h.moms
    exact ⟨vs, f _ _ h1 h.nlm h.nlc, h2.mono fun _ _ _ _ r => r.fr fs⟩
  · obtain ⟨o, e⟩ := h.trk b hb
    by_cases c1 : b = m
    · exact ⟨_, c1 ▸ hm.obj⟩
    · by_cases c2 : b = c
      · exact ⟨_, c2 ▸ hm.cel⟩
      · exact ⟨o, f b o e c1 c2⟩
/-- .. and but the list of the moments, where one more stands -/
theorem Run.more {α : Ads} {S : Addr → Prop} {H H' : Hp} {l m c dm d : Addr} {L : List At} {M : Mach} {w : Option Nat} {ps : List Poke} {x : At} {v : V} {vs : List V} (h : Run α S H l m c dm d L M w ps) (hv : H l = some (.lst vs)) (hl : H' l = some (.lst (vs ++ [v]))) (hx : MomAt α.c_Moment S H' v x (SL.wAt L L.length)) (hm : MAt α.c_Machine H' m c dm x.m w) (f : Fr3 m c l H H') : Run α S H' l m c dm d (L ++ [x]) x.m w ps := by
  have fs : FrS S H H' := fun b o e n => f b o e (fun z => n (z ▸ h.sm)) (fun z => n (z ▸ h.sc)) (fun z => n (z ▸ h.sl))
  refine ⟨⟨_, hl, ?_⟩, hm, h.hand.fr fun b o e n => f b o e (fun z => n (.inl z)) (fun z => n (.inr (.inl z))) (fun z => n (.inr (.inr z))), fun b hb => ?_, h.sm, h.sc, h.sl, h.nlc⟩
  · obtain ⟨us, h1, h2⟩ := h.moms
    have e : us = vs := by
      rw [hv] at h1
      injection Option.some.inj h1.symm
    subst e
    refine Alls.snoc (h2.mono fun i v y hi r => ?_) ?_
    · rw [SL.wAt_lt (Nat.le_of_lt hi)]
      exact r.fr fs
    · rw [SL.wAt_lt (Nat.le_refl _)]
      exact hx
  · obtain ⟨o, e⟩ := h.trk b hb
    by_cases c1 : b = m
    · exact ⟨_, c1 ▸ hm.obj⟩
    · by_cases c2 : b = c
      · exact ⟨_, c2 ▸ hm.cel⟩
      · by_cases c3 : b = l
        · exact ⟨_, c3 ▸ hl⟩
        · exact ⟨o, f b o e c1 c2 c3⟩
def ValidP (ps : List Poke) : Prop := ∀ p ∈ ps, p.p < 128 ∧ p.v < 256
abbrev foldP (M : Mach) (l : List Poke) : Mach := l.foldl (fun (m : Mach) (y : Poke) => CsBase.put m y.p y.v) M
theorem foldP_snoc (M : Mach) (l : List Poke) (p : Poke) : foldP M (l ++ [p]) = CsBase.put (foldP M l) p.p p.v := by
  unfold foldP
  rw [List.foldl_append]
  rfl
theorem set_put {M : Mach} {p v : Nat} (hp : p < 128) (hv : v < 256) : (M.mem.toList.map nV).set p (nV v) = (CsBase.put M p v).mem.toList.map nV := by
  show _ = (M.mem.setIfInBounds (p % 128) (v % 256)).toList.map nV
  rw [Array.toList_setIfInBounds, List.map_set, Nat.mod_eq_of_lt hp, Nat.mod_eq_of_lt hv]
/-- a byte put by the program -/
theorem MAt.put {C : Addr} {H : Hp} {m c dx : Addr} {M : Mach} {w : Option Nat} {p v : Nat} (h : MAt C H m c dx M w) (hp : p < 128) (hv : v < 256) : MAt C (L2.upd H c (.lst ((M.mem.toList.map nV).set p (nV v)))) m c dx (CsBase.put M p v) w :=
  ⟨by rw [upd_ne h.ne.symm]; exact h.obj, by rw [upd_same, set_put hp hv], good_put h.good p v⟩
theorem MAt.len {C : Addr} {H : Hp} {m c dx : Addr} {M : Mach} {w : Option Nat} (h : MAt C H m c dx M w) : (M.mem.toList.map nV).length = 128 := by
  rw [List.length_map, Array.length_toList, h.good.sz]
def xOf (ps : List Poke) (n : Nat) (x : At) : At := { x with m := foldP x.m (ofN ps n) }
theorem xOf_is (s : Cs03.St) (n : Nat) (x : At) : xOf s.pokes n x = Cs03.poked s n x := rfl
def spAdd (α : Ads) : Sp := fun vs H Q _ => ∃ (S : Addr → Prop) (l m c dm d : Addr) (L : List At) (M : Mach) (w : Option Nat) (ps : List Poke) (f k : Nat), vs = [.ref l, nV f, nV k, .ref m, .ref d] ∧ Run α S H l m c dm d L M w ps ∧ w = SL.wAt L L.length ∧ ValidP ps ∧ L.length ≤ 100000 ∧
  ∀ H' : Hp, Run α S H' l m c dm d (L ++ [xOf ps L.length ⟨M, f, k⟩]) (xOf ps L.length ⟨M, f, k⟩).m w ps → Fr3 m c l H H' → Q .non H'
theorem ok_add (T : Txt K mg α) (h_Moment : C8.Mak P w K mg base 1 "Moment" α.c_Moment (spInitMo α) []) : C8.Cal P w K mg base 3 "add_moment" (spAdd α) [] := by
  refine cal_of T.d_add_moment sc_add_moment bi_add_moment (fun vs H Q E h => ?_) fun f cdv A outer s H vs Q E hr h => ⟨_, (pss_cons (ps_for PassesOwn.never rfl (pi_seq (pe_dget2 (hu_of hr) (pv 4) (pe_callB call_len_seq (by rfl) T.z_len (by decide +kernel) (pa_cons (pv 0) pa_nil)) (pe_tup pa_nil) ⟨rfl, rfl, rfl, rfl⟩)) (pg_tup (by rfl) (pgs_cons (pg_name (i := 5) sc_add_moment.nd rfl (Or.inl rfl)) (pgs_cons (pg_name (i := 6) sc_add_moment.nd rfl (Or.inl rfl)) pgs_nil)))
      (pss_one (ps_asg (pv 6) (pg_sub (pe_fld (pv 3) rfl) (pv 5) set_list))))
    (pss_one (ps_expr (pe_bm PySem.F.plainAttrs_list PySem.F.slot_list_append PySem.F.type_list_append mt_append (pv 0) (pa_cons (C8.pe_mk h_Moment hr (by decide) (by rfl) (pa_cons (pv 1) (pa_cons (pv 2) (pa_cons (pv 3) pa_nil)))) pa_nil))))), ?_⟩
  · obtain ⟨S, l, m, c, dm, d, L, M, w, ps, f, k, rfl, _⟩ := h
    rfl
  · obtain ⟨S, l, m, c, dm, d, L, M, w, ps, f, k, rfl, hR, hw, hv, hL, kk⟩ := h
    obtain ⟨us, hl, hA⟩ := hR.moms
    obtain ⟨kvs, hK⟩ := hR.hand
    refine ⟨_, rfl, d, rfl, .inl ⟨_, .inl hK.dic⟩, _, rfl, l, us, rfl, .inl (SqL.of hl), by show 0 ≤ sizeLine; decide, fun q hq => ?_⟩
    have ndq : d ≠ q := ne_of_none hK.dic hq
    have sq : Same H (upd H q (.tup [])) := Same.new hq
    refine ⟨_, DGet.k (k := Sum.inl (us.length : Int)) (sq _ _ hK.dic), ?_⟩
    rw [hA.1]
    -- the loop
    have mono1 : ∀ H1, Fr m c (upd H q (.tup [])) H1 → Fr m c H H1 := fun H1 f1 b o e n1 n2 => f1 b o (sq b o e) n1 n2
    have one : ∀ (i : Nat) (p : Poke) (v : V) (H1 : Hp), (ofN ps L.length)[i]? = some p → TupAt (E3 m c l) H v p → MAt α.c_Machine H1 m c dm (foldP M ((ofN ps L.length).take i)) w → Fr m c (upd H q (.tup [])) H1 → p.p < 128 ∧ p.v < 256 ∧ (∃ t, v = .ref t ∧ H1 t = some (.tup [nV p.p, nV p.v])) := by
      intro i p v H1 hi ht hm hf
      obtain ⟨t, rfl, nt, ht⟩ := ht
      have hp := hv p (List.mem_filter.mp (List.mem_of_getElem? hi)).1
      exact ⟨hp.1, hp.2, t, rfl, mono1 H1 hf t _ ht (fun z => nt (.inl z)) (fun z => nt (.inr (.inl z)))⟩
    have step : ∀ (i : Nat) (p : Poke) (H1 : Hp), (ofN ps L.length)[i]? = some p → p.p < 128 → p.v < 256 → MAt α.c_Machine H1 m c dm (foldP M ((ofN ps L.length).take i)) w → Fr m c (upd H q (.tup [])) H1 →
        MAt α.c_Machine (upd H1 c (.lst (((foldP M ((ofN ps L.length).take i)).mem.toList.map nV).set p.p (nV p.v)))) m c dm (foldP M ((ofN ps L.length).take (i + 1))) w ∧ Fr m c (upd H q (.tup [])) (upd H1 c (.lst (((foldP M ((ofN ps L.length).take i)).mem.toList.map nV).set p.p (nV p.v)))) := by
      intro i p H1 hi h1 h2 hm hf
      rw [take_snoc hi, foldP_snoc]
      exact ⟨hm.put h1 h2, hf.c⟩
    rcases hK.grp L.length with ⟨e1, e2⟩ | ⟨g, vs, e1, e2, e3, e4⟩
    · rw [e1]
      refine ⟨q, rfl, .inr ⟨[], SqT.of upd_same, ?_⟩⟩
      refine for_tup (K := K) (a := q) (xs := []) (fun i σ H1 => (∃ a b, σ = [some (.ref l), some (nV f), some (nV k), some (.ref m), some (.ref d), a, b]) ∧ MAt α.c_Machine H1 m c dm (foldP M ((ofN ps L.length).take i)) w ∧ Fr m c (upd H q (.tup [])) H1) ⟨⟨_, _, rfl⟩, hR.mach.same sq, Fr.refl⟩ (fun i σ H1 hi p => SqT.of (p.2.2 q _ upd_same (ne_of_none hR.mach.obj hq).symm (ne_of_none hR.mach.cel hq).symm)) (fun i x σ H1 hi => by simp at hi) ?_
      rintro σ H1 ⟨⟨a, b, rfl⟩, hm, hf⟩
      have hm : MAt α.c_Machine H1 m c dm (foldP M (ofN ps L.length)) w := by
        rw [e2]
        exact hm
      have f1 : Fr m c H H1 := mono1 H1 hf
      have h1 : Run α S H1 l m c dm d L (foldP M (ofN ps L.length)) w ps := hR.to hm f1
      have hl1 : H1 l = some (.lst us) := f1 _ _ hl hR.nlm hR.nlc
      refine ⟨_, rfl, .inl ⟨rfl, _, SqL.of hl1⟩, _, rfl, _, rfl, _, rfl, fun p dx hp hdx ne => ?_⟩
      have s2 : Same H1 (upd (upd H1 dx (.own p)) p (.ins α.c_Moment dx [])) := (Same.new hdx).trans (Same.new ((upd_ne ne.symm).trans hp))
      refine ⟨p, dx, m, c, dm, xOf ps L.length ⟨M, f, k⟩, w, rfl, upd_same, hm.same s2, ne_of_none hm.obj hp, fun H2 cb hcb g1 g2 g3 => ⟨rfl, ?_⟩⟩
      have s3 : Same H1 H2 := fun b o e => g3 b o (s2 b o e) (ne_of_none e hp)
      have hcb1 : H1 cb = none := s2.free hcb
      have nlp : l ≠ p := ne_of_none hl1 hp
      have nlcb : l ≠ cb := ne_of_none hl1 hcb1
      refine ⟨l, us, _, rfl, rfl, s3 _ _ hl1, ?_, ?_⟩
      · rw [hA.1]
        exact Nat.lt_of_le_of_lt hL (by decide)
      have h2 : Run α S (upd H2 l (.lst (us ++ [.ref p]))) l m c dm d (L ++ [xOf ps L.length ⟨M, f, k⟩]) (xOf ps L.length ⟨M, f, k⟩).m w ps := by
        refine h1.more hl1 upd_same ⟨p, dx, cb, rfl, h1.trk.new hp, h1.trk.new hcb1, ?_, ?_, hm.good⟩ ⟨?_, ?_, hm.good⟩ fun b o e n1 n2 n3 => ?_
        · rw [upd_ne nlp.symm, g1, hw]
        · rw [upd_ne nlcb.symm, g2]
        · rw [upd_ne h1.nlm.symm]
          exact s3 _ _ hm.obj
        · rw [upd_ne h1.nlc.symm]
          exact s3 _ _ hm.cel
        · rw [upd_ne n3]
          exact s3 _ _ e
      refine kk _ h2 fun b o e n1 n2 n3 => ?_
      rw [upd_ne n3]
      exact s3 _ _ (f1 _ _ e n1 n2)
    · rw [e1]
      have ng : g ≠ m ∧ g ≠ c := ⟨fun z => e2 (.inl z), fun z => e2 (.inr (.inl z))⟩
      refine ⟨g, rfl, .inl ⟨vs, SqL.of (sq _ _ e3), ?_⟩⟩
      refine for_list (K := K) (a := g) (xs := vs) (fun i σ H1 => (∃ a b, σ = [some (.ref l), some (nV f), some (nV k), some (.ref m), some (.ref d), a, b]) ∧ MAt α.c_Machine H1 m c dm (foldP M ((ofN ps L.length).take i)) w ∧ Fr m c (upd H q (.tup [])) H1) ⟨⟨_, _, rfl⟩, hR.mach.same sq, Fr.refl⟩ (fun i σ H1 hi p => SqL.of (p.2.2 g _ (sq _ _ e3) ng.1 ng.2)) ?_ ?_
      · rintro i x σ H1 hx ⟨⟨a, b, rfl⟩, hm, hf⟩
        obtain ⟨p, hp, ht⟩ := e4.got hx
        obtain ⟨h1, h2, t, rfl, ht2⟩ := one i p x H1 hp ht hm hf
        have hs := step i p H1 hp h1 h2 hm hf
        exact ⟨t, _, rfl, SqT.of ht2, rfl, _, _, rfl, _, _, rfl, rfl, _, rfl, _, rfl, _, _, _, _, _, rfl, hm.obj, T.c_Machine, T.n_Machine_cells, gt_Machine_cells, _, rfl, c, _, _, p.p, rfl, rfl, hm.cel, ixN_of (by rw [hm.len]; exact h1), ⟨_, _, rfl⟩, hs.1, hs.2⟩
      rintro σ H1 ⟨⟨a, b, rfl⟩, hm, hf⟩
      rw [e4.1, List.take_length] at hm
      have f1 : Fr m c H H1 := mono1 H1 hf
      have h1 : Run α S H1 l m c dm d L (foldP M (ofN ps L.length)) w ps := hR.to hm f1
      have hl1 : H1 l = some (.lst us) := f1 _ _ hl hR.nlm hR.nlc
      refine ⟨_, rfl, .inl ⟨rfl, _, SqL.of hl1⟩, _, rfl, _, rfl, _, rfl, fun p dx hp hdx ne => ?_⟩
      have s2 : Same H1 (upd (upd H1 dx (.own p)) p (.ins α.c_Moment dx [])) := (Same.new hdx).trans (Same.new ((upd_ne ne.symm).trans hp))
      refine ⟨p, dx, m, c, dm, xOf ps L.length ⟨M, f, k⟩, w, rfl, upd_same, hm.same s2, ne_of_none hm.obj hp, fun H2 cb hcb g1 g2 g3 => ⟨rfl, ?_⟩⟩
      have s3 : Same H1 H2 := fun b o e => g3 b o (s2 b o e) (ne_of_none e hp)
      have hcb1 : H1 cb = none := s2.free hcb
      have nlp : l ≠ p := ne_of_none hl1 hp
      have nlcb : l ≠ cb := ne_of_none hl1 hcb1
      refine ⟨l, us, _, rfl, rfl, s3 _ _ hl1, ?_, ?_⟩
      · rw [hA.1]
        exact Nat.lt_of_le_of_lt hL (by decide)
      have h2 : Run α S (upd H2 l (.lst (us ++ [.ref p]))) l m c dm d (L ++ [xOf ps L.length ⟨M, f, k⟩]) (xOf ps L.length ⟨M, f, k⟩).m w ps := by
        refine h1.more hl1 upd_same ⟨p, dx, cb, rfl, h1.trk.new hp, h1.trk.new hcb1, ?_, ?_, hm.good⟩ ⟨?_, ?_, hm.good⟩ fun b o e n1 n2 n3 => ?_
        · rw [upd_ne nlp.symm, g1, hw]
        · rw [upd_ne nlcb.symm, g2]
        · rw [upd_ne h1.nlm.symm]
          exact s3 _ _ hm.obj
        · rw [upd_ne h1.nlc.symm]
          exact s3 _ _ hm.cel
        · rw [upd_ne n3]
          exact s3 _ _ e
      refine kk _ h2 fun b o e n1 n2 n3 => ?_
      rw [upd_ne n3]
      exact s3 _ _ (f1 _ _ e n1 n2)

/-! ### a frame, and the whole run -/
def spFrame (α : Ads) : Sp := fun vs H Q _ => ∃ (S : Addr → Prop) (l m c dm d : Addr) (L : List At) (M : Mach) (w : Option Nat) (st : Cs03.St) (f pad : Nat), vs = [.ref l, nV f, nV pad, .ref m, .ref d] ∧ Run α S H l m c dm d L M w st.pokes ∧ w = SL.wAt L L.length ∧ ValidP st.pokes ∧
  SL.Ch st L ∧ SL.DueE st L M f ∧ L.length ≤ 300 * f ∧ f < 100 ∧ st.pads[f]? = some pad ∧ pad < 256 ∧
  ∀ (H' : Hp) (L' : List At) (M' : Mach), Run α S H' l m c dm d L' M' (SL.wAt L' L'.length) st.pokes → SL.Ch st L' → SL.DueE st L' M' (f + 1) → L'.length ≤ 300 * (f + 1) → Fr3 m c l H H' → Q .non H'
theorem ok_frame (T : Txt K mg α) (h_add_moment : C8.Cal P w K mg base 3 "add_moment" (spAdd α) []) (h_do_instruction : C8.Cal P w K mg base 3 "do_instruction" (spDo α.c_Machine) []) : C8.Cal P w K mg base 4 "add_frame" (spFrame α) [] := by
  refine cal_of T.d_add_frame sc_add_frame bi_add_frame (fun vs H Q E h => ?_) fun f cdv A outer s H vs Q E hr h => ⟨_, (pss_cons (ps_asg (pv 2) (pg_sub (pe_fld (pv 3) rfl) (C8.pe_gc (by rfl) T.g_PAD_PLACE) set_list))
    (pss_one (ps_for PassesOwn.never rfl (pi_range1 (by rfl) T.z_range (pa_cons (C8.pe_gc (by rfl) T.g_FRAME_LIMIT) pa_nil)) (pg_name (i := 5) sc_add_frame.nd rfl (Or.inl rfl))
      (pss_cons (ps_expr (C8.pe_c h_add_moment hr (by decide) (by rfl) (pa_cons (pv 0) (pa_cons (pv 1) (pa_cons (pv 5) (pa_cons (pv 3) (pa_cons (pv 4) pa_nil)))))))
    (pss_one (ps_if (pt_val (C8.pe_c h_do_instruction hr (by decide) (by rfl) (pa_cons (pv 3) pa_nil)))
      (pss_one ps_break)
      pss_nil)))))), ?_⟩
  · obtain ⟨S, l, m, c, dm, d, L, M, w, st, f, pad, rfl, _⟩ := h
    rfl
  · obtain ⟨S, l, m, c, dm, d, L, M, w, st, f, pad, rfl, hR, hw, hv, hc, hd, hL, hf, hp, hb, kk⟩ := h
    have hfl : f < st.pads.length := (List.getElem?_eq_some_iff.mp hp).1
    refine ⟨_, rfl, _, rfl, _, _, _, _, _, rfl, hR.mach.obj, T.c_Machine, T.n_Machine_cells, gt_Machine_cells, c, _, _, 127, rfl, rfl, hR.mach.cel, ixN_of (by rw [hR.mach.len]; decide), ?_⟩
    have m1 := hR.mach.put (p := 127) (v := pad) (by decide) hb
    have r1 : Run α S (upd H c (.lst ((M.mem.toList.map nV).set 127 (nV pad)))) l m c dm d L (CsBase.put M 127 pad) w st.pokes := hR.to m1 Fr.refl.c
    refine ⟨300, rfl, by decide, by decide, ?_⟩
    refine for_range (lo := 0) (n := (300 : Int).toNat) (fun k σ H' => ∃ a L' M', σ = [some (.ref l), some (nV f), some (nV pad), some (.ref m), some (.ref d), a] ∧ Run α S H' l m c dm d L' M' (SL.wAt L' L'.length) st.pokes ∧ SL.Ch st L' ∧ L'.length ≤ 300 * f + k ∧
      (k < 300 → SL.Due st L' (Cs03.poked st L'.length ⟨M', f, k⟩)) ∧ (k = 300 → SL.DueE st L' M' (f + 1)) ∧ Fr3 m c l H H') ⟨_, L, _, rfl, hw ▸ r1, hc, hL, fun _ => ?_, (fun z => absurd z (by decide)), Fr3.of Fr.refl.c⟩ ?_ ?_
    · have q := hd
      unfold SL.DueE at q
      rw [SL.entered_pad hp] at q
      exact q
    · rintro k σ H1 hk ⟨a, L1, M1, rfl, h1, hc1, hL1, hd1, _, f1⟩
      have hk : k < 300 := hk
      have hdue := hd1 hk
      rw [show (0 : Int) + (k : Int) = (k : Int) from Int.zero_add _]
      refine ⟨_, rfl, _, rfl, _, rfl, _, rfl, _, rfl, S, l, m, c, dm, d, L1, M1, _, st.pokes, f, k, rfl, h1, rfl, hv, by omega, fun H2 h2 f2 => ?_⟩
      rw [xOf_is] at h2
      have hc2 : SL.Ch st (L1 ++ [Cs03.poked st L1.length ⟨M1, f, k⟩]) := SL.ch_snoc hc1 hdue
      generalize hx : Cs03.poked st L1.length ⟨M1, f, k⟩ = x at h2 hc2
      refine ⟨_, rfl, m, c, dm, x.m, _, rfl, h2.mach, fun H3 h3 f3 => ⟨_, rfl, ?_⟩⟩
      have r3 : Run α S H3 l m c dm d (L1 ++ [x]) (CsBase.step x.m) (SL.wAt (L1 ++ [x]) (L1 ++ [x]).length) st.pokes := by
        rw [SL.wAt_last]
        exact h2.to h3 f3
      have hl3 : (L1 ++ [x]).length ≤ 300 * f + (k + 1) := by
        rw [List.length_append]
        show L1.length + 1 ≤ _
        omega
      have f3' : Fr3 m c l H H3 := (f1.trans f2).trans (Fr3.of f3)
      refine ite2 (fun e => ?_) (fun e => ?_)
      · exact kk H3 _ _ r3 hc2 (SL.due_frame hfl hx.symm (.inl e)) (by omega) f3'
      · have e : CsBase.rests x.m = false := by simpa using e
        exact ⟨_, L1 ++ [x], CsBase.step x.m, rfl, r3, hc2, hl3, fun z => SL.due_within hfl hx.symm e z, fun z => SL.due_frame hfl hx.symm (.inr (by omega)), f3'⟩
    · rintro σ H1 ⟨a, L1, M1, rfl, h1, hc1, hL1, _, hd1, f1⟩
      exact kk H1 L1 M1 h1 hc1 (hd1 rfl) (by have : L1.length ≤ 300 * f + 300 := hL1; omega) f1
def spRun (K : PySem.W.Frag) (α : Ads) : Sp := fun vs H Q _ => ∃ (a b c : Addr) (E : Addr → Prop) (st : Cs03.St), vs = [.ref a, .ref b, .ref c] ∧ H a = some (.lst (st.program.map nV)) ∧ H b = some (.lst (st.pads.map nV)) ∧ Chg E H c st.pokes ∧ st.program.length ≤ 128 ∧ (∀ n ∈ st.program, n < 256) ∧ st.pads.length ≤ 20 ∧ (∀ n ∈ st.pads, n < 256) ∧
  ValidP st.pokes ∧ st.pokes.length ≤ 1000 ∧ ∀ (H' : Hp) (l : Addr), H l = none → Same H H' → Moms α.c_Moment (Old H) H' l (Cs03.trace st).toList → Q (.ref l) H'
theorem ok_run (T : Txt K mg α) (h_Machine : C8.Mak P w K mg base 1 "Machine" α.c_Machine (spInitM K α.c_Machine) []) (h_group_by_number : C8.Cal P w K mg base 1 "group_by_number" spGroup []) (h_add_moment : C8.Cal P w K mg base 3 "add_moment" (spAdd α) []) (h_add_frame : C8.Cal P w K mg base 4 "add_frame" (spFrame α) []) :
    C8.Cal P w K mg base 5 "moments_of_run" (spRun K α) [] := by
  refine cal_of T.d_moments_of_run sc_moments_of_run bi_moments_of_run (fun vs H Q E h => ?_) fun f cdv A outer s H vs Q E hr h => ⟨_, (pss_cons (ps_set (i := 3) sc_moments_of_run.nd rfl (Or.inl rfl) (C8.pe_mk h_Machine hr (by decide) (by rfl) (pa_cons (pv 0) pa_nil)))
    (pss_cons (ps_set (i := 4) sc_moments_of_run.nd rfl (Or.inl rfl) (C8.pe_c h_group_by_number hr (by decide) (by rfl) (pa_cons (pv 2) pa_nil)))
    (pss_cons (ps_set (i := 5) sc_moments_of_run.nd rfl (Or.inl rfl) (pe_lst pa_nil))
    (pss_cons (ps_for PassesOwn.never rfl (pi_enum (by rfl) T.z_enumerate (pa_cons (pv 1) pa_nil)) (pg_tup (by rfl) (pgs_cons (pg_name (i := 6) sc_moments_of_run.nd rfl (Or.inl rfl)) (pgs_cons (pg_name (i := 7) sc_moments_of_run.nd rfl (Or.inl rfl)) pgs_nil)))
      (pss_one (ps_expr (C8.pe_c h_add_frame hr (by decide) (by rfl) (pa_cons (pv 5) (pa_cons (pv 6) (pa_cons (pv 7) (pa_cons (pv 3) (pa_cons (pv 4) pa_nil)))))))))
    (pss_cons (ps_expr (C8.pe_c h_add_moment hr (by decide) (by rfl) (pa_cons (pv 5) (pa_cons (pe_callB call_len_seq (by rfl) T.z_len (by decide +kernel) (pa_cons (pv 1) pa_nil)) (pa_cons pe_int (pa_cons (pv 3) (pa_cons (pv 4) pa_nil)))))))
    (pss_one (ps_ret (pv 5)))))))), ?_⟩
  · obtain ⟨a, b, c, E, st, rfl, _⟩ := h
    rfl
  · obtain ⟨la, lb, lc, E, st, rfl, ha, hb, hc, q1, q2, q3, q4, q5, q6, kk⟩ := h
    refine ⟨_, rfl, fun m dm hm hdm ne => ?_⟩
    have s1 : Same H (upd (upd H dm (.own m)) m (.ins α.c_Machine dm [])) := (Same.new hdm).trans (Same.new ((upd_ne ne.symm).trans hm))
    refine ⟨m, dm, la, st.program, rfl, upd_same, s1 _ _ ha, q1, q2, fun H1 c hcn m1 f1 => ⟨rfl, ?_⟩⟩
    have t1 : Same H H1 := fun b o e => f1 b o (s1 b o e) (ne_of_none e hm)
    have hcH : H c = none := s1.free hcn
    obtain ⟨us, hu, hA⟩ := hc
    refine ⟨_, rfl, lc, E, st.pokes, rfl, ⟨us, t1 _ _ hu, hA.mono fun _ v p _ r => ?_⟩, q6, fun H2 d t2 hd => ?_⟩
    · obtain ⟨t, e1, e2, e3⟩ := r
      exact ⟨t, e1, e2, t1 _ _ e3⟩
    refine ⟨by show 0 ≤ sizeLine; decide, fun l hl => ?_⟩
    have t12 : Same H H2 := t1.trans t2
    have hlH : H l = none := t12.free hl
    have t3 : Same H2 (upd H2 l (.lst [])) := Same.new hl
    have m2 : MAt α.c_Machine H2 m c dm (CsBase.loaded st.program) none := m1.same t2
    have r0 : Run α (Old (upd H2 l (.lst []))) (upd H2 l (.lst [])) l m c dm d [] (CsBase.loaded st.program) (SL.wAt [] ([] : List At).length) st.pokes := by
      refine ⟨⟨[], upd_same, .nil⟩, m2.same t3, ?_, trk_old (Same.refl _), ?_, ?_, ?_, (ne_of_none m2.cel hl).symm⟩
      · refine (hd.mono (E' := E3 m c l) fun b o e nb => ?_).fr fun b o e _ => t3 b o e
        have nb := of_not_old nb
        rintro (z | z | z)
        · rw [z, m1.obj] at nb
          cases nb
        · rw [z, m1.cel] at nb
          cases nb
        · rw [z, hl] at e
          cases e
      · show upd H2 l (.lst []) m ≠ none
        rw [(m2.same t3).obj]
        exact fun z => by cases z
      · show upd H2 l (.lst []) c ≠ none
        rw [(m2.same t3).cel]
        exact fun z => by cases z
      · show upd H2 l (.lst []) l ≠ none
        rw [upd_same]
        exact fun z => by cases z
    have keep : ∀ H', Fr3 m c l (upd H2 l (.lst [])) H' → Same H H' := fun H' f b o e => f b o (t3 b o (t12 b o e)) (ne_of_none e hm) (ne_of_none e hcH) (ne_of_none e hlH)
    refine ⟨_, rfl, lb, _, rfl, SqL.of (t3 _ _ (t12 _ _ hb)), ?_⟩
    refine for_it (walk_enum (K := K) (a := lb) (xs := st.pads.map nV)) (fun f σ H' => ∃ a b L M, σ = [some (.ref la), some (.ref lb), some (.ref lc), some (.ref m), some (.ref d), some (.ref l), a, b] ∧ Run α (Old (upd H2 l (.lst []))) H' l m c dm d L M (SL.wAt L L.length) st.pokes ∧ SL.Ch st L ∧ SL.DueE st L M f ∧ L.length ≤ 300 * f ∧ Fr3 m c l (upd H2 l (.lst [])) H') ⟨_, _, [], _, rfl, r0, SL.ch_nil st, SL.due_first st, Nat.zero_le _, Fr3.refl⟩ (fun i σ H' _ p => ?_) ?_ ?_
    · obtain ⟨a, b, L, M, _, _, _, _, _, f⟩ := p
      exact SqL.of (keep H' f _ _ hb)
    · rintro i x σ H3 H4 hi ⟨a, b, L, M, rfl, hR, hC, hD, hL, hF⟩ ⟨t, x1, y1, rfl, ht, rfl, e1, e2⟩
      obtain ⟨pad, ep, rfl⟩ : ∃ pad, st.pads[i]? = some pad ∧ y1 = nV pad := by
        have e2 : (st.pads.map nV)[i]? = some y1 := e2
        rw [List.getElem?_map] at e2
        cases e : st.pads[i]? with
        | none =>
          rw [e] at e2
          cases e2
        | some z =>
          rw [e] at e2
          exact ⟨z, rfl, (Option.some.inj e2).symm⟩
      have e1 : x1 = nV i := (Option.some.inj e1).symm
      subst e1
      have st4 : Same H3 (upd H3 t (.tup [nV i, nV pad])) := Same.new ht
      have hR4 := hR.to (hR.mach.same st4) (fun b o e _ _ => st4 b o e)
      have hi2 : i < st.pads.length := (List.getElem?_eq_some_iff.mp ep).1
      refine ⟨t, _, rfl, SqT.of upd_same, rfl, _, _, rfl, _, _, rfl, rfl, ?_⟩
      refine ⟨_, rfl, _, rfl, _, rfl, _, rfl, _, rfl, _, l, m, c, dm, d, L, M, _, st, i, pad, rfl, hR4, rfl, q5, hC, hD, hL, by omega, ep, q4 pad (List.mem_of_getElem? ep), fun H5 L5 M5 r5 c5 d5 l5 f5 => ?_⟩
      exact ⟨_, _, L5, M5, rfl, r5, c5, d5, l5, (hF.trans fun b o e _ _ _ => st4 b o e).trans f5⟩
    · rintro σ H3 ⟨a, b, L, M, rfl, hR, hC, hD, hL, hF⟩
      rw [List.length_map] at hD hL
      have e0 : Cs03.entered st M st.pads.length = ⟨M, st.pads.length, 0⟩ := SL.entered_end (Nat.le_refl _)
      unfold SL.DueE at hD
      rw [e0] at hD
      have elen : ((st.pads.map nV).length : Int) = (st.pads.length : Int) := by rw [List.length_map]
      refine ⟨_, rfl, _, rfl, lb, _, rfl, .inl (SqL.of (keep H3 hF _ _ hb)), ?_⟩
      rw [elen]
      refine ⟨_, rfl, _, rfl, _, l, m, c, dm, d, L, M, _, st.pokes, st.pads.length, 0, rfl, hR, rfl, q5, by omega, fun H4 r4 f4 => ?_⟩
      rw [xOf_is] at r4
      have e1 : Cs03.trace st = (L ++ [Cs03.poked st L.length ⟨M, st.pads.length, 0⟩]).toArray := SL.ch_end (SL.ch_snoc hC hD) (by
        unfold Cs03.next
        rw [if_pos]
        exact Nat.le_refl _)
      have e2 : (Cs03.trace st).toList = L ++ [Cs03.poked st L.length ⟨M, st.pads.length, 0⟩] := by rw [e1]
      refine ⟨_, rfl, kk H4 l hlH (keep H4 (hF.trans f4)) ?_⟩
      rw [e2]
      exact r4.moms.mono fun b o e nb => not_old ((t12.trans t3).free (of_not_old nb))
end
end BR
/-! ## Calls1 -/
set_option Elab.async false
set_option maxRecDepth 100000
set_option maxHeartbeats 2000000
set_option linter.unusedVariables false
namespace BR
open PySem PySem.Spec PyProof.Rows L2
section
variable {P : Program} {w : World} {K : PySem.W.Frag} {mg : Str → Option Value} {base : Heap} {α : Ads}

/-! ### are_bytes -/
def byteB (z : Int) : Bool := decide (0 ≤ z) && decide (z < 256)
theorem byteB_spec (z : Int) : byteB z = Cs03.isByte z := by
  unfold byteB Cs03.isByte
  rw [decide_eq_decide.mpr (show z < 256 ↔ z ≤ 255 by omega)]
def spBytes (K : PySem.W.Frag) : Sp := fun vs H Q _ => ∃ (l : Addr) (ns : List Int), vs = [.ref l] ∧ SqL K H l (ns.map V.int) ∧ ns.length ≤ 1000 ∧
  ∀ H' : Hp, Same H H' → Q (.bl (ns.all Cs03.isByte)) H'
theorem map_get {α β : Type} {g : α → β} {l : List α} {i : Nat} {y : β} (h : (l.map g)[i]? = some y) : ∃ z, l[i]? = some z ∧ y = g z := by
  rw [List.getElem?_map] at h
  cases e : l[i]? with
  | none =>
    rw [e] at h
    cases h
  | some z =>
    rw [e] at h
    exact ⟨z, rfl, (Option.some.inj h).symm⟩
theorem take_more {α : Type} {l : List α} {i : Nat} {x : α} (h : l[i]? = some x) : l.take (i + 1) = l.take i ++ [x] := by
  rw [List.take_add_one, h]
  rfl
theorem ok_are_bytes (T : Txt K mg α) : C8.Cal P w K mg base 1 "are_bytes" (spBytes K) [] := by
  refine cal_of T.d_are_bytes sc_are_bytes bi_are_bytes (fun vs H Q E h => ?_) fun f cdv A outer s H vs Q E hr h => ⟨_, (pss_one (ps_ret (pe_callB (cr_all rfl) (by rfl) T.z_all (by decide +kernel) (pa_cons (pe_lc (own := [("number", 1)]) (g := gName 1) (tt := tYes) rfl sc_are_bytes.nd (pi_list (pv 0)) (blkOk_by (N := ["numbers", "number"]) (sc := C8.fnScope s_are_bytes) (by decide +kernel)) (fun _ _ _ _ _ => pg_name (i := 1) sc_are_bytes.nd rfl (Or.inl rfl)) (fun _ _ _ _ _ => pts_nil) (fun _ _ _ _ _ => (pe_chain op_le op_lt pe_int (pv 1) (C8.pe_gc (by rfl) T.g_VALUES)))) pa_nil)))), ?_⟩
  · obtain ⟨l, ns, rfl, _⟩ := h
    rfl
  · obtain ⟨l, ns, rfl, hl, hn, k⟩ := h
    refine ⟨_, rfl, l, rfl, ⟨_, hl⟩, fun D hD => ?_⟩
    have nl : ∀ (o : HO) , Same H (upd H D o) := fun o b u e => by
      rw [upd_ne (ne_of_none e hD)]
      exact e
    refine lc_list (K := K) (a := l) (xs := ns.map V.int) (fun i H' => Same H H' ∧ H' D = some (.lst ((ns.take i).map fun z => V.bl (byteB z)))) ⟨nl _, upd_same⟩ (fun i H' _ h => h.1.seq hl) ?_ ?_
    · rintro i y H' hi ⟨h1, h2⟩
      obtain ⟨z, hz, rfl⟩ := map_get hi
      refine ⟨rfl, ?_⟩
      have e0 : H' D = some (.lst ((ns.take i).map fun z => V.bl (byteB z))) := h2
      have fin : ∀ b : Bool, b = byteB z → ∃ acc, H' D = some (HO.lst acc) ∧ acc.length < sizeLine ∧ Same H (upd H' D (HO.lst (acc ++ [V.bl b]))) ∧ upd H' D (HO.lst (acc ++ [V.bl b])) D = some (HO.lst ((ns.take (i + 1)).map fun z => V.bl (byteB z))) := fun b hb => by
        refine ⟨_, e0, ?_, fun b u e => ?_, ?_⟩
        · rw [List.length_map, List.length_take]
          exact Nat.lt_of_le_of_lt (Nat.min_le_left ..) (Nat.lt_of_lt_of_le (List.getElem?_eq_some_iff.mp hz).1 (Nat.le_trans hn (by decide)))
        · rw [upd_ne (ne_of_none e hD)]
          exact h1 b u e
        · rw [upd_same, take_more hz, List.map_append, hb]
          rfl
      refine ⟨_, rfl, _, _, rfl, rfl, _, rfl, ite2 (fun c => ?_) (fun c => ?_)⟩
      · have c0 : (0 : Int) ≤ z := of_decide_eq_true c
        refine ⟨_, _, rfl, rfl, ?_⟩
        exact fin _ (by unfold byteB; rw [decide_eq_true c0, Bool.true_and])
      · have c0 : ¬ (0 : Int) ≤ z := fun q => c (decide_eq_true q)
        exact fin _ (by unfold byteB; rw [decide_eq_false c0, Bool.false_and])
    · rintro H' ⟨h1, h2⟩
      rw [List.length_map, List.take_length] at h2
      refine ⟨D, ns.map byteB, rfl, SqL.of ?_, ?_⟩
      · rw [h2, List.map_map]
        rfl
      · have e : (ns.map byteB).all id = ns.all Cs03.isByte := by
          rw [List.all_map]
          congr 1
          funext z
          exact byteB_spec z
        rw [e]
        exact k _ h1

/-! ### places told: a dict whose keys are the places, in the order in which they were told -/
def dS (l : List Nat) : List (L2.Key × V) := l.map fun (p : Nat) => (Sum.inl (p : Int), V.bl true)
theorem dS_len (l : List Nat) : (dS l).length = l.length := List.length_map ..
theorem key_inj {p q : Nat} (h : (Sum.inl (p : Int) : L2.Key) = Sum.inl (q : Int)) : p = q := by
  injection h
  omega
theorem dS_val (l : List Nat) (p : Nat) : valV (dS l) (Sum.inl (p : Int)) = if p ∈ l then some (V.bl true) else none := by
  induction l with
  | nil => exact (if_neg List.not_mem_nil).symm
  | cons q r ih =>
    show valV ((Sum.inl (q : Int), V.bl true) :: dS r) _ = _
    by_cases e : q = p
    · subst e
      rw [valV_pos rfl, if_pos List.mem_cons_self]
    · rw [valV_neg fun z => e (key_inj z), ih]
      have : p ∈ q :: r ↔ p ∈ r := by
        rw [List.mem_cons]
        exact ⟨fun h => h.resolve_left fun z => e z.symm, .inr⟩
      by_cases m : p ∈ r
      · rw [if_pos m, if_pos (this.mpr m)]
      · rw [if_neg m, if_neg fun z => m (this.mp z)]
theorem dS_put (l : List Nat) (p : Nat) : putK (dS l) (Sum.inl (p : Int)) (V.bl true) = dS (Cs03.placed l p true) := by
  unfold Cs03.placed
  rw [if_pos rfl]
  by_cases m : p ∈ l
  · rw [if_pos (List.contains_iff_mem.mpr m)]
    unfold putK
    rw [if_pos (by rw [valV_any, dS_val, if_pos m]; rfl)]
    unfold dS
    rw [List.map_map]
    refine List.map_congr_left fun q _ => ?_
    show (if (Sum.inl (q : Int) : L2.Key) = Sum.inl (p : Int) then (Sum.inl (q : Int), V.bl true) else (Sum.inl (q : Int), V.bl true)) = ((Sum.inl (q : Int) : L2.Key), V.bl true)
    split <;> rfl
  · rw [if_neg fun z => m (List.contains_iff_mem.mp z), putK_new _ (by rw [dS_val, if_neg m])]
    unfold dS
    rw [List.map_append]
    rfl
theorem dS_drop (l : List Nat) (p : Nat) : dropK (dS l) (Sum.inl (p : Int)) = dS (Cs03.placed l p false) := by
  unfold Cs03.placed
  rw [if_neg Bool.false_ne_true]
  unfold dropK dS
  rw [List.filter_map]
  congr 1
  refine List.filter_congr fun q _ => ?_
  show decide ((Sum.inl (q : Int) : L2.Key) ≠ Sum.inl (p : Int)) = (q != p)
  by_cases e : q = p
  · subst e
    simp
  · rw [bne_iff_ne.mpr e]
    exact decide_eq_true fun z => e (key_inj z)
theorem dS_drop_no {l : List Nat} {p : Nat} (m : ¬ p ∈ l) : Cs03.placed l p false = l := by
  unfold Cs03.placed
  rw [if_neg Bool.false_ne_true, List.filter_eq_self]
  intro q hq
  exact bne_iff_ne.mpr fun e => m (e ▸ hq)
theorem isPlace_low {p : Int} (h : p < 0) : Cs03.isPlace p = false := by
  unfold Cs03.isPlace
  rw [decide_eq_false (by omega), Bool.false_and]
theorem isPlace_high {p : Int} (h : 128 ≤ p) : Cs03.isPlace p = false := by
  unfold Cs03.isPlace
  rw [decide_eq_false (p := p < 128) (by omega), Bool.and_false]
theorem isPlace_ok {p : Int} (h : 0 ≤ p) (h2 : p < 128) : Cs03.isPlace p = true := by
  unfold Cs03.isPlace
  rw [decide_eq_true h, decide_eq_true h2]
  rfl
def spPlace : Sp := fun vs H Q _ => ∃ z : Int, vs = [.int z] ∧ Q (.bl (Cs03.isPlace z)) H
theorem ok_is_place (T : Txt K mg α) : C8.Cal P w K mg base 1 "is_place" spPlace [] := by
  refine cal_of T.d_is_place sc_is_place bi_is_place (fun vs H Q E h => ?_) fun f cdv A outer s H vs Q E hr h => ⟨_, (pss_one (ps_ret (pe_chain op_le op_lt pe_int (pv 0) (C8.pe_gc (by rfl) T.g_PLACES)))), ?_⟩
  · obtain ⟨z, rfl, _⟩ := h
    rfl
  · obtain ⟨z, rfl, k⟩ := h
    refine ⟨_, rfl, _, _, rfl, rfl, _, rfl, ite2 (fun c => ?_) (fun c => ?_)⟩
    · have c0 : (0 : Int) ≤ z := of_decide_eq_true c
      refine ⟨_, _, rfl, rfl, ?_⟩
      have e : decide (z < 128) = Cs03.isPlace z := by
        unfold Cs03.isPlace
        rw [decide_eq_true c0, Bool.true_and]
      rw [← e] at k
      exact k
    · have c0 : ¬ (0 : Int) ≤ z := fun q => c (decide_eq_true q)
      rw [isPlace_low (by omega)] at k
      exact k
def badPlace (p on : Int) : Prop := Cs03.isPlace p = false ∨ on < 0 ∨ 1 < on
def spTell (K : PySem.W.Frag) : Sp := fun vs H Q _ => ∃ (d a : Addr) (l : List Nat) (p on : Int), vs = [.ref d, .ref a] ∧ H d = some (.dK (dS l)) ∧ SqL K H a [.int p, .int on] ∧ l.length ≤ 1000 ∧
  (badPlace p on → ∀ (H' : Hp) (q : Addr), Same H H' → H q = none → H' q = some (.lst [.int (-1)]) → Q (.ref q) H') ∧
  (¬ badPlace p on → ∀ (H' : Hp) (q : Addr), H' d = some (.dK (dS (Cs03.placed l p.toNat (on == 1)))) → (∀ b o, H b = some o → b ≠ d → H' b = some o) → H q = none → H' q = some (.lst [.int ((Cs03.placed l p.toNat (on == 1)).length : Nat)]) → Q (.ref q) H')
theorem ok_tell_place (T : Txt K mg α) (h_is_place : C8.Cal P w K mg base 1 "is_place" spPlace []) : C8.Cal P w K mg base 2 "tell_place" (spTell K) [] := by
  refine cal_of T.d_tell_place sc_tell_place bi_tell_place (fun vs H Q E h => ?_) fun f cdv A outer s H vs Q E hr h => ⟨_, (pss_cons (ps_set (i := 2) sc_tell_place.nd rfl (Or.inl rfl) (pe_ix ix_list (pv 1) pe_int (fun _ _ => rfl)))
    (pss_cons (ps_set (i := 3) sc_tell_place.nd rfl (Or.inl rfl) (pe_ix ix_list (pv 1) pe_int (fun _ _ => rfl)))
    (pss_cons (ps_if (PW.pt (pw_or (pt_not (pt_val (C8.pe_c h_is_place hr (by decide) (by rfl) (pa_cons (pv 2) pa_nil)))) (pw_or1 (pt_cmpR op_notIn_seq (pv 3) (pe_tup (pa_cons pe_int (pa_cons pe_int pa_nil))) (by rfl)))))
      (pss_one (ps_ret (pe_lst (pa_cons (C8.pe_gc (by rfl) T.g_OUT_OF_BOUNDS) pa_nil))))
      pss_nil)
    (pss_cons (ps_if (pt_cmpR op_eq (pv 3) pe_int (nomark _))
      (pss_one (ps_dput (hu_of hr) (pv 0) (pv 2) pe_bl rfl))
      (pss_one (ps_expr (pe_dpop2 (pv 0) (pv 2) pe_non ⟨rfl, rfl, rfl, rfl⟩))))
    (pss_one (ps_ret (pe_lst (pa_cons (pe_callB call_lenD (by rfl) T.z_len (by decide +kernel) (pa_cons (pv 0) pa_nil)) pa_nil)))))))), ?_⟩
  · obtain ⟨d, a, l, p, on, rfl, _⟩ := h
    rfl
  · obtain ⟨d, a, l, p, on, rfl, hd, ha, hl, kB, kG⟩ := h
    refine ⟨_, rfl, a, _, _, _, rfl, rfl, ha, rfl, ?_⟩
    refine ⟨_, rfl, a, _, _, _, rfl, rfl, ha, rfl, ?_⟩
    have bad : badPlace p on → ∀ H1, Same H H1 → (1 ≤ sizeLine ∧ ∀ q, H1 q = none → Q (.ref q) (upd H1 q (.lst [.int (-1)]))) := fun hb H1 s1 =>
      ⟨by decide, fun q hq => kB hb _ q (s1.trans (Same.new hq)) (s1.free hq) upd_same⟩
    refine ⟨_, rfl, p, rfl, _, rfl, ite2 (fun c => ?_) (fun c => ?_)⟩
    · exact bad (.inl (by simpa using c)) H (Same.refl H)
    have hp : Cs03.isPlace p = true := by simpa using c
    have hp0 : 0 ≤ p := by
      have q := hp
      unfold Cs03.isPlace at q
      rw [Bool.and_eq_true] at q
      exact of_decide_eq_true q.1
    refine ⟨_, rfl, by show 2 ≤ sizeLine; decide, fun t ht => ?_⟩
    refine ⟨t, _, rfl, .inr (SqT.of upd_same), rfl, rfl, _, rfl, ite2 (fun c => ?_) (fun c => ?_)⟩
    · refine bad (.inr ?_) _ (Same.new ht)
      have c3 : (!(((0 : Int) == on) || (((1 : Int) == on) || false))) = true := c
      rw [Bool.or_false, Bool.not_eq_true', Bool.or_eq_false_iff, beq_eq_false_iff_ne, beq_eq_false_iff_ne] at c3
      omega
    have c4 : on = 0 ∨ on = 1 := by
      have c3 : ¬ (!(((0 : Int) == on) || (((1 : Int) == on) || false))) = true := c
      rw [Bool.or_false, Bool.not_eq_true', Bool.not_eq_false, Bool.or_eq_true, beq_iff_eq, beq_iff_eq] at c3
      omega
    have good : ¬ badPlace p on := fun hb => by
      rcases hb with h | h
      · rw [hp] at h
        cases h
      · omega
    have hdt : d ≠ t := ne_of_none hd ht
    have hd1 : (upd H t (.tup [.int 0, .int 1])) d = some (.dK (dS l)) := (upd_ne hdt).trans hd
    obtain ⟨n, rfl⟩ : ∃ n : Nat, p = (n : Int) := ⟨p.toNat, by omega⟩
    have fin : ∀ (H1 : Hp) (l' : List Nat), l' = Cs03.placed l n (on == 1) → H1 d = some (.dK (dS l')) → (∀ b o, H b = some o → b ≠ d → H1 b = some o) → (∀ q, H1 q = none → H q = none) →
        ∃ a kvs, [V.ref d] = [V.ref a] ∧ H1 a = some (.dK kvs) ∧ (1 ≤ sizeLine ∧ ∀ q, H1 q = none → Q (.ref q) (upd H1 q (.lst [.int (kvs.length : Nat)]))) := fun H1 l' e h1 h2 h3 =>
      ⟨d, dS l', rfl, h1, by decide, fun q hq => kG good _ q (by rw [upd_ne (ne_of_none h1 hq), h1, e]; rfl) (fun b o hb nb => by rw [upd_ne (ne_of_none (h2 b o hb nb) hq)]; exact h2 b o hb nb) (h3 q hq) (by rw [upd_same, dS_len, e]; rfl)⟩
    have sm : Same H (upd H t (.tup [.int 0, .int 1])) := Same.new ht
    refine ⟨_, rfl, rfl, _, rfl, ite2 (fun c => ?_) (fun c => ?_)⟩
    · have on1 : on = 1 := by
        have z := of_decide_eq_true c
        injection z
      subst on1
      refine ⟨_, rfl, _, rfl, d, _, rfl, DPut.k (k := Sum.inl (n : Int)) hd1 ?_, ?_⟩
      · rw [dS_len]
        exact Nat.lt_of_le_of_lt hl (by decide)
      rw [dS_put]
      exact ⟨_, rfl, fin _ _ rfl upd_same (fun b o hb nb => by rw [upd_ne nb]; exact sm b o hb) (fun q hq => sm.free (upd_free hq))⟩
    · have on0 : on = 0 := by
        rcases c4 with h | h
        · exact h
        · exact absurd (by rw [h]; exact decide_eq_true rfl) c
      subst on0
      refine ⟨_, rfl, d, rfl, .inl ⟨_, .inl hd1⟩, _, rfl, _, Sum.inl (n : Int), hd1, rfl, fun v hv => ?_, fun hv => ?_⟩
      · rw [dS_drop]
        exact ⟨_, rfl, fin _ _ rfl upd_same (fun b o hb nb => by rw [upd_ne nb]; exact sm b o hb) (fun q hq => sm.free (upd_free hq))⟩
      · have m : ¬ n ∈ l := fun m => by
          rw [dS_val, if_pos m] at hv
          cases hv
        exact ⟨_, rfl, fin _ l (dS_drop_no m).symm hd1 (fun b o hb nb => sm b o hb) (fun q hq => sm.free hq)⟩
end
end BR
/-! ## Ses1 -/
set_option Elab.async false
set_option maxRecDepth 100000
set_option maxHeartbeats 2000000
set_option linter.unusedVariables false
namespace BR
open PySem PySem.Spec PyProof.Rows L2

/-! ### the session's object -/
abbrev CSt := Cs03.St
structure Wf (st : CSt) : Prop where
  p1 : st.program.length ≤ 128
  p2 : ∀ n ∈ st.program, n < 256
  p3 : st.pads.length ≤ 20
  p4 : ∀ n ∈ st.pads, n < 256
  p5 : ValidP st.pokes
  p6 : st.pokes.length ≤ 20
abbrev sF (ld fp ch sd wd ml : Addr) (st : CSt) : List (Str × V) := F_Session (.ref ld) (.ref fp) (.ref ch) (.ref sd) (.ref wd) (nV st.now) (.ref ml)
/-- what isn't the session's, and what a call may change of it -/
def Mut (N : Addr → Prop) (s ch sd wd : Addr) : Addr → Prop := fun b => N b ∨ b = s ∨ b = ch ∨ b = sd ∨ b = wd
structure SAt (α : Ads) (N : Addr → Prop) (H : Hp) (s dx ld fp ch sd wd ml : Addr) (st : CSt) : Prop where
  obj : H s = some (.ins α.c_Session dx (sF ld fp ch sd wd ml st))
  hld : H ld = some (.lst (st.program.map nV))
  hfp : H fp = some (.lst (st.pads.map nV))
  hch : Chg (Mut N s ch sd wd) H ch st.pokes
  hsd : H sd = some (.dK (dS st.stops))
  hwd : H wd = some (.dK (dS st.watches))
  hml : Moms α.c_Moment (Mut N s ch sd wd) H ml (Cs03.trace st).toList
  nld : ¬ Mut N s ch sd wd ld
  nfp : ¬ Mut N s ch sd wd fp
  nml : ¬ Mut N s ch sd wd ml
  ns : ¬ N s
  nch : ¬ N ch
  nsd : ¬ N sd
  nwd : ¬ N wd
  ne : sd ≠ wd
  trk : Trk N H
  wf : Wf st
def Ses (α : Ads) (N : Addr → Prop) (H : Hp) (s : Addr) (st : CSt) : Prop := ∃ dx ld fp ch sd wd ml, SAt α N H s dx ld fp ch sd wd ml st ∧ st.now ≤ Cs03.long (Cs03.trace st)
def KeepN (N : Addr → Prop) (H H' : Hp) : Prop := ∀ b o, H b = some o → N b → H' b = some o
theorem KeepN.refl {N : Addr → Prop} {H : Hp} : KeepN N H H := fun _ _ h _ => h
theorem KeepN.trans {N : Addr → Prop} {H H1 H2 : Hp} (a : KeepN N H H1) (b : KeepN N H1 H2) : KeepN N H H2 := fun x o h n => b x o (a x o h n) n
theorem KeepN.of {N : Addr → Prop} {H H1 : Hp} (a : Same H H1) : KeepN N H H1 := fun x o h n => a x o h
theorem SAt.same {α : Ads} {N : Addr → Prop} {H H' : Hp} {s dx ld fp ch sd wd ml : Addr} {st : CSt} (h : SAt α N H s dx ld fp ch sd wd ml st) (sm : Same H H') : SAt α N H' s dx ld fp ch sd wd ml st := by
  obtain ⟨us, hu, _⟩ := h.hch
  obtain ⟨vs, hv, _⟩ := h.hml
  exact ⟨sm _ _ h.obj, sm _ _ h.hld, sm _ _ h.hfp, h.hch.fr (fun b o e _ => sm b o e) ((sm _ _ hu).trans hu.symm), sm _ _ h.hsd, sm _ _ h.hwd, h.hml.fr (fun b o e _ => sm b o e) ((sm _ _ hv).trans hv.symm), h.nld, h.nfp, h.nml, h.ns, h.nch, h.nsd, h.nwd, h.ne, h.trk.same sm, h.wf⟩
theorem SAt.nsch {α : Ads} {N : Addr → Prop} {H : Hp} {s dx ld fp ch sd wd ml : Addr} {st : CSt} (h : SAt α N H s dx ld fp ch sd wd ml st) : ch ≠ s := by
  obtain ⟨us, hu, _⟩ := h.hch
  exact ne_of hu h.obj (by intro z; cases z)
theorem SAt.nssd {α : Ads} {N : Addr → Prop} {H : Hp} {s dx ld fp ch sd wd ml : Addr} {st : CSt} (h : SAt α N H s dx ld fp ch sd wd ml st) : sd ≠ s := ne_of h.hsd h.obj (by intro z; cases z)
theorem SAt.nswd {α : Ads} {N : Addr → Prop} {H : Hp} {s dx ld fp ch sd wd ml : Addr} {st : CSt} (h : SAt α N H s dx ld fp ch sd wd ml st) : wd ≠ s := ne_of h.hwd h.obj (by intro z; cases z)
/-- one goes elsewhere in the run -/
theorem SAt.goes {α : Ads} {N : Addr → Prop} {H : Hp} {s dx ld fp ch sd wd ml : Addr} {st : CSt} {n : Nat} (h : SAt α N H s dx ld fp ch sd wd ml st) : SAt α N (upd H s (.ins α.c_Session dx (sF ld fp ch sd wd ml { st with now := n }))) s dx ld fp ch sd wd ml { st with now := n } := by
  have et : Cs03.trace { st with now := n } = Cs03.trace st := SL.trace_congr rfl rfl rfl
  have ns : ∀ b, ¬ Mut N s ch sd wd b → b ≠ s := fun b m z => m (.inr (.inl z))
  have fr : FrS (Mut N s ch sd wd) H (upd H s (.ins α.c_Session dx (sF ld fp ch sd wd ml { st with now := n }))) := fun b o e m => by
    rw [upd_ne (ns b m)]
    exact e
  refine ⟨upd_same, (upd_ne (ns _ h.nld)).trans h.hld, (upd_ne (ns _ h.nfp)).trans h.hfp, h.hch.fr fr (upd_ne h.nsch), (upd_ne h.nssd).trans h.hsd, (upd_ne h.nswd).trans h.hwd, ?_, h.nld, h.nfp, h.nml, h.ns, h.nch, h.nsd, h.nwd, h.ne, h.trk.upd _ _, ⟨h.wf.p1, h.wf.p2, h.wf.p3, h.wf.p4, h.wf.p5, h.wf.p6⟩⟩
  rw [et]
  exact h.hml.fr fr (upd_ne (ns _ h.nml))
theorem keep_upd {N : Addr → Prop} {H : Hp} {a : Addr} {o : HO} (h : ¬ N a) : KeepN N H (upd H a o) := fun b u e n => by
  rw [upd_ne (fun z : b = a => h (z ▸ n))]
  exact e
/-- a moment by its number -/
theorem mom_at {C : Addr} {S : Addr → Prop} {H : Hp} {l : Addr} {t : Array At} {n : Nat} {x : At} (h : Moms C S H l t.toList) (e : t[n]? = some x) : ∃ vs v, H l = some (.lst vs) ∧ vs.length = t.size ∧ vs[n]? = some v ∧ MomAt C S H v x (SL.wAt t.toList n) := by
  obtain ⟨vs, h1, h2⟩ := h
  obtain ⟨v, h3, h4⟩ := h2.get (p := x) (i := n) (by rw [Array.getElem?_toList]; exact e)
  exact ⟨vs, v, h1, by rw [h2.1, Array.length_toList], h3, h4⟩
theorem get_of {t : Array At} {n : Nat} (h : n < t.size) : ∃ x, t[n]? = some x ∧ t.getD n Cs03.none_ = x := ⟨t[n], Array.getElem?_eq_getElem h, by rw [Array.getD_eq_getD_getElem?, Array.getElem?_eq_getElem h]; rfl⟩
theorem wr_is (t : Array At) (n : Nat) : SL.wr t n = SL.wAt t.toList (n + 1) := by
  rw [← SL.wr_wAt, Array.toArray_toList]

section
variable {P : Program} {w : World} {K : PySem.W.Frag} {mg : Str → Option Value} {base : Heap} {α : Ads}

/-! ### what only reads -/
def spEnd (α : Ads) : Sp := fun vs H Q _ => ∃ (N : Addr → Prop) (s dx ld fp ch sd wd ml : Addr) (st : CSt), vs = [.ref s] ∧ SAt α N H s dx ld fp ch sd wd ml st ∧ Q (nV (Cs03.long (Cs03.trace st))) H
theorem ok_end (T : Txt K mg α) : C8.Met P w K mg base 1 α.c_Session "end_number" (spEnd α) [] := by
  refine met_of T.m_Session_end_number T.c_Session sc_Session_end_number bi_Session_end_number (fun vs H Q E h => ?_) fun f cdv A outer s H vs Q E hr h => ⟨_, (pss_one (ps_ret (pe_op op_sub (pe_callB call_len_seq (by rfl) T.z_len (by decide +kernel) (pa_cons (pe_fld (pv 0) rfl) pa_nil)) pe_int))), ?_⟩
  · obtain ⟨N, s, dx, ld, fp, ch, sd, wd, ml, st, rfl, _⟩ := h
    rfl
  · obtain ⟨N, s, dx, ld, fp, ch, sd, wd, ml, st, rfl, h, k⟩ := h
    obtain ⟨vs, hv, hA⟩ := h.hml
    refine ⟨_, rfl, _, _, _, _, _, rfl, h.obj, T.c_Session, T.n_Session_moments, gt_Session_moments, ml, _, rfl, .inl (SqL.of hv), _, _, rfl, rfl, ?_⟩
    have e : (vs.length : Int) - 1 = ((Cs03.long (Cs03.trace st) : Nat) : Int) := by
      have e1 := SL.long_lt st
      rw [hA.1, Array.length_toList]
      omega
    have k : Q (.int ((Cs03.long (Cs03.trace st) : Nat) : Int)) H := k
    rw [← e] at k
    exact k
def spNow (α : Ads) : Sp := fun vs H Q _ => ∃ (N : Addr → Prop) (s dx ld fp ch sd wd ml : Addr) (st : CSt), vs = [.ref s] ∧ SAt α N H s dx ld fp ch sd wd ml st ∧ st.now ≤ Cs03.long (Cs03.trace st) ∧
  ∀ v x, (Cs03.trace st)[st.now]? = some x → Cs03.atNow st (Cs03.trace st) = x → MomAt α.c_Moment (Mut N s ch sd wd) H v x (SL.wAt (Cs03.trace st).toList st.now) → Q v H
theorem now_lt {st : CSt} (h : st.now ≤ Cs03.long (Cs03.trace st)) : st.now < (Cs03.trace st).size := by
  have e1 := SL.long_lt st
  omega
theorem ok_now (T : Txt K mg α) : C8.Met P w K mg base 1 α.c_Session "moment_now" (spNow α) [] := by
  refine met_of T.m_Session_moment_now T.c_Session sc_Session_moment_now bi_Session_moment_now (fun vs H Q E h => ?_) fun f cdv A outer s H vs Q E hr h => ⟨_, (pss_one (ps_ret (pe_ix ix_list (pe_fld (pv 0) rfl) (pe_fld (pv 0) rfl) (fun _ _ => rfl)))), ?_⟩
  · obtain ⟨N, s, dx, ld, fp, ch, sd, wd, ml, st, rfl, _⟩ := h
    rfl
  · obtain ⟨N, s, dx, ld, fp, ch, sd, wd, ml, st, rfl, h, hnow, k⟩ := h
    obtain ⟨x, hx, hx2⟩ := get_of (now_lt hnow)
    obtain ⟨vs, v, hv, _, hi, hm⟩ := mom_at h.hml hx
    exact ⟨_, rfl, _, _, _, _, _, rfl, h.obj, T.c_Session, T.n_Session_moments, gt_Session_moments, _, rfl, _, _, _, _, _, rfl, h.obj, T.c_Session, T.n_Session_now, gt_Session_now, ml, _, _, _, rfl, rfl, SqL.of hv, atI_nat hi, k v x hx hx2 hm⟩
def spWhere (α : Ads) : Sp := fun vs H Q _ => ∃ (N : Addr → Prop) (s dx ld fp ch sd wd ml : Addr) (st : CSt), vs = [.ref s] ∧ SAt α N H s dx ld fp ch sd wd ml st ∧ st.now ≤ Cs03.long (Cs03.trace st) ∧
  ∀ q, H q = none → Q (.ref q) (upd H q (.lst ((Cs03.told1 st (Cs03.trace st)).map V.int)))
theorem ok_where (T : Txt K mg α) (h_Session_moment_now : C8.Met P w K mg base 1 α.c_Session "moment_now" (spNow α) []) : C8.Met P w K mg base 2 α.c_Session "where_now" (spWhere α) [] := by
  refine met_of T.m_Session_where_now T.c_Session sc_Session_where_now bi_Session_where_now (fun vs H Q E h => ?_) fun f cdv A outer s H vs Q E hr h => ⟨_, (pss_cons (ps_set (i := 1) sc_Session_where_now.nd rfl (Or.inl rfl) (C8.pe_mt0 h_Session_moment_now hr (by decide) (pv 0)))
    (pss_one (ps_ret (pe_lst (pa_cons (pe_fld (pv 0) rfl) (pa_cons (pe_fld (pv 1) rfl) (pa_cons (pe_fld (pv 1) rfl) (pa_cons (pe_fld (pv 1) rfl) pa_nil)))))))), ?_⟩
  · obtain ⟨N, s, dx, ld, fp, ch, sd, wd, ml, st, rfl, _⟩ := h
    rfl
  · obtain ⟨N, s, dx, ld, fp, ch, sd, wd, ml, st, rfl, h, hnow, k⟩ := h
    refine ⟨_, rfl, me_Session_moment_now h.obj ⟨N, s, dx, ld, fp, ch, sd, wd, ml, st, rfl, h, hnow, fun v x e1 e2 hm => ?_⟩⟩
    obtain ⟨b, db, cb, rfl, _, _, hb, hcb, hg⟩ := hm
    refine ⟨_, rfl, _, _, _, _, _, rfl, h.obj, T.c_Session, T.n_Session_now, gt_Session_now, _, rfl, _, _, _, _, _, rfl, hb, T.c_Moment, T.n_Moment_frame, gt_Moment_frame, _, rfl, _, _, _, _, _, rfl, hb, T.c_Moment, T.n_Moment_done, gt_Moment_done, _, rfl, _, _, _, _, _, rfl, hb, T.c_Moment, T.n_Moment_place, gt_Moment_place, by show 4 ≤ sizeLine; decide, fun q hq => ?_⟩
    have e : (Cs03.told1 st (Cs03.trace st)).map V.int = [nV st.now, nV x.f, nV x.k, nV x.m.pc] := by
      unfold Cs03.told1
      rw [e2]
      rfl
    have q := k q hq
    rw [e] at q
    exact q

theorem why_is {st : CSt} {n : Nat} {x : At} (h : (Cs03.trace st)[n]? = some x) : Cs03.why st (Cs03.trace st) n = if st.stops.contains x.m.pc = true ∧ n < Cs03.long (Cs03.trace st) then 1 else match SL.wAt (Cs03.trace st).toList n with
    | some p => if st.watches.contains p = true then 2 else 0
    | none => 0 := by
  cases n with
  | zero => exact SL.why_zero h
  | succ n =>
    have e := SL.why_succ (s := st) h
    rw [wr_is] at e
    refine e.trans ?_
    cases SL.wAt (Cs03.trace st).toList (n + 1) <;> rfl
def spReason (α : Ads) : Sp := fun vs H Q _ => ∃ (N : Addr → Prop) (s dx ld fp ch sd wd ml : Addr) (st : CSt) (n : Nat), vs = [.ref s, nV n] ∧ SAt α N H s dx ld fp ch sd wd ml st ∧ n ≤ Cs03.long (Cs03.trace st) ∧
  Q (nV (Cs03.why st (Cs03.trace st) n)) H
theorem ok_reason (T : Txt K mg α) (h_Session_end_number : C8.Met P w K mg base 1 α.c_Session "end_number" (spEnd α) []) : C8.Met P w K mg base 2 α.c_Session "reason_at" (spReason α) [] := by
  refine met_of T.m_Session_reason_at T.c_Session sc_Session_reason_at bi_Session_reason_at (fun vs H Q E h => ?_) fun f cdv A outer s H vs Q E hr h => ⟨_, (pss_cons (ps_set (i := 2) sc_Session_reason_at.nd rfl (Or.inl rfl) (pe_ix ix_list (pe_fld (pv 0) rfl) (pv 1) (fun _ _ => rfl)))
    (pss_cons (ps_if (PW.pt (pw_and (pt_cmpR op_lt (pv 1) (C8.pe_mt0 h_Session_end_number hr (by decide) (pv 0)) (nomark _)) (pw_and1 (pt_cmp (pc_din (hu_of hr) (pe_fld (pv 2) rfl) (pe_fld (pv 0) rfl))))))
      (pss_one (ps_ret (C8.pe_gc (by rfl) T.g_AT_A_STOP)))
      pss_nil)
    (pss_cons (ps_if (pt_cmp (pc_dinN (hu_of hr) (pe_fld (pv 2) rfl) (pe_fld (pv 0) rfl)))
      (pss_one (ps_ret (C8.pe_gc (by rfl) T.g_BEHIND_A_WATCHED_WRITE)))
      pss_nil)
    (pss_one (ps_ret (C8.pe_gc (by rfl) T.g_NO_REASON)))))), ?_⟩
  · obtain ⟨N, s, dx, ld, fp, ch, sd, wd, ml, st, n, rfl, _⟩ := h
    rfl
  · obtain ⟨N, s, dx, ld, fp, ch, sd, wd, ml, st, n, rfl, h, hn, k⟩ := h
    obtain ⟨x, hx, _⟩ := get_of (t := Cs03.trace st) (n := n) (by have := SL.long_lt st; omega)
    obtain ⟨vs, v, hv, _, hi, b, db, cb, rfl, _, _, hb, hcb, hg⟩ := mom_at h.hml hx
    have ew := why_is hx
    refine ⟨_, rfl, _, _, _, _, _, rfl, h.obj, T.c_Session, T.n_Session_moments, gt_Session_moments, _, rfl, ml, _, _, _, rfl, rfl, SqL.of hv, atI_nat hi, ?_⟩
    have second : (¬ (st.stops.contains x.m.pc = true ∧ n < Cs03.long (Cs03.trace st))) → ∀ w, w = SL.wAt (Cs03.trace st).toList n → Cs03.why st (Cs03.trace st) n = match w with
        | some p => if st.watches.contains p = true then 2 else 0
        | none => 0 := fun z w e => by
      rw [ew, if_neg z, ← e]
    refine ⟨_, rfl, _, rfl, me_Session_end_number h.obj ⟨N, s, dx, ld, fp, ch, sd, wd, ml, st, rfl, h, _, _, rfl, rfl, _, rfl, ite2 (fun c => ?_) (fun c => ?_)⟩⟩
    · have c1 : n < Cs03.long (Cs03.trace st) := by
        have := of_decide_eq_true c
        omega
      refine ⟨_, rfl, _, _, _, _, _, rfl, hb, T.c_Moment, T.n_Moment_place, gt_Moment_place, _, rfl, _, _, _, _, _, rfl, h.obj, T.c_Session, T.n_Session_stop_places, gt_Session_stop_places, sd, _, rfl, DGet.k (k := Sum.inl (x.m.pc : Int)) h.hsd, _, rfl, ?_⟩
      rw [dS_val]
      by_cases m : x.m.pc ∈ st.stops
      · rw [if_pos m]
        have e1 : Cs03.why st (Cs03.trace st) n = 1 := by
          rw [ew, if_pos ⟨List.contains_iff_mem.mpr m, c1⟩]
        rw [e1] at k
        exact k
      · rw [if_neg m]
        have z := second fun z => m (List.contains_iff_mem.mp z.1)
        cases ewr : SL.wAt (Cs03.trace st).toList n with
        | none =>
          rw [z none ewr.symm] at k
          rw [ewr] at hb
          exact ⟨_, rfl, _, _, _, _, _, rfl, hb, T.c_Moment, T.n_Moment_written, gt_Moment_written, _, rfl, _, _, _, _, _, rfl, h.obj, T.c_Session, T.n_Session_watch_places, gt_Session_watch_places, .inr ⟨wd, _, rfl, rfl, .inl h.hwd, _, rfl, k⟩⟩
        | some p =>
          rw [z (some p) ewr.symm] at k
          rw [ewr] at hb
          refine ⟨_, rfl, _, _, _, _, _, rfl, hb, T.c_Moment, T.n_Moment_written, gt_Moment_written, _, rfl, _, _, _, _, _, rfl, h.obj, T.c_Session, T.n_Session_watch_places, gt_Session_watch_places, .inl ⟨wd, _, rfl, DGet.k (k := Sum.inl (p : Int)) h.hwd, _, rfl, ?_⟩⟩
          rw [dS_val]
          by_cases m : p ∈ st.watches
          · rw [if_pos m]
            dsimp only at k
            rw [if_pos (List.contains_iff_mem.mpr m)] at k
            exact k
          · rw [if_neg m]
            dsimp only at k
            rw [if_neg fun z => m (List.contains_iff_mem.mp z)] at k
            exact k
    · have c1 : ¬ n < Cs03.long (Cs03.trace st) := fun z => c (decide_eq_true (by omega))
      have z := second fun z => c1 z.2
      cases ewr : SL.wAt (Cs03.trace st).toList n with
        | none =>
          rw [z none ewr.symm] at k
          rw [ewr] at hb
          exact ⟨_, rfl, _, _, _, _, _, rfl, hb, T.c_Moment, T.n_Moment_written, gt_Moment_written, _, rfl, _, _, _, _, _, rfl, h.obj, T.c_Session, T.n_Session_watch_places, gt_Session_watch_places, .inr ⟨wd, _, rfl, rfl, .inl h.hwd, _, rfl, k⟩⟩
        | some p =>
          rw [z (some p) ewr.symm] at k
          rw [ewr] at hb
          refine ⟨_, rfl, _, _, _, _, _, rfl, hb, T.c_Moment, T.n_Moment_written, gt_Moment_written, _, rfl, _, _, _, _, _, rfl, h.obj, T.c_Session, T.n_Session_watch_places, gt_Session_watch_places, .inl ⟨wd, _, rfl, DGet.k (k := Sum.inl (p : Int)) h.hwd, _, rfl, ?_⟩⟩
          rw [dS_val]
          by_cases m : p ∈ st.watches
          · rw [if_pos m]
            dsimp only at k
            rw [if_pos (List.contains_iff_mem.mpr m)] at k
            exact k
          · rw [if_neg m]
            dsimp only at k
            rw [if_neg fun z => m (List.contains_iff_mem.mp z)] at k
            exact k

def spLast (α : Ads) : Sp := fun vs H Q _ => ∃ (N : Addr → Prop) (s dx ld fp ch sd wd ml : Addr) (st : CSt) (p : Nat), vs = [.ref s, nV p] ∧ SAt α N H s dx ld fp ch sd wd ml st ∧ st.now ≤ Cs03.long (Cs03.trace st) ∧ p < 128 ∧
  Q (wV (Cs03.wrote st (Cs03.trace st) p)) H
theorem ok_last (T : Txt K mg α) : C8.Met P w K mg base 1 α.c_Session "last_write" (spLast α) [] := by
  refine met_of T.m_Session_last_write T.c_Session sc_Session_last_write bi_Session_last_write (fun vs H Q E h => ?_) fun f cdv A outer s H vs Q E hr h => ⟨_, (pss_cons (ps_for PassesOwn.never rfl (pi_range3 (by rfl) T.z_range (pa_cons (pe_op op_sub (pe_fld (pv 0) rfl) pe_int) (pa_cons (pe_un un_neg pe_int) (pa_cons (pe_un un_neg pe_int) pa_nil)))) (pg_name (i := 2) sc_Session_last_write.nd rfl (Or.inl rfl))
      (pss_one (ps_if (pt_cmpR op_eq (pe_fld (pe_ix ix_list (pe_fld (pv 0) rfl) (pe_op op_add (pv 2) pe_int) (fun _ _ => rfl)) rfl) (pv 1) (nomark _))
      (pss_one (ps_ret (pv 2)))
      pss_nil)))
    (pss_one (ps_ret pe_non))), ?_⟩
  · obtain ⟨N, s, dx, ld, fp, ch, sd, wd, ml, st, n, rfl, _⟩ := h
    rfl
  · obtain ⟨N, s, dx, ld, fp, ch, sd, wd, ml, st, p, rfl, h, hnow, hp, k⟩ := h
    have hs := now_lt hnow
    have hz := SL.trace_size st
    have hz2 : (Cs03.trace st).size ≤ 6001 := by
      have := h.wf.p3
      have e : CsBase.MOST = 300 := rfl
      rw [e] at hz
      omega
    refine ⟨_, rfl, _, _, _, _, _, rfl, h.obj, T.c_Session, T.n_Session_now, gt_Session_now, _, _, rfl, rfl, _, rfl, _, rfl, (st.now : Int) - 1, -1, -1, (((st.now : Int) - 1) - (-1)).toNat, rfl, RgC.neg (by omega) (by omega) (by omega) (by omega), ?_⟩
    have en : (((st.now : Int) - 1) - (-1)).toNat = st.now := by omega
    rw [en]
    refine for_rangeC (lo := (st.now : Int) - 1) (c := -1) (n := st.now) (fun i σ H' => H' = H ∧ (∃ a, σ = [some (.ref s), some (nV p), a]) ∧ ∀ j, st.now - i ≤ j → j < st.now → SL.wr (Cs03.trace st) j ≠ some p) ⟨rfl, ⟨_, rfl⟩, fun j h1 h2 => by omega⟩ ?_ ?_
    · rintro i σ H1 hi ⟨rfl, ⟨a, rfl⟩, hn⟩
      obtain ⟨x, hx, _⟩ := get_of (t := Cs03.trace st) (n := st.now - i) (by omega)
      obtain ⟨vs, v, hv, _, hvi, b, db, cb, rfl, _, _, hb, hcb, hg⟩ := mom_at h.hml hx
      have ewr : SL.wAt (Cs03.trace st).toList (st.now - i) = SL.wr (Cs03.trace st) (st.now - 1 - i) := by
        rw [wr_is]
        congr 1
        omega
      rw [ewr] at hb
      have ei : ((st.now : Int) - 1) + (i : Nat) * (-1) = ((st.now - 1 - i : Nat) : Int) := by omega
      rw [ei]
      refine ⟨_, rfl, _, _, _, _, _, rfl, h.obj, T.c_Session, T.n_Session_moments, gt_Session_moments, _, rfl, _, _, rfl, rfl, ml, _, _, _, rfl, rfl, SqL.of hv, at_of (j := st.now - i) (by show ((st.now - 1 - i : Nat) : Int) + 1 = _; omega) hvi, _, _, _, _, _, rfl, hb, T.c_Moment, T.n_Moment_written, gt_Moment_written, _, rfl, ?_⟩
      have next : SL.wr (Cs03.trace st) (st.now - 1 - i) ≠ some p → ∀ j, st.now - (i + 1) ≤ j → j < st.now → SL.wr (Cs03.trace st) j ≠ some p := fun z j h1 h2 => by
        by_cases c : st.now - i ≤ j
        · exact hn j c h2
        · have : j = st.now - 1 - i := by omega
          rw [this]
          exact z
      cases e : SL.wr (Cs03.trace st) (st.now - 1 - i) with
      | none =>
        refine ⟨rfl, _, rfl, ite2 (fun c => ?_) (fun c => ?_)⟩
        · have := of_decide_eq_true c
          cases this
        · exact ⟨rfl, ⟨_, rfl⟩, next (by rw [e]; exact fun z => by cases z)⟩
      | some y =>
        refine ⟨rfl, _, rfl, ite2 (fun c => ?_) (fun c => ?_)⟩
        · have c := of_decide_eq_true c
          have ey : y = p := by
            injection c
            omega
          subst ey
          have ew : Cs03.wrote st (Cs03.trace st) y = some (st.now - 1 - i) := SL.wrote_is hp (by omega) e fun j h1 h2 => hn j (by omega) h2
          rw [ew] at k
          exact ⟨_, rfl, k⟩
        · refine ⟨rfl, ⟨_, rfl⟩, next fun z => c ?_⟩
          rw [e] at z
          rw [Option.some.inj z]
          exact decide_eq_true rfl
    · rintro σ H1 ⟨rfl, _, hn⟩
      have ew : Cs03.wrote st (Cs03.trace st) p = none := SL.wrote_none hp fun j h1 => hn j (by omega) h1
      rw [ew] at k
      exact k
end
end BR
/-! ## Ses2 -/
set_option Elab.async false
set_option maxRecDepth 100000
set_option maxHeartbeats 2000000
set_option linter.unusedVariables false
namespace BR
open PySem PySem.Spec PyProof.Rows L2
section
variable {P : Program} {w : World} {K : PySem.W.Frag} {mg : Str → Option Value} {base : Heap} {α : Ads}
/-! ### all of a moment's machine as numbers -/
def spAll (α : Ads) : Sp := fun vs H Q _ => ∃ (b db cb : Addr) (x : At) (w : Option Nat), vs = [.ref b] ∧ H b = some (.ins α.c_Moment db (moF x cb w)) ∧ H cb = some (.lst (x.m.mem.toList.map nV)) ∧ Good x.m ∧
  ∀ (H' : Hp) q, Same H H' → H q = none → H' q = some (.lst (((CsBase.told x.m).map Cs03.int).map V.int)) → Q (.ref q) H'
theorem ok_all (T : Txt K mg α) : C8.Met P w K mg base 1 α.c_Moment "all_numbers" (spAll α) [] := by
  refine met_of T.m_Moment_all_numbers T.c_Moment sc_Moment_all_numbers bi_Moment_all_numbers (fun vs H Q E h => ?_) fun f cdv A outer s H vs Q E hr h => ⟨_, (pss_one (ps_ret (pe_op op_cat (pe_lst (pa_cons (pe_fld (pv 0) rfl) (pa_cons (pe_fld (pv 0) rfl) (pa_cons (pe_fld (pv 0) rfl) (pa_cons (pe_callTy call_int1 (by rfl) T.z_int (by decide +kernel) (pa_cons (pe_fld (pv 0) rfl) pa_nil)) (pa_cons (pe_callTy call_int1 (by rfl) T.z_int (by decide +kernel) (pa_cons (pe_fld (pv 0) rfl) pa_nil)) pa_nil)))))) (pe_fld (pv 0) rfl)))), ?_⟩
  · obtain ⟨b, db, cb, x, w, rfl, _⟩ := h
    rfl
  · obtain ⟨b, db, cb, x, w, rfl, hb, hcb, hg, k⟩ := h
    refine ⟨_, rfl, _, _, _, _, _, rfl, hb, T.c_Moment, T.n_Moment_a, gt_Moment_a, _, rfl, _, _, _, _, _, rfl, hb, T.c_Moment, T.n_Moment_x, gt_Moment_x, _, rfl, _, _, _, _, _, rfl, hb, T.c_Moment, T.n_Moment_place, gt_Moment_place, _, rfl, _, _, _, _, _, rfl, hb, T.c_Moment, T.n_Moment_zero, gt_Moment_zero, .inr ⟨_, rfl, _, rfl, _, _, _, _, _, rfl, hb, T.c_Moment, T.n_Moment_carry, gt_Moment_carry, .inr ⟨_, rfl, by show 5 ≤ sizeLine; decide, fun q hq => ?_⟩⟩⟩
    have s1 : ∀ o, Same H (upd H q o) := fun o => Same.new hq
    refine ⟨_, rfl, _, _, _, _, _, rfl, (s1 _ _ _ hb), T.c_Moment, T.n_Moment_cells, gt_Moment_cells, q, cb, _, _, rfl, rfl, upd_same, s1 _ _ _ hcb, ?_, fun r hr' => ?_⟩
    · have e : x.m.mem.toList.length = 128 := by rw [Array.length_toList, hg.sz]
      rw [List.length_map, e]
      show 5 + 128 ≤ sizeLine
      decide
    refine k _ r ((s1 _).trans (Same.new hr')) ((s1 _).free hr') ?_
    rw [upd_same]
    congr 2
    unfold CsBase.told
    rw [List.map_append, List.map_append]
    congr 1
    · cases x.m.z <;> cases x.m.c <;> rfl
    · rw [List.map_map]
      rfl

/-! ### the moments found anew -/
def spFind (α : Ads) : Sp := fun vs H Q _ => ∃ (s dx : Addr) (fs : List (Str × V)) (a b c : Addr) (E : Addr → Prop) (st : CSt), vs = [.ref s] ∧ H s = some (.ins α.c_Session dx fs) ∧ fs.lookup ("loaded" : Str) = some (.ref a) ∧ fs.lookup ("frame_pads" : Str) = some (.ref b) ∧ fs.lookup ("changes" : Str) = some (.ref c) ∧ fs.length < 1000 ∧
  H a = some (.lst (st.program.map nV)) ∧ H b = some (.lst (st.pads.map nV)) ∧ Chg E H c st.pokes ∧ Wf st ∧
  ∀ (H' : Hp) (l : Addr), H l = none → H' s = some (.ins α.c_Session dx (putF "moments" (.ref l) fs)) → (∀ b o, H b = some o → b ≠ s → H' b = some o) → Moms α.c_Moment (Old H) H' l (Cs03.trace st).toList → Q .non H'
theorem ok_find (T : Txt K mg α) (h_moments_of_run : C8.Cal P w K mg base 5 "moments_of_run" (spRun K α) []) : C8.Met P w K mg base 6 α.c_Session "find_moments" (spFind α) [] := by
  refine met_of T.m_Session_find_moments T.c_Session sc_Session_find_moments bi_Session_find_moments (fun vs H Q E h => ?_) fun f cdv A outer s H vs Q E hr h => ⟨_, (pss_one (ps_fld (pv 0) (C8.pe_c h_moments_of_run hr (by decide) (by rfl) (pa_cons (pe_fld (pv 0) rfl) (pa_cons (pe_fld (pv 0) rfl) (pa_cons (pe_fld (pv 0) rfl) pa_nil)))) rfl)), ?_⟩
  · obtain ⟨s, dx, fs, a, b, c, E, st, rfl, _⟩ := h
    rfl
  · obtain ⟨s, dx, fs, a, b, c, E, st, rfl, hs, l1, l2, l3, hf, ha, hb, hc, wf, k⟩ := h
    refine ⟨_, rfl, _, _, _, _, _, rfl, hs, T.c_Session, T.n_Session_loaded, l1, _, rfl, _, _, _, _, _, rfl, hs, T.c_Session, T.n_Session_frame_pads, l2, _, rfl, _, _, _, _, _, rfl, hs, T.c_Session, T.n_Session_changes, l3, a, b, c, E, st, rfl, ha, hb, hc, wf.p1, wf.p2, wf.p3, wf.p4, wf.p5, Nat.le_trans wf.p6 (by decide), fun H1 l hl sm hm => ?_⟩
    refine ⟨_, rfl, s, α.c_Session, dx, fs, rfl, sm _ _ hs, T.c_Session, T.n_Session_moments, hf, ?_⟩
    have nls : l ≠ s := fun z => by
      rw [z, hs] at hl
      cases hl
    refine k _ l hl upd_same (fun b o e n => ?_) (hm.fr (fun b o e n => ?_) (upd_ne nls))
    · rw [upd_ne n]
      exact sm _ _ e
    · have : b ≠ s := fun z => n (by
        show H b ≠ none
        rw [z, hs]
        exact fun y => by cases y)
      rw [upd_ne this]
      exact e
/-- the session behind it -/
theorem ses_find {N : Addr → Prop} {H : Hp} {s dx ld fp ch sd wd : Addr} {fs : List (Str × V)} {u : CSt} {Q : VK} {E : XK} (hs : H s = some (.ins α.c_Session dx fs)) (l1 : fs.lookup ("loaded" : Str) = some (.ref ld)) (l2 : fs.lookup ("frame_pads" : Str) = some (.ref fp)) (l3 : fs.lookup ("changes" : Str) = some (.ref ch)) (hf : fs.length < 1000)
    (put : ∀ l, putF "moments" (.ref l) fs = sF ld fp ch sd wd l u) (hld : H ld = some (.lst (u.program.map nV))) (hfp : H fp = some (.lst (u.pads.map nV))) (hch : Chg (Mut N s ch sd wd) H ch u.pokes) (hsd : H sd = some (.dK (dS u.stops))) (hwd : H wd = some (.dK (dS u.watches)))
    (nld : ¬ Mut N s ch sd wd ld) (nfp : ¬ Mut N s ch sd wd fp) (ns : ¬ N s) (nch : ¬ N ch) (nsd : ¬ N sd) (nwd : ¬ N wd) (ne : sd ≠ wd) (trk : Trk N H) (wf : Wf u)
    (k : ∀ H' ml, SAt α N H' s dx ld fp ch sd wd ml u → (∀ b o, H b = some o → b ≠ s → H' b = some o) → Q .non H') : spFind α [.ref s] H Q E := by
  refine ⟨s, dx, fs, ld, fp, ch, _, u, rfl, hs, l1, l2, l3, hf, hld, hfp, hch, wf, fun H1 l hl h1 fr hm => ?_⟩
  have hch2 := hch
  obtain ⟨us, hu, _⟩ := hch2
  have ncs : ch ≠ s := ne_of hu hs (by intro z; cases z)
  have n1 : ∀ b, ¬ Mut N s ch sd wd b → b ≠ s := fun b m z => m (.inr (.inl z))
  have trk' : ∀ b, Mut N s ch sd wd b → ∃ o, H b = some o := fun b m => by
    rcases m with m | rfl | rfl | rfl | rfl
    · exact trk b m
    · exact ⟨_, hs⟩
    · exact ⟨_, hu⟩
    · exact ⟨_, hsd⟩
    · exact ⟨_, hwd⟩
  have new : ∀ b, H b = none → ¬ Mut N s ch sd wd b := fun b e m => by
    obtain ⟨o, q⟩ := trk' b m
    rw [e] at q
    cases q
  refine k H1 l ⟨by rw [h1, put], fr _ _ hld (n1 _ nld), fr _ _ hfp (n1 _ nfp), Chg.fr hch (fun b o e m => fr b o e (n1 _ m)) ((fr _ _ hu ncs).trans hu.symm), fr _ _ hsd (ne_of hsd hs (by intro z; cases z)), fr _ _ hwd (ne_of hwd hs (by intro z; cases z)), hm.mono fun b o _ nb => new b (of_not_old nb), nld, nfp, new l hl, ns, nch, nsd, nwd, ne, fun b hb => ?_, wf⟩ fr
  obtain ⟨o, q⟩ := trk b hb
  exact ⟨o, fr b o q fun z => ns (z ▸ hb)⟩

/-! ### a session begun, and what changes its run -/
def begun (ns : List Nat) : CSt := ⟨ns, [], [], 0, [], []⟩
theorem chg_nil {E : Addr → Prop} {H : Hp} {a : Addr} (h : H a = some (.lst [])) : Chg E H a [] := ⟨[], h, .nil⟩
def spStart (α : Ads) : Sp := fun vs H Q _ => ∃ (N : Addr → Prop) (s dx ld : Addr) (fs : List (Str × V)) (ns : List Nat), vs = [.ref s, .ref ld] ∧ H s = some (.ins α.c_Session dx fs) ∧ (fs = [] ∨ ∃ v0 v1 v2 v3 v4 v5 v6, fs = F_Session v0 v1 v2 v3 v4 v5 v6) ∧ H ld = some (.lst (ns.map nV)) ∧ ns.length ≤ 128 ∧ (∀ n ∈ ns, n < 256) ∧ Trk N H ∧ ¬ N s ∧ ¬ N ld ∧
  ∀ H' : Hp, Ses α N H' s (begun ns) → (∀ b o, H b = some o → b ≠ s → H' b = some o) → Q .non H'
theorem ok_start (T : Txt K mg α) (h_Session_find_moments : C8.Met P w K mg base 6 α.c_Session "find_moments" (spFind α) []) : C8.Met P w K mg base 7 α.c_Session "start_over" (spStart α) [] := by
  refine met_of T.m_Session_start_over T.c_Session sc_Session_start_over bi_Session_start_over (fun vs H Q E h => ?_) fun f cdv A outer s H vs Q E hr h => ⟨_, (pss_cons (ps_fld (pv 0) (pv 1) rfl)
    (pss_cons (ps_fld (pv 0) (pe_lst pa_nil) rfl)
    (pss_cons (ps_fld (pv 0) (pe_lst pa_nil) rfl)
    (pss_cons (ps_fld (pv 0) pe_dnewK rfl)
    (pss_cons (ps_fld (pv 0) pe_dnewK rfl)
    (pss_cons (ps_fld (pv 0) pe_int rfl)
    (pss_one (ps_expr (C8.pe_mt0 h_Session_find_moments hr (by decide) (pv 0)))))))))), ?_⟩
  · obtain ⟨N, s, dx, ld, fs, ns, rfl, _⟩ := h
    rfl
  · obtain ⟨N, s, dx, ld, fs, ns, rfl, hs, hfs, hld, q1, q2, trk, n1, n2, k⟩ := h
    have nls : ld ≠ s := ne_of hld hs (by intro z; cases z)
    -- what find_moments finds, and gives
    have fin : ∀ (H1 : Hp) (fs1 : List (Str × V)) (fp ch sd wd : Addr), H1 s = some (.ins α.c_Session dx fs1) → fs1.lookup ("loaded" : Str) = some (.ref ld) → fs1.lookup ("frame_pads" : Str) = some (.ref fp) → fs1.lookup ("changes" : Str) = some (.ref ch) → fs1.length < 1000 → (∀ l, putF "moments" (.ref l) fs1 = sF ld fp ch sd wd l (begun ns)) →
        H1 fp = some (.lst []) → H1 ch = some (.lst []) → H1 sd = some (.dK []) → H1 wd = some (.dK []) → H fp = none → H ch = none → H sd = none → H wd = none → fp ≠ ch → sd ≠ wd → (∀ b o, H b = some o → b ≠ s → H1 b = some o) → ∀ (R : VK) (E' : XK), (∀ H', Q .non H' → R .non H') → spFind α [.ref s] H1 R E' := by
      intro H1 fs1 fp ch sd wd h1 l1 l2 l3 hf hp e1 e2 e3 e4 f1 f2 f3 f4 nfc ne fr R E' hR
      have old : ∀ b o, H b = some o → b ≠ s → b ≠ ch → b ≠ sd → b ≠ wd → ¬ N b → ¬ Mut N s ch sd wd b := fun b o _ m1 m2 m3 m4 m0 z => by
        rcases z with z | z | z | z | z
        · exact m0 z
        · exact m1 z
        · exact m2 z
        · exact m3 z
        · exact m4 z
      have nfs : fp ≠ s := fun z => by
        rw [z, hs] at f1
        cases f1
      refine ses_find h1 l1 l2 l3 hf hp (u := begun ns) (fr _ _ hld nls) e1 (chg_nil e2) e3 e4 (old _ _ hld nls (ne_of_none hld f2) (ne_of_none hld f3) (ne_of_none hld f4) n2) ?_ n1 (trk.new f2) (trk.new f3) (trk.new f4) ne ?_ ⟨q1, q2, Nat.zero_le _, (fun n hn => by cases hn), (fun n hn => by cases hn), Nat.zero_le _⟩ fun H2 ml h2 fr2 => hR _ (k H2 ⟨_, _, _, _, _, _, _, h2, Nat.zero_le _⟩ fun b o e m => fr2 b o (fr b o e m) m)
      · rintro (z | z | z | z | z)
        · exact trk.new f1 z
        · exact nfs z
        · exact nfc z
        · rw [z, e3] at e1
          cases e1
        · rw [z, e4] at e1
          cases e1
      · intro b hb
        obtain ⟨o, q⟩ := trk b hb
        exact ⟨o, fr b o q fun z => n1 (z ▸ hb)⟩
    rcases hfs with rfl | ⟨v0, v1, v2, v3, v4, v5, v6, rfl⟩
    · refine ⟨_, rfl, _, rfl, ini_Session_loaded T.c_Session T.n_Session_loaded hs ?_⟩
      refine ⟨by show 0 ≤ sizeLine; decide, fun fp hfp => ?_⟩
      have fp0 : H fp = none := upd_free hfp
      have nsfp : s ≠ fp := ne_of_none hs fp0
      refine ⟨_, rfl, ini_Session_frame_pads T.c_Session T.n_Session_frame_pads (((upd_ne nsfp).trans upd_same)) ?_⟩
      refine ⟨by show 0 ≤ sizeLine; decide, fun ch hch => ?_⟩
      have ch0 : H ch = none := upd_free (upd_free (upd_free hch))
      have nsch : s ≠ ch := ne_of_none hs ch0
      have nfc : fp ≠ ch := ne_of_none ((upd_ne nsfp.symm).trans upd_same) hch
      refine ⟨_, rfl, ini_Session_changes T.c_Session T.n_Session_changes (((upd_ne nsch).trans upd_same)) ?_⟩
      refine fun sd hsd => ?_
      have sd0 : H sd = none := upd_free (upd_free (upd_free (upd_free (upd_free hsd))))
      have nssd : s ≠ sd := ne_of_none hs sd0
      have ncsd : ch ≠ sd := ne_of_none ((upd_ne nsch.symm).trans upd_same) hsd
      have nfsd : fp ≠ sd := ne_of_none ((upd_ne nsfp.symm).trans ((upd_ne nfc).trans ((upd_ne nsfp.symm).trans upd_same))) hsd
      refine ⟨_, rfl, ini_Session_stop_places T.c_Session T.n_Session_stop_places (((upd_ne nssd).trans upd_same)) ?_⟩
      refine fun wd hwd => ?_
      have wd0 : H wd = none := upd_free (upd_free (upd_free (upd_free (upd_free (upd_free (upd_free hwd))))))
      have nswd : s ≠ wd := ne_of_none hs wd0
      have nsdwd : sd ≠ wd := ne_of_none ((upd_ne nssd.symm).trans upd_same) hwd
      have ncwd : ch ≠ wd := ne_of_none ((upd_ne nsch.symm).trans ((upd_ne ncsd).trans ((upd_ne nsch.symm).trans upd_same))) hwd
      have nfwd : fp ≠ wd := ne_of_none ((upd_ne nsfp.symm).trans ((upd_ne nfsd).trans ((upd_ne nsfp.symm).trans ((upd_ne nfc).trans ((upd_ne nsfp.symm).trans upd_same))))) hwd
      refine ⟨_, rfl, ini_Session_watch_places T.c_Session T.n_Session_watch_places (((upd_ne nswd).trans upd_same)) ?_⟩
      refine ⟨_, rfl, ini_Session_now T.c_Session T.n_Session_now upd_same ?_⟩
      refine ⟨_, rfl, s, dx, _, rfl, upd_same, (lk_past (by decide +kernel)).trans ((lk_past (by decide +kernel)).trans ((lk_past (by decide +kernel)).trans ((lk_past (by decide +kernel)).trans ((lk_past (by decide +kernel)).trans ((lk_past (by decide +kernel)).trans rfl))))), ?_⟩
      refine fin _ _ fp ch sd wd upd_same lk_here ((lk_past (by decide +kernel)).trans lk_here) ((lk_past (by decide +kernel)).trans ((lk_past (by decide +kernel)).trans lk_here)) (by show 6 < 1000; decide) (fun l => pn_Session_moments) ?_ ?_ ?_ ?_ fp0 ch0 sd0 wd0 nfc nsdwd (fun b o e m => ?_) _ C8.E0 fun _ z => z
      · rw [upd_ne nsfp.symm, upd_ne nsfp.symm, upd_ne nfwd, upd_ne nsfp.symm, upd_ne nfsd, upd_ne nsfp.symm, upd_ne nfc, upd_ne nsfp.symm, upd_same]
      · rw [upd_ne nsch.symm, upd_ne nsch.symm, upd_ne ncwd, upd_ne nsch.symm, upd_ne ncsd, upd_ne nsch.symm, upd_same]
      · rw [upd_ne nssd.symm, upd_ne nssd.symm, upd_ne nsdwd, upd_ne nssd.symm, upd_same]
      · rw [upd_ne nswd.symm, upd_ne nswd.symm, upd_same]
      · rw [upd_ne m, upd_ne m, upd_ne (ne_of_none e wd0), upd_ne m, upd_ne (ne_of_none e sd0), upd_ne m, upd_ne (ne_of_none e ch0), upd_ne m, upd_ne (ne_of_none e fp0), upd_ne m]
        exact e
    · refine ⟨_, rfl, _, rfl, wr_Session_loaded T.c_Session T.n_Session_loaded hs ?_⟩
      refine ⟨by show 0 ≤ sizeLine; decide, fun fp hfp => ?_⟩
      have fp0 : H fp = none := upd_free hfp
      have nsfp : s ≠ fp := ne_of_none hs fp0
      refine ⟨_, rfl, wr_Session_frame_pads T.c_Session T.n_Session_frame_pads (((upd_ne nsfp).trans upd_same)) ?_⟩
      refine ⟨by show 0 ≤ sizeLine; decide, fun ch hch => ?_⟩
      have ch0 : H ch = none := upd_free (upd_free (upd_free hch))
      have nsch : s ≠ ch := ne_of_none hs ch0
      have nfc : fp ≠ ch := ne_of_none ((upd_ne nsfp.symm).trans upd_same) hch
      refine ⟨_, rfl, wr_Session_changes T.c_Session T.n_Session_changes (((upd_ne nsch).trans upd_same)) ?_⟩
      refine fun sd hsd => ?_
      have sd0 : H sd = none := upd_free (upd_free (upd_free (upd_free (upd_free hsd))))
      have nssd : s ≠ sd := ne_of_none hs sd0
      have ncsd : ch ≠ sd := ne_of_none ((upd_ne nsch.symm).trans upd_same) hsd
      have nfsd : fp ≠ sd := ne_of_none ((upd_ne nsfp.symm).trans ((upd_ne nfc).trans ((upd_ne nsfp.symm).trans upd_same))) hsd
      refine ⟨_, rfl, wr_Session_stop_places T.c_Session T.n_Session_stop_places (((upd_ne nssd).trans upd_same)) ?_⟩
      refine fun wd hwd => ?_
      have wd0 : H wd = none := upd_free (upd_free (upd_free (upd_free (upd_free (upd_free (upd_free hwd))))))
      have nswd : s ≠ wd := ne_of_none hs wd0
      have nsdwd : sd ≠ wd := ne_of_none ((upd_ne nssd.symm).trans upd_same) hwd
      have ncwd : ch ≠ wd := ne_of_none ((upd_ne nsch.symm).trans ((upd_ne ncsd).trans ((upd_ne nsch.symm).trans upd_same))) hwd
      have nfwd : fp ≠ wd := ne_of_none ((upd_ne nsfp.symm).trans ((upd_ne nfsd).trans ((upd_ne nsfp.symm).trans ((upd_ne nfc).trans ((upd_ne nsfp.symm).trans upd_same))))) hwd
      refine ⟨_, rfl, wr_Session_watch_places T.c_Session T.n_Session_watch_places (((upd_ne nswd).trans upd_same)) ?_⟩
      refine ⟨_, rfl, wr_Session_now T.c_Session T.n_Session_now upd_same ?_⟩
      refine ⟨_, rfl, me_Session_find_moments upd_same ?_⟩
      refine fin _ _ fp ch sd wd upd_same gt_Session_loaded gt_Session_frame_pads gt_Session_changes (by show 7 < 1000; decide) (fun l => pt_Session_moments) ?_ ?_ ?_ ?_ fp0 ch0 sd0 wd0 nfc nsdwd (fun b o e m => ?_) _ C8.E0 fun _ z => z
      · rw [upd_ne nsfp.symm, upd_ne nsfp.symm, upd_ne nfwd, upd_ne nsfp.symm, upd_ne nfsd, upd_ne nsfp.symm, upd_ne nfc, upd_ne nsfp.symm, upd_same]
      · rw [upd_ne nsch.symm, upd_ne nsch.symm, upd_ne ncwd, upd_ne nsch.symm, upd_ne ncsd, upd_ne nsch.symm, upd_same]
      · rw [upd_ne nssd.symm, upd_ne nssd.symm, upd_ne nsdwd, upd_ne nssd.symm, upd_same]
      · rw [upd_ne nswd.symm, upd_ne nswd.symm, upd_same]
      · rw [upd_ne m, upd_ne m, upd_ne (ne_of_none e wd0), upd_ne m, upd_ne (ne_of_none e sd0), upd_ne m, upd_ne (ne_of_none e ch0), upd_ne m, upd_ne (ne_of_none e fp0), upd_ne m]
        exact e

def spInitS (α : Ads) : Sp := fun vs H Q _ => ∃ (N : Addr → Prop) (s dx : Addr), vs = [.ref s] ∧ H s = some (.ins α.c_Session dx []) ∧ Trk N H ∧ ¬ N s ∧ ∀ H' : Hp, Ses α N H' s Cs03.start → (∀ b o, H b = some o → b ≠ s → H' b = some o) → Q .non H'
theorem ok_initS (T : Txt K mg α) (h_Session_start_over : C8.Met P w K mg base 7 α.c_Session "start_over" (spStart α) []) : C8.Mak P w K mg base 8 "Session" α.c_Session (spInitS α) [] := by
  refine mak_of T.k_Session sc_Session___init__ bi_Session___init__ (fun vs H Q E h => ?_) fun f cdv A outer s H vs Q E hr h => ⟨_, (pss_one (ps_expr (C8.pe_mt h_Session_start_over hr (by decide) (pv 0) (pa_cons (pe_lst pa_nil) pa_nil)))), ?_⟩
  · obtain ⟨N, s, dx, rfl, _⟩ := h
    rfl
  · obtain ⟨N, s, dx, rfl, hs, trk, ns, k⟩ := h
    refine ⟨_, rfl, s, dx, _, rfl, hs, rfl, by show 0 ≤ sizeLine; decide, fun q hq => ?_⟩
    have sm : Same H (upd H q (.lst [])) := Same.new hq
    exact ⟨N, s, dx, q, [], [], rfl, sm _ _ hs, .inl rfl, upd_same, Nat.zero_le _, (fun n hn => by cases hn), trk.same sm, ns, trk.new hq, fun H1 h1 f1 => k H1 h1 fun b o e m => f1 b o (sm b o e) m⟩
end
end BR
/-! ## Ses3 -/
set_option Elab.async false
set_option maxRecDepth 100000
set_option maxHeartbeats 2000000
set_option linter.unusedVariables false
namespace BR
open PySem PySem.Spec PyProof.Rows L2
section
variable {P : Program} {w : World} {K : PySem.W.Frag} {mg : Str → Option Value} {base : Heap} {α : Ads}
theorem SAt.new {N : Addr → Prop} {H : Hp} {s dx ld fp ch sd wd ml : Addr} {st : CSt} (h : SAt α N H s dx ld fp ch sd wd ml st) {q : Addr} (e : H q = none) : ¬ Mut N s ch sd wd q := by
  obtain ⟨us, hu, _⟩ := h.hch
  rintro (z | z | z | z | z)
  · exact h.trk.new e z
  · rw [z, h.obj] at e
    cases e
  · rw [z, hu] at e
    cases e
  · rw [z, h.hsd] at e
    cases e
  · rw [z, h.hwd] at e
    cases e
theorem SAt.own {N : Addr → Prop} {H : Hp} {s dx ld fp ch sd wd ml : Addr} {st : CSt} (h : SAt α N H s dx ld fp ch sd wd ml st) {b : Addr} (n : ¬ Mut N s ch sd wd b) : b ≠ s ∧ b ≠ ch ∧ b ≠ sd ∧ b ≠ wd ∧ ¬ N b :=
  ⟨fun z => n (.inr (.inl z)), fun z => n (.inr (.inr (.inl z))), fun z => n (.inr (.inr (.inr (.inl z)))), fun z => n (.inr (.inr (.inr (.inr z)))), fun z => n (.inl z)⟩
def spPads (α : Ads) : Sp := fun vs H Q _ => ∃ (N : Addr → Prop) (s a : Addr) (ls : List Nat) (st : CSt), vs = [.ref s, .ref a] ∧ Ses α N H s st ∧ H a = some (.lst (ls.map nV)) ∧ (∀ n ∈ ls, n < 256) ∧ st.pads.length + ls.length ≤ 20 ∧
  ∀ H' : Hp, Ses α N H' s { st with pads := st.pads ++ ls } → KeepN N H H' → Q .non H'
theorem ok_add_pads (T : Txt K mg α) (h_Session_find_moments : C8.Met P w K mg base 6 α.c_Session "find_moments" (spFind α) []) : C8.Met P w K mg base 7 α.c_Session "add_pads" (spPads α) [] := by
  refine met_of T.m_Session_add_pads T.c_Session sc_Session_add_pads bi_Session_add_pads (fun vs H Q E h => ?_) fun f cdv A outer s H vs Q E hr h => ⟨_, (pss_cons (ps_fld (pv 0) (pe_op op_cat (pe_fld (pv 0) rfl) (pv 1)) rfl)
    (pss_one (ps_expr (C8.pe_mt0 h_Session_find_moments hr (by decide) (pv 0))))), ?_⟩
  · obtain ⟨N, s, a, ls, st, rfl, _⟩ := h
    rfl
  · obtain ⟨N, s, a, ls, st, rfl, ⟨dx, ld, fp, ch, sd, wd, ml, h, hnow⟩, ha, q1, q2, k⟩ := h
    refine ⟨_, rfl, _, _, _, _, _, rfl, h.obj, T.c_Session, T.n_Session_frame_pads, gt_Session_frame_pads, _, rfl, fp, a, _, _, rfl, rfl, h.hfp, ha, ?_, fun p hp => ?_⟩
    · rw [List.length_map, List.length_map]
      exact Nat.le_trans q2 (by decide)
    have sm : ∀ o, Same H (upd H p o) := fun o => Same.new hp
    have h1 := h.same (sm (.lst (st.pads.map nV ++ ls.map nV)))
    have np := h.own (h.new hp)
    refine ⟨_, rfl, wr_Session_frame_pads T.c_Session T.n_Session_frame_pads h1.obj ?_⟩
    refine ⟨_, rfl, me_Session_find_moments upd_same ?_⟩
    have fr : FrS (Mut N s ch sd wd) (upd H p (.lst (st.pads.map nV ++ ls.map nV))) (upd (upd H p (.lst (st.pads.map nV ++ ls.map nV))) s (.ins α.c_Session dx (F_Session (.ref ld) (.ref p) (.ref ch) (.ref sd) (.ref wd) (nV st.now) (.ref ml)))) := fun b o e m => by
      rw [upd_ne (h.own m).1]
      exact e
    refine ses_find (u := { st with pads := st.pads ++ ls }) (E := C8.E0) upd_same gt_Session_loaded gt_Session_frame_pads gt_Session_changes (by show 7 < 1000; decide) (fun l => pt_Session_moments) ((upd_ne (h.own h.nld).1).trans h1.hld) ?_ (h1.hch.fr fr (upd_ne h.nsch)) ((upd_ne h.nssd).trans h1.hsd) ((upd_ne h.nswd).trans h1.hwd) h.nld (h.new hp) h.ns h.nch h.nsd h.nwd h.ne (h1.trk.upd _ _) ⟨h.wf.p1, h.wf.p2, ?_, ?_, h.wf.p5, h.wf.p6⟩ fun H2 ml2 h2 f2 => k H2 ⟨_, _, _, _, _, _, _, h2, ?_⟩ ?_
    · rw [upd_ne np.1, upd_same, List.map_append]
    · rw [List.length_append]
      exact q2
    · intro n hn
      rcases List.mem_append.mp hn with z | z
      · exact h.wf.p4 n z
      · exact q1 n z
    · exact Nat.le_trans hnow (SL.longer (s := st) (u := { st with pads := st.pads ++ ls }) (l := ls) rfl rfl rfl)
    · intro b o e n
      have nb : b ≠ s := fun z => h.ns (z ▸ n)
      refine f2 b o ?_ nb
      rw [upd_ne nb]
      exact sm _ b o e
def spHand (α : Ads) : Sp := fun vs H Q _ => ∃ (N : Addr → Prop) (s : Addr) (p v : Nat) (st : CSt), vs = [.ref s, nV p, nV v] ∧ Ses α N H s st ∧ p < 128 ∧ v < 256 ∧ st.pokes.length < 20 ∧
  ∀ H' : Hp, Ses α N H' s { st with pokes := st.pokes ++ [⟨st.now, p, v⟩] } → KeepN N H H' → Q .non H'
theorem ok_hand (T : Txt K mg α) (h_Session_find_moments : C8.Met P w K mg base 6 α.c_Session "find_moments" (spFind α) []) : C8.Met P w K mg base 7 α.c_Session "change_by_hand" (spHand α) [] := by
  refine met_of T.m_Session_change_by_hand T.c_Session sc_Session_change_by_hand bi_Session_change_by_hand (fun vs H Q E h => ?_) fun f cdv A outer s H vs Q E hr h => ⟨_, (pss_cons (ps_expr (pe_bm PySem.F.plainAttrs_list PySem.F.slot_list_append PySem.F.type_list_append mt_append (pe_fld (pv 0) rfl) (pa_cons (pe_tup (pa_cons (pe_fld (pv 0) rfl) (pa_cons (pv 1) (pa_cons (pv 2) pa_nil)))) pa_nil)))
    (pss_one (ps_expr (C8.pe_mt0 h_Session_find_moments hr (by decide) (pv 0))))), ?_⟩
  · obtain ⟨N, s, p, v, st, rfl, _⟩ := h
    rfl
  · obtain ⟨N, s, p, v, st, rfl, ⟨dx, ld, fp, ch, sd, wd, ml, h, hnow⟩, q1, q2, q3, k⟩ := h
    obtain ⟨us, hu, hA⟩ := id h.hch
    refine ⟨_, rfl, _, _, _, _, _, rfl, h.obj, T.c_Session, T.n_Session_changes, gt_Session_changes, .inl ⟨rfl, _, SqL.of hu⟩, _, rfl, _, _, _, _, _, rfl, h.obj, T.c_Session, T.n_Session_now, gt_Session_now, _, rfl, _, rfl, by show 3 ≤ sizeLine; decide, fun t ht => ?_⟩
    have sm : ∀ o, Same H (upd H t o) := fun o => Same.new ht
    have h1 := h.same (sm (.tup [nV st.now, nV p, nV v]))
    have nt := h.own (h.new ht)
    refine ⟨ch, us, _, rfl, rfl, sm _ _ _ hu, ?_, ?_⟩
    · rw [hA.1]
      exact Nat.lt_trans q3 (by decide)
    have fr : FrS (Mut N s ch sd wd) (upd H t (.tup [nV st.now, nV p, nV v])) (upd (upd H t (.tup [nV st.now, nV p, nV v])) ch (.lst (us ++ [.ref t]))) := fun b o e m => by
      rw [upd_ne (h.own m).2.1]
      exact e
    have ncs := h.nsch
    have ncsd : sd ≠ ch := ne_of h.hsd hu (by intro z; cases z)
    have ncwd : wd ≠ ch := ne_of h.hwd hu (by intro z; cases z)
    have hobj : (upd (upd H t (.tup [nV st.now, nV p, nV v])) ch (.lst (us ++ [.ref t]))) s = some (.ins α.c_Session dx (sF ld fp ch sd wd ml st)) := (upd_ne ncs.symm).trans h1.obj
    refine ⟨_, rfl, me_Session_find_moments hobj ?_⟩
    refine ses_find (u := { st with pokes := st.pokes ++ [⟨st.now, p, v⟩] }) (E := C8.E0) hobj gt_Session_loaded gt_Session_frame_pads gt_Session_changes (by show 7 < 1000; decide) (fun l => pt_Session_moments) ((upd_ne (h.own h.nld).2.1).trans h1.hld) ((upd_ne (h.own h.nfp).2.1).trans h1.hfp) ⟨_, upd_same, ?_⟩ ((upd_ne ncsd).trans h1.hsd) ((upd_ne ncwd).trans h1.hwd) h.nld h.nfp h.ns h.nch h.nsd h.nwd h.ne (h1.trk.upd _ _) ⟨h.wf.p1, h.wf.p2, h.wf.p3, h.wf.p4, ?_, ?_⟩ fun H2 ml2 h2 f2 => k H2 ⟨_, _, _, _, _, _, _, h2, ?_⟩ ?_
    · refine (hA.mono fun _ x y _ r => ?_).snoc ⟨t, rfl, h.new ht, (upd_ne nt.2.1).trans upd_same⟩
      obtain ⟨b, e1, e2, e3⟩ := r
      exact ⟨b, e1, e2, (upd_ne (h.own e2).2.1).trans (sm _ _ _ e3)⟩
    · intro y hy
      rcases List.mem_append.mp hy with z | z
      · exact h.wf.p5 y z
      · have e := List.mem_singleton.mp z
        rw [e]
        exact ⟨q1, q2⟩
    · rw [List.length_append]
      exact q3
    · exact SL.poke_ahead (s := st) (u := { st with pokes := st.pokes ++ [⟨st.now, p, v⟩] }) (y := ⟨st.now, p, v⟩) rfl rfl rfl hnow
    · intro b o e n
      refine f2 b o ?_ fun z => h.ns (z ▸ n)
      rw [upd_ne fun z : b = ch => h.nch (z ▸ n)]
      exact sm _ b o e
def undone (st : CSt) (y : Poke) : CSt := { st with pokes := st.pokes.dropLast, now := min y.at_ (Cs03.long (Cs03.trace { st with pokes := st.pokes.dropLast })) }
def spUndo (α : Ads) : Sp := fun vs H Q _ => ∃ (N : Addr → Prop) (s : Addr) (y : Poke) (st : CSt), vs = [.ref s] ∧ Ses α N H s st ∧ st.pokes.getLast? = some y ∧
  ∀ H' : Hp, Ses α N H' s (undone st y) → KeepN N H H' → Q .non H'
theorem ok_undo (T : Txt K mg α) (h_Session_find_moments : C8.Met P w K mg base 6 α.c_Session "find_moments" (spFind α) []) (h_Session_end_number : C8.Met P w K mg base 1 α.c_Session "end_number" (spEnd α) []) : C8.Met P w K mg base 7 α.c_Session "undo_last_change" (spUndo α) [] := by
  refine met_of T.m_Session_undo_last_change T.c_Session sc_Session_undo_last_change bi_Session_undo_last_change (fun vs H Q E h => ?_) fun f cdv A outer s H vs Q E hr h => ⟨_, (pss_cons (ps_set (i := 1) sc_Session_undo_last_change.nd rfl (Or.inl rfl) (pe_bm0 PySem.F.plainAttrs_list PySem.F.slot_list_pop PySem.F.type_list_pop mt_pop (pe_fld (pv 0) rfl)))
    (pss_cons (ps_expr (C8.pe_mt0 h_Session_find_moments hr (by decide) (pv 0)))
    (pss_one (ps_fld (pv 0) (pe_callB (call_min2 rfl) (by rfl) T.z_min (by decide +kernel) (pa_cons (pe_ix ix_tup (pv 1) pe_int (fun _ _ => rfl)) (pa_cons (C8.pe_mt0 h_Session_end_number hr (by decide) (pv 0)) pa_nil))) rfl)))), ?_⟩
  · obtain ⟨N, s, y, st, rfl, _⟩ := h
    rfl
  · obtain ⟨N, s, y, st, rfl, ⟨dx, ld, fp, ch, sd, wd, ml, h, hnow⟩, hy, k⟩ := h
    obtain ⟨us, hu, hA⟩ := id h.hch
    rw [List.getLast?_eq_getElem?] at hy
    obtain ⟨v, hv, t, rfl, nt, ht⟩ := hA.get hy
    rw [← hA.1] at hv
    refine ⟨_, rfl, _, _, _, _, _, rfl, h.obj, T.c_Session, T.n_Session_changes, gt_Session_changes, .inl ⟨rfl, _, SqL.of hu⟩, ch, us, _, rfl, rfl, hu, hv, ?_⟩
    have ncs := h.nsch
    have ncsd : sd ≠ ch := ne_of h.hsd hu (by intro z; cases z)
    have ncwd : wd ≠ ch := ne_of h.hwd hu (by intro z; cases z)
    have hobj : (upd H ch (.lst us.dropLast)) s = some (.ins α.c_Session dx (sF ld fp ch sd wd ml st)) := (upd_ne ncs.symm).trans h.obj
    refine ⟨_, rfl, me_Session_find_moments hobj ?_⟩
    unfold tNil
    refine ses_find (u := { st with pokes := st.pokes.dropLast }) (E := C8.E0) hobj gt_Session_loaded gt_Session_frame_pads gt_Session_changes (by show 7 < 1000; decide) (fun l => pt_Session_moments) ((upd_ne (h.own h.nld).2.1).trans h.hld) ((upd_ne (h.own h.nfp).2.1).trans h.hfp) ⟨_, upd_same, ?_⟩ ((upd_ne ncsd).trans h.hsd) ((upd_ne ncwd).trans h.hwd) h.nld h.nfp h.ns h.nch h.nsd h.nwd h.ne (h.trk.upd _ _) ⟨h.wf.p1, h.wf.p2, h.wf.p3, h.wf.p4, ?_, ?_⟩ fun H2 ml2 h2 f2 => ?_
    · refine (hA.drop).mono fun _ x z _ r => ?_
      obtain ⟨b, e1, e2, e3⟩ := r
      exact ⟨b, e1, e2, (upd_ne (h.own e2).2.1).trans e3⟩
    · intro z hz
      exact h.wf.p5 z (List.dropLast_subset _ hz)
    · rw [List.length_dropLast]
      exact Nat.le_trans (Nat.sub_le _ _) h.wf.p6
    have ht2 : H2 t = some (.tup [nV y.at_, nV y.p, nV y.v]) := f2 _ _ ((upd_ne (h.own nt).2.1).trans ht) (h.own nt).1
    refine ⟨_, rfl, t, _, _, _, rfl, rfl, SqT.of ht2, rfl, _, rfl, me_Session_end_number h2.obj ⟨N, s, dx, ld, fp, ch, sd, wd, ml2, _, rfl, h2, _, _, rfl, _, rfl, wr_Session_now T.c_Session T.n_Session_now h2.obj ?_⟩⟩
    have e : (if ((Cs03.long (Cs03.trace { st with pokes := st.pokes.dropLast }) : Nat) : Int) < ((y.at_ : Nat) : Int) then ((Cs03.long (Cs03.trace { st with pokes := st.pokes.dropLast }) : Nat) : Int) else ((y.at_ : Nat) : Int)) = ((min y.at_ (Cs03.long (Cs03.trace { st with pokes := st.pokes.dropLast })) : Nat) : Int) := by
      by_cases c : ((Cs03.long (Cs03.trace { st with pokes := st.pokes.dropLast }) : Nat) : Int) < ((y.at_ : Nat) : Int)
      · rw [if_pos c]
        omega
      · rw [if_neg c]
        omega
    rw [e]
    have h3 := h2.goes (n := min y.at_ (Cs03.long (Cs03.trace { st with pokes := st.pokes.dropLast })))
    refine k _ ⟨_, _, _, _, _, _, _, h3, ?_⟩ fun b o e n => ?_
    · have et : Cs03.trace (undone st y) = Cs03.trace { st with pokes := st.pokes.dropLast } := SL.trace_congr rfl rfl rfl
      show (undone st y).now ≤ Cs03.long (Cs03.trace (undone st y))
      rw [et]
      exact Nat.min_le_right _ _
    · have nb : b ≠ s := fun z => h.ns (z ▸ n)
      rw [upd_ne nb]
      refine f2 b o ?_ nb
      rw [upd_ne fun z : b = ch => h.nch (z ▸ n)]
      exact e
end
end BR
/-! ## Calls2 -/
set_option Elab.async false
set_option maxRecDepth 100000
set_option maxHeartbeats 2000000
set_option linter.unusedVariables false
namespace BR
open PySem PySem.Spec PyProof.Rows L2
section
variable {P : Program} {w : World} {K : PySem.W.Frag} {mg : Str → Option Value} {base : Heap} {α : Ads}

/-! ### what every call promises -/
def Post (α : Ads) (N : Addr → Prop) (H : Hp) (s : Addr) (st : CSt) (c : Cs03.Call) (Q : VK) : Prop := ∀ (H' : Hp) (q : Addr), Ses α N H' s (Cs03.spec st c).1 → KeepN N H H' → ¬ N q → H' q = some (.lst ((Cs03.spec st c).2.map V.int)) → Q (.ref q) H'
def Few (st : CSt) : Prop := st.stops.length ≤ 1000 ∧ st.watches.length ≤ 1000
def spCall (α : Ads) (g : List Int → Option Cs03.Call) : Sp := fun vs H Q _ => ∃ (N : Addr → Prop) (s a : Addr) (ns : List Int) (st : CSt) (c : Cs03.Call), vs = [.ref s, .ref a] ∧ Ses α N H s st ∧ H a = some (.lst (ns.map V.int)) ∧ ¬ N a ∧ ns.length ≤ 1000 ∧ Few st ∧ g ns = some c ∧ Post α N H s st c Q
theorem lenC {g : List Int → Option Cs03.Call} (vs : List V) (H : Hp) (Q : VK) (E : XK) (h : spCall α g vs H Q E) : vs.length = 2 := by
  obtain ⟨N, s, a, ns, st, c, rfl, _⟩ := h
  rfl
theorem Ses.same {N : Addr → Prop} {H H' : Hp} {s : Addr} {st : CSt} (h : Ses α N H s st) (sm : Same H H') : Ses α N H' s st := by
  obtain ⟨dx, ld, fp, ch, sd, wd, ml, h, n⟩ := h
  exact ⟨dx, ld, fp, ch, sd, wd, ml, h.same sm, n⟩
theorem Ses.trk {N : Addr → Prop} {H : Hp} {s : Addr} {st : CSt} (h : Ses α N H s st) : Trk N H := by
  obtain ⟨dx, ld, fp, ch, sd, wd, ml, h, n⟩ := h
  exact h.trk
/-- a new list is what's answered -/
theorem fin_new {N : Addr → Prop} {H H1 H2 : Hp} {s q : Addr} {st u : CSt} {c : Cs03.Call} {Q : VK} {xs : List Int} {o : HO} (k : Post α N H s st c Q) (e : Cs03.spec st c = (u, xs)) (h1 : Ses α N H1 s u) (kp : KeepN N H H1) (sm : Same H1 H2) (hq : H2 q = none) (eo : o = .lst (xs.map V.int)) : Q (.ref q) (upd H2 q o) := by
  have s2 : Same H1 (upd H2 q o) := sm.trans (Same.new hq)
  have k2 := k (upd H2 q o) q
  rw [e] at k2
  refine k2 (h1.same s2) (kp.trans (.of s2)) (h1.trk.new (sm.free hq)) ?_
  rw [upd_same, eo]
theorem byte_nat {ns : List Int} (h : ns.all Cs03.isByte = true) : ns.map V.int = (ns.map Int.toNat).map nV ∧ ∀ n ∈ ns.map Int.toNat, n < 256 := by
  have hb : ∀ z ∈ ns, 0 ≤ z ∧ z ≤ 255 := fun z hz => by
    have q := List.all_eq_true.mp h z hz
    unfold Cs03.isByte at q
    rw [Bool.and_eq_true] at q
    exact ⟨of_decide_eq_true q.1, of_decide_eq_true q.2⟩
  refine ⟨?_, fun n hn => ?_⟩
  · rw [List.map_map]
    refine List.map_congr_left fun z hz => ?_
    have := hb z hz
    show V.int z = V.int ((z.toNat : Nat) : Int)
    rw [Int.toNat_of_nonneg this.1]
  · obtain ⟨z, hz, rfl⟩ := List.mem_map.mp hn
    have := hb z hz
    omega
abbrev gBegin : List Int → Option Cs03.Call := fun l => some (.begin_ l)
abbrev gPads : List Int → Option Cs03.Call := fun l => some (.pads l)
def g1 (f : Int → Cs03.Call) : List Int → Option Cs03.Call
  | [a] => some (f a)
  | _ => none
def g2 (f : Int → Int → Cs03.Call) : List Int → Option Cs03.Call
  | [a, b] => some (f a b)
  | _ => none
def g0 (c : Cs03.Call) : List Int → Option Cs03.Call
  | [] => some c
  | _ => none
theorem g1_is {f : Int → Cs03.Call} {ns : List Int} {c : Cs03.Call} (h : g1 f ns = some c) : ∃ a, ns = [a] ∧ c = f a := by
  unfold g1 at h
  split at h
  · exact ⟨_, rfl, (Option.some.inj h).symm⟩
  · cases h
theorem g2_is {f : Int → Int → Cs03.Call} {ns : List Int} {c : Cs03.Call} (h : g2 f ns = some c) : ∃ a b, ns = [a, b] ∧ c = f a b := by
  unfold g2 at h
  split at h
  · exact ⟨_, _, rfl, (Option.some.inj h).symm⟩
  · cases h
theorem g0_is {d : Cs03.Call} {ns : List Int} {c : Cs03.Call} (h : g0 d ns = some c) : c = d := by
  unfold g0 at h
  split at h
  · exact (Option.some.inj h).symm
  · cases h
/-- the methods and defs that the calls call -/
structure MS (P : Program) (w : World) (K : PySem.W.Frag) (mg : Str → Option Value) (base : Heap) (α : Ads) : Prop where
  start_over : C8.Met P w K mg base 7 α.c_Session "start_over" (spStart α) []
  add_pads : C8.Met P w K mg base 7 α.c_Session "add_pads" (spPads α) []
  change_by_hand : C8.Met P w K mg base 7 α.c_Session "change_by_hand" (spHand α) []
  undo_last_change : C8.Met P w K mg base 7 α.c_Session "undo_last_change" (spUndo α) []
  end_number : C8.Met P w K mg base 1 α.c_Session "end_number" (spEnd α) []
  moment_now : C8.Met P w K mg base 1 α.c_Session "moment_now" (spNow α) []
  where_now : C8.Met P w K mg base 2 α.c_Session "where_now" (spWhere α) []
  reason_at : C8.Met P w K mg base 2 α.c_Session "reason_at" (spReason α) []
  last_write : C8.Met P w K mg base 1 α.c_Session "last_write" (spLast α) []
  all_numbers : C8.Met P w K mg base 1 α.c_Moment "all_numbers" (spAll α) []
  are_bytes : C8.Cal P w K mg base 1 "are_bytes" (spBytes K) []
  is_place : C8.Cal P w K mg base 1 "is_place" spPlace []
  tell_place : C8.Cal P w K mg base 2 "tell_place" (spTell K) []
theorem ok_begin (T : Txt K mg α) (M : MS P w K mg base α) : C8.Cal P w K mg base 8 "begin" (spCall α gBegin) [] := by
  have h_are_bytes := M.are_bytes
  have h_Session_start_over := M.start_over
  refine cal_of T.d_begin sc_begin bi_begin lenC fun f cdv A outer s H vs Q E hr h => ⟨_, (pss_cons (ps_if (PW.pt (pw_or (pt_cmpR op_gt (pe_callB call_len_seq (by rfl) T.z_len (by decide +kernel) (pa_cons (pv 1) pa_nil)) (C8.pe_gc (by rfl) T.g_PLACES) (nomark _)) (pw_or1 (pt_not (pt_val (C8.pe_c h_are_bytes hr (by decide) (by rfl) (pa_cons (pv 1) pa_nil)))))))
      (pss_one (ps_ret (pe_lst (pa_cons (C8.pe_gc (by rfl) T.g_OUT_OF_BOUNDS) pa_nil))))
      pss_nil)
    (pss_cons (ps_expr (C8.pe_mt h_Session_start_over hr (by decide) (pv 0) (pa_cons (pv 1) pa_nil)))
    (pss_one (ps_ret (pe_lst (pa_cons pe_int pa_nil)))))), ?_⟩
  · obtain ⟨N, s, a, ns, st, c, rfl, hS, ha, na, hn, _, hc, k⟩ := h
    obtain rfl : Cs03.Call.begin_ ns = c := Option.some.inj hc
    have bad : (128 < ns.length ∨ ns.all Cs03.isByte = false) → ∀ H1, Same H H1 → (1 ≤ sizeLine ∧ ∀ q, H1 q = none → Q (.ref q) (upd H1 q (.lst [.int (-1)]))) := fun c H1 s1 =>
      ⟨by decide, fun q hq => fin_new (xs := [-1]) k (if_pos c) hS KeepN.refl s1 hq rfl⟩
    refine ⟨_, rfl, a, _, rfl, .inl (SqL.of ha), _, _, rfl, rfl, _, rfl, ite2 (fun c => ?_) (fun c => ?_)⟩
    · refine bad (.inl ?_) H (Same.refl H)
      have c := of_decide_eq_true c
      rw [List.length_map] at c
      omega
    have c1 : ns.length ≤ 128 := by
      have c : ¬ (128 : Int) < (((ns.map V.int).length : Nat) : Int) := fun z => c (decide_eq_true z)
      rw [List.length_map] at c
      omega
    refine ⟨_, rfl, a, ns, rfl, SqL.of ha, hn, fun H1 s1 => ⟨_, rfl, ite2 (fun c => ?_) (fun c => ?_)⟩⟩
    · exact bad (.inr (by simpa using c)) H1 s1
    have c2 : ns.all Cs03.isByte = true := by simpa using c
    obtain ⟨b1, b2⟩ := byte_nat c2
    obtain ⟨dx, ld, fp, ch, sd, wd, ml, h0, _⟩ := hS.same s1
    have ha1 := s1 _ _ ha
    rw [b1] at ha1
    refine ⟨_, rfl, me_Session_start_over h0.obj ⟨_, rfl, N, s, dx, a, _, ns.map Int.toNat, rfl, h0.obj, .inr ⟨_, _, _, _, _, _, _, rfl⟩, ha1, by rw [List.length_map]; exact c1, b2, h0.trk, h0.ns, na, fun H2 h2 f2 => ?_⟩⟩
    refine ⟨by show 1 ≤ sizeLine; decide, fun q hq => fin_new (xs := [0]) k (if_neg ?_) h2 (KeepN.trans (.of s1) fun b o e n => f2 b o e fun z => h0.ns (z ▸ n)) (Same.refl _) hq rfl⟩
    rintro (z | z)
    · omega
    · rw [c2] at z
      cases z
theorem ok_pads (T : Txt K mg α) (M : MS P w K mg base α) : C8.Cal P w K mg base 8 "pads" (spCall α gPads) [] := by
  have h_are_bytes := M.are_bytes
  have h_Session_add_pads := M.add_pads
  have h_Session_end_number := M.end_number
  refine cal_of T.d_pads sc_pads bi_pads lenC fun f cdv A outer s H vs Q E hr h => ⟨_, (pss_cons (ps_if (pt_not (pt_val (C8.pe_c h_are_bytes hr (by decide) (by rfl) (pa_cons (pv 1) pa_nil))))
      (pss_one (ps_ret (pe_lst (pa_cons (C8.pe_gc (by rfl) T.g_OUT_OF_BOUNDS) pa_nil))))
      pss_nil)
    (pss_cons (ps_if (pt_cmpR op_gt (pe_op op_add (pe_callB call_len_seq (by rfl) T.z_len (by decide +kernel) (pa_cons (pe_fld (pv 0) rfl) pa_nil)) (pe_callB call_len_seq (by rfl) T.z_len (by decide +kernel) (pa_cons (pv 1) pa_nil))) (C8.pe_gc (by rfl) T.g_MOST_FRAMES) (nomark _))
      (pss_one (ps_ret (pe_lst (pa_cons (C8.pe_gc (by rfl) T.g_TOO_MANY) pa_nil))))
      pss_nil)
    (pss_cons (ps_expr (C8.pe_mt h_Session_add_pads hr (by decide) (pv 0) (pa_cons (pv 1) pa_nil)))
    (pss_one (ps_ret (pe_lst (pa_cons (pe_callB call_len_seq (by rfl) T.z_len (by decide +kernel) (pa_cons (pe_fld (pv 0) rfl) pa_nil)) (pa_cons (C8.pe_mt0 h_Session_end_number hr (by decide) (pv 0)) pa_nil)))))))), ?_⟩
  · obtain ⟨N, s, a, ns, st, c, rfl, hS, ha, na, hn, _, hc, k⟩ := h
    obtain rfl : Cs03.Call.pads ns = c := Option.some.inj hc
    refine ⟨_, rfl, a, ns, rfl, SqL.of ha, hn, fun H1 s1 => ⟨_, rfl, ite2 (fun c => ?_) (fun c => ?_)⟩⟩
    · refine ⟨by show 1 ≤ sizeLine; decide, fun q hq => fin_new (xs := [-1]) k (if_pos (by simpa using c)) hS KeepN.refl s1 hq rfl⟩
    have c2 : ns.all Cs03.isByte = true := by simpa using c
    have c3 : ¬ ns.all Cs03.isByte = false := by rw [c2]; exact fun z => by cases z
    obtain ⟨b1, b2⟩ := byte_nat c2
    have hS1 := hS.same s1
    obtain ⟨dx, ld, fp, ch, sd, wd, ml, h0, hnow⟩ := id hS1
    have ha1 := s1 _ _ ha
    refine ⟨_, rfl, _, _, _, _, _, rfl, h0.obj, T.c_Session, T.n_Session_frame_pads, gt_Session_frame_pads, fp, _, rfl, .inl (SqL.of h0.hfp), _, rfl, a, _, rfl, .inl (SqL.of ha1), _, _, rfl, rfl, _, _, rfl, rfl, _, rfl, ite2 (fun c => ?_) (fun c => ?_)⟩
    · have c : (20 : Int) < (((st.pads.map nV).length : Nat) : Int) + (((ns.map V.int).length : Nat) : Int) := of_decide_eq_true c
      rw [List.length_map, List.length_map] at c
      exact ⟨by show 1 ≤ sizeLine; decide, fun q hq => fin_new (xs := [-5]) k ((if_neg c3).trans (if_pos (by show 20 < _; omega))) hS1 (.of s1) (Same.refl _) hq rfl⟩
    have c4 : st.pads.length + ns.length ≤ 20 := by
      have c : ¬ (20 : Int) < (((st.pads.map nV).length : Nat) : Int) + (((ns.map V.int).length : Nat) : Int) := fun z => c (decide_eq_true z)
      rw [List.length_map, List.length_map] at c
      omega
    rw [b1] at ha1
    refine ⟨_, rfl, me_Session_add_pads h0.obj ⟨_, rfl, N, s, a, ns.map Int.toNat, st, rfl, hS1, ha1, b2, by rw [List.length_map]; exact c4, fun H2 h2 k2 => ?_⟩⟩
    obtain ⟨dx2, ld2, fp2, ch2, sd2, wd2, ml2, h3, hnow2⟩ := id h2
    refine ⟨_, rfl, _, _, _, _, _, rfl, h3.obj, T.c_Session, T.n_Session_frame_pads, gt_Session_frame_pads, fp2, _, rfl, .inl (SqL.of h3.hfp), _, rfl, me_Session_end_number h3.obj ⟨N, s, dx2, ld2, fp2, ch2, sd2, wd2, ml2, _, rfl, h3, by show 2 ≤ sizeLine; decide, fun q hq => ?_⟩⟩
    refine fin_new (u := { st with pads := st.pads ++ ns.map Int.toNat }) (xs := [Cs03.int (st.pads ++ ns.map Int.toNat).length, Cs03.int (Cs03.long (Cs03.trace { st with pads := st.pads ++ ns.map Int.toNat }))]) k ((if_neg c3).trans (if_neg (by show ¬ 20 < _; omega))) h2 (KeepN.trans (.of s1) k2) (Same.refl _) hq ?_
    rw [List.length_map]
    rfl
end
end BR
/-! ## Calls3 -/
set_option Elab.async false
set_option maxRecDepth 100000
set_option maxHeartbeats 2000000
set_option linter.unusedVariables false
namespace BR
open PySem PySem.Spec PyProof.Rows L2
section
variable {P : Program} {w : World} {K : PySem.W.Frag} {mg : Str → Option Value} {base : Heap} {α : Ads}
/-- the run of another place in it -/
theorem told_now (st : CSt) (n : Nat) : Cs03.told1 { st with now := n } (Cs03.trace { st with now := n }) = Cs03.told1 { st with now := n } (Cs03.trace st) := by
  rw [show Cs03.trace { st with now := n } = Cs03.trace st from SL.trace_congr rfl rfl rfl]
theorem goes_ses {N : Addr → Prop} {H : Hp} {s dx ld fp ch sd wd ml : Addr} {st : CSt} {n : Nat} (h : SAt α N H s dx ld fp ch sd wd ml st) (hn : n ≤ Cs03.long (Cs03.trace st)) : SAt α N (upd H s (.ins α.c_Session dx (sF ld fp ch sd wd ml { st with now := n }))) s dx ld fp ch sd wd ml { st with now := n } ∧ ({ st with now := n } : CSt).now ≤ Cs03.long (Cs03.trace { st with now := n }) := by
  refine ⟨h.goes, ?_⟩
  rw [show Cs03.trace { st with now := n } = Cs03.trace st from SL.trace_congr rfl rfl rfl]
  exact hn
theorem ok_step (T : Txt K mg α) (M : MS P w K mg base α) : C8.Cal P w K mg base 8 "step" (spCall α (g1 .step)) [] := by
  have h_Session_end_number := M.end_number
  have h_Session_where_now := M.where_now
  refine cal_of T.d_step sc_step bi_step lenC fun f cdv A outer s H vs Q E hr h => ⟨_, (pss_cons (ps_set (i := 2) sc_step.nd rfl (Or.inl rfl) (pe_ix ix_list (pv 1) pe_int (fun _ _ => rfl)))
    (pss_cons (ps_if (pt_cmpR op_lt (pv 2) pe_int (nomark _))
      (pss_one (ps_ret (pe_lst (pa_cons (C8.pe_gc (by rfl) T.g_OUT_OF_BOUNDS) pa_nil))))
      pss_nil)
    (pss_cons (ps_set (i := 3) sc_step.nd rfl (Or.inl rfl) (pe_callB (call_min2 rfl) (by rfl) T.z_min (by decide +kernel) (pa_cons (pv 2) (pa_cons (pe_op op_sub (C8.pe_mt0 h_Session_end_number hr (by decide) (pv 0)) (pe_fld (pv 0) rfl)) pa_nil))))
    (pss_cons (ps_fldaug (pv 0) (pv 3) in_add)
    (pss_one (ps_ret (pe_op op_cat (pe_lst (pa_cons (pv 3) pa_nil)) (C8.pe_mt0 h_Session_where_now hr (by decide) (pv 0))))))))), ?_⟩
  · obtain ⟨N, s, a, ns, st, c, rfl, hS, ha, na, hn, _, hc, k⟩ := h
    obtain ⟨n, rfl, rfl⟩ := g1_is hc
    refine ⟨_, rfl, a, _, _, _, rfl, rfl, SqL.of ha, rfl, ?_⟩
    refine ⟨_, rfl, _, _, rfl, rfl, _, rfl, ite2 (fun c => ?_) (fun c => ?_)⟩
    · exact ⟨by show 1 ≤ sizeLine; decide, fun q hq => fin_new (xs := [-1]) k (if_pos (of_decide_eq_true c)) hS KeepN.refl (Same.refl _) hq rfl⟩
    have c0 : ¬ n < 0 := fun z => c (decide_eq_true z)
    obtain ⟨dx, ld, fp, ch, sd, wd, ml, h0, hnow⟩ := id hS
    refine ⟨_, rfl, _, rfl, me_Session_end_number h0.obj ⟨N, s, dx, ld, fp, ch, sd, wd, ml, _, rfl, h0, _, rfl, _, _, _, _, _, rfl, h0.obj, T.c_Session, T.n_Session_now, gt_Session_now, _, _, rfl, rfl, _, _, rfl, ?_⟩⟩
    have e : (if ((Cs03.long (Cs03.trace st) : Nat) : Int) - ((st.now : Nat) : Int) < n then ((Cs03.long (Cs03.trace st) : Nat) : Int) - ((st.now : Nat) : Int) else n) = ((min n.toNat (Cs03.long (Cs03.trace st) - st.now) : Nat) : Int) := by
      by_cases c : ((Cs03.long (Cs03.trace st) : Nat) : Int) - ((st.now : Nat) : Int) < n
      · rw [if_pos c]
        omega
      · rw [if_neg c]
        omega
    rw [e]
    generalize em : min n.toNat (Cs03.long (Cs03.trace st) - st.now) = many
    refine ⟨_, rfl, _, _, _, _, _, rfl, h0.obj, T.c_Session, T.n_Session_now, gt_Session_now, _, rfl, _, _, rfl, rfl, _, _, h0.obj, by show 7 < 1000; decide, ?_⟩
    rw [pt_Session_now]
    have e2 : ((st.now : Nat) : Int) + ((many : Nat) : Int) = ((min (st.now + n.toNat) (Cs03.long (Cs03.trace st)) : Nat) : Int) := by omega
    dsimp only
    rw [e2]
    obtain ⟨h1, hnow1⟩ := goes_ses (n := min (st.now + n.toNat) (Cs03.long (Cs03.trace st))) h0 (Nat.min_le_right _ _)
    refine ⟨_, rfl, by show 1 ≤ sizeLine; decide, fun q1 hq1 => ?_⟩
    have s1 := Same.new (o := .lst [nV many]) hq1
    have h2 := h1.same s1
    refine ⟨_, rfl, me_Session_where_now h2.obj ⟨N, s, dx, ld, fp, ch, sd, wd, ml, _, rfl, h2, hnow1, fun q2 hq2 => ?_⟩⟩
    refine ⟨q1, q2, _, _, rfl, rfl, (Same.new hq2) _ _ upd_same, upd_same, by show 1 + 4 ≤ sizeLine; decide, fun q3 hq3 => ?_⟩
    refine fin_new (u := { st with now := min (st.now + n.toNat) (Cs03.long (Cs03.trace st)) }) (xs := Cs03.int (min (st.now + n.toNat) (Cs03.long (Cs03.trace st)) - st.now) :: Cs03.told1 { st with now := min (st.now + n.toNat) (Cs03.long (Cs03.trace st)) } (Cs03.trace st)) k (if_neg c0) ⟨_, _, _, _, _, _, _, h1, hnow1⟩ (keep_upd h0.ns) (s1.trans (Same.new hq2)) hq3 ?_
    rw [told_now, show min (st.now + n.toNat) (Cs03.long (Cs03.trace st)) - st.now = many by omega]
    rfl
theorem ok_back (T : Txt K mg α) (M : MS P w K mg base α) : C8.Cal P w K mg base 8 "back" (spCall α (g1 .back)) [] := by
  have h_Session_where_now := M.where_now
  refine cal_of T.d_back sc_back bi_back lenC fun f cdv A outer s H vs Q E hr h => ⟨_, (pss_cons (ps_set (i := 2) sc_back.nd rfl (Or.inl rfl) (pe_ix ix_list (pv 1) pe_int (fun _ _ => rfl)))
    (pss_cons (ps_if (pt_cmpR op_lt (pv 2) pe_int (nomark _))
      (pss_one (ps_ret (pe_lst (pa_cons (C8.pe_gc (by rfl) T.g_OUT_OF_BOUNDS) pa_nil))))
      pss_nil)
    (pss_cons (ps_set (i := 3) sc_back.nd rfl (Or.inl rfl) (pe_callB (call_min2 rfl) (by rfl) T.z_min (by decide +kernel) (pa_cons (pv 2) (pa_cons (pe_fld (pv 0) rfl) pa_nil))))
    (pss_cons (ps_fldaug (pv 0) (pv 3) in_sub)
    (pss_one (ps_ret (pe_op op_cat (pe_lst (pa_cons (pv 3) pa_nil)) (C8.pe_mt0 h_Session_where_now hr (by decide) (pv 0))))))))), ?_⟩
  · obtain ⟨N, s, a, ns, st, c, rfl, hS, ha, na, hn, _, hc, k⟩ := h
    obtain ⟨n, rfl, rfl⟩ := g1_is hc
    refine ⟨_, rfl, a, _, _, _, rfl, rfl, SqL.of ha, rfl, ?_⟩
    refine ⟨_, rfl, _, _, rfl, rfl, _, rfl, ite2 (fun c => ?_) (fun c => ?_)⟩
    · exact ⟨by show 1 ≤ sizeLine; decide, fun q hq => fin_new (xs := [-1]) k (if_pos (of_decide_eq_true c)) hS KeepN.refl (Same.refl _) hq rfl⟩
    have c0 : ¬ n < 0 := fun z => c (decide_eq_true z)
    obtain ⟨dx, ld, fp, ch, sd, wd, ml, h0, hnow⟩ := id hS
    refine ⟨_, rfl, _, rfl, _, _, _, _, _, rfl, h0.obj, T.c_Session, T.n_Session_now, gt_Session_now, _, _, rfl, ?_⟩
    have e : (if ((st.now : Nat) : Int) < n then ((st.now : Nat) : Int) else n) = ((min n.toNat st.now : Nat) : Int) := by
      by_cases c : ((st.now : Nat) : Int) < n
      · rw [if_pos c]
        omega
      · rw [if_neg c]
        omega
    rw [e]
    generalize em : min n.toNat st.now = many
    refine ⟨_, rfl, _, _, _, _, _, rfl, h0.obj, T.c_Session, T.n_Session_now, gt_Session_now, _, rfl, _, _, rfl, rfl, _, _, h0.obj, by show 7 < 1000; decide, ?_⟩
    rw [pt_Session_now]
    have e2 : ((st.now : Nat) : Int) - ((many : Nat) : Int) = ((st.now - n.toNat : Nat) : Int) := by omega
    dsimp only
    rw [e2]
    obtain ⟨h1, hnow1⟩ := goes_ses (n := st.now - n.toNat) h0 (by omega)
    refine ⟨_, rfl, by show 1 ≤ sizeLine; decide, fun q1 hq1 => ?_⟩
    have s1 := Same.new (o := .lst [nV many]) hq1
    have h2 := h1.same s1
    refine ⟨_, rfl, me_Session_where_now h2.obj ⟨N, s, dx, ld, fp, ch, sd, wd, ml, _, rfl, h2, hnow1, fun q2 hq2 => ?_⟩⟩
    refine ⟨q1, q2, _, _, rfl, rfl, (Same.new hq2) _ _ upd_same, upd_same, by show 1 + 4 ≤ sizeLine; decide, fun q3 hq3 => ?_⟩
    refine fin_new (u := { st with now := st.now - n.toNat }) (xs := Cs03.int (st.now - (st.now - n.toNat)) :: Cs03.told1 { st with now := st.now - n.toNat } (Cs03.trace st)) k (if_neg c0) ⟨_, _, _, _, _, _, _, h1, hnow1⟩ (keep_upd h0.ns) (s1.trans (Same.new hq2)) hq3 ?_
    rw [told_now, show st.now - (st.now - n.toNat) = many by omega]
    rfl
/-- one of the two dicts of places changed -/
theorem SAt.stops {N : Addr → Prop} {H H' : Hp} {s dx ld fp ch sd wd ml : Addr} {st : CSt} {l : List Nat} (h : SAt α N H s dx ld fp ch sd wd ml st) (hd : H' sd = some (.dK (dS l))) (fr : ∀ b o, H b = some o → b ≠ sd → H' b = some o) : SAt α N H' s dx ld fp ch sd wd ml { st with stops := l } := by
  have et : Cs03.trace { st with stops := l } = Cs03.trace st := SL.trace_congr rfl rfl rfl
  obtain ⟨us, hu, _⟩ := id h.hch
  obtain ⟨vs, hv, _⟩ := id h.hml
  have f2 : FrS (Mut N s ch sd wd) H H' := fun b o e m => fr b o e (h.own m).2.2.1
  have ncsd : ch ≠ sd := ne_of hu h.hsd (by intro z; cases z)
  refine ⟨fr _ _ h.obj h.nssd.symm, f2 _ _ h.hld h.nld, f2 _ _ h.hfp h.nfp, h.hch.fr f2 ((fr _ _ hu ncsd).trans hu.symm), hd, fr _ _ h.hwd h.ne.symm, ?_, h.nld, h.nfp, h.nml, h.ns, h.nch, h.nsd, h.nwd, h.ne, fun b hb => ?_, ⟨h.wf.p1, h.wf.p2, h.wf.p3, h.wf.p4, h.wf.p5, h.wf.p6⟩⟩
  · rw [et]
    exact h.hml.fr f2 ((f2 _ _ hv h.nml).trans hv.symm)
  · obtain ⟨o, q⟩ := h.trk b hb
    exact ⟨o, fr b o q fun z => h.nsd (z ▸ hb)⟩
theorem SAt.watches {N : Addr → Prop} {H H' : Hp} {s dx ld fp ch sd wd ml : Addr} {st : CSt} {l : List Nat} (h : SAt α N H s dx ld fp ch sd wd ml st) (hd : H' wd = some (.dK (dS l))) (fr : ∀ b o, H b = some o → b ≠ wd → H' b = some o) : SAt α N H' s dx ld fp ch sd wd ml { st with watches := l } := by
  have et : Cs03.trace { st with watches := l } = Cs03.trace st := SL.trace_congr rfl rfl rfl
  obtain ⟨us, hu, _⟩ := id h.hch
  obtain ⟨vs, hv, _⟩ := id h.hml
  have f2 : FrS (Mut N s ch sd wd) H H' := fun b o e m => fr b o e (h.own m).2.2.2.1
  have ncwd : ch ≠ wd := ne_of hu h.hwd (by intro z; cases z)
  refine ⟨fr _ _ h.obj h.nswd.symm, f2 _ _ h.hld h.nld, f2 _ _ h.hfp h.nfp, h.hch.fr f2 ((fr _ _ hu ncwd).trans hu.symm), fr _ _ h.hsd h.ne, hd, ?_, h.nld, h.nfp, h.nml, h.ns, h.nch, h.nsd, h.nwd, h.ne, fun b hb => ?_, ⟨h.wf.p1, h.wf.p2, h.wf.p3, h.wf.p4, h.wf.p5, h.wf.p6⟩⟩
  · rw [et]
    exact h.hml.fr f2 ((f2 _ _ hv h.nml).trans hv.symm)
  · obtain ⟨o, q⟩ := h.trk b hb
    exact ⟨o, fr b o q fun z => h.nwd (z ▸ hb)⟩
theorem ok_stop (T : Txt K mg α) (M : MS P w K mg base α) : C8.Cal P w K mg base 8 "stop" (spCall α (g2 .halt_)) [] := by
  have h_tell_place := M.tell_place
  refine cal_of T.d_stop sc_stop bi_stop lenC fun f cdv A outer s H vs Q E hr h => ⟨_, (pss_one (ps_ret (C8.pe_c h_tell_place hr (by decide) (by rfl) (pa_cons (pe_fld (pv 0) rfl) (pa_cons (pv 1) pa_nil))))), ?_⟩
  · obtain ⟨N, s, a, ns, st, c, rfl, hS, ha, na, hn, hf, hc, k⟩ := h
    obtain ⟨p, on, rfl, rfl⟩ := g2_is hc
    obtain ⟨dx, ld, fp, ch, sd, wd, ml, h0, hnow⟩ := id hS
    refine ⟨_, rfl, _, _, _, _, _, rfl, h0.obj, T.c_Session, T.n_Session_stop_places, gt_Session_stop_places, _, rfl, sd, a, st.stops, p, on, rfl, h0.hsd, SqL.of ha, hf.1, fun hb H1 q s1 hq h1 => ?_, fun hb H1 q h1 f1 hq h2 => ?_⟩
    · have k2 := k H1 q
      rw [show Cs03.spec st (.halt_ p on) = (st, [-1]) from if_pos hb] at k2
      exact k2 (hS.same s1) (.of s1) (h0.trk.new hq) h1
    · have k2 := k H1 q
      rw [show Cs03.spec st (.halt_ p on) = ({ st with stops := Cs03.placed st.stops p.toNat (on == 1) }, [Cs03.int (Cs03.placed st.stops p.toNat (on == 1)).length]) from if_neg hb] at k2
      refine k2 ⟨_, _, _, _, _, _, _, h0.stops h1 f1, ?_⟩ (fun b o e n => f1 b o e fun z => h0.nsd (z ▸ n)) (h0.trk.new hq) h2
      rw [show Cs03.trace { st with stops := Cs03.placed st.stops p.toNat (on == 1) } = Cs03.trace st from SL.trace_congr rfl rfl rfl]
      exact hnow
theorem ok_watch (T : Txt K mg α) (M : MS P w K mg base α) : C8.Cal P w K mg base 8 "watch" (spCall α (g2 .watch)) [] := by
  have h_tell_place := M.tell_place
  refine cal_of T.d_watch sc_watch bi_watch lenC fun f cdv A outer s H vs Q E hr h => ⟨_, (pss_one (ps_ret (C8.pe_c h_tell_place hr (by decide) (by rfl) (pa_cons (pe_fld (pv 0) rfl) (pa_cons (pv 1) pa_nil))))), ?_⟩
  · obtain ⟨N, s, a, ns, st, c, rfl, hS, ha, na, hn, hf, hc, k⟩ := h
    obtain ⟨p, on, rfl, rfl⟩ := g2_is hc
    obtain ⟨dx, ld, fp, ch, sd, wd, ml, h0, hnow⟩ := id hS
    refine ⟨_, rfl, _, _, _, _, _, rfl, h0.obj, T.c_Session, T.n_Session_watch_places, gt_Session_watch_places, _, rfl, wd, a, st.watches, p, on, rfl, h0.hwd, SqL.of ha, hf.2, fun hb H1 q s1 hq h1 => ?_, fun hb H1 q h1 f1 hq h2 => ?_⟩
    · have k2 := k H1 q
      rw [show Cs03.spec st (.watch p on) = (st, [-1]) from if_pos hb] at k2
      exact k2 (hS.same s1) (.of s1) (h0.trk.new hq) h1
    · have k2 := k H1 q
      rw [show Cs03.spec st (.watch p on) = ({ st with watches := Cs03.placed st.watches p.toNat (on == 1) }, [Cs03.int (Cs03.placed st.watches p.toNat (on == 1)).length]) from if_neg hb] at k2
      refine k2 ⟨_, _, _, _, _, _, _, h0.watches h1 f1, ?_⟩ (fun b o e n => f1 b o e fun z => h0.nwd (z ▸ n)) (h0.trk.new hq) h2
      rw [show Cs03.trace { st with watches := Cs03.placed st.watches p.toNat (on == 1) } = Cs03.trace st from SL.trace_congr rfl rfl rfl]
      exact hnow
theorem ok_to (T : Txt K mg α) (M : MS P w K mg base α) : C8.Cal P w K mg base 8 "to" (spCall α (g1 .to_)) [] := by
  have h_Session_end_number := M.end_number
  have h_Session_where_now := M.where_now
  refine cal_of T.d_to sc_to bi_to lenC fun f cdv A outer s H vs Q E hr h => ⟨_, (pss_cons (ps_set (i := 2) sc_to.nd rfl (Or.inl rfl) (pe_ix ix_list (pv 1) pe_int (fun _ _ => rfl)))
    (pss_cons (ps_if (PW.pt (pw_or (pt_cmpR op_lt (pv 2) pe_int (nomark _)) (pw_or1 (pt_cmpR op_gt (pv 2) (C8.pe_mt0 h_Session_end_number hr (by decide) (pv 0)) (nomark _)))))
      (pss_one (ps_ret (pe_lst (pa_cons (C8.pe_gc (by rfl) T.g_NO_SUCH_INSTRUCTION) pa_nil))))
      pss_nil)
    (pss_cons (ps_fld (pv 0) (pv 2) rfl)
    (pss_one (ps_ret (C8.pe_mt0 h_Session_where_now hr (by decide) (pv 0))))))), ?_⟩
  · obtain ⟨N, s, a, ns, st, c, rfl, hS, ha, na, hn, _, hc, k⟩ := h
    obtain ⟨n, rfl, rfl⟩ := g1_is hc
    obtain ⟨dx, ld, fp, ch, sd, wd, ml, h0, hnow⟩ := id hS
    have bad : (n < 0 ∨ Cs03.int (Cs03.long (Cs03.trace st)) < n) → (1 ≤ sizeLine ∧ ∀ q, H q = none → Q (.ref q) (upd H q (.lst [.int (-3)]))) := fun c =>
      ⟨by decide, fun q hq => fin_new (xs := [-3]) k (if_pos c) hS KeepN.refl (Same.refl _) hq rfl⟩
    refine ⟨_, rfl, a, _, _, _, rfl, rfl, SqL.of ha, rfl, ?_⟩
    refine ⟨_, rfl, _, _, rfl, rfl, _, rfl, ite2 (fun c => ?_) (fun c => ?_)⟩
    · exact bad (.inl (of_decide_eq_true c))
    have c0 : ¬ n < 0 := fun z => c (decide_eq_true z)
    refine ⟨_, rfl, _, rfl, me_Session_end_number h0.obj ⟨N, s, dx, ld, fp, ch, sd, wd, ml, _, rfl, h0, _, _, rfl, rfl, _, rfl, ite2 (fun c => ?_) (fun c => ?_)⟩⟩
    · exact bad (.inr (of_decide_eq_true c))
    have c1 : ¬ Cs03.int (Cs03.long (Cs03.trace st)) < n := fun z => c (decide_eq_true z)
    have c2 : n.toNat ≤ Cs03.long (Cs03.trace st) := by
      have : ¬ ((Cs03.long (Cs03.trace st) : Nat) : Int) < n := c1
      omega
    have en : n = ((n.toNat : Nat) : Int) := by omega
    obtain ⟨h1, hnow1⟩ := goes_ses (n := n.toNat) h0 c2
    refine ⟨_, rfl, _, rfl, wr_Session_now T.c_Session T.n_Session_now h0.obj ?_⟩
    rw [show V.int n = nV n.toNat from congrArg V.int en]
    refine ⟨_, rfl, me_Session_where_now h1.obj ⟨N, s, dx, ld, fp, ch, sd, wd, ml, _, rfl, h1, hnow1, fun q hq => ?_⟩⟩
    refine fin_new (u := { st with now := n.toNat }) (xs := Cs03.told1 { st with now := n.toNat } (Cs03.trace st)) k (if_neg ?_) ⟨_, _, _, _, _, _, _, h1, hnow1⟩ (keep_upd h0.ns) (Same.refl _) hq ?_
    · rintro (z | z)
      · exact c0 z
      · exact c1 z
    · rw [told_now]
theorem ok_wherec (T : Txt K mg α) (M : MS P w K mg base α) : C8.Cal P w K mg base 8 "where" (spCall α (g0 .where_)) [] := by
  have h_Session_end_number := M.end_number
  have h_Session_where_now := M.where_now
  refine cal_of T.d_where sc_where bi_where lenC fun f cdv A outer s H vs Q E hr h => ⟨_, (pss_one (ps_ret (pe_op op_cat (C8.pe_mt0 h_Session_where_now hr (by decide) (pv 0)) (pe_lst (pa_cons (C8.pe_mt0 h_Session_end_number hr (by decide) (pv 0)) pa_nil))))), ?_⟩
  · obtain ⟨N, s, a, ns, st, c, rfl, hS, ha, na, hn, _, hc, k⟩ := h
    obtain rfl := g0_is hc
    obtain ⟨dx, ld, fp, ch, sd, wd, ml, h0, hnow⟩ := id hS
    refine ⟨_, rfl, me_Session_where_now h0.obj ⟨N, s, dx, ld, fp, ch, sd, wd, ml, _, rfl, h0, hnow, fun q1 hq1 => ?_⟩⟩
    have s1 := Same.new (o := .lst ((Cs03.told1 st (Cs03.trace st)).map V.int)) hq1
    have h1 := h0.same s1
    refine ⟨_, rfl, me_Session_end_number h1.obj ⟨N, s, dx, ld, fp, ch, sd, wd, ml, _, rfl, h1, by show 1 ≤ sizeLine; decide, fun q2 hq2 => ?_⟩⟩
    refine ⟨q1, q2, _, _, rfl, rfl, (Same.new hq2) _ _ upd_same, upd_same, by show 4 + 1 ≤ sizeLine; decide, fun q3 hq3 => ?_⟩
    refine fin_new (u := st) (xs := Cs03.told1 st (Cs03.trace st) ++ [Cs03.int (Cs03.long (Cs03.trace st))]) k rfl hS KeepN.refl (s1.trans (Same.new hq2)) hq3 ?_
    rw [List.map_append]
    rfl
theorem ok_state (T : Txt K mg α) (M : MS P w K mg base α) : C8.Cal P w K mg base 8 "state" (spCall α (g0 .state)) [] := by
  have h_Session_moment_now := M.moment_now
  have h_Moment_all_numbers := M.all_numbers
  refine cal_of T.d_state sc_state bi_state lenC fun f cdv A outer s H vs Q E hr h => ⟨_, (pss_one (ps_ret (C8.pe_mt0 h_Moment_all_numbers hr (by decide) (C8.pe_mt0 h_Session_moment_now hr (by decide) (pv 0))))), ?_⟩
  · obtain ⟨N, s, a, ns, st, c, rfl, hS, ha, na, hn, _, hc, k⟩ := h
    obtain rfl := g0_is hc
    obtain ⟨dx, ld, fp, ch, sd, wd, ml, h0, hnow⟩ := id hS
    refine ⟨_, rfl, me_Session_moment_now h0.obj ⟨N, s, dx, ld, fp, ch, sd, wd, ml, _, rfl, h0, hnow, fun v x e1 e2 hm => ?_⟩⟩
    obtain ⟨b, db, cb, rfl, _, _, hb, hcb, hg⟩ := hm
    refine me_Moment_all_numbers hb ⟨b, db, cb, x, _, rfl, hb, hcb, hg, fun H1 q s1 hq h1 => ?_⟩
    refine k H1 q (hS.same s1) (.of s1) (h0.trk.new hq) ?_
    rw [h1, ← e2]
    rfl
end
end BR
/-! ## Calls4 -/
set_option Elab.async false
set_option maxRecDepth 100000
set_option maxHeartbeats 2000000
set_option linter.unusedVariables false
namespace BR
open PySem PySem.Spec PyProof.Rows L2
section
variable {P : Program} {w : World} {K : PySem.W.Frag} {mg : Str → Option Value} {base : Heap} {α : Ads}
def spArrive (α : Ads) : Sp := fun vs H Q _ => ∃ (N : Addr → Prop) (s : Addr) (n : Nat) (st : CSt), vs = [.ref s, nV n] ∧ Ses α N H s st ∧ n ≤ Cs03.long (Cs03.trace st) ∧
  ∀ (H' : Hp) (q : Addr), Ses α N H' s { st with now := n } → KeepN N H H' → ¬ N q → H' q = some (.lst ((Cs03.int (Cs03.why st (Cs03.trace st) n) :: Cs03.told1 { st with now := n } (Cs03.trace st)).map V.int)) → Q (.ref q) H'
theorem ok_arrive (T : Txt K mg α) (M : MS P w K mg base α) : C8.Cal P w K mg base 3 "arrive" (spArrive α) [] := by
  have h_Session_reason_at := M.reason_at
  have h_Session_where_now := M.where_now
  refine cal_of T.d_arrive sc_arrive bi_arrive (fun vs H Q E h => ?_) fun f cdv A outer s H vs Q E hr h => ⟨_, (pss_cons (ps_fld (pv 0) (pv 1) rfl)
    (pss_one (ps_ret (pe_op op_cat (pe_lst (pa_cons (C8.pe_mt h_Session_reason_at hr (by decide) (pv 0) (pa_cons (pv 1) pa_nil)) pa_nil)) (C8.pe_mt0 h_Session_where_now hr (by decide) (pv 0)))))), ?_⟩
  · obtain ⟨N, s, n, st, rfl, _⟩ := h
    rfl
  · obtain ⟨N, s, n, st, rfl, hS, hn, k⟩ := h
    obtain ⟨dx, ld, fp, ch, sd, wd, ml, h0, hnow⟩ := id hS
    obtain ⟨h1, hnow1⟩ := goes_ses (n := n) h0 hn
    refine ⟨_, rfl, _, rfl, wr_Session_now T.c_Session T.n_Session_now h0.obj ?_⟩
    refine ⟨_, rfl, me_Session_reason_at h1.obj ⟨_, rfl, N, s, dx, ld, fp, ch, sd, wd, ml, _, n, rfl, h1, hnow1, by show 1 ≤ sizeLine; decide, fun q1 hq1 => ?_⟩⟩
    have s1 := Same.new (o := .lst [nV (Cs03.why { st with now := n } (Cs03.trace { st with now := n }) n)]) hq1
    have h2 := h1.same s1
    refine ⟨_, rfl, me_Session_where_now h2.obj ⟨N, s, dx, ld, fp, ch, sd, wd, ml, _, rfl, h2, hnow1, fun q2 hq2 => ?_⟩⟩
    refine ⟨q1, q2, _, _, rfl, rfl, (Same.new hq2) _ _ upd_same, upd_same, by show 1 + 4 ≤ sizeLine; decide, fun q3 hq3 => ?_⟩
    have s3 := (s1.trans (Same.new hq2)).trans (Same.new (o := .lst ([nV (Cs03.why { st with now := n } (Cs03.trace { st with now := n }) n)] ++ (Cs03.told1 { st with now := n } (Cs03.trace { st with now := n })).map V.int)) hq3)
    refine k _ q3 ⟨_, _, _, _, _, _, _, h1.same s3, hnow1⟩ ((keep_upd h0.ns).trans (.of s3)) (h1.trk.new ((s1.trans (Same.new hq2)).free hq3)) ?_
    rw [upd_same, told_now, show Cs03.trace { st with now := n } = Cs03.trace st from SL.trace_congr rfl rfl rfl]
    rfl
theorem ok_go (T : Txt K mg α) (M : MS P w K mg base α) (h_arrive : C8.Cal P w K mg base 3 "arrive" (spArrive α) []) : C8.Cal P w K mg base 8 "go" (spCall α (g0 .go)) [] := by
  have h_Session_end_number := M.end_number
  have h_Session_reason_at := M.reason_at
  refine cal_of T.d_go sc_go bi_go lenC fun f cdv A outer s H vs Q E hr h => ⟨_, (pss_cons (ps_set (i := 2) sc_go.nd rfl (Or.inl rfl) (C8.pe_mt0 h_Session_end_number hr (by decide) (pv 0)))
    (pss_cons (ps_set (i := 3) sc_go.nd rfl (Or.inl rfl) (pe_callB (call_min2 rfl) (by rfl) T.z_min (by decide +kernel) (pa_cons (pe_op op_add (pe_fld (pv 0) rfl) pe_int) (pa_cons (pv 2) pa_nil))))
    (pss_cons (ps_while PassesOwn.never (PW.pt (pw_and (pt_cmpR op_lt (pv 3) (pv 2) (nomark _)) (pw_and1 (pt_cmpR op_eq (C8.pe_mt h_Session_reason_at hr (by decide) (pv 0) (pa_cons (pv 3) pa_nil)) (C8.pe_gc (by rfl) T.g_NO_REASON) (nomark _)))))
      (pss_one (ps_aug (i := 3) sc_go.nd rfl (Or.inl rfl) pe_int ip_add)))
    (pss_one (ps_ret (C8.pe_c h_arrive hr (by decide) (by rfl) (pa_cons (pv 0) (pa_cons (pv 3) pa_nil)))))))), ?_⟩
  · obtain ⟨N, s, a, ns, st, c, rfl, hS, ha, na, hn, _, hc, k⟩ := h
    obtain rfl := g0_is hc
    obtain ⟨dx, ld, fp, ch, sd, wd, ml, h0, hnow⟩ := id hS
    refine ⟨_, rfl, me_Session_end_number h0.obj ⟨N, s, dx, ld, fp, ch, sd, wd, ml, _, rfl, h0, ?_⟩⟩
    refine ⟨_, rfl, _, _, _, _, _, rfl, h0.obj, T.c_Session, T.n_Session_now, gt_Session_now, _, _, rfl, rfl, _, rfl, _, _, rfl, ?_⟩
    have e : (if ((Cs03.long (Cs03.trace st) : Nat) : Int) < ((st.now : Nat) : Int) + 1 then ((Cs03.long (Cs03.trace st) : Nat) : Int) else ((st.now : Nat) : Int) + 1) = ((min (st.now + 1) (Cs03.long (Cs03.trace st)) : Nat) : Int) := by
      by_cases c : ((Cs03.long (Cs03.trace st) : Nat) : Int) < ((st.now : Nat) : Int) + 1
      · rw [if_pos c]
        omega
      · rw [if_neg c]
        omega
    rw [e]
    have fin : ∀ (σ : L2.St) (j : Nat), j ≤ Cs03.long (Cs03.trace st) → (st.now < j ∨ j = Cs03.long (Cs03.trace st)) → (∀ i, st.now < i → i < j → Cs03.why st (Cs03.trace st) i = 0) → (j = Cs03.long (Cs03.trace st) ∨ Cs03.why st (Cs03.trace st) j ≠ 0) → spArrive α [.ref s, nV j] H Q C8.E0 := by
      intro σ j h1 h2 h3 h4
      have ea : Cs03.ahead st (Cs03.trace st) = j := SL.ahead_is h1 h2 h3 h4
      refine ⟨N, s, j, st, rfl, hS, h1, fun H1 q g1 g2 g3 g4 => ?_⟩
      have e2 : Cs03.spec st .go = ({ st with now := j }, Cs03.int (Cs03.why st (Cs03.trace st) j) :: Cs03.told1 { st with now := j } (Cs03.trace st)) := by
        unfold Cs03.spec
        dsimp only
        rw [ea]
        rfl
      have k2 := k H1 q
      rw [e2] at k2
      exact k2 g1 g2 g3 g4
    refine ⟨fun m σ H' => H' = H ∧ ∃ j : Nat, σ = [some (.ref s), some (.ref a), some (nV (Cs03.long (Cs03.trace st))), some (nV j)] ∧ m = Cs03.long (Cs03.trace st) - j ∧ j ≤ Cs03.long (Cs03.trace st) ∧ (st.now < j ∨ j = Cs03.long (Cs03.trace st)) ∧ ∀ i, st.now < i → i < j → Cs03.why st (Cs03.trace st) i = 0, ⟨_, rfl, min (st.now + 1) (Cs03.long (Cs03.trace st)), rfl, rfl, Nat.min_le_right _ _, by omega, fun i h1 h2 => by omega⟩, ?_⟩
    rintro m σ H1 ⟨rfl, j, rfl, rfl, hj, hj2, hj3⟩
    refine ⟨_, rfl, _, rfl, _, _, rfl, rfl, _, rfl, ite2 (fun c => ?_) (fun c => ?_)⟩
    · have c1 : j < Cs03.long (Cs03.trace st) := by
        have := of_decide_eq_true c
        omega
      refine ⟨_, rfl, me_Session_reason_at h0.obj ⟨_, rfl, N, s, dx, ld, fp, ch, sd, wd, ml, st, j, rfl, h0, hj, rfl, _, rfl, ite2 (fun c => ?_) (fun c => ?_)⟩⟩
      · have c2 : Cs03.why st (Cs03.trace st) j = 0 := by
          have c := of_decide_eq_true c
          injection c
          omega
        refine ⟨fun σ' H' => H' = H1 ∧ ∃ j' : Nat, σ' = [some (.ref s), some (.ref a), some (nV (Cs03.long (Cs03.trace st))), some (nV j')] ∧ j' = j + 1, fun σ' H' z => ?_, _, rfl, _, _, rfl, rfl, rfl, j + 1, rfl, rfl⟩
        obtain ⟨rfl, j', rfl, rfl⟩ := z
        exact ⟨_, (by omega : Cs03.long (Cs03.trace st) - (j + 1) < _), rfl, j + 1, rfl, rfl, c1, .inl (by omega), fun i h1 h2 => by
          by_cases z : i = j
          · rw [z]
            exact c2
          · exact hj3 i h1 (by omega)⟩
      · refine ⟨_, rfl, _, rfl, fin [] j hj hj2 hj3 (.inr fun z => c ?_)⟩
        rw [z]
        rfl
    · have c1 : j = Cs03.long (Cs03.trace st) := by
        have : ¬ ((j : Nat) : Int) < ((Cs03.long (Cs03.trace st) : Nat) : Int) := fun z => c (decide_eq_true z)
        omega
      exact iteF ⟨_, rfl, _, rfl, fin [] j hj hj2 hj3 (.inl c1)⟩
theorem ok_rewind (T : Txt K mg α) (M : MS P w K mg base α) (h_arrive : C8.Cal P w K mg base 3 "arrive" (spArrive α) []) : C8.Cal P w K mg base 8 "rewind" (spCall α (g0 .rewind)) [] := by
  have h_Session_reason_at := M.reason_at
  refine cal_of T.d_rewind sc_rewind bi_rewind lenC fun f cdv A outer s H vs Q E hr h => ⟨_, (pss_cons (ps_set (i := 2) sc_rewind.nd rfl (Or.inl rfl) (pe_callB (call_max2 rfl) (by rfl) T.z_max (by decide +kernel) (pa_cons (pe_op op_sub (pe_fld (pv 0) rfl) pe_int) (pa_cons pe_int pa_nil))))
    (pss_cons (ps_while PassesOwn.never (PW.pt (pw_and (pt_cmpR op_gt (pv 2) pe_int (nomark _)) (pw_and1 (pt_cmpR op_eq (C8.pe_mt h_Session_reason_at hr (by decide) (pv 0) (pa_cons (pv 2) pa_nil)) (C8.pe_gc (by rfl) T.g_NO_REASON) (nomark _)))))
      (pss_one (ps_aug (i := 2) sc_rewind.nd rfl (Or.inl rfl) pe_int ip_sub)))
    (pss_one (ps_ret (C8.pe_c h_arrive hr (by decide) (by rfl) (pa_cons (pv 0) (pa_cons (pv 2) pa_nil))))))), ?_⟩
  · obtain ⟨N, s, a, ns, st, c, rfl, hS, ha, na, hn, _, hc, k⟩ := h
    obtain rfl := g0_is hc
    obtain ⟨dx, ld, fp, ch, sd, wd, ml, h0, hnow⟩ := id hS
    refine ⟨_, rfl, _, _, _, _, _, rfl, h0.obj, T.c_Session, T.n_Session_now, gt_Session_now, _, _, rfl, rfl, _, _, rfl, ?_⟩
    have e : (if (0 : Int) > ((st.now : Nat) : Int) - 1 then (0 : Int) else ((st.now : Nat) : Int) - 1) = ((st.now - 1 : Nat) : Int) := by
      by_cases c : (0 : Int) > ((st.now : Nat) : Int) - 1
      · rw [if_pos c]
        omega
      · rw [if_neg c]
        omega
    rw [e]
    have fin : ∀ j : Nat, (j < st.now ∨ j = 0) → (∀ i, j < i → i < st.now → Cs03.why st (Cs03.trace st) i = 0) → (j = 0 ∨ Cs03.why st (Cs03.trace st) j ≠ 0) → spArrive α [.ref s, nV j] H Q C8.E0 := by
      intro j h2 h3 h4
      have ea : Cs03.behind st (Cs03.trace st) = j := SL.behind_is (Nat.le_of_lt (now_lt hnow)) h2 h3 h4
      refine ⟨N, s, j, st, rfl, hS, by omega, fun H1 q g1 g2 g3 g4 => ?_⟩
      have e2 : Cs03.spec st .rewind = ({ st with now := j }, Cs03.int (Cs03.why st (Cs03.trace st) j) :: Cs03.told1 { st with now := j } (Cs03.trace st)) := by
        unfold Cs03.spec
        dsimp only
        rw [ea]
        rfl
      have k2 := k H1 q
      rw [e2] at k2
      exact k2 g1 g2 g3 g4
    refine ⟨fun m σ H' => H' = H ∧ ∃ j : Nat, σ = [some (.ref s), some (.ref a), some (nV j)] ∧ m = j ∧ (j < st.now ∨ j = 0) ∧ ∀ i, j < i → i < st.now → Cs03.why st (Cs03.trace st) i = 0, ⟨_, rfl, st.now - 1, rfl, rfl, by omega, fun i h1 h2 => by omega⟩, ?_⟩
    rintro m σ H1 ⟨rfl, j, rfl, rfl, hj2, hj3⟩
    refine ⟨_, rfl, _, _, rfl, rfl, _, rfl, ite2 (fun c => ?_) (fun c => ?_)⟩
    · have c1 : 0 < m := by
        have c : (0 : Int) < ((m : Nat) : Int) := of_decide_eq_true c
        omega
      refine ⟨_, rfl, me_Session_reason_at h0.obj ⟨_, rfl, N, s, dx, ld, fp, ch, sd, wd, ml, st, m, rfl, h0, by omega, rfl, _, rfl, ite2 (fun c => ?_) (fun c => ?_)⟩⟩
      · have c2 : Cs03.why st (Cs03.trace st) m = 0 := by
          have c := of_decide_eq_true c
          injection c
          omega
        refine ⟨fun σ' H' => H' = H1 ∧ σ' = [some (.ref s), some (.ref a), some (nV (m - 1))], fun σ' H' z => ?_, _, rfl, _, _, rfl, rfl, rfl, ?_⟩
        · obtain ⟨rfl, rfl⟩ := z
          exact ⟨m - 1, by omega, rfl, m - 1, rfl, rfl, by omega, fun i h1 h2 => by
            by_cases z : i = m
            · rw [z]
              exact c2
            · exact hj3 i (by omega) h2⟩
        · show [some (V.ref s), some (V.ref a), some (V.int (((m : Nat) : Int) - 1))] = _
          rw [show ((m : Nat) : Int) - 1 = ((m - 1 : Nat) : Int) by omega]
      · refine ⟨_, rfl, _, rfl, fin m hj2 hj3 (.inr fun z => c ?_)⟩
        rw [z]
        rfl
    · have c1 : m = 0 := by
        have : ¬ (0 : Int) < ((m : Nat) : Int) := fun z => c (decide_eq_true z)
        omega
      exact iteF ⟨_, rfl, _, rfl, fin m hj2 hj3 (.inl c1)⟩
end
end BR
/-! ## Calls5 -/
set_option Elab.async false
set_option maxRecDepth 100000
set_option maxHeartbeats 2000000
set_option linter.unusedVariables false
namespace BR
open PySem PySem.Spec PyProof.Rows L2
section
variable {P : Program} {w : World} {K : PySem.W.Frag} {mg : Str → Option Value} {base : Heap} {α : Ads}
theorem place_is {z : Int} (h : Cs03.isPlace z = true) : 0 ≤ z ∧ z < 128 := by
  unfold Cs03.isPlace at h
  rw [Bool.and_eq_true] at h
  exact ⟨of_decide_eq_true h.1, of_decide_eq_true h.2⟩
theorem wrote_lt {st : CSt} {t : Array At} {p k : Nat} (h : Cs03.wrote st t p = some k) : k < st.now := by
  unfold Cs03.wrote at h
  have := List.mem_of_getLast? h
  exact List.mem_range.mp (List.mem_filter.mp this).1
theorem ok_wrote (T : Txt K mg α) (M : MS P w K mg base α) : C8.Cal P w K mg base 8 "wrote" (spCall α (g1 .wrote)) [] := by
  have h_Session_last_write := M.last_write
  have h_is_place := M.is_place
  refine cal_of T.d_wrote sc_wrote bi_wrote lenC fun f cdv A outer s H vs Q E hr h => ⟨_, (pss_cons (ps_set (i := 2) sc_wrote.nd rfl (Or.inl rfl) (pe_ix ix_list (pv 1) pe_int (fun _ _ => rfl)))
    (pss_cons (ps_if (pt_not (pt_val (C8.pe_c h_is_place hr (by decide) (by rfl) (pa_cons (pv 2) pa_nil))))
      (pss_one (ps_ret (pe_lst (pa_cons (C8.pe_gc (by rfl) T.g_OUT_OF_BOUNDS) pa_nil))))
      pss_nil)
    (pss_cons (ps_set (i := 3) sc_wrote.nd rfl (Or.inl rfl) (C8.pe_mt h_Session_last_write hr (by decide) (pv 0) (pa_cons (pv 2) pa_nil)))
    (pss_cons (ps_if (pt_cmpR op_isN (pv 3) pe_non (nomark _))
      (pss_one (ps_ret (pe_lst (pa_cons pe_int pa_nil))))
      pss_nil)
    (pss_cons (ps_set (i := 4) sc_wrote.nd rfl (Or.inl rfl) (pe_ix ix_list (pe_fld (pv 0) rfl) (pv 3) (fun _ _ => rfl)))
    (pss_one (ps_ret (pe_lst (pa_cons pe_int (pa_cons (pv 3) (pa_cons (pe_fld (pv 4) rfl) (pa_cons (pe_fld (pv 4) rfl) (pa_cons (pe_ix ix_list (pe_fld (pv 4) rfl) (pv 2) (fun _ _ => rfl)) (pa_cons (pe_fld (pv 4) rfl) pa_nil)))))))))))))), ?_⟩
  · obtain ⟨N, s, a, ns, st, c, rfl, hS, ha, na, hn, _, hc, k⟩ := h
    obtain ⟨z, rfl, rfl⟩ := g1_is hc
    obtain ⟨dx, ld, fp, ch, sd, wd, ml, h0, hnow⟩ := id hS
    refine ⟨_, rfl, a, _, _, _, rfl, rfl, SqL.of ha, rfl, ?_⟩
    refine ⟨_, rfl, z, rfl, _, rfl, ite2 (fun c => ?_) (fun c => ?_)⟩
    · exact ⟨by show 1 ≤ sizeLine; decide, fun q hq => fin_new (xs := [-1]) k (if_pos (by simpa using c)) hS KeepN.refl (Same.refl _) hq rfl⟩
    have c0 : Cs03.isPlace z = true := by simpa using c
    have c1 : ¬ Cs03.isPlace z = false := by rw [c0]; exact fun z => by cases z
    obtain ⟨z0, z1⟩ := place_is c0
    obtain ⟨p, rfl⟩ : ∃ p : Nat, z = (p : Int) := ⟨z.toNat, by omega⟩
    have hp : p < 128 := by omega
    refine ⟨_, rfl, me_Session_last_write h0.obj ⟨_, rfl, N, s, dx, ld, fp, ch, sd, wd, ml, st, p, rfl, h0, hnow, hp, ?_⟩⟩
    cases ew : Cs03.wrote st (Cs03.trace st) p with
    | none =>
      refine ⟨_, rfl, rfl, _, rfl, ?_⟩
      refine iteT ⟨by show 1 ≤ sizeLine; decide, fun q hq => fin_new (u := st) (xs := [0]) k ((if_neg c1).trans ?_) hS KeepN.refl (Same.refl _) hq rfl⟩
      dsimp only
      rw [Int.toNat_natCast, ew]
    | some j =>
      have hj := wrote_lt ew
      obtain ⟨x, hx, hx2⟩ := get_of (t := Cs03.trace st) (n := j) (by have := now_lt hnow; omega)
      obtain ⟨vs, v, hv, _, hi, b, db, cb, rfl, _, _, hb, hcb, hg⟩ := mom_at h0.hml hx
      refine ⟨_, rfl, rfl, _, rfl, ?_⟩
      refine iteF ?_
      refine ⟨_, rfl, _, _, _, _, _, rfl, h0.obj, T.c_Session, T.n_Session_moments, gt_Session_moments, _, rfl, ml, _, _, _, rfl, rfl, SqL.of hv, atI_nat hi, ?_⟩
      have hcell := cell_at hg p
      rw [Nat.mod_eq_of_lt hp] at hcell
      refine ⟨_, rfl, _, rfl, _, _, _, _, _, rfl, hb, T.c_Moment, T.n_Moment_frame, gt_Moment_frame, _, rfl, _, _, _, _, _, rfl, hb, T.c_Moment, T.n_Moment_place, gt_Moment_place, _, rfl, _, _, _, _, _, rfl, hb, T.c_Moment, T.n_Moment_cells, gt_Moment_cells, _, rfl, cb, _, _, _, rfl, rfl, SqL.of hcb, atI_nat hcell, _, rfl, _, _, _, _, _, rfl, hb, T.c_Moment, T.n_Moment_a, gt_Moment_a, by show 6 ≤ sizeLine; decide, fun q hq => ?_⟩
      refine fin_new (u := st) (xs := [1, Cs03.int j, Cs03.int x.f, Cs03.int x.m.pc, Cs03.int (CsBase.byteAt x.m p), Cs03.int x.m.a]) k ((if_neg c1).trans ?_) hS KeepN.refl (Same.refl _) hq rfl
      dsimp only
      rw [Int.toNat_natCast, ew]
      dsimp only
      rw [hx2]
theorem ok_poke (T : Txt K mg α) (M : MS P w K mg base α) : C8.Cal P w K mg base 8 "poke" (spCall α (g2 .poke)) [] := by
  have h_Session_change_by_hand := M.change_by_hand
  have h_Session_end_number := M.end_number
  have h_is_place := M.is_place
  have h_are_bytes := M.are_bytes
  refine cal_of T.d_poke sc_poke bi_poke lenC fun f cdv A outer s H vs Q E hr h => ⟨_, (pss_cons (ps_set (i := 2) sc_poke.nd rfl (Or.inl rfl) (pe_ix ix_list (pv 1) pe_int (fun _ _ => rfl)))
    (pss_cons (ps_set (i := 3) sc_poke.nd rfl (Or.inl rfl) (pe_ix ix_list (pv 1) pe_int (fun _ _ => rfl)))
    (pss_cons (ps_if (PW.pt (pw_or (pt_not (pt_val (C8.pe_c h_is_place hr (by decide) (by rfl) (pa_cons (pv 2) pa_nil)))) (pw_or1 (pt_not (pt_val (C8.pe_c h_are_bytes hr (by decide) (by rfl) (pa_cons (pe_lst (pa_cons (pv 3) pa_nil)) pa_nil)))))))
      (pss_one (ps_ret (pe_lst (pa_cons (C8.pe_gc (by rfl) T.g_OUT_OF_BOUNDS) pa_nil))))
      pss_nil)
    (pss_cons (ps_if (pt_cmpR op_ge (pe_callB call_len_seq (by rfl) T.z_len (by decide +kernel) (pa_cons (pe_fld (pv 0) rfl) pa_nil)) (C8.pe_gc (by rfl) T.g_MOST_CHANGES) (nomark _))
      (pss_one (ps_ret (pe_lst (pa_cons (C8.pe_gc (by rfl) T.g_TOO_MANY) pa_nil))))
      pss_nil)
    (pss_cons (ps_expr (C8.pe_mt h_Session_change_by_hand hr (by decide) (pv 0) (pa_cons (pv 2) (pa_cons (pv 3) pa_nil))))
    (pss_one (ps_ret (pe_lst (pa_cons (pe_callB call_len_seq (by rfl) T.z_len (by decide +kernel) (pa_cons (pe_fld (pv 0) rfl) pa_nil)) (pa_cons (C8.pe_mt0 h_Session_end_number hr (by decide) (pv 0)) pa_nil)))))))))), ?_⟩
  · obtain ⟨N, s, a, ns, st, c, rfl, hS, ha, na, hn, _, hc, k⟩ := h
    obtain ⟨z, v, rfl, rfl⟩ := g2_is hc
    have bad : (Cs03.isPlace z = false ∨ Cs03.isByte v = false) → ∀ H1, Same H H1 → (1 ≤ sizeLine ∧ ∀ q, H1 q = none → Q (.ref q) (upd H1 q (.lst [.int (-1)]))) := fun c H1 s1 =>
      ⟨by decide, fun q hq => fin_new (xs := [-1]) k (if_pos c) hS KeepN.refl s1 hq rfl⟩
    refine ⟨_, rfl, a, _, _, _, rfl, rfl, SqL.of ha, rfl, ?_⟩
    refine ⟨_, rfl, a, _, _, _, rfl, rfl, SqL.of ha, rfl, ?_⟩
    refine ⟨_, rfl, z, rfl, _, rfl, ite2 (fun c => ?_) (fun c => ?_)⟩
    · exact bad (.inl (by simpa using c)) H (Same.refl H)
    have c0 : Cs03.isPlace z = true := by simpa using c
    refine ⟨_, rfl, by show 1 ≤ sizeLine; decide, fun l hl => ?_⟩
    refine ⟨l, [v], rfl, SqL.of upd_same, by show 1 ≤ 1000; decide, fun H1 s1 => ⟨_, rfl, ite2 (fun c => ?_) (fun c => ?_)⟩⟩
    · exact bad (.inr (by simpa using c)) H1 ((Same.new hl).trans s1)
    have c1 : Cs03.isByte v = true := by simpa using c
    have c2 : ¬ (Cs03.isPlace z = false ∨ Cs03.isByte v = false) := by
      rintro (y | y)
      · rw [c0] at y
        cases y
      · rw [c1] at y
        cases y
    have s2 : Same H H1 := (Same.new hl).trans s1
    have hS1 := hS.same s2
    obtain ⟨dx, ld, fp, ch, sd, wd, ml, h0, hnow⟩ := id hS1
    obtain ⟨us, hu, hA⟩ := id h0.hch
    refine ⟨_, rfl, _, _, _, _, _, rfl, h0.obj, T.c_Session, T.n_Session_changes, gt_Session_changes, ch, _, rfl, .inl (SqL.of hu), _, _, rfl, rfl, _, rfl, ite2 (fun c => ?_) (fun c => ?_)⟩
    · have c : (20 : Int) ≤ ((us.length : Nat) : Int) := of_decide_eq_true c
      rw [hA.1] at c
      exact ⟨by show 1 ≤ sizeLine; decide, fun q hq => fin_new (xs := [-5]) k ((if_neg c2).trans (if_pos (by show 20 ≤ _; omega))) hS1 (.of s2) (Same.refl _) hq rfl⟩
    have c3 : st.pokes.length < 20 := by
      have c : ¬ (20 : Int) ≤ ((us.length : Nat) : Int) := fun z => c (decide_eq_true z)
      rw [hA.1] at c
      omega
    obtain ⟨z0, z1⟩ := place_is c0
    have cb : 0 ≤ v ∧ v ≤ 255 := by
      unfold Cs03.isByte at c1
      rw [Bool.and_eq_true] at c1
      exact ⟨of_decide_eq_true c1.1, of_decide_eq_true c1.2⟩
    obtain ⟨p, rfl⟩ : ∃ p : Nat, z = (p : Int) := ⟨z.toNat, by omega⟩
    obtain ⟨b, rfl⟩ : ∃ b : Nat, v = (b : Int) := ⟨v.toNat, by omega⟩
    refine ⟨_, rfl, me_Session_change_by_hand h0.obj ⟨_, rfl, _, rfl, N, s, p, b, st, rfl, hS1, by omega, by omega, c3, fun H2 h2 k2 => ?_⟩⟩
    obtain ⟨dx2, ld2, fp2, ch2, sd2, wd2, ml2, h3, hnow2⟩ := id h2
    obtain ⟨us2, hu2, hA2⟩ := id h3.hch
    refine ⟨_, rfl, _, _, _, _, _, rfl, h3.obj, T.c_Session, T.n_Session_changes, gt_Session_changes, ch2, _, rfl, .inl (SqL.of hu2), _, rfl, me_Session_end_number h3.obj ⟨N, s, dx2, ld2, fp2, ch2, sd2, wd2, ml2, _, rfl, h3, by show 2 ≤ sizeLine; decide, fun q hq => ?_⟩⟩
    refine fin_new (u := { st with pokes := st.pokes ++ [⟨st.now, p, b⟩] }) (xs := [Cs03.int (st.pokes ++ [(⟨st.now, p, b⟩ : Poke)]).length, Cs03.int (Cs03.long (Cs03.trace { st with pokes := st.pokes ++ [⟨st.now, p, b⟩] }))]) k ((if_neg c2).trans (if_neg (by show ¬ 20 ≤ _; omega))) h2 (KeepN.trans (.of s2) k2) (Same.refl _) hq ?_
    rw [hA2.1]
    rfl
theorem ok_unpoke (T : Txt K mg α) (M : MS P w K mg base α) : C8.Cal P w K mg base 8 "unpoke" (spCall α (g0 .unpoke)) [] := by
  have h_Session_undo_last_change := M.undo_last_change
  have h_Session_where_now := M.where_now
  refine cal_of T.d_unpoke sc_unpoke bi_unpoke lenC fun f cdv A outer s H vs Q E hr h => ⟨_, (pss_cons (ps_if (pt_cmpR op_eq (pe_callB call_len_seq (by rfl) T.z_len (by decide +kernel) (pa_cons (pe_fld (pv 0) rfl) pa_nil)) pe_int (nomark _))
      (pss_one (ps_ret (pe_lst (pa_cons (C8.pe_gc (by rfl) T.g_NONE_CHANGED) pa_nil))))
      pss_nil)
    (pss_cons (ps_expr (C8.pe_mt0 h_Session_undo_last_change hr (by decide) (pv 0)))
    (pss_one (ps_ret (C8.pe_mt0 h_Session_where_now hr (by decide) (pv 0)))))), ?_⟩
  · obtain ⟨N, s, a, ns, st, c, rfl, hS, ha, na, hn, _, hc, k⟩ := h
    obtain rfl := g0_is hc
    obtain ⟨dx, ld, fp, ch, sd, wd, ml, h0, hnow⟩ := id hS
    obtain ⟨us, hu, hA⟩ := id h0.hch
    refine ⟨_, rfl, _, _, _, _, _, rfl, h0.obj, T.c_Session, T.n_Session_changes, gt_Session_changes, ch, _, rfl, .inl (SqL.of hu), rfl, _, rfl, ite2 (fun c => ?_) (fun c => ?_)⟩
    · have c : us.length = 0 := by
        have c := of_decide_eq_true c
        injection c
        omega
      rw [hA.1] at c
      have e : st.pokes = [] := List.length_eq_zero_iff.mp c
      refine ⟨by show 1 ≤ sizeLine; decide, fun q hq => fin_new (u := st) (xs := [-7]) k ?_ hS KeepN.refl (Same.refl _) hq rfl⟩
      unfold Cs03.spec
      dsimp only
      rw [show st.pokes.getLast? = none by rw [e]; rfl]
    · have c : st.pokes ≠ [] := fun z => c (by rw [hA.1, z]; rfl)
      obtain ⟨y, hy⟩ : ∃ y, st.pokes.getLast? = some y := ⟨_, List.getLast?_eq_some_getLast c⟩
      refine ⟨_, rfl, me_Session_undo_last_change h0.obj ⟨N, s, y, st, rfl, hS, hy, fun H1 h1 k1 => ?_⟩⟩
      obtain ⟨dx2, ld2, fp2, ch2, sd2, wd2, ml2, h3, hnow2⟩ := id h1
      refine ⟨_, rfl, me_Session_where_now h3.obj ⟨N, s, dx2, ld2, fp2, ch2, sd2, wd2, ml2, _, rfl, h3, hnow2, fun q hq => ?_⟩⟩
      have et : Cs03.trace (undone st y) = Cs03.trace { st with pokes := st.pokes.dropLast } := SL.trace_congr rfl rfl rfl
      refine fin_new (u := undone st y) (xs := Cs03.told1 (undone st y) (Cs03.trace { st with pokes := st.pokes.dropLast })) k ?_ h1 k1 (Same.refl _) hq (by rw [et])
      unfold Cs03.spec
      dsimp only
      rw [hy]
      rfl
end
end BR
/-! ## Runs1 -/
set_option Elab.async false
set_option maxRecDepth 100000
set_option maxHeartbeats 2000000
set_option linter.unusedVariables false
namespace BR
open PySem PySem.Spec PyProof.Rows L2

/-! ### the calls in the flat list -/
def gC : Nat → List Int → Option Cs03.Call
  | 0 => gBegin
  | 1 => gPads
  | 2 => g1 .step
  | 3 => g1 .back
  | 4 => g2 .halt_
  | 5 => g2 .watch
  | 6 => g0 .go
  | 7 => g0 .rewind
  | 8 => g1 .to_
  | 9 => g0 .where_
  | 10 => g0 .state
  | 11 => g1 .wrote
  | 12 => g2 .poke
  | 13 => g0 .unpoke
  | _ => fun _ => none
def tbN : List (Int × Int) := [(2, 1), (3, 1), (4, 2), (5, 2), (6, 0), (7, 0), (8, 1), (9, 0), (10, 0), (11, 1), (12, 2), (13, 0)]
/-- a call's parts: its number, its numbers, what it is -/
def Parts (c : List (List Int)) : Prop := ∃ (i : Nat) (xs : List Int) (q : Cs03.Call), i < 14 ∧ Cs03Neutral.callOf c = some q ∧ gC i xs = some q ∧ xs.length ≤ 1000 ∧ ((i < 2 ∧ SL.flat c = (i : Int) :: (xs.length : Int) :: xs) ∨ (2 ≤ i ∧ tbN.lookup (i : Int) = some (xs.length : Int) ∧ SL.flat c = (i : Int) :: xs))
theorem len1 {l : List (List Int)} (h : 1 = l.length) : ∃ r, l = [r] := match l, h with
  | [r], _ => ⟨r, rfl⟩
theorem len0 {β : Type} {l : List β} (h : 0 = l.length) : l = [] := List.length_eq_zero_iff.mp h.symm
theorem len1i {l : List Int} (h : 1 = l.length) : ∃ r, l = [r] := match l, h with
  | [r], _ => ⟨r, rfl⟩
theorem len2i {l : List Int} (h : 2 = l.length) : ∃ r s, l = [r, s] := match l, h with
  | [r, s], _ => ⟨r, s, rfl⟩
theorem row_len {l : List Int} (h : Cs03Neutral.row l = true) : l.length ≤ 1000 := by
  unfold Cs03Neutral.row at h
  rw [Bool.and_eq_true] at h
  have := of_decide_eq_true h.2
  omega
theorem parts {p : Int} {ns : List Int} {rows : List (List Int)} (h : PyCs03.shape p = some (ns.length, rows.length)) (ha : Cs03Neutral.asked1 ((p :: ns) :: rows) = true) : Parts ((p :: ns) :: rows) := by
  unfold PyCs03.shape at h
  by_cases c0 : p = 0
  · rw [if_pos c0] at h
    obtain ⟨e1, e2⟩ := Prod.mk.inj (Option.some.inj h)
    obtain rfl := len0 e1
    obtain ⟨r, rfl⟩ := len1 e2
    subst c0
    exact ⟨0, r, _, by decide, rfl, rfl, row_len ha, .inl ⟨by decide, by simp [SL.flat]⟩⟩
  rw [if_neg c0] at h
  by_cases c1 : p = 1
  · rw [if_pos c1] at h
    obtain ⟨e1, e2⟩ := Prod.mk.inj (Option.some.inj h)
    obtain rfl := len0 e1
    obtain ⟨r, rfl⟩ := len1 e2
    subst c1
    exact ⟨1, r, _, by decide, rfl, rfl, row_len ha, .inl ⟨by decide, by simp [SL.flat]⟩⟩
  rw [if_neg c1] at h
  by_cases c2 : p = 2
  · rw [if_pos c2] at h
    obtain ⟨e1, e2⟩ := Prod.mk.inj (Option.some.inj h)
    obtain ⟨x, rfl⟩ := len1i e1
    obtain rfl := len0 e2
    subst c2
    exact ⟨2, [x], _, by decide, rfl, rfl, by show 1 ≤ 1000; decide, .inr ⟨by decide, rfl, rfl⟩⟩
  rw [if_neg c2] at h
  by_cases c3 : p = 3
  · rw [if_pos c3] at h
    obtain ⟨e1, e2⟩ := Prod.mk.inj (Option.some.inj h)
    obtain ⟨x, rfl⟩ := len1i e1
    obtain rfl := len0 e2
    subst c3
    exact ⟨3, [x], _, by decide, rfl, rfl, by show 1 ≤ 1000; decide, .inr ⟨by decide, rfl, rfl⟩⟩
  rw [if_neg c3] at h
  by_cases c4 : p = 4
  · rw [if_pos c4] at h
    obtain ⟨e1, e2⟩ := Prod.mk.inj (Option.some.inj h)
    obtain ⟨x, y, rfl⟩ := len2i e1
    obtain rfl := len0 e2
    subst c4
    exact ⟨4, [x, y], _, by decide, rfl, rfl, by show 2 ≤ 1000; decide, .inr ⟨by decide, rfl, rfl⟩⟩
  rw [if_neg c4] at h
  by_cases c5 : p = 5
  · rw [if_pos c5] at h
    obtain ⟨e1, e2⟩ := Prod.mk.inj (Option.some.inj h)
    obtain ⟨x, y, rfl⟩ := len2i e1
    obtain rfl := len0 e2
    subst c5
    exact ⟨5, [x, y], _, by decide, rfl, rfl, by show 2 ≤ 1000; decide, .inr ⟨by decide, rfl, rfl⟩⟩
  rw [if_neg c5] at h
  by_cases c6 : p = 6
  · rw [if_pos c6] at h
    obtain ⟨e1, e2⟩ := Prod.mk.inj (Option.some.inj h)
    obtain rfl := len0 e1
    obtain rfl := len0 e2
    subst c6
    exact ⟨6, [], _, by decide, rfl, rfl, by show 0 ≤ 1000; decide, .inr ⟨by decide, rfl, rfl⟩⟩
  rw [if_neg c6] at h
  by_cases c7 : p = 7
  · rw [if_pos c7] at h
    obtain ⟨e1, e2⟩ := Prod.mk.inj (Option.some.inj h)
    obtain rfl := len0 e1
    obtain rfl := len0 e2
    subst c7
    exact ⟨7, [], _, by decide, rfl, rfl, by show 0 ≤ 1000; decide, .inr ⟨by decide, rfl, rfl⟩⟩
  rw [if_neg c7] at h
  by_cases c8 : p = 8
  · rw [if_pos c8] at h
    obtain ⟨e1, e2⟩ := Prod.mk.inj (Option.some.inj h)
    obtain ⟨x, rfl⟩ := len1i e1
    obtain rfl := len0 e2
    subst c8
    exact ⟨8, [x], _, by decide, rfl, rfl, by show 1 ≤ 1000; decide, .inr ⟨by decide, rfl, rfl⟩⟩
  rw [if_neg c8] at h
  by_cases c9 : p = 9
  · rw [if_pos c9] at h
    obtain ⟨e1, e2⟩ := Prod.mk.inj (Option.some.inj h)
    obtain rfl := len0 e1
    obtain rfl := len0 e2
    subst c9
    exact ⟨9, [], _, by decide, rfl, rfl, by show 0 ≤ 1000; decide, .inr ⟨by decide, rfl, rfl⟩⟩
  rw [if_neg c9] at h
  by_cases c10 : p = 10
  · rw [if_pos c10] at h
    obtain ⟨e1, e2⟩ := Prod.mk.inj (Option.some.inj h)
    obtain rfl := len0 e1
    obtain rfl := len0 e2
    subst c10
    exact ⟨10, [], _, by decide, rfl, rfl, by show 0 ≤ 1000; decide, .inr ⟨by decide, rfl, rfl⟩⟩
  rw [if_neg c10] at h
  by_cases c11 : p = 11
  · rw [if_pos c11] at h
    obtain ⟨e1, e2⟩ := Prod.mk.inj (Option.some.inj h)
    obtain ⟨x, rfl⟩ := len1i e1
    obtain rfl := len0 e2
    subst c11
    exact ⟨11, [x], _, by decide, rfl, rfl, by show 1 ≤ 1000; decide, .inr ⟨by decide, rfl, rfl⟩⟩
  rw [if_neg c11] at h
  by_cases c12 : p = 12
  · rw [if_pos c12] at h
    obtain ⟨e1, e2⟩ := Prod.mk.inj (Option.some.inj h)
    obtain ⟨x, y, rfl⟩ := len2i e1
    obtain rfl := len0 e2
    subst c12
    exact ⟨12, [x, y], _, by decide, rfl, rfl, by show 2 ≤ 1000; decide, .inr ⟨by decide, rfl, rfl⟩⟩
  rw [if_neg c12] at h
  by_cases c13 : p = 13
  · rw [if_pos c13] at h
    obtain ⟨e1, e2⟩ := Prod.mk.inj (Option.some.inj h)
    obtain rfl := len0 e1
    obtain rfl := len0 e2
    subst c13
    exact ⟨13, [], _, by decide, rfl, rfl, by show 0 ≤ 1000; decide, .inr ⟨by decide, rfl, rfl⟩⟩
  rw [if_neg c13] at h
  cases h

/-! ### played, by parts -/
abbrev NC := List (List Int)
def stT (s : CSt) (cs : List NC) : CSt := cs.foldl (fun s c => (Cs03Neutral.step s c).1) s
theorem played_app : ∀ (s : CSt) (a b : List NC), PyFlat.played Cs03Neutral.step s (a ++ b) = PyFlat.played Cs03Neutral.step s a ++ PyFlat.played Cs03Neutral.step (stT s a) b
  | _, [], _ => rfl
  | s, c :: a, b => by
    show (Cs03Neutral.step s c).2 :: PyFlat.played Cs03Neutral.step (Cs03Neutral.step s c).1 (a ++ b) = _
    rw [played_app (Cs03Neutral.step s c).1 a b]
    rfl
theorem stT_snoc (s : CSt) (a : List NC) (c : NC) : stT s (a ++ [c]) = (Cs03Neutral.step (stT s a) c).1 := by
  unfold stT
  rw [List.foldl_append]
  rfl
theorem told_app (a b : List (List Int)) : PyFlat.told (a ++ b) = PyFlat.told a ++ PyFlat.told b := List.flatMap_append
abbrev toldTo (cs : List NC) : List Int := PyFlat.told (PyFlat.played Cs03Neutral.step Cs03.start cs)
theorem toldTo_snoc (a : List NC) (c : NC) : toldTo (a ++ [c]) = toldTo a ++ ((((Cs03Neutral.step (stT Cs03.start a) c).2.length : Nat) : Int) :: (Cs03Neutral.step (stT Cs03.start a) c).2) := by
  unfold toldTo
  rw [played_app, told_app]
  show _ ++ ((((Cs03Neutral.step (stT Cs03.start a) c).2.length : Nat) : Int) :: (Cs03Neutral.step (stT Cs03.start a) c).2 ++ []) = _
  rw [List.append_nil]
theorem toldTo_le (a b : List NC) : (toldTo a).length ≤ (toldTo (a ++ b)).length := by
  unfold toldTo
  rw [played_app, told_app, List.length_append]
  exact Nat.le_add_right _ _
theorem step_of {s : CSt} {c : NC} {q : Cs03.Call} (h : Cs03Neutral.callOf c = some q) : Cs03Neutral.step s c = Cs03.spec s q := by
  unfold Cs03Neutral.step
  rw [h]
/-- places told: at most one more a call -/
theorem placed_len (l : List Nat) (p : Nat) (on : Bool) : (Cs03.placed l p on).length ≤ l.length + 1 := by
  unfold Cs03.placed
  split
  · split
    · exact Nat.le_succ _
    · rw [List.length_append]
      exact Nat.le_refl _
  · exact Nat.le_trans (List.length_filter_le _ _) (Nat.le_succ _)
theorem spec_few (s : CSt) (c : Cs03.Call) : (Cs03.spec s c).1.stops.length ≤ s.stops.length + 1 ∧ (Cs03.spec s c).1.watches.length ≤ s.watches.length + 1 := by
  have z : s.stops.length ≤ s.stops.length + 1 ∧ s.watches.length ≤ s.watches.length + 1 := ⟨Nat.le_succ _, Nat.le_succ _⟩
  cases c <;> unfold Cs03.spec <;> dsimp only
  all_goals first
    | exact z
    | (split
       · exact z
       · first
         | exact z
         | exact ⟨placed_len _ _ _, Nat.le_succ _⟩
         | exact ⟨Nat.le_succ _, placed_len _ _ _⟩
         | exact ⟨Nat.zero_le _, Nat.zero_le _⟩
         | (split
            · exact z
            · exact z))
theorem stT_few : ∀ (a : List NC), (stT Cs03.start a).stops.length ≤ a.length ∧ (stT Cs03.start a).watches.length ≤ a.length := by
  have h : ∀ (a : List NC) (s : CSt), (stT s a).stops.length ≤ s.stops.length + a.length ∧ (stT s a).watches.length ≤ s.watches.length + a.length := by
    intro a
    induction a with
    | nil => intro s; exact ⟨Nat.le_refl _, Nat.le_refl _⟩
    | cons c a ih =>
      intro s
      have q := ih (Cs03Neutral.step s c).1
      have q2 : (Cs03Neutral.step s c).1.stops.length ≤ s.stops.length + 1 ∧ (Cs03Neutral.step s c).1.watches.length ≤ s.watches.length + 1 := by
        unfold Cs03Neutral.step
        split
        · exact spec_few s _
        · exact ⟨Nat.le_succ _, Nat.le_succ _⟩
      rw [List.length_cons]
      have e : stT s (c :: a) = stT (Cs03Neutral.step s c).1 a := rfl
      rw [e]
      omega
  intro a
  have q := h a Cs03.start
  have e1 : Cs03.start.stops.length = 0 := rfl
  have e2 : Cs03.start.watches.length = 0 := rfl
  omega
theorem cut_is {A xs C : List Int} {j : Nat} (h : A.length = j) : cutV ((A ++ (xs ++ C)).map V.int) (some (j : Int)) (some ((j + xs.length : Nat) : Int)) = xs.map V.int := by
  unfold cutV
  rw [HT.sIx_nat, HT.sIx_nat, List.length_map, List.length_append, List.length_append, h, Nat.min_eq_left (by omega), Nat.min_eq_left (by omega), ← List.map_drop, ← List.map_take, ← h, List.drop_left, Nat.add_sub_cancel_left, List.take_left]
section
variable {P : Program} {w : World} {K : PySem.W.Frag} {mg : Str → Option Value} {base : Heap} {α : Ads}
def spAC (α : Ads) : Sp := fun vs H Q _ => ∃ (N : Addr → Prop) (s a : Addr) (i : Nat) (ns : List Int) (st : CSt) (c : Cs03.Call), vs = [.ref s, nV i, .ref a] ∧ i < 14 ∧ Ses α N H s st ∧ H a = some (.lst (ns.map V.int)) ∧ ¬ N a ∧ ns.length ≤ 1000 ∧ Few st ∧ gC i ns = some c ∧ Post α N H s st c Q
theorem ok_answer_call (T : Txt K mg α) (hI : ∀ i, i < 14 → ∃ f, α.l_CALLS[i]? = some f ∧ C8.CalAt P w K mg base 8 f (spCall α (gC i))) : C8.Cal P w K mg base 9 "answer_call" (spAC α) [] := by
  refine cal_of T.d_answer_call sc_answer_call bi_answer_call (fun vs H Q E h => ?_) fun f cdv A outer s H vs Q E hr h => ⟨_, (pss_one (ps_ret (pe_callE (pe_ix ix_tup (C8.pe_gc (by rfl) T.g_CALLS) (pv 1) (fun _ _ => rfl)) hr (pa_cons (pv 0) (pa_cons (pv 2) pa_nil))))), ?_⟩
  · obtain ⟨N, s, a, i, ns, st, c, rfl, _⟩ := h
    rfl
  · obtain ⟨N, s, a, i, ns, st, c, rfl, hi, hS, ha, na, hn, hf, hc, k⟩ := h
    obtain ⟨g, hg, hcal⟩ := hI i hi
    refine ⟨_, rfl, α.t_CALLS, _, _, _, rfl, rfl, T.tab_CALLS H, at_of (j := i) rfl ?_, g, _, rfl, hcal, _, rfl, _, rfl, N, s, a, ns, st, c, rfl, hS, ha, na, hn, hf, hc, k⟩
    rw [List.getElem?_map, hg]
    rfl
theorem inRow (p : Nat) : inV (.int (p : Int)) [.int 0, .int 1] = decide (p < 2) := by
  show (((0 : Int) == (p : Int)) || (((1 : Int) == (p : Int)) || false)) = _
  rw [Bool.or_false]
  by_cases c : p < 2
  · rw [decide_eq_true c]
    have : p = 0 ∨ p = 1 := by omega
    rcases this with rfl | rfl <;> rfl
  · rw [decide_eq_false c, Bool.or_eq_false_iff, beq_eq_false_iff_ne, beq_eq_false_iff_ne]
    omega
def spSt (K : PySem.W.Frag) : Sp := fun vs H Q _ => ∃ (l : Addr) (ns : List Int) (i p : Nat), vs = [.ref l, nV i] ∧ SqL K H l (ns.map V.int) ∧ ns[i]? = some (p : Int) ∧ Q (nV (if p < 2 then i + 2 else i + 1)) H
theorem ok_numbers_start (T : Txt K mg α) : C8.Cal P w K mg base 1 "numbers_start" (spSt K) [] := by
  refine cal_of T.d_numbers_start sc_numbers_start bi_numbers_start (fun vs H Q E h => ?_) fun f cdv A outer s H vs Q E hr h => ⟨_, (pss_one (ps_ret (pe_ifExp (pt_cmpR op_in_seq (pe_ix ix_list (pv 0) (pv 1) (fun _ _ => rfl)) (C8.pe_gc (by rfl) T.g_ROW_CALLS) (by rfl)) (pe_op op_add (pv 1) pe_int) (pe_op op_add (pv 1) pe_int)))), ?_⟩
  · obtain ⟨l, ns, i, p, rfl, _⟩ := h
    rfl
  · obtain ⟨l, ns, i, p, rfl, hl, hp, k⟩ := h
    have hp2 : (ns.map V.int)[i]? = some (.int (p : Int)) := by rw [List.getElem?_map, hp]; rfl
    refine ⟨_, rfl, _, rfl, l, _, _, _, rfl, rfl, hl, atI_nat hp2, α.t_ROW_CALLS, _, rfl, .inr (T.tab_ROW_CALLS H), rfl, rfl, _, rfl, ?_⟩
    rw [inRow]
    refine ite2 (fun c => ?_) (fun c => ?_)
    · rw [if_pos (of_decide_eq_true c)] at k
      exact ⟨_, rfl, _, _, rfl, rfl, k⟩
    · rw [if_neg fun z => c (decide_eq_true z)] at k
      exact ⟨_, rfl, _, _, rfl, rfl, k⟩
def spEn (K : PySem.W.Frag) : Sp := fun vs H Q _ => ∃ (l : Addr) (ns : List Int) (i p m : Nat), vs = [.ref l, nV i] ∧ SqL K H l (ns.map V.int) ∧ ns[i]? = some (p : Int) ∧ ((p < 2 ∧ ns[i + 1]? = some (m : Int) ∧ Q (nV (i + 2 + m)) H) ∨ (2 ≤ p ∧ tbN.lookup (p : Int) = some (m : Int) ∧ Q (nV (i + 1 + m)) H))
theorem ok_numbers_end (T : Txt K mg α) (h_numbers_start : C8.Cal P w K mg base 1 "numbers_start" (spSt K) []) : C8.Cal P w K mg base 2 "numbers_end" (spEn K) [] := by
  refine cal_of T.d_numbers_end sc_numbers_end bi_numbers_end (fun vs H Q E h => ?_) fun f cdv A outer s H vs Q E hr h => ⟨_, (pss_cons (ps_set (i := 2) sc_numbers_end.nd rfl (Or.inl rfl) (pe_ifExp (pt_cmpR op_in_seq (pe_ix ix_list (pv 0) (pv 1) (fun _ _ => rfl)) (C8.pe_gc (by rfl) T.g_ROW_CALLS) (by rfl)) (pe_ix ix_list (pv 0) (pe_op op_add (pv 1) pe_int) (fun _ _ => rfl)) (pe_ix ix_kdi (C8.pe_gc (by rfl) T.g_HOW_MANY_NUMBERS) (pe_ix ix_list (pv 0) (pv 1) (fun _ _ => rfl)) (fun _ _ => rfl))))
    (pss_one (ps_ret (pe_op op_add (C8.pe_c h_numbers_start hr (by decide) (by rfl) (pa_cons (pv 0) (pa_cons (pv 1) pa_nil))) (pv 2))))), ?_⟩
  · obtain ⟨l, ns, i, p, m, rfl, _⟩ := h
    rfl
  · obtain ⟨l, ns, i, p, m, rfl, hl, hp, k⟩ := h
    have hp2 : (ns.map V.int)[i]? = some (.int (p : Int)) := by rw [List.getElem?_map, hp]; rfl
    refine ⟨_, rfl, _, rfl, l, _, _, _, rfl, rfl, hl, atI_nat hp2, α.t_ROW_CALLS, _, rfl, .inr (T.tab_ROW_CALLS H), rfl, rfl, _, rfl, ?_⟩
    rw [inRow]
    refine ite2 (fun c => ?_) (fun c => ?_)
    · have c := of_decide_eq_true c
      rcases k with ⟨c1, hm, k⟩ | ⟨c1, _⟩
      · have hm2 : (ns.map V.int)[i + 1]? = some (.int (m : Int)) := by rw [List.getElem?_map, hm]; rfl
        refine ⟨_, rfl, _, rfl, _, _, rfl, rfl, l, _, _, _, rfl, rfl, hl, at_of (j := i + 1) rfl hm2, ?_⟩
        refine ⟨_, rfl, _, rfl, l, ns, i, p, rfl, hl, hp, ?_⟩
        rw [if_pos c]
        exact ⟨_, rfl, _, _, rfl, rfl, k⟩
      · omega
    · have c : ¬ p < 2 := fun z => c (decide_eq_true z)
      rcases k with ⟨c1, _⟩ | ⟨c1, hm, k⟩
      · omega
      · refine ⟨_, rfl, _, rfl, l, _, _, _, rfl, rfl, hl, atI_nat hp2, α.t_HOW_MANY_NUMBERS, tbN, _, _, rfl, rfl, T.dic_HOW_MANY_NUMBERS, hm, ?_⟩
        refine ⟨_, rfl, _, rfl, l, ns, i, p, rfl, hl, hp, ?_⟩
        rw [if_neg c]
        exact ⟨_, rfl, _, _, rfl, rfl, k⟩
end
end BR
/-! ## Runs2 -/
set_option Elab.async false
set_option maxRecDepth 100000
set_option maxHeartbeats 2000000
set_option linter.unusedVariables false
namespace BR
open PySem PySem.Spec PyProof.Rows L2
section
variable {P : Program} {w : World} {K : PySem.W.Frag} {mg : Str → Option Value} {base : Heap} {α : Ads}
/-- what isn't the session's may change -/
theorem Ses.out {N : Addr → Prop} {H : Hp} {s l : Addr} {st : CSt} {o : HO} (h : Ses α N H s st) (hl : N l) : Ses α N (upd H l o) s st := by
  obtain ⟨dx, ld, fp, ch, sd, wd, ml, h, n⟩ := h
  have ne : ∀ b, ¬ N b → b ≠ l := fun b m z => m (z ▸ hl)
  have nm : ∀ b, ¬ Mut N s ch sd wd b → b ≠ l := fun b m => ne b fun z => m (.inl z)
  have fr : FrS (Mut N s ch sd wd) H (upd H l o) := fun b u e m => by
    rw [upd_ne (nm b m)]
    exact e
  exact ⟨dx, ld, fp, ch, sd, wd, ml, ⟨(upd_ne (ne _ h.ns)).trans h.obj, (upd_ne (nm _ h.nld)).trans h.hld, (upd_ne (nm _ h.nfp)).trans h.hfp, h.hch.fr fr (upd_ne (ne _ h.nch)), (upd_ne (ne _ h.nsd)).trans h.hsd, (upd_ne (ne _ h.nwd)).trans h.hwd, h.hml.fr fr (upd_ne (nm _ h.nml)), h.nld, h.nfp, h.nml, h.ns, h.nch, h.nsd, h.nwd, h.ne, h.trk.upd _ _, h.wf⟩, n⟩
/-- a new thing isn't the session's -/
theorem Ses.more {N : Addr → Prop} {H : Hp} {s l : Addr} {st : CSt} {o : HO} (h : Ses α N H s st) (hl : H l = none) : Ses α (fun b => N b ∨ b = l) (upd H l o) s st := by
  obtain ⟨dx, ld, fp, ch, sd, wd, ml, h, n⟩ := h
  have sm : Same H (upd H l o) := Same.new hl
  have ne : ∀ b u, H b = some u → ¬ N b → ¬ (N b ∨ b = l) := fun b u e m z => by
    rcases z with z | z
    · exact m z
    · rw [z, hl] at e
      cases e
  have nm : ∀ b u, H b = some u → ¬ Mut N s ch sd wd b → ¬ Mut (fun b => N b ∨ b = l) s ch sd wd b := fun b u e m z => by
    rcases z with (z | z) | z
    · exact m (.inl z)
    · rw [z, hl] at e
      cases e
    · exact m (.inr z)
  obtain ⟨us, hu, _⟩ := id h.hch
  obtain ⟨vs, hv, _⟩ := id h.hml
  exact ⟨dx, ld, fp, ch, sd, wd, ml, ⟨sm _ _ h.obj, sm _ _ h.hld, sm _ _ h.hfp, (h.hch.mono nm).fr (fun b u e _ => sm b u e) ((sm _ _ hu).trans hu.symm), sm _ _ h.hsd, sm _ _ h.hwd, (h.hml.mono nm).fr (fun b u e _ => sm b u e) ((sm _ _ hv).trans hv.symm), nm _ _ h.hld h.nld, nm _ _ h.hfp h.nfp, nm _ _ hv h.nml, ne _ _ h.obj h.ns, ne _ _ hu h.nch, ne _ _ h.hsd h.nsd, ne _ _ h.hwd h.nwd, h.ne, fun b hb => by
    rcases hb with z | z
    · obtain ⟨u, e⟩ := h.trk b z
      exact ⟨u, sm _ _ e⟩
    · exact ⟨o, z ▸ upd_same⟩, h.wf⟩, n⟩
def spAns (K : PySem.W.Frag) : Sp := fun vs H Q _ => ∃ (a : Addr) (ns : List Int), vs = [.ref a] ∧ SqL K H a (ns.map V.int) ∧ ns.length ≤ 12120 ∧ PyCs03.answers_asked ns = true ∧
  ∀ (H' : Hp) (p : Addr), H' p = some (.lst ((PyCs03.answers ns).map V.int)) → Q (.ref p) H'
/-- what is asked, by parts -/
theorem asked_is {ns : List Int} (h : PyCs03.answers_asked ns = true) : ∃ raw : List NC, ns = raw.flatMap SL.flat ∧ raw.length ≤ 60 ∧ (∀ c ∈ raw, Parts c) ∧ PyCs03.answers ns = toldTo raw ∧ (toldTo raw).length ≤ 10000000 := by
  unfold PyCs03.answers_asked at h
  split at h
  · cases h
  · rename_i raw hraw
    rw [Bool.and_eq_true, Bool.and_eq_true, Bool.and_eq_true, Bool.and_eq_true, SL.map_whole] at h
    obtain ⟨⟨⟨⟨_, h2⟩, _⟩, h4⟩, h5⟩ := h
    obtain ⟨f1, f2⟩ := SL.calls_flat hraw
    have ea : PyCs03.answers ns = toldTo raw := by
      unfold PyCs03.answers PyCs03.calls
      rw [hraw]
      dsimp only
      rw [SL.map_whole]
      rfl
    refine ⟨raw, f1, of_decide_eq_true h2, fun c hc => ?_, ea, ?_⟩
    · obtain ⟨p, xs, rows, rfl, hs⟩ := f2 c hc
      unfold Cs03Neutral.asked at h4
      rw [Bool.and_eq_true] at h4
      exact parts hs (List.all_eq_true.mp h4.1 _ hc)
    · have := of_decide_eq_true h5
      rw [ea] at this
      exact this
/-- where a call stands in the list -/
theorem call_at {ns : List Int} {raw a b : List NC} {c : NC} {i : Nat} {xs : List Int} (h : ns = raw.flatMap SL.flat) (e : raw = a ++ c :: b) (hp : (i < 2 ∧ SL.flat c = (i : Int) :: (xs.length : Int) :: xs) ∨ (2 ≤ i ∧ tbN.lookup (i : Int) = some (xs.length : Int) ∧ SL.flat c = (i : Int) :: xs)) :
    ns[(a.flatMap SL.flat).length]? = some (i : Int) ∧ (i < 2 → ns[(a.flatMap SL.flat).length + 1]? = some (xs.length : Int)) ∧ (∃ A C, ns = A ++ (xs ++ C) ∧ A.length = if i < 2 then (a.flatMap SL.flat).length + 2 else (a.flatMap SL.flat).length + 1) ∧
      ((a ++ [c]).flatMap SL.flat).length = (if i < 2 then (a.flatMap SL.flat).length + 2 else (a.flatMap SL.flat).length + 1) + xs.length ∧ (a.flatMap SL.flat).length < ns.length := by
  have en : ns = a.flatMap SL.flat ++ (SL.flat c ++ b.flatMap SL.flat) := by
    rw [h, e, List.flatMap_append, List.flatMap_cons]
  have ef : (a ++ [c]).flatMap SL.flat = a.flatMap SL.flat ++ SL.flat c := by
    rw [List.flatMap_append, List.flatMap_cons, List.flatMap_nil, List.append_nil]
  rw [ef, en]
  generalize a.flatMap SL.flat = A
  generalize b.flatMap SL.flat = B
  rcases hp with ⟨h1, h2⟩ | ⟨h1, _, h2⟩
  · rw [h2, if_pos h1]
    refine ⟨?_, fun _ => ?_, ⟨A ++ [(i : Int), (xs.length : Int)], B, ?_, ?_⟩, ?_, ?_⟩
    · rw [List.getElem?_append_right (Nat.le_refl _), Nat.sub_self]
      rfl
    · rw [List.getElem?_append_right (Nat.le_succ _), show A.length.succ - A.length = 1 by omega]
      rfl
    · simp
    · simp
    · simp <;> omega
    · simp <;> omega
  · rw [h2, if_neg (by omega)]
    refine ⟨?_, fun z => absurd z (by omega), ⟨A ++ [(i : Int)], B, ?_, ?_⟩, ?_, ?_⟩
    · rw [List.getElem?_append_right (Nat.le_refl _), Nat.sub_self]
      rfl
    · simp
    · simp
    · simp <;> omega
    · simp <;> omega
theorem body_answers (T : Txt K mg α) (h_Session : C8.Mak P w K mg base 8 "Session" α.c_Session (spInitS α) []) (h_answer_call : C8.Cal P w K mg base 9 "answer_call" (spAC α) []) (h_numbers_start : C8.Cal P w K mg base 1 "numbers_start" (spSt K) []) (h_numbers_end : C8.Cal P w K mg base 2 "numbers_end" (spEn K) []) :
    BodyOk P w K mg base ["calls", "session", "answered", "at", "end", "answer"] "answers" s_answers 9 (spAns K) := by
  refine fun f cdv A outer s H vs Q E hr h => ⟨_, (pss_cons (ps_set (i := 1) sc_answers.nd rfl (Or.inl rfl) (pe_mk0 h_Session hr (by decide) (by rfl)))
    (pss_cons (ps_set (i := 2) sc_answers.nd rfl (Or.inl rfl) (pe_lst pa_nil))
    (pss_cons (ps_set (i := 3) sc_answers.nd rfl (Or.inl rfl) pe_int)
    (pss_cons (ps_while PassesOwn.never (pt_cmpR op_lt (pv 3) (pe_callB call_len_seq (by rfl) T.z_len (by decide +kernel) (pa_cons (pv 0) pa_nil)) (nomark _))
      (pss_cons (ps_set (i := 4) sc_answers.nd rfl (Or.inl rfl) (C8.pe_c h_numbers_end hr (by decide) (by rfl) (pa_cons (pv 0) (pa_cons (pv 3) pa_nil))))
    (pss_cons (ps_set (i := 5) sc_answers.nd rfl (Or.inl rfl) (C8.pe_c h_answer_call hr (by decide) (by rfl) (pa_cons (pv 1) (pa_cons (pe_ix ix_list (pv 0) (pv 3) (fun _ _ => rfl)) (pa_cons (pe_slice sl_list (pv 0) (po_some (C8.pe_c h_numbers_start hr (by decide) (by rfl) (pa_cons (pv 0) (pa_cons (pv 3) pa_nil)))) (po_some (pv 4))) pa_nil)))))
    (pss_cons (ps_expr (pe_bm PySem.F.plainAttrs_list PySem.F.slot_list_append PySem.F.type_list_append mt_append (pv 2) (pa_cons (pe_callB call_len_seq (by rfl) T.z_len (by decide +kernel) (pa_cons (pv 5) pa_nil)) pa_nil)))
    (pss_cons (ps_expr (pe_bm PySem.F.plainAttrs_list PySem.F.slot_list_extend PySem.F.type_list_extend mt_extend (pv 2) (pa_cons (pv 5) pa_nil)))
    (pss_one (ps_set (i := 3) sc_answers.nd rfl (Or.inl rfl) (pv 4))))))))
    (pss_one (ps_ret (pv 2))))))), ?_⟩
  · obtain ⟨l, ns, rfl, hl, hn, hask, k⟩ := h
    obtain ⟨raw, hraw, h60, hparts, hans, hshort⟩ := asked_is hask
    refine fun s dx hs hdx ne => ?_
    have s0 : Same H (upd (upd H dx (.own s)) s (.ins α.c_Session dx [])) := (Same.new hdx).trans (Same.new ((upd_ne ne.symm).trans hs))
    refine ⟨Old H, s, dx, rfl, upd_same, trk_old s0, not_old hs, fun H1 h1 f1 => ⟨rfl, ?_⟩⟩
    have s1 : Same H H1 := fun b o e => f1 b o (s0 b o e) (ne_of_none e hs)
    refine ⟨by show 0 ≤ sizeLine; decide, fun r hr' => ?_⟩
    have hrH : H r = none := s1.free hr'
    have h2 := h1.more (o := .lst []) hr'
    refine ⟨fun m σ H' => ∃ a b x y, raw = a ++ b ∧ m = b.length ∧ σ = [some (.ref l), some (.ref s), some (.ref r), some (nV (a.flatMap SL.flat).length), x, y] ∧ Ses α (fun b => Old H b ∨ b = r) H' s (stT Cs03.start a) ∧ H' r = some (.lst ((toldTo a).map V.int)) ∧ Same H H', ⟨_, [], raw, _, _, rfl, rfl, rfl, h2, upd_same, s1.trans (Same.new hr')⟩, ?_⟩
    rintro m σ H2 ⟨a, b, x, y, hab, rfl, rfl, hS, hr2, s2⟩
    have hl2 : SqL K H2 l (ns.map V.int) := s2.seq hl
    refine ⟨_, rfl, _, rfl, l, _, rfl, .inl hl2, _, _, rfl, rfl, _, rfl, ite2 (fun c => ?_) (fun c => ?_)⟩
    · have c : (((a.flatMap SL.flat).length : Nat) : Int) < (((ns.map V.int).length : Nat) : Int) := of_decide_eq_true c
      rw [List.length_map] at c
      cases b with
      | nil =>
        rw [List.append_nil] at hab
        rw [hraw, hab] at c
        omega
      | cons cc b =>
        obtain ⟨i, xs, q, hi, hq, hg, hx, hp⟩ := hparts cc (by rw [hab]; simp)
        obtain ⟨p1, p2, ⟨A1, C1, p3, p4⟩, p5, _⟩ := call_at hraw hab hp
        generalize ea : (a.flatMap SL.flat).length = at_ at *
        generalize ej : (if i < 2 then at_ + 2 else at_ + 1) = j at *
        have hp2 : (ns.map V.int)[at_]? = some (.int (i : Int)) := by rw [List.getElem?_map, p1]; rfl
        have hEn : ∀ Q' : VK, Q' (nV (j + xs.length)) H2 → spEn K [.ref l, nV at_] H2 Q' C8.E0 := fun Q' z => by
          refine ⟨l, ns, at_, i, xs.length, rfl, hl2, p1, ?_⟩
          rcases hp with ⟨z1, z2⟩ | ⟨z1, z2, z3⟩
          · rw [if_pos z1] at ej
            rw [← ej] at z
            exact .inl ⟨z1, p2 z1, z⟩
          · rw [if_neg (by omega)] at ej
            rw [← ej] at z
            exact .inr ⟨z1, z2, z⟩
        refine ⟨fun σ' H' => ∃ x y, σ' = [some (.ref l), some (.ref s), some (.ref r), some (nV ((a ++ [cc]).flatMap SL.flat).length), x, y] ∧ Ses α (fun b => Old H b ∨ b = r) H' s (stT Cs03.start (a ++ [cc])) ∧ H' r = some (.lst ((toldTo (a ++ [cc])).map V.int)) ∧ Same H H', fun σ' H' z => ?_, ?_⟩
        · obtain ⟨x, y, rfl, z1, z2, z3⟩ := z
          exact ⟨b.length, by rw [List.length_cons]; omega, a ++ [cc], b, x, y, by rw [hab, List.append_assoc]; rfl, rfl, rfl, z1, z2, z3⟩
        refine ⟨_, rfl, _, rfl, ?_⟩
        unfold tNil
        refine hEn _ ?_
        refine ⟨_, rfl, _, rfl, _, rfl, l, _, _, _, rfl, rfl, hl2, atI_nat hp2, _, rfl, _, rfl, _, rfl, l, ns, at_, i, rfl, hl2, p1, ?_⟩
        rw [ej]
        refine ⟨_, rfl, _, rfl, _, rfl, l, _, rfl, hl2, fun q1 hq1 => ?_⟩
        have ecut : cutV (ns.map V.int) (some (j : Int)) (some ((j + xs.length : Nat) : Int)) = xs.map V.int := by
          rw [p3]
          exact cut_is p4
        have s3 : Same H2 (upd H2 q1 (.lst (cutV (ns.map V.int) (some (j : Int)) (some ((j + xs.length : Nat) : Int))))) := Same.new hq1
        have hfew := stT_few a
        have hal : a.length ≤ 60 := by
          rw [hab, List.length_append] at h60
          omega
        refine ⟨_, s, q1, i, xs, stT Cs03.start a, q, rfl, hi, hS.same s3, by rw [upd_same, ecut], hS.trk.new hq1, hx, ⟨by omega, by omega⟩, hg, fun H3 q3 g1 g2 g3 g4 => ?_⟩
        have est := step_of (s := stT Cs03.start a) hq
        have hr3 : H3 r = some (.lst ((toldTo a).map V.int)) := g2 _ _ (s3 _ _ hr2) (.inr rfl)
        have nq3 : q3 ≠ r := fun z => g3 (.inr z)
        have s4 : Same H H3 := fun b o e => g2 b o (s3 b o (s2 b o e)) (.inl (by show H b ≠ none; rw [e]; exact fun z => by cases z))
        have etold := toldTo_snoc a cc
        rw [est] at etold
        have hbig : (toldTo (a ++ [cc])).length ≤ 10000000 := by
          refine Nat.le_trans (toldTo_le (a ++ [cc]) b) ?_
          rw [List.append_assoc]
          show (toldTo (a ++ (cc :: b))).length ≤ _
          rw [← hab]
          exact hshort
        have hbig2 := hbig
        rw [etold, List.length_append, List.length_cons] at hbig2
        have line : (10000000 : Nat) < sizeLine := by decide
        refine ⟨_, rfl, .inl ⟨rfl, _, SqL.of hr3⟩, _, rfl, q3, _, rfl, .inl (SqL.of g4), r, _, _, rfl, rfl, hr3, ?_, ?_⟩
        · rw [List.length_map]
          omega
        refine ⟨_, rfl, .inl ⟨rfl, _, SqL.of upd_same⟩, _, rfl, r, q3, _, _, rfl, rfl, upd_same, (upd_ne nq3).trans g4, ?_, ?_⟩
        · rw [List.length_append, List.length_map, List.length_map]
          show _ + 1 + _ ≤ _
          omega
        refine ⟨_, rfl, some (nV (j + xs.length)), some (.ref q3), ?_, ?_, ?_, ?_⟩
        · rw [p5]
          rfl
        · rw [stT_snoc, est]
          exact (g1.out (.inr rfl)).out (.inr rfl)
        · rw [upd_same, etold, List.map_append, List.append_assoc]
          congr 2
          rw [List.length_map]
          rfl
        · intro b o e
          rw [upd_ne (ne_of_none e hrH), upd_ne (ne_of_none e hrH)]
          exact s4 b o e
    · have c : ¬ (((a.flatMap SL.flat).length : Nat) : Int) < (((ns.map V.int).length : Nat) : Int) := fun z => c (decide_eq_true z)
      rw [List.length_map] at c
      cases b with
      | nil =>
        rw [List.append_nil] at hab
        refine ⟨_, rfl, k _ r ?_⟩
        rw [hr2, hans, hab]
      | cons cc b =>
        obtain ⟨i, xs, q, hi, hq, hg, hx, hp⟩ := hparts cc (by rw [hab]; simp)
        obtain ⟨_, _, _, _, p6⟩ := call_at hraw hab hp
        omega
end
end BR
/-! ## Top1 -/
set_option Elab.async false
set_option maxRecDepth 100000
set_option maxHeartbeats 2000000
set_option linter.unusedVariables false
namespace BR
open PySem PySem.Spec PyProof.Rows L2
section
variable {P : Program} {w : World} {K : PySem.W.Frag} {mg : Str → Option Value} {base : Heap} {α : Ads}
/-- a table of defs: the i-th is the def by its name -/
theorem tab_at {ns : List Str} {as : List Addr} (h : ns.map mg = as.map fun a => some (Value.ref a)) {i : Nat} {x : Str} (e : ns[i]? = some x) : ∃ f, as[i]? = some f ∧ mg x = some (.ref f) := by
  have q : (ns.map mg)[i]? = (as.map fun a => some (Value.ref a))[i]? := by rw [h]
  rw [List.getElem?_map, List.getElem?_map, e] at q
  cases c : as[i]? with
  | none =>
    rw [c] at q
    cases q
  | some f =>
    rw [c] at q
    exact ⟨f, rfl, Option.some.inj q⟩
theorem tab_cal {ns : List Str} {as : List Addr} (h : ns.map mg = as.map fun a => some (Value.ref a)) {i k : Nat} {x : Str} {sp : Sp} (e : ns[i]? = some x) (c : C8.Cal P w K mg base k x sp []) : ∃ f, as[i]? = some f ∧ C8.CalAt P w K mg base k f sp := by
  obtain ⟨f, h1, h2⟩ := tab_at h e
  exact ⟨f, h1, cal_at c h2⟩
theorem body_top (T : Txt K mg α) : BodyOk P w K mg base ["calls", "session", "answered", "at", "end", "answer"] "answers" s_answers 9 (spAns K) := by
  have mm : MM P w K mg base α.c_Machine := ⟨ok_set_a T, ok_set_x T, ok_jump_to T, ok_byte_at T, ok_put_a_at T⟩
  have hI : ∀ i, i < 16 → ∃ f, α.l_INSTRUCTIONS[i]? = some f ∧ C8.CalAt P w K mg base 2 f (spI α.c_Machine i) := by
    intro i hi
    rcases i with _ | _ | _ | _ | _ | _ | _ | _ | _ | _ | _ | _ | _ | _ | _ | _ | i
    · exact tab_cal T.nm_INSTRUCTIONS rfl (ok_rest T mm)
    · exact tab_cal T.nm_INSTRUCTIONS rfl (ok_a_is_n T mm)
    · exact tab_cal T.nm_INSTRUCTIONS rfl (ok_a_is_byte T mm)
    · exact tab_cal T.nm_INSTRUCTIONS rfl (ok_put_a T mm)
    · exact tab_cal T.nm_INSTRUCTIONS rfl (ok_a_is_byte_x_further T mm)
    · exact tab_cal T.nm_INSTRUCTIONS rfl (ok_put_a_x_further T mm)
    · exact tab_cal T.nm_INSTRUCTIONS rfl (ok_x_is_n T mm)
    · exact tab_cal T.nm_INSTRUCTIONS rfl (ok_add_n_to_x T mm)
    · exact tab_cal T.nm_INSTRUCTIONS rfl (ok_add_byte T mm)
    · exact tab_cal T.nm_INSTRUCTIONS rfl (ok_take_byte T mm)
    · exact tab_cal T.nm_INSTRUCTIONS rfl (ok_and_byte T mm)
    · exact tab_cal T.nm_INSTRUCTIONS rfl (ok_exclusive_or_byte T mm)
    · exact tab_cal T.nm_INSTRUCTIONS rfl (ok_jump T mm)
    · exact tab_cal T.nm_INSTRUCTIONS rfl (ok_jump_if_zero T mm)
    · exact tab_cal T.nm_INSTRUCTIONS rfl (ok_jump_if_not_zero T mm)
    · exact tab_cal T.nm_INSTRUCTIONS rfl (ok_jump_if_carry T mm)
    · omega
  have hdo := ok_do_instruction T mm hI
  have hadd : C8.Cal P w K mg base 3 "add_moment" (spAdd α) [] := ok_add T (ok_initMo T)
  have hrun := ok_run T (ok_initM T) (ok_group T) hadd (ok_frame T hadd hdo)
  have hfind := ok_find T hrun
  have hend : C8.Met P w K mg base 1 α.c_Session "end_number" (spEnd α) [] := ok_end T
  have hnow : C8.Met P w K mg base 1 α.c_Session "moment_now" (spNow α) [] := ok_now T
  have hplace : C8.Cal P w K mg base 1 "is_place" spPlace [] := ok_is_place T
  have hstart := ok_start T hfind
  have ms : MS P w K mg base α := ⟨hstart, ok_add_pads T hfind, ok_hand T hfind, ok_undo T hfind hend, hend, hnow, ok_where T hnow, ok_reason T hend, ok_last T, ok_all T, ok_are_bytes T, hplace, ok_tell_place T hplace⟩
  have har := ok_arrive T ms
  have hC : ∀ i, i < 14 → ∃ f, α.l_CALLS[i]? = some f ∧ C8.CalAt P w K mg base 8 f (spCall α (gC i)) := by
    intro i hi
    rcases i with _ | _ | _ | _ | _ | _ | _ | _ | _ | _ | _ | _ | _ | _ | i
    · exact tab_cal T.nm_CALLS rfl (ok_begin T ms)
    · exact tab_cal T.nm_CALLS rfl (ok_pads T ms)
    · exact tab_cal T.nm_CALLS rfl (ok_step T ms)
    · exact tab_cal T.nm_CALLS rfl (ok_back T ms)
    · exact tab_cal T.nm_CALLS rfl (ok_stop T ms)
    · exact tab_cal T.nm_CALLS rfl (ok_watch T ms)
    · exact tab_cal T.nm_CALLS rfl (ok_go T ms har)
    · exact tab_cal T.nm_CALLS rfl (ok_rewind T ms har)
    · exact tab_cal T.nm_CALLS rfl (ok_to T ms)
    · exact tab_cal T.nm_CALLS rfl (ok_wherec T ms)
    · exact tab_cal T.nm_CALLS rfl (ok_state T ms)
    · exact tab_cal T.nm_CALLS rfl (ok_wrote T ms)
    · exact tab_cal T.nm_CALLS rfl (ok_poke T ms)
    · exact tab_cal T.nm_CALLS rfl (ok_unpoke T ms)
    · omega
  exact body_answers T (ok_initS T hstart) (ok_answer_call T hC) (ok_numbers_start T) (ok_numbers_end T (ok_numbers_start T))
theorem end_mk {fa : Addr} (T : Txt K mg α) (hfa : mg "answers" = some (.ref fa)) : ∃ fd : FuncData, (∀ (s : Shared) (us : List Value), us.length = (["calls"] : List Str).length → BindsTo s fd ⟨us, []⟩ ((["calls"] : List Str).zip us)) ∧ ∀ base : Heap, K.In base → base.Ns mainGlobals mg → FnOk P w K mg base CX0 10 fa fd ["calls"] (spAns K) := by
  obtain ⟨f, fd, F, df⟩ := T.d_answers.ex
  have e : f = fa := by
    have q := F.mgf.symm.trans hfa
    injection Option.some.inj q
  subst e
  obtain ⟨oc, od, dV, kV, doc, pm, an, cdv, ct, osl, rfl, lk, hcd⟩ := id F.fn.ex
  have e : dV = .none := df
  subst e
  refine ⟨_, fun s us hu => match us, hu with | [_], _ => .of_eq rfl, fun base _ _ => C8.fn0 F.fn sc_answers (fun vs H Q E h => ?_) (body_top T f)⟩
  obtain ⟨a, ns, rfl, _⟩ := h
  rfl
end
end BR
/-! ## End1 -/
set_option Elab.async false
open PySem PySem.W PyProof.Rows
set_option maxRecDepth 100000 in
set_option maxHeartbeats 8000000 in
theorem PySem.Challenge.cw_backwardrun_s01_answers_holds : PySem.Challenge.rw_backwardrun_s01_answers.Holds := by
  w_on; k_headS; (case hw => exact ⟨[.list [.int 9]], by decide +kernel, by decide +kernel⟩)
  k_fillS
  refine L2.walk_specK (r := PySem.Challenge.rw_backwardrun_s01_answers) (k := 10) (CX := L2.CX0) (ps := ["calls"]) (sp := BR.spAns) (by decide +kernel) rfl rfl ⟨rfl, by decide, by decide⟩ (fun w h Y => PySem.W.kIn_of Y) ?F ?S (fun _ _ _ _ z => z)
  case F =>
    intro w mg fa h Y KX G hmg
    obtain ⟨α, T⟩ : ∃ α, BR.Txt _ mg α := by
      refine' BR.txt_mk ?f_c_Machine ?f_n_Machine_cells ?f_n_Machine_a ?f_n_Machine_x ?f_n_Machine_place ?f_n_Machine_zero ?f_n_Machine_carry ?f_n_Machine_written ?f_c_Moment ?f_n_Moment_frame ?f_n_Moment_done ?f_n_Moment_a ?f_n_Moment_x ?f_n_Moment_place ?f_n_Moment_zero ?f_n_Moment_carry ?f_n_Moment_cells ?f_n_Moment_written ?f_c_Session ?f_n_Session_loaded ?f_n_Session_frame_pads ?f_n_Session_changes ?f_n_Session_stop_places ?f_n_Session_watch_places ?f_n_Session_now ?f_n_Session_moments ?f_g_PLACES ?f_g_VALUES ?f_g_KINDS ?f_g_REST ?f_g_INSTRUCTIONS ?f_tab_INSTRUCTIONS ?f_nm_INSTRUCTIONS ?f_g_PAD_PLACE ?f_g_FRAME_LIMIT ?f_g_NO_REASON ?f_g_AT_A_STOP ?f_g_BEHIND_A_WATCHED_WRITE ?f_g_MOST_FRAMES ?f_g_MOST_CHANGES ?f_g_OUT_OF_BOUNDS ?f_g_NO_SUCH_INSTRUCTION ?f_g_TOO_MANY ?f_g_NONE_CHANGED ?f_g_CALLS ?f_tab_CALLS ?f_nm_CALLS ?f_g_ROW_CALLS ?f_tab_ROW_CALLS ?f_g_HOW_MANY_NUMBERS ?f_dic_HOW_MANY_NUMBERS ?f_z_len ?f_z_list ?f_z_int ?f_z_range ?f_z_enumerate ?f_z_min ?f_z_all ?f_z_max ?f_k_Machine ?f_m_Machine_byte_at ?f_m_Machine_put_a_at ?f_m_Machine_set_a ?f_m_Machine_set_x ?f_m_Machine_jump_to ?f_d_rest ?f_d_a_is_n ?f_d_a_is_byte ?f_d_put_a ?f_d_a_is_byte_x_further ?f_d_put_a_x_further ?f_d_x_is_n ?f_d_add_n_to_x ?f_d_add_byte ?f_d_take_byte ?f_d_and_byte ?f_d_exclusive_or_byte ?f_d_jump ?f_d_jump_if_zero ?f_d_jump_if_not_zero ?f_d_jump_if_carry ?f_d_do_instruction ?f_k_Moment ?f_m_Moment_all_numbers ?f_d_group_by_number ?f_d_add_moment ?f_d_add_frame ?f_d_moments_of_run ?f_k_Session ?f_m_Session_start_over ?f_m_Session_find_moments ?f_m_Session_add_pads ?f_m_Session_change_by_hand ?f_m_Session_undo_last_change ?f_m_Session_end_number ?f_m_Session_moment_now ?f_m_Session_where_now ?f_m_Session_reason_at ?f_m_Session_last_write ?f_d_are_bytes ?f_d_is_place ?f_d_begin ?f_d_pads ?f_d_step ?f_d_back ?f_d_tell_place ?f_d_stop ?f_d_watch ?f_d_arrive ?f_d_go ?f_d_rewind ?f_d_to ?f_d_where ?f_d_state ?f_d_wrote ?f_d_poke ?f_d_unpoke ?f_d_answer_call ?f_d_numbers_start ?f_d_numbers_end ?f_d_answers
      case f_k_Session => (refine' BR.mak_mk KX G ?g ?a ?i ?l ?c ?mk ?kc; (case g => k_is); (case a => k_is); (case i => k_is); (case l => k_is); (case c => k_is); (case mk => k_is); (case kc => k_is))
      case f_k_Moment => (refine' BR.mak_mk KX G ?g ?a ?i ?l ?c ?mk ?kc; (case g => k_is); (case a => k_is); (case i => k_is); (case l => k_is); (case c => k_is); (case mk => k_is); (case kc => k_is))
      case f_k_Machine => (refine' BR.mak_mk KX G ?g ?a ?i ?l ?c ?mk ?kc; (case g => k_is); (case a => k_is); (case i => k_is); (case l => k_is); (case c => k_is); (case mk => k_is); (case kc => k_is))
      case f_g_PLACES => (refine' BR.glob_mk KX G ?a ?r; (case a => k_is); (case r => exact ⟨_, rfl⟩))
      case f_g_VALUES => (refine' BR.glob_mk KX G ?a ?r; (case a => k_is); (case r => exact ⟨_, rfl⟩))
      case f_g_KINDS => (refine' BR.glob_mk KX G ?a ?r; (case a => k_is); (case r => exact ⟨_, rfl⟩))
      case f_g_REST => (refine' BR.glob_mk KX G ?a ?r; (case a => k_is); (case r => exact ⟨_, rfl⟩))
      case f_g_INSTRUCTIONS => (refine' BR.glob_mk KX G ?a ?r; (case a => k_is); (case r => exact rfl))
      case f_tab_INSTRUCTIONS => (refine' BR.tabF_mk (us := [_, _, _, _, _, _, _, _, _, _, _, _, _, _, _, _]) ?l ?e ?z; (case l => k_is); (case e => rfl); (case z => decide +kernel))
      case f_nm_INSTRUCTIONS => (exact (BR.nm_cons KX G (by k_is) (BR.nm_cons KX G (by k_is) (BR.nm_cons KX G (by k_is) (BR.nm_cons KX G (by k_is) (BR.nm_cons KX G (by k_is) (BR.nm_cons KX G (by k_is) (BR.nm_cons KX G (by k_is) (BR.nm_cons KX G (by k_is) (BR.nm_cons KX G (by k_is) (BR.nm_cons KX G (by k_is) (BR.nm_cons KX G (by k_is) (BR.nm_cons KX G (by k_is) (BR.nm_cons KX G (by k_is) (BR.nm_cons KX G (by k_is) (BR.nm_cons KX G (by k_is) (BR.nm_cons KX G (by k_is) rfl)))))))))))))))))
      case f_g_PAD_PLACE => (refine' BR.glob_mk KX G ?a ?r; (case a => k_is); (case r => exact ⟨_, rfl⟩))
      case f_g_FRAME_LIMIT => (refine' BR.glob_mk KX G ?a ?r; (case a => k_is); (case r => exact ⟨_, rfl⟩))
      case f_g_NO_REASON => (refine' BR.glob_mk KX G ?a ?r; (case a => k_is); (case r => exact ⟨_, rfl⟩))
      case f_g_AT_A_STOP => (refine' BR.glob_mk KX G ?a ?r; (case a => k_is); (case r => exact ⟨_, rfl⟩))
      case f_g_BEHIND_A_WATCHED_WRITE => (refine' BR.glob_mk KX G ?a ?r; (case a => k_is); (case r => exact ⟨_, rfl⟩))
      case f_g_MOST_FRAMES => (refine' BR.glob_mk KX G ?a ?r; (case a => k_is); (case r => exact ⟨_, rfl⟩))
      case f_g_MOST_CHANGES => (refine' BR.glob_mk KX G ?a ?r; (case a => k_is); (case r => exact ⟨_, rfl⟩))
      case f_g_OUT_OF_BOUNDS => (refine' BR.glob_mk KX G ?a ?r; (case a => k_is); (case r => exact ⟨_, rfl⟩))
      case f_g_NO_SUCH_INSTRUCTION => (refine' BR.glob_mk KX G ?a ?r; (case a => k_is); (case r => exact ⟨_, rfl⟩))
      case f_g_TOO_MANY => (refine' BR.glob_mk KX G ?a ?r; (case a => k_is); (case r => exact ⟨_, rfl⟩))
      case f_g_NONE_CHANGED => (refine' BR.glob_mk KX G ?a ?r; (case a => k_is); (case r => exact ⟨_, rfl⟩))
      case f_g_CALLS => (refine' BR.glob_mk KX G ?a ?r; (case a => k_is); (case r => exact rfl))
      case f_tab_CALLS => (refine' BR.tabF_mk (us := [_, _, _, _, _, _, _, _, _, _, _, _, _, _]) ?l ?e ?z; (case l => k_is); (case e => rfl); (case z => decide +kernel))
      case f_nm_CALLS => (exact (BR.nm_cons KX G (by k_is) (BR.nm_cons KX G (by k_is) (BR.nm_cons KX G (by k_is) (BR.nm_cons KX G (by k_is) (BR.nm_cons KX G (by k_is) (BR.nm_cons KX G (by k_is) (BR.nm_cons KX G (by k_is) (BR.nm_cons KX G (by k_is) (BR.nm_cons KX G (by k_is) (BR.nm_cons KX G (by k_is) (BR.nm_cons KX G (by k_is) (BR.nm_cons KX G (by k_is) (BR.nm_cons KX G (by k_is) (BR.nm_cons KX G (by k_is) rfl)))))))))))))))
      case f_g_ROW_CALLS => (refine' BR.glob_mk KX G ?a ?r; (case a => k_is); (case r => exact rfl))
      case f_tab_ROW_CALLS => (refine' BR.tab_mk ?l ?z ?r; (case l => k_is); (case z => decide +kernel); (case r => exact (.cons ⟨_, rfl⟩ (.cons ⟨_, rfl⟩ .nil))))
      case f_g_HOW_MANY_NUMBERS => (refine' BR.glob_mk KX G ?a ?r; (case a => k_is); (case r => exact rfl))
      case f_dic_HOW_MANY_NUMBERS => (refine' BR.dic_mk ?l ?hk ?hv; (case l => k_is); (case hk => decide +kernel); (case hv => decide +kernel))
      case f_c_Machine => (refine' ⟨?pg, ?hd, ?po, ?sa⟩; (case pg => k_is); (case hd => k_is); (case po => k_is); (case sa => k_is))
      case f_n_Machine_cells => k_is
      case f_n_Machine_a => k_is
      case f_n_Machine_x => k_is
      case f_n_Machine_place => k_is
      case f_n_Machine_zero => k_is
      case f_n_Machine_carry => k_is
      case f_n_Machine_written => k_is
      case f_c_Moment => (refine' ⟨?pg, ?hd, ?po, ?sa⟩; (case pg => k_is); (case hd => k_is); (case po => k_is); (case sa => k_is))
      case f_n_Moment_frame => k_is
      case f_n_Moment_done => k_is
      case f_n_Moment_a => k_is
      case f_n_Moment_x => k_is
      case f_n_Moment_place => k_is
      case f_n_Moment_zero => k_is
      case f_n_Moment_carry => k_is
      case f_n_Moment_cells => k_is
      case f_n_Moment_written => k_is
      case f_c_Session => (refine' ⟨?pg, ?hd, ?po, ?sa⟩; (case pg => k_is); (case hd => k_is); (case po => k_is); (case sa => k_is))
      case f_n_Session_loaded => k_is
      case f_n_Session_frame_pads => k_is
      case f_n_Session_changes => k_is
      case f_n_Session_stop_places => k_is
      case f_n_Session_watch_places => k_is
      case f_n_Session_now => k_is
      case f_n_Session_moments => k_is
      case f_z_len => (refine' PySem.W.mg_none_of KX G ?a; (case a => k_is))
      case f_z_list => (refine' PySem.W.mg_none_of KX G ?a; (case a => k_is))
      case f_z_int => (refine' PySem.W.mg_none_of KX G ?a; (case a => k_is))
      case f_z_range => (refine' PySem.W.mg_none_of KX G ?a; (case a => k_is))
      case f_z_enumerate => (refine' PySem.W.mg_none_of KX G ?a; (case a => k_is))
      case f_z_min => (refine' PySem.W.mg_none_of KX G ?a; (case a => k_is))
      case f_z_all => (refine' PySem.W.mg_none_of KX G ?a; (case a => k_is))
      case f_z_max => (refine' PySem.W.mg_none_of KX G ?a; (case a => k_is))
      case f_m_Machine_byte_at => (refine' BR.met_mk ?a ?i ?l ?c ?k; (case a => k_is); (case i => k_is); (case l => k_is); (case c => k_is); (case k => k_is))
      case f_m_Machine_put_a_at => (refine' BR.met_mk ?a ?i ?l ?c ?k; (case a => k_is); (case i => k_is); (case l => k_is); (case c => k_is); (case k => k_is))
      case f_m_Machine_set_a => (refine' BR.met_mk ?a ?i ?l ?c ?k; (case a => k_is); (case i => k_is); (case l => k_is); (case c => k_is); (case k => k_is))
      case f_m_Machine_set_x => (refine' BR.met_mk ?a ?i ?l ?c ?k; (case a => k_is); (case i => k_is); (case l => k_is); (case c => k_is); (case k => k_is))
      case f_m_Machine_jump_to => (refine' BR.met_mk ?a ?i ?l ?c ?k; (case a => k_is); (case i => k_is); (case l => k_is); (case c => k_is); (case k => k_is))
      case f_d_rest => (refine' BR.def_mk KX G ?a ?l ?c ?k; (case a => k_is); (case l => k_is); (case c => k_is); (case k => k_is))
      case f_d_a_is_n => (refine' BR.def_mk KX G ?a ?l ?c ?k; (case a => k_is); (case l => k_is); (case c => k_is); (case k => k_is))
      case f_d_a_is_byte => (refine' BR.def_mk KX G ?a ?l ?c ?k; (case a => k_is); (case l => k_is); (case c => k_is); (case k => k_is))
      case f_d_put_a => (refine' BR.def_mk KX G ?a ?l ?c ?k; (case a => k_is); (case l => k_is); (case c => k_is); (case k => k_is))
      case f_d_a_is_byte_x_further => (refine' BR.def_mk KX G ?a ?l ?c ?k; (case a => k_is); (case l => k_is); (case c => k_is); (case k => k_is))
      case f_d_put_a_x_further => (refine' BR.def_mk KX G ?a ?l ?c ?k; (case a => k_is); (case l => k_is); (case c => k_is); (case k => k_is))
      case f_d_x_is_n => (refine' BR.def_mk KX G ?a ?l ?c ?k; (case a => k_is); (case l => k_is); (case c => k_is); (case k => k_is))
      case f_d_add_n_to_x => (refine' BR.def_mk KX G ?a ?l ?c ?k; (case a => k_is); (case l => k_is); (case c => k_is); (case k => k_is))
      case f_d_add_byte => (refine' BR.def_mk KX G ?a ?l ?c ?k; (case a => k_is); (case l => k_is); (case c => k_is); (case k => k_is))
      case f_d_take_byte => (refine' BR.def_mk KX G ?a ?l ?c ?k; (case a => k_is); (case l => k_is); (case c => k_is); (case k => k_is))
      case f_d_and_byte => (refine' BR.def_mk KX G ?a ?l ?c ?k; (case a => k_is); (case l => k_is); (case c => k_is); (case k => k_is))
      case f_d_exclusive_or_byte => (refine' BR.def_mk KX G ?a ?l ?c ?k; (case a => k_is); (case l => k_is); (case c => k_is); (case k => k_is))
      case f_d_jump => (refine' BR.def_mk KX G ?a ?l ?c ?k; (case a => k_is); (case l => k_is); (case c => k_is); (case k => k_is))
      case f_d_jump_if_zero => (refine' BR.def_mk KX G ?a ?l ?c ?k; (case a => k_is); (case l => k_is); (case c => k_is); (case k => k_is))
      case f_d_jump_if_not_zero => (refine' BR.def_mk KX G ?a ?l ?c ?k; (case a => k_is); (case l => k_is); (case c => k_is); (case k => k_is))
      case f_d_jump_if_carry => (refine' BR.def_mk KX G ?a ?l ?c ?k; (case a => k_is); (case l => k_is); (case c => k_is); (case k => k_is))
      case f_d_do_instruction => (refine' BR.def_mk KX G ?a ?l ?c ?k; (case a => k_is); (case l => k_is); (case c => k_is); (case k => k_is))
      case f_m_Moment_all_numbers => (refine' BR.met_mk ?a ?i ?l ?c ?k; (case a => k_is); (case i => k_is); (case l => k_is); (case c => k_is); (case k => k_is))
      case f_d_group_by_number => (refine' BR.def_mk KX G ?a ?l ?c ?k; (case a => k_is); (case l => k_is); (case c => k_is); (case k => k_is))
      case f_d_add_moment => (refine' BR.def_mk KX G ?a ?l ?c ?k; (case a => k_is); (case l => k_is); (case c => k_is); (case k => k_is))
      case f_d_add_frame => (refine' BR.def_mk KX G ?a ?l ?c ?k; (case a => k_is); (case l => k_is); (case c => k_is); (case k => k_is))
      case f_d_moments_of_run => (refine' BR.def_mk KX G ?a ?l ?c ?k; (case a => k_is); (case l => k_is); (case c => k_is); (case k => k_is))
      case f_m_Session_start_over => (refine' BR.met_mk ?a ?i ?l ?c ?k; (case a => k_is); (case i => k_is); (case l => k_is); (case c => k_is); (case k => k_is))
      case f_m_Session_find_moments => (refine' BR.met_mk ?a ?i ?l ?c ?k; (case a => k_is); (case i => k_is); (case l => k_is); (case c => k_is); (case k => k_is))
      case f_m_Session_add_pads => (refine' BR.met_mk ?a ?i ?l ?c ?k; (case a => k_is); (case i => k_is); (case l => k_is); (case c => k_is); (case k => k_is))
      case f_m_Session_change_by_hand => (refine' BR.met_mk ?a ?i ?l ?c ?k; (case a => k_is); (case i => k_is); (case l => k_is); (case c => k_is); (case k => k_is))
      case f_m_Session_undo_last_change => (refine' BR.met_mk ?a ?i ?l ?c ?k; (case a => k_is); (case i => k_is); (case l => k_is); (case c => k_is); (case k => k_is))
      case f_m_Session_end_number => (refine' BR.met_mk ?a ?i ?l ?c ?k; (case a => k_is); (case i => k_is); (case l => k_is); (case c => k_is); (case k => k_is))
      case f_m_Session_moment_now => (refine' BR.met_mk ?a ?i ?l ?c ?k; (case a => k_is); (case i => k_is); (case l => k_is); (case c => k_is); (case k => k_is))
      case f_m_Session_where_now => (refine' BR.met_mk ?a ?i ?l ?c ?k; (case a => k_is); (case i => k_is); (case l => k_is); (case c => k_is); (case k => k_is))
      case f_m_Session_reason_at => (refine' BR.met_mk ?a ?i ?l ?c ?k; (case a => k_is); (case i => k_is); (case l => k_is); (case c => k_is); (case k => k_is))
      case f_m_Session_last_write => (refine' BR.met_mk ?a ?i ?l ?c ?k; (case a => k_is); (case i => k_is); (case l => k_is); (case c => k_is); (case k => k_is))
      case f_d_are_bytes => (refine' BR.def_mk KX G ?a ?l ?c ?k; (case a => k_is); (case l => k_is); (case c => k_is); (case k => k_is))
      case f_d_is_place => (refine' BR.def_mk KX G ?a ?l ?c ?k; (case a => k_is); (case l => k_is); (case c => k_is); (case k => k_is))
      case f_d_begin => (refine' BR.def_mk KX G ?a ?l ?c ?k; (case a => k_is); (case l => k_is); (case c => k_is); (case k => k_is))
      case f_d_pads => (refine' BR.def_mk KX G ?a ?l ?c ?k; (case a => k_is); (case l => k_is); (case c => k_is); (case k => k_is))
      case f_d_step => (refine' BR.def_mk KX G ?a ?l ?c ?k; (case a => k_is); (case l => k_is); (case c => k_is); (case k => k_is))
      case f_d_back => (refine' BR.def_mk KX G ?a ?l ?c ?k; (case a => k_is); (case l => k_is); (case c => k_is); (case k => k_is))
      case f_d_tell_place => (refine' BR.def_mk KX G ?a ?l ?c ?k; (case a => k_is); (case l => k_is); (case c => k_is); (case k => k_is))
      case f_d_stop => (refine' BR.def_mk KX G ?a ?l ?c ?k; (case a => k_is); (case l => k_is); (case c => k_is); (case k => k_is))
      case f_d_watch => (refine' BR.def_mk KX G ?a ?l ?c ?k; (case a => k_is); (case l => k_is); (case c => k_is); (case k => k_is))
      case f_d_arrive => (refine' BR.def_mk KX G ?a ?l ?c ?k; (case a => k_is); (case l => k_is); (case c => k_is); (case k => k_is))
      case f_d_go => (refine' BR.def_mk KX G ?a ?l ?c ?k; (case a => k_is); (case l => k_is); (case c => k_is); (case k => k_is))
      case f_d_rewind => (refine' BR.def_mk KX G ?a ?l ?c ?k; (case a => k_is); (case l => k_is); (case c => k_is); (case k => k_is))
      case f_d_to => (refine' BR.def_mk KX G ?a ?l ?c ?k; (case a => k_is); (case l => k_is); (case c => k_is); (case k => k_is))
      case f_d_where => (refine' BR.def_mk KX G ?a ?l ?c ?k; (case a => k_is); (case l => k_is); (case c => k_is); (case k => k_is))
      case f_d_state => (refine' BR.def_mk KX G ?a ?l ?c ?k; (case a => k_is); (case l => k_is); (case c => k_is); (case k => k_is))
      case f_d_wrote => (refine' BR.def_mk KX G ?a ?l ?c ?k; (case a => k_is); (case l => k_is); (case c => k_is); (case k => k_is))
      case f_d_poke => (refine' BR.def_mk KX G ?a ?l ?c ?k; (case a => k_is); (case l => k_is); (case c => k_is); (case k => k_is))
      case f_d_unpoke => (refine' BR.def_mk KX G ?a ?l ?c ?k; (case a => k_is); (case l => k_is); (case c => k_is); (case k => k_is))
      case f_d_answer_call => (refine' BR.def_mk KX G ?a ?l ?c ?k; (case a => k_is); (case l => k_is); (case c => k_is); (case k => k_is))
      case f_d_numbers_start => (refine' BR.def_mk KX G ?a ?l ?c ?k; (case a => k_is); (case l => k_is); (case c => k_is); (case k => k_is))
      case f_d_numbers_end => (refine' BR.def_mk KX G ?a ?l ?c ?k; (case a => k_is); (case l => k_is); (case c => k_is); (case k => k_is))
      case f_d_answers => (refine' BR.def_mk KX G ?a ?l ?c ?k; (case a => k_is); (case l => k_is); (case c => k_is); (case k => k_is))
    exact BR.end_mk T hmg
  case S =>
    intro K H xs a hO hwi hask hx
    cases hx with
    | cons h1 h2 =>
      cases h2
      cases h1 with
      | lst hs ha =>
        have e := L2.ints_dw a.1 _ ha
        subst e
        have q : ((Codec.inLen 0 12120 a.1 && a.1.all (Codec.inInt (-1000000) 1000000)) && true) = true := hwi
        rw [Bool.and_eq_true, Bool.and_eq_true] at q
        exact ⟨_, a.1, rfl, hs, (Codec.inNat_iff.mp q.1.1).2, hask, fun H' p hp => .lst (L2.SqL.of hp) (L2.dw_ints _)⟩
