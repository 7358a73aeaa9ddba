import PyProof.Rows.All
import Wide.All
import OpenK.AllK
import Wide.FinOn
import Open.SpecLaws
import KE.OsGo
import HandS.ForSpec
import HandS.ForMost
import HandS.Walk
import HandS.More
import HandS.CallLocal
import PySem.Challenge.RW_flowrules_s01_answers
set_option Elab.async false
set_option maxRecDepth 100000
set_option maxHeartbeats 8000000
namespace Fr
open PySem PySem.Spec PyProof.Rows L2
/-! ### F0. The text by places; defs, classes and methods as they stand behind the top -/
def top (i : Nat) : Stmt := PySem.Challenge.pw_flowrules_s01_answers.main.body.getD i (.Pass ⟨0, 0, 0, 0⟩)
/-- a def that is found by its name, with its promise -/
def Has (P : Program) (w : World) (K : PySem.W.Frag) (mg : Str → Option Value) (base : Heap) (k : Nat) (x : Str) (ps : List Str) (sp : Sp) : Prop :=
  ∃ (f : Addr) (fd : FuncData), FnOk P w K mg base CX0 k f fd ps sp ∧ mg x = some (.ref f) ∧ PySem.W.keepIn K (.ref f) = true ∧ Binds K fd ps []
/-- a class that is found by its name, with its __init__'s promise -/
def HasC (P : Program) (w : World) (K : PySem.W.Frag) (mg : Str → Option Value) (base : Heap) (k : Nat) (x : Str) (C : Addr) (ps : List Str) (sp : Sp) : Prop :=
  ∃ (f : Addr) (fd : FuncData), FnOk P w K mg base CX0 k f fd ps sp ∧ mg x = some (.ref C) ∧ Mk K C f ∧ Binds K fd ps []
/-- a method of a class, with its promise -/
def HasM (P : Program) (w : World) (K : PySem.W.Frag) (mg : Str → Option Value) (base : Heap) (k : Nat) (C : Addr) (m : Str) (ps : List Str) (sp : Sp) : Prop :=
  ∃ (f : Addr) (fd : FuncData), FnOk P w K mg base CX0 k f fd ps sp ∧ Cls K C ∧ Meth K C m f ∧ Binds K fd ps []
def tCa (sp : Sp) (t : TA) : TE := fun σ H Q => t σ H fun vs H1 => sp vs H1 Q E0
def tMk (C : Addr) (sp : Sp) (t : TA) : TE := fun σ H Q => t σ H fun vs H1 => ∀ x dx, H1 x = none → H1 dx = none → dx ≠ x → sp (.ref x :: vs) (upd (upd H1 dx (.own x)) x (.ins C dx [])) (fun v H2 => v = .non ∧ Q (.ref x) H2) E0
def tMe (C : Addr) (m : Str) (sp : Sp) (ta : TE) (t : TA) : TE := fun σ H Q => ta σ H fun x H1 => ∃ a dx fs, x = .ref a ∧ H1 a = some (.ins C dx fs) ∧ fs.lookup m = none ∧ t σ H1 fun vs H2 => sp (x :: vs) H2 Q E0
/-- of several classes: the promise goes with the class -/
def tMeA (S : Addr → Sp → Prop) (m : Str) (ta : TE) (t : TA) : TE := fun σ H Q => ta σ H fun x H1 => ∃ C sp a dx fs, S C sp ∧ x = .ref a ∧ H1 a = some (.ins C dx fs) ∧ fs.lookup m = none ∧ t σ H1 fun vs H2 => sp (x :: vs) H2 Q E0
/-- of several defs that the slot may hold -/
def tVa (i : Nat) (S : Addr → Sp → Prop) (t : TA) : TE := fun σ H Q => ∃ f sp, S f sp ∧ σ[i]? = some (some (.ref f)) ∧ t σ H fun vs H1 => sp vs H1 Q E0
/-- what the library's rules ask of a call's text: no star among the arguments, a method's call reads as one -/
abbrev OneMore (X : Cx) (e : Expr) (es : List Expr) : Prop := starEach (e :: es) X.env = (false, eval e X.env) :: starEach es X.env
abbrev NoStar (X : Cx) (pos : Pos) (es : List Expr) : Prop := (backTo pos (starEach es X.env)).any (·.1) = false
abbrev ReadsM (X : Cx) (o : Expr) (m : Str) (apos pos : Pos) (es : List Expr) (pl : Sem Bool) : Prop :=
  eval (.Call (.Attribute o m apos) es [] pos) X.env = (do let ov ← eval o X.env; standAt apos.atName; let (f, fi) ← holding [ov] (getMethod ov m pl); callWith pos f fi (backTo pos (starEach es X.env)) (backToKw pos (keywordEach [] X.env)))
section
variable {X : Cx} {k j : Nat} {ps : List Str} {sp : Sp} {x m : Str} {p pos apos : Pos} {e o : Expr} {es : List Expr} {t : TA} {ta : TE} {C : Addr}
theorem nil_app {R : List V → Prop} {vs : List V} (h : R vs) : R (vs ++ []) := by
  rw [List.append_nil]
  exact h
theorem tca_mono {sp : Sp} {t : TA} {σ : L2.St} {H : Hp} {Q : VK} (h : tCa sp t σ H Q) : tCall sp [] E0 t σ H Q := by
  have e0 : (fun (vs : List V) (H1 : Hp) => sp (vs ++ []) H1 Q E0) = fun vs H1 => sp vs H1 Q E0 := by
    funext vs H1
    rw [List.append_nil]
  show t σ H (fun vs H1 => sp (vs ++ []) H1 Q E0)
  rw [e0]
  exact h
theorem pe_hca (h : Has X.prog X.w X.K X.mg X.base k x ps sp) (hr : Room j X.A) (hj : k ≤ j) (hg : Gl X x) (ha : PA X (e :: es) t) (hdb : (x == ("__debug__" : Str)) = false := by decide)
    (he : OneMore X e es := by rfl) (hpl : NoStar X pos es := by rfl) : PE X (.Call (.Name x p) (e :: es) [] pos) (tCa sp t) := by
  obtain ⟨f, fd, F, hm, hk, hb⟩ := h
  exact ⟨fun pins s σ H Q I q => (pe_call (p := p) F (hr.mono hj) hg hm hk hb .nil pass0 ha hdb he hpl).run pins s σ H Q I (tca_mono q)⟩
theorem pe_hmk (h : HasC X.prog X.w X.K X.mg X.base k x C ps sp) (hr : Room j X.A) (hj : k + 1 ≤ j) (hg : Gl X x) (ha : PA X (e :: es) t) (hdb : (x == ("__debug__" : Str)) = false := by decide)
    (he : OneMore X e es := by rfl) (hpl : NoStar X pos es := by rfl) : PE X (.Call (.Name x p) (e :: es) [] pos) (tMk C sp t) := by
  obtain ⟨f, fd, F, hm, M, hb⟩ := h
  refine ⟨fun pins s σ H Q I q => (pe_make (p := p) M F (hr.mono hj) hg hm hb .nil pass0 ha hdb he hpl).run pins s σ H Q I ?_⟩
  have e0 : (fun (vs : List V) (H1 : Hp) => ∀ x dx, H1 x = none → H1 dx = none → dx ≠ x → sp (.ref x :: (vs ++ [])) (upd (upd H1 dx (.own x)) x (.ins C dx [])) (fun v H2 => v = .non ∧ Q (.ref x) H2) E0)
      = fun vs H1 => ∀ x dx, H1 x = none → H1 dx = none → dx ≠ x → sp (.ref x :: vs) (upd (upd H1 dx (.own x)) x (.ins C dx [])) (fun v H2 => v = .non ∧ Q (.ref x) H2) E0 := by
    funext vs H1
    rw [List.append_nil]
  show t σ H (fun vs H1 => ∀ x dx, H1 x = none → H1 dx = none → dx ≠ x → sp (.ref x :: (vs ++ [])) (upd (upd H1 dx (.own x)) x (.ins C dx [])) (fun v H2 => v = .non ∧ Q (.ref x) H2) E0)
  rw [e0]
  exact q
theorem pe_hme {pl : Sem Bool} (h : HasM X.prog X.w X.K X.mg X.base k C m ps sp) (hr : Room j X.A) (hj : k ≤ j) (ho : PE X o ta) (ha : PA X (e :: es) t)
    (hst : OneMore X e es := by rfl) (hpl : NoStar X pos es := by rfl) (ht : ReadsM X o m apos pos (e :: es) pl := by rfl) :
    PE X (.Call (.Attribute o m apos) (e :: es) [] pos) (tMe C m sp ta t) := by
  obtain ⟨f, fd, F, c, hm, hb⟩ := h
  refine ⟨fun pins s σ H Q I q => (pe_meth ho c hm F (hr.mono hj) hb .nil pass0 ha hst hpl ht).run pins s σ H Q I ?_⟩
  have e0 : (fun (v : V) (H1 : Hp) => ∃ a dx fs, v = .ref a ∧ H1 a = some (.ins C dx fs) ∧ fs.lookup m = none ∧ t σ H1 fun vs H2 => sp (v :: (vs ++ [])) H2 Q E0)
      = fun v H1 => ∃ a dx fs, v = .ref a ∧ H1 a = some (.ins C dx fs) ∧ fs.lookup m = none ∧ t σ H1 fun vs H2 => sp (v :: vs) H2 Q E0 := by
    funext v H1
    have e1 : (fun (vs : List V) (H2 : Hp) => sp (v :: (vs ++ [])) H2 Q E0) = fun vs H2 => sp (v :: vs) H2 Q E0 := by
      funext vs H2
      rw [List.append_nil]
    rw [e1]
  show ta σ H (fun v H1 => ∃ a dx fs, v = .ref a ∧ H1 a = some (.ins C dx fs) ∧ fs.lookup m = none ∧ t σ H1 fun vs H2 => sp (v :: (vs ++ [])) H2 Q E0)
  rw [e0]
  exact q
/-- a method without arguments -/
theorem pe_hme0 {pl : Sem Bool} (h : HasM X.prog X.w X.K X.mg X.base k C m ps sp) (hr : Room j X.A) (hj : k ≤ j) (ho : PE X o ta)
    (ht : ReadsM X o m apos pos [] pl := by rfl) :
    PE X (.Call (.Attribute o m apos) [] [] pos) (tMe C m sp ta tNil) := by
  obtain ⟨f, fd, F, c, hm, hb⟩ := h
  exact ⟨fun pins s σ H Q I q => (pe_meth0 ho c hm F (hr.mono hj) hb .nil pass0 ht).run pins s σ H Q I q⟩
/-- the same where the class is known only behind the receiver's reading -/
theorem pe_hmeA {pl : Sem Bool} {S : Addr → Sp → Prop} (h : ∀ C sp, S C sp → ∃ ps, HasM X.prog X.w X.K X.mg X.base k C m ps sp) (hr : Room j X.A) (ho : PE X o ta) (ha : PA X (e :: es) t) (hj : k ≤ j := by decide)
    (hst : OneMore X e es := by rfl) (hpl : NoStar X pos es := by rfl) (ht : ReadsM X o m apos pos (e :: es) pl := by rfl) :
    PE X (.Call (.Attribute o m apos) (e :: es) [] pos) (tMeA S m ta t) := by
  constructor
  intro pins s σ H Q I q
  refine PySem.W.methodCall_KW (pl := pl) (thn (ho.run pins s σ H _ I q) fun u s1 ⟨x, H1, I1, rx, C, sp, a, dx, fs, hS, ex, ea, l, q⟩ => ?_) ht
  obtain ⟨ps, f, fd, F, c, hm, hb⟩ := h C sp hS
  subst ex
  have ru : u = .ref a := rx
  subst ru
  refine getmeth_ok I1 ea c hm l (PySem.W.callWith_K (first := [.ref a]) (h₀ := X.base) I.ok.mod.kin hm.kp (thn (ha.run pos pins s1 σ H1 _ I1 q) fun us s2 ⟨vs, H2, I2, r, q2⟩ => ⟨I2.kIn, ?_⟩) hst hpl)
  refine run_fn (us := .ref a :: us) (vs := .ref a :: vs) (dvs := []) F (hr.mono hj) hb .nil pass0 I2 (.cons rfl r) ?_
  exact nil_app (R := fun l => sp l H2 Q E0) q2
theorem pe_hva {i : Nat} {S : Addr → Sp → Prop} (h : ∀ f sp, S f sp → ∃ (fd : FuncData) (ps : List Str), FnOk X.prog X.w X.K X.mg X.base CX0 k f fd ps sp ∧ PySem.W.keepIn X.K (.ref f) = true ∧ Binds X.K fd ps [])
    (hr : Room j X.A) (hj : k ≤ j) (ha : PA X (e :: es) t) (hN : X.N[i]? = some x := by rfl) (hv : Vis X.env.scope x := by first | exact Or.inl rfl | exact Or.inr (Or.inl rfl) | exact Or.inr (Or.inr rfl))
    (hcd : (x == ("__classdict__" : Str)) = false := by decide) (hdb : (x == ("__debug__" : Str)) = false := by decide) (he : OneMore X e es := by rfl) (hpl : NoStar X pos es := by rfl) : PE X (.Call (.Name x p) (e :: es) [] pos) (tVa i S t) := by
  constructor
  intro pins s σ H Q I q
  obtain ⟨f, sp, hS, hs, q⟩ := q
  obtain ⟨fd, ps, F, hk, hb⟩ := h f sp hS
  refine (pe_callL (i := i) (f := f) (p := p) F (hr.mono hj) hN hv hk hb .nil pass0 ha hdb hcd he hpl).run pins s σ H Q I ⟨hs, ?_⟩
  have e0 : (fun (vs : List V) (H1 : Hp) => sp (vs ++ []) H1 Q E0) = fun vs H1 => sp vs H1 Q E0 := by
    funext vs H1
    rw [List.append_nil]
  show t σ H (fun vs H1 => sp (vs ++ []) H1 Q E0)
  rw [e0]
  exact q
theorem pe_gi {i : Int} (h : ∃ u, X.mg x = some (.int i u)) (hg : Gl X x := by rfl) (hd : (x == ("__debug__" : Str)) = false := by decide) : PE X (.Name x p) (tC (.int i)) := by
  obtain ⟨u, h⟩ := h
  exact pe_glob hg h ⟨u, rfl⟩ hd
theorem pe_gr {a : Addr} (h : X.mg x = some (.ref a)) (hg : Gl X x := by rfl) (hd : (x == ("__debug__" : Str)) = false := by decide) : PE X (.Name x p) (tC (.ref a)) := pe_glob hg h rfl hd
/-- the same rules with the written part named (within a comprehension) -/
def rLenK (K : PySem.W.Frag) : List V → Hp → VK → Prop := fun xs H Q => ∃ p ys, xs = [.ref p] ∧ (SqL K H p ys ∨ SqT K H p ys) ∧ Q (.int ys.length) H
theorem call_lenK {K : PySem.W.Frag} (h : X.K = K) : CallR X (.builtin "len") (rLenK K) := by
  subst h
  exact call_len_seq
theorem ix_listK {K : PySem.W.Frag} (h : X.K = K) : IxR X (rIxL K) := by
  subst h
  exact ix_list
theorem pe_fldK {K : PySem.W.Frag} {f : Str} (h : X.K = K) (he : PE X e ta) (hb : attributeBase e f X.env (eval e X.env) = eval e X.env) : PE X (.Attribute e f pos) (tFld K ta f) := by
  subst h
  exact pe_fld he hb
/-- a dict of the module with written whole numbers as keys -/
def keysInt (l : List DictEntry) : Bool := l.all fun e => match e.key with
  | .int k _ => e.hash == hashInt k
  | _ => false
def KInt (K : PySem.W.Frag) (a : Addr) (i : Int) (v : V) : Prop :=
  ∃ es n u, K.lookup a = some ⟨.type "dict", none, .dict es n, #[]⟩ ∧ keysInt es.toList = true ∧ findBy Value.isInt es i = some u ∧ RelV v u
def rKint (K : PySem.W.Frag) : R2 := fun x y H Q => ∃ p i v, x = .ref p ∧ y = .int i ∧ KInt K p i v ∧ Q v H
theorem ix_kint : IxR X (rKint X.K) := by
  rintro value slice pins s σ H x y v u Q I rx ry ⟨p, i, r, rfl, rfl, ⟨es, n, u0, hl, hk, e, ru⟩, q⟩ hs
  have rv : v = .ref p := rx
  subst rv
  obtain ⟨t, rfl⟩ := ry
  have hm : s.heap.MapOf (intKind X.prog X.w) p (fun k => findBy Value.isInt es k) := by
    refine ⟨_, es, n, I.kIn _ _ hl, ⟨rfl, rfl, rfl⟩, rfl, fun d hd => ?_, fun _ => rfl⟩
    have z := List.all_eq_true.mp hk d (Array.mem_toList_iff.mpr hd)
    split at z
    · rename_i k t e1
      exact ⟨k, by rw [e1]; simp [intKind, Value.isInt], eq_of_beq z⟩
    · cases z
  exact tail_any hm.typeIs slot_dict_getitem.lookup (wpAny_getItem_of (knd := intKind X.prog X.w) (k := i) (by simp [intKind, Value.isInt]) hm e ⟨r, H, I.tok _, ru, q⟩) hs
end
end Fr

namespace Fr
open PySem PySem.Spec PyProof.Rows L2
/-! ### F0b. Facts of the top; small words about heaps and lists -/
/-- where the classes and the two tables stand -/
structure As where
  Call : Addr
  Rule : Addr
  PutChange : Addr
  OutChange : Addr
  SwapChange : Addr
  Flow : Addr
  Table : Addr
  Desk : Addr
  t_SHAPES : Addr
  t_ANSWERING : Addr
/-- what the top has written -/
structure Txt (K : PySem.W.Frag) (mg : Str → Option Value) (A : As) : Prop where
  len : mg "len" = none
  sum : mg "sum" = none
  all : mg "all" = none
  list : mg "list" = none
  range : mg "range" = none
  zip : mg "zip" = none
  enumerate : mg "enumerate" = none
  c_MOST_RULES : ∃ u, mg "MOST_RULES" = some (.int (32) u)
  c_DEED_WITHOUT_RULE : ∃ u, mg "DEED_WITHOUT_RULE" = some (.int (0) u)
  c_ROWS : ∃ u, mg "ROWS" = some (.int (16) u)
  c_MOST_IN_ROW : ∃ u, mg "MOST_IN_ROW" = some (.int (4) u)
  c_BEYOND_32_BITS : ∃ u, mg "BEYOND_32_BITS" = some (.int (4294967296) u)
  c_ROW_START : ∃ u, mg "ROW_START" = some (.int (2166136261) u)
  c_ROW_FACTOR : ∃ u, mg "ROW_FACTOR" = some (.int (16777619) u)
  c_WAS_THERE : ∃ u, mg "WAS_THERE" = some (.int (0) u)
  c_LEARNT : ∃ u, mg "LEARNT" = some (.int (1) u)
  c_LEARNT_FOR_ANOTHER : ∃ u, mg "LEARNT_FOR_ANOTHER" = some (.int (2) u)
  c_OPENING : ∃ u, mg "OPENING" = some (.int (1) u)
  c_KEY_SIZE : ∃ u, mg "KEY_SIZE" = some (.int (16) u)
  c_MOST_SEED : ∃ u, mg "MOST_SEED" = some (.int (4294967295) u)
  c_MOST_WORD : ∃ u, mg "MOST_WORD" = some (.int (14) u)
  c_MOST_WORD_VALUE : ∃ u, mg "MOST_WORD_VALUE" = some (.int (65535) u)
  c_MOST_OCTET : ∃ u, mg "MOST_OCTET" = some (.int (255) u)
  c_MOST_FRAME : ∃ u, mg "MOST_FRAME" = some (.int (256) u)
  c_MOST_WAITING : ∃ u, mg "MOST_WAITING" = some (.int (16) u)
  c_MOST_TICKS : ∃ u, mg "MOST_TICKS" = some (.int (100000) u)
  c_MOST_NOW : ∃ u, mg "MOST_NOW" = some (.int (1073741824) u)
  c_MOST_FLOWS : ∃ u, mg "MOST_FLOWS" = some (.int (64) u)
  c_NOT_AS_TOLD : ∃ u, mg "NOT_AS_TOLD" = some (.int (-2) u)
  c_TOO_MANY_WAIT : ∃ u, mg "TOO_MANY_WAIT" = some (.int (-5) u)
  c_NONE_THERE : ∃ u, mg "NONE_THERE" = some (.int (-6) u)
  c_NO_DESK : ∃ u, mg "NO_DESK" = some (.int (-7) u)
  c_CHANGE_FAILED : ∃ u, mg "CHANGE_FAILED" = some (.int (-100) u)
  cl_Call : Cls K A.Call
  na_Call_number : NoAttr K A.Call "number"
  na_Call_numbers : NoAttr K A.Call "numbers"
  na_Call_rows : NoAttr K A.Call "rows"
  cl_Rule : Cls K A.Rule
  na_Rule_mask : NoAttr K A.Rule "mask"
  na_Rule_value : NoAttr K A.Rule "value"
  na_Rule_word : NoAttr K A.Rule "word"
  na_Rule_lo : NoAttr K A.Rule "lo"
  na_Rule_hi : NoAttr K A.Rule "hi"
  na_Rule_deed : NoAttr K A.Rule "deed"
  cl_PutChange : Cls K A.PutChange
  na_PutChange_place : NoAttr K A.PutChange "place"
  na_PutChange_rule : NoAttr K A.PutChange "rule"
  cl_OutChange : Cls K A.OutChange
  na_OutChange_place : NoAttr K A.OutChange "place"
  cl_SwapChange : Cls K A.SwapChange
  na_SwapChange_place : NoAttr K A.SwapChange "place"
  na_SwapChange_other : NoAttr K A.SwapChange "other"
  cl_Flow : Cls K A.Flow
  na_Flow_key : NoAttr K A.Flow "key"
  na_Flow_deed : NoAttr K A.Flow "deed"
  na_Flow_frames : NoAttr K A.Flow "frames"
  na_Flow_octets : NoAttr K A.Flow "octets"
  na_Flow_seen : NoAttr K A.Flow "seen"
  cl_Table : Cls K A.Table
  na_Table_seed : NoAttr K A.Table "seed"
  na_Table_rows : NoAttr K A.Table "rows"
  na_Table_frames_known : NoAttr K A.Table "frames_known"
  na_Table_frames_learnt : NoAttr K A.Table "frames_learnt"
  na_Table_flows_displaced : NoAttr K A.Table "flows_displaced"
  cl_Desk : Cls K A.Desk
  na_Desk_places : NoAttr K A.Desk "places"
  na_Desk_rules : NoAttr K A.Desk "rules"
  na_Desk_waiting : NoAttr K A.Desk "waiting"
  na_Desk_table : NoAttr K A.Desk "table"
  na_Desk_now : NoAttr K A.Desk "now"
  g_SHAPES : mg "SHAPES" = some (.ref A.t_SHAPES)
  g_ANSWERING : mg "ANSWERING" = some (.ref A.t_ANSWERING)
/-- whole numbers, natural numbers as Python's -/
abbrev zs (l : List Int) : List V := l.map V.int
abbrev ns (l : List Nat) : List V := l.map fun (n : Nat) => V.int (n : Int)
/-- all but what stands at a is as it was -/
def But (a : Addr) (H H' : Hp) : Prop := ∀ b o, H b = some o → b ≠ a → H' b = some o
theorem Same.but {H H' : Hp} {a : Addr} (h : Same H H') : But a H H' := fun b o e _ => h b o e
theorem same_upd {H : Hp} {p : Addr} {o : HO} (h : H p = none) : Same H (upd H p o) := fun b u e => by
  rw [upd_ne (ne_of_none e h)]
  exact e
theorem same_into {H0 H : Hp} {p : Addr} {o : HO} (s : Same H0 H) (h : H0 p = none) : Same H0 (upd H p o) := fun b u e => by
  rw [upd_ne (ne_of_none e h)]
  exact s b u e
theorem none_upd {H : Hp} {p q : Addr} {o : HO} (h : upd H p o q = none) : q ≠ p ∧ H q = none := by
  have n : q ≠ p := fun z => by
    rw [z, upd_same] at h
    cases h
  rw [upd_ne n] at h
  exact ⟨n, h⟩
theorem lk_here {r : List (Str × V)} {k : Str} {v : V} : ((k, v) :: r).lookup k = some v := List.lookup_cons_self
theorem lk_past {r : List (Str × V)} {k g : Str} {v : V} (h : (k == g) = false) : ((g, v) :: r).lookup k = r.lookup k := by
  rw [List.lookup_cons, h]
theorem put_here {r : List (Str × V)} {f : Str} {v x : V} : putF f v ((f, x) :: r) = (f, v) :: r := if_pos rfl
theorem put_past {r : List (Str × V)} {f g : Str} {v x : V} (h : ¬ g = f) : putF f v ((g, x) :: r) = (g, x) :: putF f v r := if_neg h
theorem put_nil {f : Str} {v : V} : putF f v [] = [(f, v)] := rfl
theorem len_put1 (f : Str) (v : V) : ∀ fs : List (Str × V), (putF f v fs).length ≤ fs.length + 1
  | [] => Nat.le_refl _
  | (g, x) :: r => by
    by_cases h : g = f
    · subst h
      rw [put_here]
      show r.length + 1 ≤ r.length + 1 + 1
      omega
    · rw [put_past h]
      have := len_put1 f v r
      show (putF f v r).length + 1 ≤ r.length + 1 + 1
      omega
theorem len_putF {f : Str} {v : V} {fs : List (Str × V)} {n : Nat} (h : fs.length < n) : (putF f v fs).length < n + 1 := Nat.lt_of_le_of_lt (len_put1 f v fs) (Nat.succ_lt_succ h)
/-- the attributes of a Call -/
def f_Call (x0 x1 x2 : V) : List (Str × V) := [("number", x0), ("numbers", x1), ("rows", x2)]
section
variable {x0 x1 x2 y : V}
theorem lk_Call_number : (f_Call x0 x1 x2).lookup ("number" : Str) = some x0 := lk_here
theorem put_Call_number : putF "number" y (f_Call x0 x1 x2) = f_Call y x1 x2 := put_here
theorem lk_Call_numbers : (f_Call x0 x1 x2).lookup ("numbers" : Str) = some x1 := ((lk_past (by decide +kernel)).trans lk_here)
theorem put_Call_numbers : putF "numbers" y (f_Call x0 x1 x2) = f_Call x0 y x2 := ((put_past (by decide +kernel)).trans (congrArg _ put_here))
theorem lk_Call_rows : (f_Call x0 x1 x2).lookup ("rows" : Str) = some x2 := ((lk_past (by decide +kernel)).trans ((lk_past (by decide +kernel)).trans lk_here))
theorem put_Call_rows : putF "rows" y (f_Call x0 x1 x2) = f_Call x0 x1 y := ((put_past (by decide +kernel)).trans (congrArg _ ((put_past (by decide +kernel)).trans (congrArg _ put_here))))
theorem new_Call : putF "rows" x2 (putF "numbers" x1 (putF "number" x0 [])) = f_Call x0 x1 x2 := by
  simp only [put_nil, put_past (show ¬ ("number" : Str) = "numbers" by decide +kernel), put_past (show ¬ ("number" : Str) = "rows" by decide +kernel), put_past (show ¬ ("numbers" : Str) = "rows" by decide +kernel)]
  rfl
end
/-- the attributes of a Rule -/
def f_Rule (x0 x1 x2 x3 x4 x5 : V) : List (Str × V) := [("mask", x0), ("value", x1), ("word", x2), ("lo", x3), ("hi", x4), ("deed", x5)]
section
variable {x0 x1 x2 x3 x4 x5 y : V}
theorem lk_Rule_mask : (f_Rule x0 x1 x2 x3 x4 x5).lookup ("mask" : Str) = some x0 := lk_here
theorem put_Rule_mask : putF "mask" y (f_Rule x0 x1 x2 x3 x4 x5) = f_Rule y x1 x2 x3 x4 x5 := put_here
theorem lk_Rule_value : (f_Rule x0 x1 x2 x3 x4 x5).lookup ("value" : Str) = some x1 := ((lk_past (by decide +kernel)).trans lk_here)
theorem put_Rule_value : putF "value" y (f_Rule x0 x1 x2 x3 x4 x5) = f_Rule x0 y x2 x3 x4 x5 := ((put_past (by decide +kernel)).trans (congrArg _ put_here))
theorem lk_Rule_word : (f_Rule x0 x1 x2 x3 x4 x5).lookup ("word" : Str) = some x2 := ((lk_past (by decide +kernel)).trans ((lk_past (by decide +kernel)).trans lk_here))
theorem put_Rule_word : putF "word" y (f_Rule x0 x1 x2 x3 x4 x5) = f_Rule x0 x1 y x3 x4 x5 := ((put_past (by decide +kernel)).trans (congrArg _ ((put_past (by decide +kernel)).trans (congrArg _ put_here))))
theorem lk_Rule_lo : (f_Rule x0 x1 x2 x3 x4 x5).lookup ("lo" : Str) = some x3 := ((lk_past (by decide +kernel)).trans ((lk_past (by decide +kernel)).trans ((lk_past (by decide +kernel)).trans lk_here)))
theorem put_Rule_lo : putF "lo" y (f_Rule x0 x1 x2 x3 x4 x5) = f_Rule x0 x1 x2 y x4 x5 := ((put_past (by decide +kernel)).trans (congrArg _ ((put_past (by decide +kernel)).trans (congrArg _ ((put_past (by decide +kernel)).trans (congrArg _ put_here))))))
theorem lk_Rule_hi : (f_Rule x0 x1 x2 x3 x4 x5).lookup ("hi" : Str) = some x4 := ((lk_past (by decide +kernel)).trans ((lk_past (by decide +kernel)).trans ((lk_past (by decide +kernel)).trans ((lk_past (by decide +kernel)).trans lk_here))))
theorem put_Rule_hi : putF "hi" y (f_Rule x0 x1 x2 x3 x4 x5) = f_Rule x0 x1 x2 x3 y x5 := ((put_past (by decide +kernel)).trans (congrArg _ ((put_past (by decide +kernel)).trans (congrArg _ ((put_past (by decide +kernel)).trans (congrArg _ ((put_past (by decide +kernel)).trans (congrArg _ put_here))))))))
theorem lk_Rule_deed : (f_Rule x0 x1 x2 x3 x4 x5).lookup ("deed" : Str) = some x5 := ((lk_past (by decide +kernel)).trans ((lk_past (by decide +kernel)).trans ((lk_past (by decide +kernel)).trans ((lk_past (by decide +kernel)).trans ((lk_past (by decide +kernel)).trans lk_here)))))
theorem put_Rule_deed : putF "deed" y (f_Rule x0 x1 x2 x3 x4 x5) = f_Rule x0 x1 x2 x3 x4 y := ((put_past (by decide +kernel)).trans (congrArg _ ((put_past (by decide +kernel)).trans (congrArg _ ((put_past (by decide +kernel)).trans (congrArg _ ((put_past (by decide +kernel)).trans (congrArg _ ((put_past (by decide +kernel)).trans (congrArg _ put_here))))))))))
theorem new_Rule : putF "deed" x5 (putF "hi" x4 (putF "lo" x3 (putF "word" x2 (putF "value" x1 (putF "mask" x0 []))))) = f_Rule x0 x1 x2 x3 x4 x5 := by
  simp only [put_nil, put_past (show ¬ ("mask" : Str) = "value" by decide +kernel), put_past (show ¬ ("mask" : Str) = "word" by decide +kernel), put_past (show ¬ ("value" : Str) = "word" by decide +kernel), put_past (show ¬ ("mask" : Str) = "lo" by decide +kernel), put_past (show ¬ ("value" : Str) = "lo" by decide +kernel), put_past (show ¬ ("word" : Str) = "lo" by decide +kernel), put_past (show ¬ ("mask" : Str) = "hi" by decide +kernel), put_past (show ¬ ("value" : Str) = "hi" by decide +kernel), put_past (show ¬ ("word" : Str) = "hi" by decide +kernel), put_past (show ¬ ("lo" : Str) = "hi" by decide +kernel), put_past (show ¬ ("mask" : Str) = "deed" by decide +kernel), put_past (show ¬ ("value" : Str) = "deed" by decide +kernel), put_past (show ¬ ("word" : Str) = "deed" by decide +kernel), put_past (show ¬ ("lo" : Str) = "deed" by decide +kernel), put_past (show ¬ ("hi" : Str) = "deed" by decide +kernel)]
  rfl
end
/-- the attributes of a PutChange -/
def f_PutChange (x0 x1 : V) : List (Str × V) := [("place", x0), ("rule", x1)]
section
variable {x0 x1 y : V}
theorem lk_PutChange_place : (f_PutChange x0 x1).lookup ("place" : Str) = some x0 := lk_here
theorem put_PutChange_place : putF "place" y (f_PutChange x0 x1) = f_PutChange y x1 := put_here
theorem lk_PutChange_rule : (f_PutChange x0 x1).lookup ("rule" : Str) = some x1 := ((lk_past (by decide +kernel)).trans lk_here)
theorem put_PutChange_rule : putF "rule" y (f_PutChange x0 x1) = f_PutChange x0 y := ((put_past (by decide +kernel)).trans (congrArg _ put_here))
theorem lkm_PutChange_can_be_made : (f_PutChange x0 x1).lookup ("can_be_made" : Str) = none := ((lk_past (by decide +kernel)).trans ((lk_past (by decide +kernel)).trans rfl))
theorem lkm_PutChange_make : (f_PutChange x0 x1).lookup ("make" : Str) = none := ((lk_past (by decide +kernel)).trans ((lk_past (by decide +kernel)).trans rfl))
theorem new_PutChange : putF "rule" x1 (putF "place" x0 []) = f_PutChange x0 x1 := by
  simp only [put_nil, put_past (show ¬ ("place" : Str) = "rule" by decide +kernel)]
  rfl
end
/-- the attributes of a OutChange -/
def f_OutChange (x0 : V) : List (Str × V) := [("place", x0)]
section
variable {x0 y : V}
theorem lk_OutChange_place : (f_OutChange x0).lookup ("place" : Str) = some x0 := lk_here
theorem put_OutChange_place : putF "place" y (f_OutChange x0) = f_OutChange y := put_here
theorem lkm_OutChange_can_be_made : (f_OutChange x0).lookup ("can_be_made" : Str) = none := ((lk_past (by decide +kernel)).trans rfl)
theorem lkm_OutChange_make : (f_OutChange x0).lookup ("make" : Str) = none := ((lk_past (by decide +kernel)).trans rfl)
theorem new_OutChange : putF "place" x0 [] = f_OutChange x0 := by
  simp only [put_nil]
  rfl
end
/-- the attributes of a SwapChange -/
def f_SwapChange (x0 x1 : V) : List (Str × V) := [("place", x0), ("other", x1)]
section
variable {x0 x1 y : V}
theorem lk_SwapChange_place : (f_SwapChange x0 x1).lookup ("place" : Str) = some x0 := lk_here
theorem put_SwapChange_place : putF "place" y (f_SwapChange x0 x1) = f_SwapChange y x1 := put_here
theorem lk_SwapChange_other : (f_SwapChange x0 x1).lookup ("other" : Str) = some x1 := ((lk_past (by decide +kernel)).trans lk_here)
theorem put_SwapChange_other : putF "other" y (f_SwapChange x0 x1) = f_SwapChange x0 y := ((put_past (by decide +kernel)).trans (congrArg _ put_here))
theorem lkm_SwapChange_can_be_made : (f_SwapChange x0 x1).lookup ("can_be_made" : Str) = none := ((lk_past (by decide +kernel)).trans ((lk_past (by decide +kernel)).trans rfl))
theorem lkm_SwapChange_make : (f_SwapChange x0 x1).lookup ("make" : Str) = none := ((lk_past (by decide +kernel)).trans ((lk_past (by decide +kernel)).trans rfl))
theorem new_SwapChange : putF "other" x1 (putF "place" x0 []) = f_SwapChange x0 x1 := by
  simp only [put_nil, put_past (show ¬ ("place" : Str) = "other" by decide +kernel)]
  rfl
end
/-- the attributes of a Flow -/
def f_Flow (x0 x1 x2 x3 x4 : V) : List (Str × V) := [("key", x0), ("deed", x1), ("frames", x2), ("octets", x3), ("seen", x4)]
section
variable {x0 x1 x2 x3 x4 y : V}
theorem lk_Flow_key : (f_Flow x0 x1 x2 x3 x4).lookup ("key" : Str) = some x0 := lk_here
theorem put_Flow_key : putF "key" y (f_Flow x0 x1 x2 x3 x4) = f_Flow y x1 x2 x3 x4 := put_here
theorem lk_Flow_deed : (f_Flow x0 x1 x2 x3 x4).lookup ("deed" : Str) = some x1 := ((lk_past (by decide +kernel)).trans lk_here)
theorem put_Flow_deed : putF "deed" y (f_Flow x0 x1 x2 x3 x4) = f_Flow x0 y x2 x3 x4 := ((put_past (by decide +kernel)).trans (congrArg _ put_here))
theorem lk_Flow_frames : (f_Flow x0 x1 x2 x3 x4).lookup ("frames" : Str) = some x2 := ((lk_past (by decide +kernel)).trans ((lk_past (by decide +kernel)).trans lk_here))
theorem put_Flow_frames : putF "frames" y (f_Flow x0 x1 x2 x3 x4) = f_Flow x0 x1 y x3 x4 := ((put_past (by decide +kernel)).trans (congrArg _ ((put_past (by decide +kernel)).trans (congrArg _ put_here))))
theorem lk_Flow_octets : (f_Flow x0 x1 x2 x3 x4).lookup ("octets" : Str) = some x3 := ((lk_past (by decide +kernel)).trans ((lk_past (by decide +kernel)).trans ((lk_past (by decide +kernel)).trans lk_here)))
theorem put_Flow_octets : putF "octets" y (f_Flow x0 x1 x2 x3 x4) = f_Flow x0 x1 x2 y x4 := ((put_past (by decide +kernel)).trans (congrArg _ ((put_past (by decide +kernel)).trans (congrArg _ ((put_past (by decide +kernel)).trans (congrArg _ put_here))))))
theorem lk_Flow_seen : (f_Flow x0 x1 x2 x3 x4).lookup ("seen" : Str) = some x4 := ((lk_past (by decide +kernel)).trans ((lk_past (by decide +kernel)).trans ((lk_past (by decide +kernel)).trans ((lk_past (by decide +kernel)).trans lk_here))))
theorem put_Flow_seen : putF "seen" y (f_Flow x0 x1 x2 x3 x4) = f_Flow x0 x1 x2 x3 y := ((put_past (by decide +kernel)).trans (congrArg _ ((put_past (by decide +kernel)).trans (congrArg _ ((put_past (by decide +kernel)).trans (congrArg _ ((put_past (by decide +kernel)).trans (congrArg _ put_here))))))))
theorem lkm_Flow_count_frame : (f_Flow x0 x1 x2 x3 x4).lookup ("count_frame" : Str) = none := ((lk_past (by decide +kernel)).trans ((lk_past (by decide +kernel)).trans ((lk_past (by decide +kernel)).trans ((lk_past (by decide +kernel)).trans ((lk_past (by decide +kernel)).trans rfl)))))
theorem new_Flow : putF "seen" x4 (putF "octets" x3 (putF "frames" x2 (putF "deed" x1 (putF "key" x0 [])))) = f_Flow x0 x1 x2 x3 x4 := by
  simp only [put_nil, put_past (show ¬ ("key" : Str) = "deed" by decide +kernel), put_past (show ¬ ("key" : Str) = "frames" by decide +kernel), put_past (show ¬ ("deed" : Str) = "frames" by decide +kernel), put_past (show ¬ ("key" : Str) = "octets" by decide +kernel), put_past (show ¬ ("deed" : Str) = "octets" by decide +kernel), put_past (show ¬ ("frames" : Str) = "octets" by decide +kernel), put_past (show ¬ ("key" : Str) = "seen" by decide +kernel), put_past (show ¬ ("deed" : Str) = "seen" by decide +kernel), put_past (show ¬ ("frames" : Str) = "seen" by decide +kernel), put_past (show ¬ ("octets" : Str) = "seen" by decide +kernel)]
  rfl
end
/-- the attributes of a Table -/
def f_Table (x0 x1 x2 x3 x4 : V) : List (Str × V) := [("seed", x0), ("rows", x1), ("frames_known", x2), ("frames_learnt", x3), ("flows_displaced", x4)]
section
variable {x0 x1 x2 x3 x4 y : V}
theorem lk_Table_seed : (f_Table x0 x1 x2 x3 x4).lookup ("seed" : Str) = some x0 := lk_here
theorem put_Table_seed : putF "seed" y (f_Table x0 x1 x2 x3 x4) = f_Table y x1 x2 x3 x4 := put_here
theorem lk_Table_rows : (f_Table x0 x1 x2 x3 x4).lookup ("rows" : Str) = some x1 := ((lk_past (by decide +kernel)).trans lk_here)
theorem put_Table_rows : putF "rows" y (f_Table x0 x1 x2 x3 x4) = f_Table x0 y x2 x3 x4 := ((put_past (by decide +kernel)).trans (congrArg _ put_here))
theorem lk_Table_frames_known : (f_Table x0 x1 x2 x3 x4).lookup ("frames_known" : Str) = some x2 := ((lk_past (by decide +kernel)).trans ((lk_past (by decide +kernel)).trans lk_here))
theorem put_Table_frames_known : putF "frames_known" y (f_Table x0 x1 x2 x3 x4) = f_Table x0 x1 y x3 x4 := ((put_past (by decide +kernel)).trans (congrArg _ ((put_past (by decide +kernel)).trans (congrArg _ put_here))))
theorem lk_Table_frames_learnt : (f_Table x0 x1 x2 x3 x4).lookup ("frames_learnt" : Str) = some x3 := ((lk_past (by decide +kernel)).trans ((lk_past (by decide +kernel)).trans ((lk_past (by decide +kernel)).trans lk_here)))
theorem put_Table_frames_learnt : putF "frames_learnt" y (f_Table x0 x1 x2 x3 x4) = f_Table x0 x1 x2 y x4 := ((put_past (by decide +kernel)).trans (congrArg _ ((put_past (by decide +kernel)).trans (congrArg _ ((put_past (by decide +kernel)).trans (congrArg _ put_here))))))
theorem lk_Table_flows_displaced : (f_Table x0 x1 x2 x3 x4).lookup ("flows_displaced" : Str) = some x4 := ((lk_past (by decide +kernel)).trans ((lk_past (by decide +kernel)).trans ((lk_past (by decide +kernel)).trans ((lk_past (by decide +kernel)).trans lk_here))))
theorem put_Table_flows_displaced : putF "flows_displaced" y (f_Table x0 x1 x2 x3 x4) = f_Table x0 x1 x2 x3 y := ((put_past (by decide +kernel)).trans (congrArg _ ((put_past (by decide +kernel)).trans (congrArg _ ((put_past (by decide +kernel)).trans (congrArg _ ((put_past (by decide +kernel)).trans (congrArg _ put_here))))))))
theorem lkm_Table_sort_frame : (f_Table x0 x1 x2 x3 x4).lookup ("sort_frame" : Str) = none := ((lk_past (by decide +kernel)).trans ((lk_past (by decide +kernel)).trans ((lk_past (by decide +kernel)).trans ((lk_past (by decide +kernel)).trans ((lk_past (by decide +kernel)).trans rfl)))))
theorem lkm_Table_learn : (f_Table x0 x1 x2 x3 x4).lookup ("learn" : Str) = none := ((lk_past (by decide +kernel)).trans ((lk_past (by decide +kernel)).trans ((lk_past (by decide +kernel)).trans ((lk_past (by decide +kernel)).trans ((lk_past (by decide +kernel)).trans rfl)))))
theorem lkm_Table_let_old_go : (f_Table x0 x1 x2 x3 x4).lookup ("let_old_go" : Str) = none := ((lk_past (by decide +kernel)).trans ((lk_past (by decide +kernel)).trans ((lk_past (by decide +kernel)).trans ((lk_past (by decide +kernel)).trans ((lk_past (by decide +kernel)).trans rfl)))))
theorem lkm_Table_in_order : (f_Table x0 x1 x2 x3 x4).lookup ("in_order" : Str) = none := ((lk_past (by decide +kernel)).trans ((lk_past (by decide +kernel)).trans ((lk_past (by decide +kernel)).trans ((lk_past (by decide +kernel)).trans ((lk_past (by decide +kernel)).trans rfl)))))
theorem lkm_Table_follow_rules : (f_Table x0 x1 x2 x3 x4).lookup ("follow_rules" : Str) = none := ((lk_past (by decide +kernel)).trans ((lk_past (by decide +kernel)).trans ((lk_past (by decide +kernel)).trans ((lk_past (by decide +kernel)).trans ((lk_past (by decide +kernel)).trans rfl)))))
theorem new_Table : putF "flows_displaced" x4 (putF "frames_learnt" x3 (putF "frames_known" x2 (putF "rows" x1 (putF "seed" x0 [])))) = f_Table x0 x1 x2 x3 x4 := by
  simp only [put_nil, put_past (show ¬ ("seed" : Str) = "rows" by decide +kernel), put_past (show ¬ ("seed" : Str) = "frames_known" by decide +kernel), put_past (show ¬ ("rows" : Str) = "frames_known" by decide +kernel), put_past (show ¬ ("seed" : Str) = "frames_learnt" by decide +kernel), put_past (show ¬ ("rows" : Str) = "frames_learnt" by decide +kernel), put_past (show ¬ ("frames_known" : Str) = "frames_learnt" by decide +kernel), put_past (show ¬ ("seed" : Str) = "flows_displaced" by decide +kernel), put_past (show ¬ ("rows" : Str) = "flows_displaced" by decide +kernel), put_past (show ¬ ("frames_known" : Str) = "flows_displaced" by decide +kernel), put_past (show ¬ ("frames_learnt" : Str) = "flows_displaced" by decide +kernel)]
  rfl
end
/-- the attributes of a Desk -/
def f_Desk (x0 x1 x2 x3 x4 : V) : List (Str × V) := [("places", x0), ("rules", x1), ("waiting", x2), ("table", x3), ("now", x4)]
section
variable {x0 x1 x2 x3 x4 y : V}
theorem lk_Desk_places : (f_Desk x0 x1 x2 x3 x4).lookup ("places" : Str) = some x0 := lk_here
theorem put_Desk_places : putF "places" y (f_Desk x0 x1 x2 x3 x4) = f_Desk y x1 x2 x3 x4 := put_here
theorem lk_Desk_rules : (f_Desk x0 x1 x2 x3 x4).lookup ("rules" : Str) = some x1 := ((lk_past (by decide +kernel)).trans lk_here)
theorem put_Desk_rules : putF "rules" y (f_Desk x0 x1 x2 x3 x4) = f_Desk x0 y x2 x3 x4 := ((put_past (by decide +kernel)).trans (congrArg _ put_here))
theorem lk_Desk_waiting : (f_Desk x0 x1 x2 x3 x4).lookup ("waiting" : Str) = some x2 := ((lk_past (by decide +kernel)).trans ((lk_past (by decide +kernel)).trans lk_here))
theorem put_Desk_waiting : putF "waiting" y (f_Desk x0 x1 x2 x3 x4) = f_Desk x0 x1 y x3 x4 := ((put_past (by decide +kernel)).trans (congrArg _ ((put_past (by decide +kernel)).trans (congrArg _ put_here))))
theorem lk_Desk_table : (f_Desk x0 x1 x2 x3 x4).lookup ("table" : Str) = some x3 := ((lk_past (by decide +kernel)).trans ((lk_past (by decide +kernel)).trans ((lk_past (by decide +kernel)).trans lk_here)))
theorem put_Desk_table : putF "table" y (f_Desk x0 x1 x2 x3 x4) = f_Desk x0 x1 x2 y x4 := ((put_past (by decide +kernel)).trans (congrArg _ ((put_past (by decide +kernel)).trans (congrArg _ ((put_past (by decide +kernel)).trans (congrArg _ put_here))))))
theorem lk_Desk_now : (f_Desk x0 x1 x2 x3 x4).lookup ("now" : Str) = some x4 := ((lk_past (by decide +kernel)).trans ((lk_past (by decide +kernel)).trans ((lk_past (by decide +kernel)).trans ((lk_past (by decide +kernel)).trans lk_here))))
theorem put_Desk_now : putF "now" y (f_Desk x0 x1 x2 x3 x4) = f_Desk x0 x1 x2 x3 y := ((put_past (by decide +kernel)).trans (congrArg _ ((put_past (by decide +kernel)).trans (congrArg _ ((put_past (by decide +kernel)).trans (congrArg _ ((put_past (by decide +kernel)).trans (congrArg _ put_here))))))))
theorem new_Desk : putF "now" x4 (putF "table" x3 (putF "waiting" x2 (putF "rules" x1 (putF "places" x0 [])))) = f_Desk x0 x1 x2 x3 x4 := by
  simp only [put_nil, put_past (show ¬ ("places" : Str) = "rules" by decide +kernel), put_past (show ¬ ("places" : Str) = "waiting" by decide +kernel), put_past (show ¬ ("rules" : Str) = "waiting" by decide +kernel), put_past (show ¬ ("places" : Str) = "table" by decide +kernel), put_past (show ¬ ("rules" : Str) = "table" by decide +kernel), put_past (show ¬ ("waiting" : Str) = "table" by decide +kernel), put_past (show ¬ ("places" : Str) = "now" by decide +kernel), put_past (show ¬ ("rules" : Str) = "now" by decide +kernel), put_past (show ¬ ("waiting" : Str) = "now" by decide +kernel), put_past (show ¬ ("table" : Str) = "now" by decide +kernel)]
  rfl
end
/-- a comprehension without a test -/
theorem yes_if {σ : L2.St} {H : Hp} {A B : Hp → Prop} (h : A H) : tYes σ H (fun b H3 => if b = true then A H3 else B H3) := by
  show if true = true then A H else B H
  rw [if_pos rfl]
  exact h
theorem ns_more (l : List Nat) (x : Nat) : ns (l ++ [x]) = ns l ++ [.int (x : Int)] := by
  show List.map _ _ = List.map _ _ ++ _
  rw [List.map_append]
  rfl
theorem zs_more (l : List Int) (x : Int) : zs (l ++ [x]) = zs l ++ [.int x] := by
  show List.map _ _ = List.map _ _ ++ _
  rw [List.map_append]
  rfl
/-! two lists item by item -/
section
variable {α β : Type} {R : α → β → Prop}
theorem pr_get {xs : List α} {ys : List β} (h : Paired R xs ys) : ∀ {i : Nat} {x : α}, xs[i]? = some x → ∃ y, ys[i]? = some y ∧ R x y := by
  induction h with
  | nil =>
    intro i x z
    cases (List.getElem?_nil (α := α) (i := i)).symm.trans z
  | cons r _ ih =>
    intro i x z
    cases i with
    | zero =>
      cases z
      exact ⟨_, rfl, r⟩
    | succ i => exact ih (i := i) z
theorem pr_append : ∀ {xs xs' : List α} {ys ys' : List β}, Paired R xs ys → Paired R xs' ys' → Paired R (xs ++ xs') (ys ++ ys')
  | _, _, _, _, .nil, s => s
  | _, _, _, _, .cons r t, s => .cons r (pr_append t s)
theorem pr_take : ∀ {xs : List α} {ys : List β} (n : Nat), Paired R xs ys → Paired R (xs.take n) (ys.take n)
  | _, _, 0, _ => .nil
  | _, _, _ + 1, .nil => .nil
  | _, _, n + 1, .cons r t => .cons r (pr_take n t)
theorem pr_drop : ∀ {xs : List α} {ys : List β} (n : Nat), Paired R xs ys → Paired R (xs.drop n) (ys.drop n)
  | _, _, 0, r => r
  | _, _, _ + 1, .nil => .nil
  | _, _, n + 1, .cons _ t => pr_drop n t
theorem pr_set {x : α} {y : β} (r : R x y) : ∀ {xs : List α} {ys : List β} (i : Nat), Paired R xs ys → Paired R (xs.set i x) (ys.set i y)
  | _, _, _, .nil => .nil
  | _, _, 0, .cons _ t => .cons r t
  | _, _, i + 1, .cons q t => .cons q (pr_set r i t)
theorem pr_erase : ∀ {xs : List α} {ys : List β} (i : Nat), Paired R xs ys → Paired R (xs.eraseIdx i) (ys.eraseIdx i)
  | _, _, _, .nil => .nil
  | _, _, 0, .cons _ t => t
  | _, _, i + 1, .cons q t => .cons q (pr_erase i t)
theorem pr_len : ∀ {xs : List α} {ys : List β}, Paired R xs ys → xs.length = ys.length
  | _, _, .nil => rfl
  | _, _, .cons _ t => congrArg (· + 1) (pr_len t)
theorem pr_mono {S : α → β → Prop} (f : ∀ a b, R a b → S a b) : ∀ {xs : List α} {ys : List β}, Paired R xs ys → Paired S xs ys
  | _, _, .nil => .nil
  | _, _, .cons r t => .cons (f _ _ r) (pr_mono f t)
end
theorem get_ref {l : List Addr} {i : Nat} {x : V} (h : (l.map V.ref)[i]? = some x) : ∃ a, l[i]? = some a ∧ x = .ref a := by
  rw [List.getElem?_map] at h
  cases e : l[i]? with
  | none => rw [e] at h; cases h
  | some n => rw [e] at h; exact ⟨n, rfl, (Option.some.inj h).symm⟩
theorem len_ns (l : List Nat) : (ns l).length = l.length := List.length_map ..
theorem len_zs (l : List Int) : (zs l).length = l.length := List.length_map ..
theorem get_ns {l : List Nat} {i : Nat} {x : V} (h : (ns l)[i]? = some x) : ∃ n, l[i]? = some n ∧ x = .int (n : Int) := by
  rw [List.getElem?_map] at h
  cases e : l[i]? with
  | none => rw [e] at h; cases h
  | some n => rw [e] at h; exact ⟨n, rfl, (Option.some.inj h).symm⟩
theorem get_zs {l : List Int} {i : Nat} {x : V} (h : (zs l)[i]? = some x) : ∃ n, l[i]? = some n ∧ x = .int n := by
  rw [List.getElem?_map] at h
  cases e : l[i]? with
  | none => rw [e] at h; cases h
  | some n => rw [e] at h; exact ⟨n, rfl, (Option.some.inj h).symm⟩
theorem take_more {α : Type} {l : List α} {i : Nat} {x : α} (h : l[i]? = some x) : l.take (i + 1) = l.take i ++ [x] := by
  rw [List.take_add_one, h]
  rfl
theorem at_zs {l : List Int} {i : Nat} {z : Int} {n : Int} (h : l[i]? = some n) (e : z = (i : Int)) : atI (zs l) z = some (.int n) := by
  subst e
  exact atI_nat (by rw [List.getElem?_map, h]; rfl)
theorem at_ns {l : List Nat} {i : Nat} {z : Int} {n : Nat} (h : l[i]? = some n) (e : z = (i : Int)) : atI (ns l) z = some (.int (n : Int)) := by
  subst e
  exact atI_nat (by rw [List.getElem?_map, h]; rfl)
/-- a new instance and its __init__ leave all as it was -/
theorem same_made {H H1 : Hp} {x dx C : Addr} (nx : H x = none) (nd : H dx = none) (k : But x (upd (upd H dx (.own x)) x (.ins C dx [])) H1) : Same H H1 := Same.made nx nd k
end Fr

namespace Fr
open PySem PySem.Spec PyProof.Rows L2
/-! ### F1. Reading the list of calls -/
abbrev s_Call_init : Stmt := (inClass (top 2) 0)
theorem sc_Call_init : FnScope ["self", "number", "numbers", "rows"] ["self", "number", "numbers", "rows"] (defScope s_Call_init) := ⟨rfl, rfl, rfl, by decide +kernel, rfl, by decide +kernel, by decide +kernel⟩
abbrev s_read_rows : Stmt := (top 3)
theorem sc_read_rows : FnScope ["calls", "at", "how_many", "rows", "step", "end"] ["calls", "at", "how_many"] (defScope s_read_rows) := ⟨rfl, rfl, rfl, by decide +kernel, rfl, by decide +kernel, by decide +kernel⟩
abbrev s_read_calls : Stmt := (top 4)
theorem sc_read_calls : FnScope ["calls", "found", "at", "shape", "rows_begin", "rows", "row"] ["calls"] (defScope s_read_calls) := ⟨rfl, rfl, rfl, by decide +kernel, rfl, by decide +kernel, by decide +kernel⟩
/-! the mathematics: PyFlat by places -/
/-- how many numbers rows take -/
def tot (xs : List (List Int)) : Nat := (xs.map fun x => 1 + x.length).sum
theorem row_some {r x s : List Int} (h : PyFlat.row r = some (x, s)) : ∃ n : Nat, ∃ rest, r = (n : Int) :: rest ∧ n ≤ rest.length ∧ x = rest.take n ∧ s = rest.drop n := by
  cases r with
  | nil => cases h
  | cons z rest =>
    have h2 : (if 0 ≤ z ∧ z.toNat ≤ rest.length then some (rest.take z.toNat, rest.drop z.toNat) else none) = some (x, s) := h
    by_cases c : 0 ≤ z ∧ z.toNat ≤ rest.length
    · rw [if_pos c] at h2
      cases h2
      exact ⟨z.toNat, rest, by rw [Int.toNat_of_nonneg c.1], c.2, rfl, rfl⟩
    · rw [if_neg c] at h2
      cases h2
theorem rows_succ {k : Nat} {r t : List Int} {xs : List (List Int)} (h : PyFlat.rows (k + 1) r = some (xs, t)) : ∃ x s ys, PyFlat.row r = some (x, s) ∧ PyFlat.rows k s = some (ys, t) ∧ xs = x :: ys := by
  have h2 : (match PyFlat.row r with | none => none | some (x, s) => match PyFlat.rows k s with | none => none | some (xs, t) => some (x :: xs, t)) = some (xs, t) := h
  cases e1 : PyFlat.row r with
  | none => rw [e1] at h2; cases h2
  | some xs' =>
    obtain ⟨x, s⟩ := xs'
    rw [e1] at h2
    dsimp only at h2
    cases e2 : PyFlat.rows k s with
    | none => rw [e2] at h2; cases h2
    | some yt =>
      obtain ⟨ys, t'⟩ := yt
      rw [e2] at h2
      cases h2
      exact ⟨x, s, ys, rfl, e2, rfl⟩
theorem rows_tot : ∀ {k : Nat} {r t : List Int} {xs : List (List Int)}, PyFlat.rows k r = some (xs, t) → t = r.drop (tot xs) ∧ tot xs ≤ r.length ∧ xs.length = k
  | 0, r, t, xs, h => by
    have h2 : some (([] : List (List Int)), r) = some (xs, t) := h
    cases h2
    exact ⟨rfl, Nat.zero_le _, rfl⟩
  | k + 1, r, t, xs, h => by
    obtain ⟨x, s, ys, h1, h2, rfl⟩ := rows_succ h
    obtain ⟨e1, e2, e3⟩ := rows_tot h2
    obtain ⟨n, rest, rfl, hn, rfl, rfl⟩ := row_some h1
    have e : tot (rest.take n :: ys) = 1 + n + tot ys := by
      unfold tot
      rw [List.map_cons, List.sum_cons, List.length_take, Nat.min_eq_left hn]
    refine ⟨?_, ?_, ?_⟩
    · rw [e1, e, List.drop_drop, show 1 + n + tot ys = (n + tot ys) + 1 by omega, List.drop_succ_cons]
    · rw [e, List.length_cons]
      rw [List.length_drop] at e2
      omega
    · rw [List.length_cons, e3]
theorem calls_cons {shape : Int → Option (Nat × Nat)} {f : Nat} {p : Int} {r : List Int} {raw : List (List (List Int))} (h : PyFlat.calls shape f (p :: r) = some raw) :
    ∃ n k xs t cs f', shape p = some (n, k) ∧ n ≤ r.length ∧ PyFlat.rows k (r.drop n) = some (xs, t) ∧ PyFlat.calls shape f' t = some cs ∧ raw = ((p :: r.take n) :: xs) :: cs := by
  cases f with
  | zero => cases h
  | succ f =>
    have h2 : (match PyFlat.call shape (p :: r) with | none => none | some (c, t) => match PyFlat.calls shape f t with | none => none | some cs => some (c :: cs)) = some raw := h
    have h3 : PyFlat.call shape (p :: r) = (match shape p with | none => none | some (n, k) => if r.length < n then none else match PyFlat.rows k (r.drop n) with | none => none | some (xs, t) => some ((p :: r.take n) :: xs, t)) := rfl
    rw [h3] at h2
    cases e1 : shape p with
    | none => rw [e1] at h2; cases h2
    | some nk =>
      obtain ⟨n, k⟩ := nk
      rw [e1] at h2
      dsimp only at h2
      by_cases c : r.length < n
      · rw [if_pos c] at h2
        cases h2
      · rw [if_neg c] at h2
        cases e2 : PyFlat.rows k (r.drop n) with
        | none => rw [e2] at h2; cases h2
        | some xt =>
          obtain ⟨xs, t⟩ := xt
          rw [e2] at h2
          dsimp only at h2
          cases e3 : PyFlat.calls shape f t with
          | none => rw [e3] at h2; cases h2
          | some cs =>
            rw [e3] at h2
            cases h2
            exact ⟨n, k, xs, t, cs, f, rfl, by omega, e2, e3, rfl⟩
theorem calls_nil {shape : Int → Option (Nat × Nat)} {f : Nat} {raw : List (List (List Int))} (h : PyFlat.calls shape f [] = some raw) : raw = [] := by
  cases f <;> cases h <;> rfl
theorem cut_zs {l : List Int} {lo hi : Nat} (h1 : lo ≤ hi) (h2 : hi ≤ l.length) : cutV (zs l) (some (lo : Int)) (some (hi : Int)) = zs ((l.drop lo).take (hi - lo)) := by
  unfold cutV
  rw [HT.sIx_nat, HT.sIx_nat, len_zs, Nat.min_eq_left (Nat.le_trans h1 h2), Nat.min_eq_left h2]
  show List.take _ (List.drop _ (List.map _ _)) = List.map _ _
  rw [List.map_take, List.map_drop]
/-! where rows and calls lie -/
def RowsAt (H : Hp) (p : Addr) (xs : List (List Int)) : Prop := ∃ qs : List Addr, H p = some (.lst (qs.map V.ref)) ∧ Paired (fun q x => H q = some (.lst (zs x))) qs xs
theorem RowsAt.same {H H' : Hp} {p : Addr} {xs : List (List Int)} (s : Same H H') : RowsAt H p xs → RowsAt H' p xs
  | ⟨qs, h1, h2⟩ => ⟨qs, s _ _ h1, pr_mono (fun _ _ h => s _ _ h) h2⟩
def CallAt (A : As) (H : Hp) (q : Addr) (c : List (List Int)) : Prop := ∃ n xs rows dx m r, c = (n :: xs) :: rows ∧ H q = some (.ins A.Call dx (f_Call (.int n) (.ref m) (.ref r))) ∧ H m = some (.lst (zs xs)) ∧ RowsAt H r rows
theorem CallAt.same {A : As} {H H' : Hp} {p : Addr} {c : List (List Int)} (s : Same H H') : CallAt A H p c → CallAt A H' p c
  | ⟨n, xs, rows, dx, m, r, e, h1, h2, h3⟩ => ⟨n, xs, rows, dx, m, r, e, s _ _ h1, s _ _ h2, h3.same s⟩
def CallsAt (A : As) (H : Hp) (p : Addr) (raw : List (List (List Int))) : Prop := ∃ qs : List Addr, H p = some (.lst (qs.map V.ref)) ∧ Paired (CallAt A H) qs raw
/-- the heap without what stands at p -/
def wo (p : Addr) (H : Hp) : Hp := fun b => if b = p then none else H b
theorem wo_at {p : Addr} {H : Hp} : wo p H p = none := if_pos rfl
theorem wo_ne {p b : Addr} {H : Hp} (h : b ≠ p) : wo p H b = H b := if_neg h
theorem wo_same {p : Addr} {H : Hp} : Same (wo p H) H := fun b o e => by
  have n : b ≠ p := fun z => by
    rw [z, wo_at] at e
    cases e
  rw [wo_ne n] at e
  exact e
theorem wo_upd {p : Addr} {H : Hp} {o : HO} : wo p (upd H p o) = wo p H := by
  funext b
  by_cases h : b = p
  · rw [h, wo_at, wo_at]
  · rw [wo_ne h, wo_ne h, upd_ne h]
theorem wo_mono {p : Addr} {H H' : Hp} (s : Same H H') : Same (wo p H) (wo p H') := fun b o e => by
  have n : b ≠ p := fun z => by
    rw [z, wo_at] at e
    cases e
  rw [wo_ne n] at e ⊢
  exact s _ _ e
theorem wo_into {p : Addr} {I H : Hp} (s : Same I H) (h : I p = none) : Same I (wo p H) := fun b o e => by
  rw [wo_ne (ne_of_none e h)]
  exact s _ _ e
/-- what is new in H' -/
def nw (H H' : Hp) : Hp := fun b => match H b with
  | none => H' b
  | some _ => none
theorem nw_at {H H' : Hp} {b : Addr} (h : H b = none) : nw H H' b = H' b := by
  unfold nw
  rw [h]
theorem nw_some {H H' : Hp} {b : Addr} {o : HO} (h : nw H H' b = some o) : H b = none ∧ H' b = some o := by
  cases e : H b with
  | none =>
    rw [nw_at e] at h
    exact ⟨rfl, h⟩
  | some u =>
    unfold nw at h
    rw [e] at h
    cases h
theorem nw_same {H H' : Hp} : Same (nw H H') H' := fun _ _ h => (nw_some h).2
theorem nw_wo {H H' : Hp} {p : Addr} {o : HO} (h : H p = some o) : Same (nw H H') (wo p H') := fun b u e => by
  obtain ⟨h1, h2⟩ := nw_some e
  rw [wo_ne (fun z => by rw [z, h] at h1; cases h1)]
  exact h2
theorem nw_none {H H' : Hp} {b : Addr} {o : HO} (h : H b = some o) : nw H H' b = none := by
  unfold nw
  rw [h]
theorem wo_nw_upd {H H' : Hp} {p : Addr} {o : HO} : Same (wo p (nw H H')) (wo p (nw H (upd H' p o))) := fun b u e => by
  have n : b ≠ p := fun z => by
    rw [z, wo_at] at e
    cases e
  rw [wo_ne n] at e ⊢
  obtain ⟨h1, h2⟩ := nw_some e
  rw [nw_at h1, upd_ne n]
  exact h2
theorem nw_mono {H H' H2 : Hp} (s : Same H' H2) : Same (nw H H') (nw H H2) := fun b o e => by
  obtain ⟨h1, h2⟩ := nw_some e
  exact Eq.trans (nw_at h1) (s _ _ h2)
theorem nw_anti {H H1 H2 : Hp} (s : Same H H1) : Same (nw H1 H2) (nw H H2) := fun b o e => by
  obtain ⟨h1, h2⟩ := nw_some e
  exact Eq.trans (nw_at (s.free h1)) h2
/-! the promises -/
def spCall (A : As) : Sp := fun vs H Q _ => ∃ (p dx m r : Addr) (n : Int), vs = [.ref p, .int n, .ref m, .ref r] ∧ H p = some (.ins A.Call dx []) ∧ Q .non (upd H p (.ins A.Call dx (f_Call (.int n) (.ref m) (.ref r))))
def spReadRows (K : PySem.W.Frag) : Sp := fun vs H Q _ => ∃ (a : Addr) (at_ k : Nat) (l t : List Int) (xs : List (List Int)), vs = [.ref a, .int (at_ : Int), .int (k : Int)] ∧ SqL K H a (zs l) ∧ l.length ≤ 15600 ∧ k ≤ 2 ∧
  PyFlat.rows k (l.drop at_) = some (xs, t) ∧ ∀ (H' : Hp) (p : Addr), Same H H' → RowsAt (nw H H') p xs → Q (.ref p) H'
def spReadCalls (K : PySem.W.Frag) (A : As) : Sp := fun vs H Q _ => ∃ (a : Addr) (l : List Int) (raw : List (List (List Int))), vs = [.ref a] ∧ SqL K H a (zs l) ∧ l.length ≤ 15600 ∧
  PyFlat.calls PySj52.shape l.length l = some raw ∧ ∀ (H' : Hp) (p : Addr), Same H H' → CallsAt A (nw H H') p raw → Q (.ref p) H'
section
variable {P : Program} {w : World} {K : PySem.W.Frag} {mg : Str → Option Value} {base : Heap} {A : As}
theorem ok_Call_init {f : Addr} {fd : FuncData} (F : Fun K "__init__" "Call.__init__" s_Call_init f fd) (T : Txt K mg A) : FnOk P w K mg base CX0 1 f fd ["self", "number", "numbers", "rows"] (spCall A) := by
  refine F.ok sc_Call_init (fun vs H Q E h => ?_) (fun cdv Ar outer s H vs Q E hr h => ?_)
  · obtain ⟨p, dx, m, r, n, rfl, _⟩ := h
    rfl
  · obtain ⟨p, dx, m, r, n, rfl, hp, q⟩ := h
    refine ⟨_, (pss_cons (ps_fld (pv 0) (pv 1) rfl)
      (pss_cons (ps_fld (pv 0) (pv 2) rfl)
      (pss_one (ps_fld (pv 0) (pv 3) rfl)))), ?_⟩
    refine ⟨_, rfl, _, rfl, p, _, dx, [], rfl, hp, T.cl_Call, T.na_Call_number, (by show 0 < 1000; decide), ?_⟩
    refine ⟨_, rfl, _, rfl, p, _, dx, _, rfl, upd_same, T.cl_Call, T.na_Call_numbers, (by show 1 < 1000; decide), ?_⟩
    refine ⟨_, rfl, _, rfl, p, _, dx, _, rfl, upd_same, T.cl_Call, T.na_Call_rows, len_putF (len_putF (by decide)), ?_⟩
    simp only [upd_upd, new_Call]
    exact q
theorem ok_read_rows {f : Addr} {fd : FuncData} (F : Fun K "read_rows" "read_rows" s_read_rows f fd) (T : Txt K mg A) : FnOk P w K mg base CX0 1 f fd ["calls", "at", "how_many"] (spReadRows K) := by
  refine F.ok sc_read_rows (fun vs H Q E h => ?_) (fun cdv Ar outer s H vs Q E hr h => ?_)
  · obtain ⟨a, at_, k, l, t, xs, rfl, _⟩ := h
    rfl
  · obtain ⟨a, at_, k, l, t, xs, rfl, ha, hl, hk, hx, q⟩ := h
    refine ⟨_, (pss_cons (ps_set (i := 3) sc_read_rows.nd rfl (Or.inl rfl) (pe_lst pa_nil))
      (pss_cons (ps_for PassesOwn.never rfl (pi_range1 (by rfl) T.range (pa_cons (pv 2) pa_nil)) (pg_name (i := 4) sc_read_rows.nd rfl (Or.inl rfl))
      (pss_cons (ps_set (i := 5) sc_read_rows.nd rfl (Or.inl rfl) (pe_op op_add (pe_op op_add (pv 1) pe_int) (pe_ix ix_list (pv 0) (pv 1) (fun _ _ => rfl))))
      (pss_cons (ps_expr (pe_bm PySem.F.plainAttrs_list PySem.F.slot_list_append PySem.F.type_list_append mt_append (pv 3) (pa_cons (pe_slice sl_list (pv 0) (po_some (pe_op op_add (pv 1) pe_int)) (po_some (pv 5))) pa_nil)))
      (pss_one (ps_set (i := 1) sc_read_rows.nd rfl (Or.inl rfl) (pv 5))))))
      (pss_one (ps_ret (pv 3))))), ?_⟩
    refine ⟨Nat.zero_le _, fun p hp => ?_⟩
    refine ⟨_, rfl, _, rfl, by omega, by omega, for_range (lo := 0) (n := k) (fun i σ H' => ∃ (at_ : Nat) (v4 v5 : Option V) (qs : List Addr), σ = [some (.ref a), some (.int (at_ : Int)), some (.int (k : Int)), some (.ref p), v4, v5] ∧ Same H H' ∧ H' p = some (.lst (qs.map V.ref)) ∧
      Paired (fun q x => H q = none ∧ wo p H' q = some (.lst (zs x))) qs (xs.take i) ∧ PyFlat.rows (k - i) (l.drop at_) = some (xs.drop i, t)) ?_ ?_ ?_⟩
    · exact ⟨at_, none, none, [], rfl, same_upd hp, upd_same, .nil, hx⟩
    · rintro i σ H1 hi ⟨at_, v4, v5, qs, rfl, s1, hp1, hq, hrow⟩
      obtain ⟨j, hj⟩ : ∃ j, k - i = j + 1 := ⟨k - i - 1, by omega⟩
      rw [hj] at hrow
      obtain ⟨x, r, ys, h1, h2, h3⟩ := rows_succ hrow
      obtain ⟨n, rest, e1, hn, e2, e3⟩ := row_some h1
      have hat : at_ < l.length := by
        have : (l.drop at_).length = rest.length + 1 := by rw [e1]; rfl
        rw [List.length_drop] at this
        omega
      have eN : l[at_]? = some (n : Int) := by
        have : (l.drop at_)[0]? = some (n : Int) := by rw [e1]; rfl
        rw [List.getElem?_drop] at this
        exact this
      have eR : rest = l.drop (at_ + 1) := by
        have : (l.drop at_).drop 1 = rest := by rw [e1]; rfl
        rw [List.drop_drop] at this
        exact this.symm
      have hn2 : at_ + 1 + n ≤ l.length := by
        rw [eR, List.length_drop] at hn
        omega
      refine ⟨_, rfl, _, _, rfl, rfl, _, rfl, _, rfl, a, _, _, _, rfl, rfl, s1.seq ha, at_zs eN rfl, _, _, rfl, rfl, ?_⟩
      refine ⟨_, rfl, .inl ⟨rfl, _, SqL.of hp1⟩, _, rfl, _, rfl, _, _, rfl, rfl, _, rfl, _, rfl, _, rfl, a, _, rfl, s1.seq ha, fun c hc => ?_⟩
      have npc : p ≠ c := ne_of_none hp1 hc
      refine ⟨p, _, _, rfl, rfl, Eq.trans (upd_ne npc) hp1, ?_, ?_⟩
      · have l1 := pr_len hq
        rw [List.length_take] at l1
        rw [List.length_map, l1]
        exact Nat.lt_of_le_of_lt (Nat.le_trans (Nat.min_le_left _ _) (show i ≤ 1000 by omega)) (by decide)
      · have ee : ((at_ : Int) + 1 + (n : Int)) = ((at_ + 1 + n : Nat) : Int) := by omega
        have e0 : ((at_ : Int) + 1) = ((at_ + 1 : Nat) : Int) := by omega
        show ∃ v, _ ∧ _
        refine ⟨_, rfl, at_ + 1 + n, some (.int (0 + (i : Int))), some (.int ((at_ : Int) + 1 + (n : Int))), qs ++ [c], ?_, ?_, ?_, ?_, ?_⟩
        · rw [← ee]
          rfl
        · exact same_into (same_into s1 (s1.free hc)) hp
        · rw [upd_same, List.map_append]
          rfl
        · have exi : xs[i]? = some x := by
            have : (xs.drop i)[0]? = some x := by rw [h3]; rfl
            rw [List.getElem?_drop] at this
            exact this
          rw [take_more exi]
          refine pr_append (pr_mono (fun b y z => ?_) hq) (.cons ?_ .nil)
          · rw [wo_upd]
            exact ⟨z.1, wo_mono (same_upd hc) _ _ z.2⟩
          · refine ⟨s1.free hc, ?_⟩
            rw [wo_upd, wo_ne npc.symm, upd_same, ee, e0, cut_zs (by omega) hn2, e2, eR]
            rw [show at_ + 1 + n - (at_ + 1) = n by omega]
        · have e4 : k - (i + 1) = j := by omega
          have e5 : xs.drop (i + 1) = ys := by
            rw [← List.drop_drop, h3]
            rfl
          rw [e4, e5, ← List.drop_drop, ← eR, ← e3]
          exact h2
    · rintro σ H1 ⟨at_, v4, v5, qs, rfl, s1, hp1, hq, hrow⟩
      have e6 : xs.take k = xs := by
        rw [List.take_of_length_le]
        rw [(rows_tot hx).2.2]
        exact Nat.le_refl _
      rw [e6] at hq
      exact ⟨_, rfl, q H1 p s1 ⟨qs, Eq.trans (nw_at hp) hp1, pr_mono (fun _ _ z => Eq.trans (nw_at z.1) (wo_same _ _ z.2)) hq⟩⟩
theorem ok_read_calls {f : Addr} {fd : FuncData} (F : Fun K "read_calls" "read_calls" s_read_calls f fd) (T : Txt K mg A) (h_read_rows : Has P w K mg base 1 "read_rows" ["calls", "at", "how_many"] (spReadRows K))
    (hc_Call : HasC P w K mg base 1 "Call" A.Call ["self", "number", "numbers", "rows"] (spCall A)) (hS : ∀ (p : Int) (n k : Nat), PySj52.shape p = some (n, k) → ∃ t, KInt K A.t_SHAPES p (.ref t) ∧ ∀ H, SqT K H t [.int (n : Int), .int (k : Int)])
    (hS2 : ∀ (p : Int) (n k : Nat), PySj52.shape p = some (n, k) → k ≤ 2) :
    FnOk P w K mg base CX0 3 f fd ["calls"] (spReadCalls K A) := by
  refine F.ok sc_read_calls (fun vs H Q E h => ?_) (fun cdv Ar outer s H vs Q E hr h => ?_)
  · obtain ⟨a, l, raw, rfl, _⟩ := h
    rfl
  · obtain ⟨a, l, raw, rfl, ha, hl, hraw, q⟩ := h
    refine ⟨_, (pss_cons (ps_set (i := 1) sc_read_calls.nd rfl (Or.inl rfl) (pe_lst pa_nil))
      (pss_cons (ps_set (i := 2) sc_read_calls.nd rfl (Or.inl rfl) pe_int)
      (pss_cons (ps_while PassesOwn.never (pt_cmpR op_lt (pv 2) (pe_callB call_len_seq (by rfl) T.len PySem.boot_len (pa_cons (pv 0) pa_nil)) (nomark _))
      (pss_cons (ps_set (i := 3) sc_read_calls.nd rfl (Or.inl rfl) (pe_ix ix_kint (pe_gr T.g_SHAPES) (pe_ix ix_list (pv 0) (pv 2) (fun _ _ => rfl)) (fun _ _ => rfl)))
      (pss_cons (ps_set (i := 4) sc_read_calls.nd rfl (Or.inl rfl) (pe_op op_add (pe_op op_add (pv 2) pe_int) (pe_ix ix_tup (pv 3) pe_int (fun _ _ => rfl))))
      (pss_cons (ps_set (i := 5) sc_read_calls.nd rfl (Or.inl rfl) (pe_hca h_read_rows hr (by decide) rfl (pa_cons (pv 0) (pa_cons (pv 4) (pa_cons (pe_ix ix_tup (pv 3) pe_int (fun _ _ => rfl)) pa_nil)))))
      (pss_cons (ps_expr (pe_bm PySem.F.plainAttrs_list PySem.F.slot_list_append PySem.F.type_list_append mt_append (pv 1) (pa_cons (pe_hmk hc_Call hr (by decide) rfl (pa_cons (pe_ix ix_list (pv 0) (pv 2) (fun _ _ => rfl)) (pa_cons (pe_slice sl_list (pv 0) (po_some (pe_op op_add (pv 2) pe_int)) (po_some (pv 4))) (pa_cons (pv 5) pa_nil)))) pa_nil)))
      (pss_one (ps_set (i := 2) sc_read_calls.nd rfl (Or.inl rfl) (pe_op op_add (pv 4) (pe_callB (cr_sum rfl) (by rfl) T.sum (by decide +kernel) (pa_cons (pe_lc (own := [("row", 6)]) (g := gName 6) (tt := tYes) (by rfl) sc_read_calls.nd (pi_list (pv 5)) (blkOk_by (own := [("row", 6)]) (N := ["calls", "found", "at", "shape", "rows_begin", "rows", "row"]) (sc := defScope s_read_calls) (by decide +kernel)) (fun _ _ _ _ _ => (pg_name (i := 6) sc_read_calls.nd rfl (Or.inl rfl))) (fun _ _ _ _ _ => pts_nil) (fun _ _ _ _ _ => (pe_op op_add pe_int (pe_callB (call_lenK (K := K) rfl) (by rfl) T.len PySem.boot_len (pa_cons (pv 6) pa_nil))))) pa_nil))))))))))
      (pss_one (ps_ret (pv 1)))))), ?_⟩
    refine ⟨Nat.zero_le _, fun p hp => ?_⟩
    refine ⟨fun m σ H' => ∃ (at_ j f : Nat) (qs : List Addr) (v3 v4 v5 v6 : Option V), σ = [some (.ref a), some (.ref p), some (.int (at_ : Int)), v3, v4, v5, v6] ∧ Same H H' ∧ H' p = some (.lst (qs.map V.ref)) ∧ Paired (CallAt A (wo p (nw H H'))) qs (raw.take j) ∧ j ≤ at_ ∧ j ≤ raw.length ∧
      PyFlat.calls PySj52.shape f (l.drop at_) = some (raw.drop j) ∧ at_ ≤ l.length ∧ m = l.length - at_, ⟨l.length, 0, 0, l.length, [], none, none, none, none, rfl, same_upd hp, upd_same, .nil, Nat.le_refl _, Nat.zero_le _, hraw, Nat.zero_le _, rfl⟩, ?_⟩
    rintro m σ H1 ⟨at_, j, fu, qs, v3, v4, v5, v6, rfl, s1, hp1, hq, hja, hjr, hrest, hat, rfl⟩
    refine ⟨_, rfl, _, rfl, a, _, rfl, .inl (s1.seq ha), _, _, rfl, rfl, _, rfl, ?_⟩
    rw [len_zs]
    by_cases c : at_ < l.length
    · rw [decide_eq_true (show (at_ : Int) < (l.length : Int) by omega)]
      refine iteT ⟨fun σ' H' => ∃ m', m' < l.length - at_ ∧ ∃ (at_ j f : Nat) (qs : List Addr) (v3 v4 v5 v6 : Option V), σ' = [some (.ref a), some (.ref p), some (.int (at_ : Int)), v3, v4, v5, v6] ∧ Same H H' ∧ H' p = some (.lst (qs.map V.ref)) ∧ Paired (CallAt A (wo p (nw H H'))) qs (raw.take j) ∧ j ≤ at_ ∧ j ≤ raw.length ∧
        PyFlat.calls PySj52.shape f (l.drop at_) = some (raw.drop j) ∧ at_ ≤ l.length ∧ m' = l.length - at_, fun _ _ z => z, ?_⟩
      obtain ⟨z, rest, el⟩ : ∃ z rest, l.drop at_ = z :: rest := by
        cases e : l.drop at_ with
        | nil =>
          have := congrArg List.length e
          rw [List.length_drop] at this
          have : l.length - at_ = 0 := this
          omega
        | cons z rest => exact ⟨z, rest, rfl⟩
      rw [el] at hrest
      obtain ⟨n, k, xs, t, cs, fu', hsh, hn, hrows, hcs, eraw⟩ := calls_cons hrest
      have eZ : l[at_]? = some z := by
        have : (l.drop at_)[0]? = some z := by rw [el]; rfl
        rw [List.getElem?_drop] at this
        exact this
      have eR : rest = l.drop (at_ + 1) := by
        have : (l.drop at_).drop 1 = rest := by rw [el]; rfl
        rw [List.drop_drop] at this
        exact this.symm
      have hn2 : at_ + 1 + n ≤ l.length := by
        rw [eR, List.length_drop] at hn
        omega
      obtain ⟨sh, hk1, hk2⟩ := hS z n k hsh
      have hk := hS2 z n k hsh
      have eRB : rest.drop n = l.drop (at_ + 1 + n) := by rw [eR, List.drop_drop]
      rw [eRB] at hrows
      obtain ⟨et, htot, _⟩ := rows_tot hrows
      rw [List.length_drop] at htot
      rw [List.drop_drop] at et
      have e0 : ((at_ : Int) + 1) = ((at_ + 1 : Nat) : Int) := by omega
      have ee : ((at_ : Int) + 1 + (n : Int)) = ((at_ + 1 + n : Nat) : Int) := by omega
      -- shape = SHAPES[calls[at]]; rows_begin = at + 1 + shape[0]; rows = read_rows(..)
      refine ⟨_, rfl, _, rfl, a, _, _, _, rfl, rfl, s1.seq ha, at_zs eZ rfl, A.t_SHAPES, z, _, rfl, rfl, hk1, ?_⟩
      refine ⟨_, rfl, _, _, rfl, rfl, _, rfl, sh, _, _, _, rfl, rfl, hk2 _, atI_nat (j := 0) rfl, _, _, rfl, rfl, ?_⟩
      simp only [ee]
      refine ⟨_, rfl, _, rfl, _, rfl, sh, _, _, _, rfl, rfl, hk2 _, atI_nat (j := 1) rfl, a, at_ + 1 + n, k, l, t, xs, rfl, s1.seq ha, hl, hk, hrows, fun H2 b s2 hb => ?_⟩
      have s3 := s1.trans s2
      have hp2 := s2 _ _ hp1
      -- found.append(Call(calls[at], calls[at + 1:rows_begin], rows))
      refine ⟨_, rfl, .inl ⟨rfl, _, SqL.of hp2⟩, _, rfl, _, rfl, a, _, _, _, rfl, rfl, s3.seq ha, at_zs eZ rfl, _, rfl, _, rfl, _, _, rfl, rfl, _, rfl, _, rfl, _, rfl, a, _, rfl, s3.seq ha, fun c hc => ?_⟩
      refine ⟨_, rfl, fun x dx nx nd nex => ?_⟩
      obtain ⟨nxc, nx2⟩ := none_upd nx
      obtain ⟨ndc, nd2⟩ := none_upd nd
      have npc : p ≠ c := ne_of_none hp2 hc
      have npx : p ≠ x := ne_of_none hp2 nx2
      have npd : p ≠ dx := ne_of_none hp2 nd2
      refine ⟨x, dx, c, b, z, rfl, upd_same, rfl, ?_⟩
      rw [upd_upd]
      have s4 : Same H2 (upd (upd (upd H2 c (HO.lst (cutV (zs l) (some ((at_ : Int) + 1)) (some ((at_ + 1 + n : Nat) : Int))))) dx (.own x)) x (.ins A.Call dx (f_Call (.int z) (.ref c) (.ref b)))) :=
        same_into (same_into (same_upd hc) nd2) nx2
      have hcx : upd (upd (upd H2 c (HO.lst (cutV (zs l) (some ((at_ : Int) + 1)) (some ((at_ + 1 + n : Nat) : Int))))) dx (.own x)) x (.ins A.Call dx (f_Call (.int z) (.ref c) (.ref b))) c = some (.lst (zs (rest.take n))) := by
        rw [upd_ne nxc.symm, upd_ne ndc.symm, upd_same, e0, cut_zs (by omega) hn2, eR, show at_ + 1 + n - (at_ + 1) = n by omega]
      have hxx : upd (upd (upd H2 c (HO.lst (cutV (zs l) (some ((at_ : Int) + 1)) (some ((at_ + 1 + n : Nat) : Int))))) dx (.own x)) x (.ins A.Call dx (f_Call (.int z) (.ref c) (.ref b))) x = some (.ins A.Call dx (f_Call (.int z) (.ref c) (.ref b))) := upd_same
      generalize upd (upd (upd H2 c (HO.lst (cutV (zs l) (some ((at_ : Int) + 1)) (some ((at_ + 1 + n : Nat) : Int))))) dx (.own x)) x (.ins A.Call dx (f_Call (.int z) (.ref c) (.ref b))) = H3 at s4 hcx hxx ⊢
      have s5 := s3.trans s4
      have hp3 := s4 _ _ hp2
      have lq : qs.length ≤ 15600 := by
        rw [pr_len hq, List.length_take]
        omega
      refine ⟨p, _, _, rfl, rfl, hp3, ?_, ?_⟩
      · rw [List.length_map]
        exact Nat.lt_of_le_of_lt lq (by decide)
      have s6 : Same H (upd H3 p (.lst (qs.map V.ref ++ [V.ref x]))) := same_into s5 hp
      have hb4 : RowsAt (wo p (nw H H3)) b xs := hb.same ((wo_into (nw_anti s1) (nw_none hp1)).trans (wo_mono (nw_mono s4)))
      generalize hH4 : upd H3 p (.lst (qs.map V.ref ++ [V.ref x])) = H4 at s6
      have w34 : Same (wo p (nw H H3)) (wo p (nw H H4)) := by
        rw [← hH4]
        exact wo_nw_upd
      have hb5 : RowsAt H4 b xs := (hb4.same w34).same (wo_same.trans nw_same)
      obtain ⟨rs, hbl, hbr⟩ := hb5
      -- at = rows_begin + sum(1 + len(row) ..)
      refine ⟨_, rfl, _, rfl, b, rfl, ⟨_, SqL.of hbl⟩, fun D hD => lc_list (K := K) (a := b) (xs := rs.map V.ref) (fun i H' => Same H4 H' ∧ H' D = some (.lst (zs ((xs.take i).map fun x => ((1 + x.length : Nat) : Int))))) ⟨same_upd hD, upd_same⟩ (fun i H' _ ⟨s7, _⟩ => SqL.of (s7 _ _ hbl)) ?_ ?_⟩
      · rintro i y H5 hi ⟨s7, hD5⟩
        obtain ⟨r, hri, rfl⟩ := get_ref hi
        obtain ⟨x', hxi, hr5⟩ := pr_get hbr hri
        refine ⟨rfl, yes_if ⟨_, rfl, r, _, rfl, .inl (SqL.of (s7 _ _ hr5)), _, _, rfl, rfl, _, hD5, ?_, same_into s7 hD, ?_⟩⟩
        · rw [len_zs, List.length_map, List.length_take]
          exact Nat.lt_of_le_of_lt (Nat.min_le_left _ _) (Nat.lt_of_le_of_lt (show i ≤ 15600 from by
            have h1 := (List.getElem?_eq_some_iff.mp hxi).1
            have h2 := (rows_tot hrows).2.2
            omega) (by decide))
        · rw [upd_same, take_more hxi, List.map_append, len_zs]
          show _ = some (HO.lst (zs (_ ++ [((1 + x'.length : Nat) : Int)])))
          rw [zs_more]
          have : ((1 + x'.length : Nat) : Int) = 1 + (x'.length : Int) := by omega
          rw [this]
      · rintro H5 ⟨s7, hD5⟩
        rw [List.length_map, pr_len hbr, List.take_length] at hD5
        refine ⟨D, _, rfl, SqL.of hD5, _, _, rfl, rfl, ?_⟩
        have e9 : ∀ ys : List (List Int), (ys.map fun x => ((1 + x.length : Nat) : Int)).sum = ((tot ys : Nat) : Int) := fun ys => by
          induction ys with
          | nil => rfl
          | cons y r ih =>
            unfold tot at ih ⊢
            rw [List.map_cons, List.map_cons, List.sum_cons, List.sum_cons, ih]
            omega
        have e10 : ((at_ + 1 + n : Nat) : Int) + ((tot xs : Nat) : Int) = ((at_ + 1 + n + tot xs : Nat) : Int) := by omega
        have exj : raw[j]? = some ((z :: rest.take n) :: xs) := by
          have : (raw.drop j)[0]? = some ((z :: rest.take n) :: xs) := by rw [eraw]; rfl
          rw [List.getElem?_drop] at this
          exact this
        rw [e9]
        simp only [e10]
        refine ⟨l.length - (at_ + 1 + n + tot xs), by omega, at_ + 1 + n + tot xs, j + 1, fu', qs ++ [x], _, _, _, _, rfl, s6.trans s7, ?_, ?_, by omega, ?_, ?_, by omega, rfl⟩
        · have : H4 p = some (.lst (qs.map V.ref ++ [V.ref x])) := by rw [← hH4, upd_same]
          rw [s7 _ _ this, List.map_append]
          rfl
        · rw [take_more exj]
          have w35 : Same (wo p (nw H H3)) (wo p (nw H H5)) := w34.trans (wo_mono (nw_mono s7))
          have w25 : Same (wo p (nw H H1)) (wo p (nw H H5)) := (wo_mono (nw_mono (s2.trans s4))).trans w35
          refine pr_append (pr_mono (fun _ _ z => z.same w25) hq) (.cons ?_ .nil)
          refine ⟨z, rest.take n, xs, dx, c, b, rfl, w35 _ _ (Eq.trans (wo_ne npx.symm) (Eq.trans (nw_at (s3.free nx2)) hxx)), w35 _ _ (Eq.trans (wo_ne npc.symm) (Eq.trans (nw_at (s3.free hc)) hcx)), hb4.same w35⟩
        · exact (List.getElem?_eq_some_iff.mp exj).1
        · rw [← et]
          have : raw.drop (j + 1) = cs := by
            rw [← List.drop_drop, eraw]
            rfl
          rw [this]
          exact hcs
    · rw [decide_eq_false (show ¬ (at_ : Int) < (l.length : Int) by omega)]
      refine iteF ⟨_, rfl, ?_⟩
      have e1 : l.drop at_ = [] := List.drop_eq_nil_of_le (by omega)
      rw [e1] at hrest
      have e2 := calls_nil hrest
      have e3 : raw.take j = raw := by
        have : raw.length - j = 0 := by
          have := congrArg List.length e2
          rw [List.length_drop] at this
          exact this
        exact List.take_of_length_le (by omega)
      rw [e3] at hq
      exact q H1 p s1 ⟨qs, Eq.trans (nw_at hp) hp1, pr_mono (fun _ _ z => z.same wo_same) hq⟩
end
end Fr

namespace Fr
open PySem PySem.Spec PyProof.Rows L2
/-! ### F2. Rules: masks, words, which rule fits -/
abbrev s_Rule_init : Stmt := (inClass (top 8) 0)
theorem sc_Rule_init : FnScope ["self", "mask", "value", "word", "lo", "hi", "deed"] ["self", "mask", "value", "word", "lo", "hi", "deed"] (defScope s_Rule_init) := ⟨rfl, rfl, rfl, by decide +kernel, rfl, by decide +kernel, by decide +kernel⟩
abbrev s_under_mask : Stmt := (top 9)
theorem sc_under_mask : FnScope ["octets", "mask", "octet", "bits"] ["octets", "mask"] (defScope s_under_mask) := ⟨rfl, rfl, rfl, by decide +kernel, rfl, by decide +kernel, by decide +kernel⟩
abbrev s_word_of : Stmt := (top 10)
theorem sc_word_of : FnScope ["key", "word"] ["key", "word"] (defScope s_word_of) := ⟨rfl, rfl, rfl, by decide +kernel, rfl, by decide +kernel, by decide +kernel⟩
abbrev s_fits : Stmt := (top 11)
theorem sc_fits : FnScope ["rule", "key"] ["rule", "key"] (defScope s_fits) := ⟨rfl, rfl, rfl, by decide +kernel, rfl, by decide +kernel, by decide +kernel⟩
abbrev s_deed_by_rules : Stmt := (top 12)
theorem sc_deed_by_rules : FnScope ["rules", "key", "rule"] ["rules", "key"] (defScope s_deed_by_rules) := ⟨rfl, rfl, rfl, by decide +kernel, rfl, by decide +kernel, by decide +kernel⟩
/-! the mathematics -/
theorem dp_ns {K : PySem.W.Frag} {H : Hp} : ∀ l : List Nat, DpAll K H (ns l) (l.map fun (n : Nat) => PyData.int (n : Int))
  | [] => .nil
  | _ :: r => .cons (.int _) (dp_ns r)
theorem eqv_ns : ∀ l m : List Nat, PyData.eqvAll (l.map fun (n : Nat) => PyData.int (n : Int)) (m.map fun (n : Nat) => PyData.int (n : Int)) = (l == m)
  | [], [] => rfl
  | [], _ :: _ => rfl
  | _ :: _, [] => rfl
  | a :: l, b :: m => by
    show (((a : Int) == (b : Int)) && PyData.eqvAll (l.map _) (m.map _)) = ((a == b) && (l == m))
    rw [eqv_ns l m]
    congr 1
    by_cases h : a = b
    · subst h; simp
    · have h2 : ¬ (a : Int) = (b : Int) := fun z => h (Int.ofNat.inj z)
      rw [beq_eq_false_iff_ne.mpr h, beq_eq_false_iff_ne.mpr h2]
theorem lay_ns : ∀ l : List Nat, PyData.canLayAll0 (l.map fun (n : Nat) => PyData.int (n : Int)) = true
  | [] => rfl
  | _ :: r => by
    show (true && _) = true
    rw [lay_ns r]
    rfl
theorem deep_ns : ∀ l : List Nat, PyData.depthAll (l.map fun (n : Nat) => PyData.int (n : Int)) = 0
  | [] => rfl
  | _ :: r => by
    show max 0 (PyData.depthAll (r.map _)) = 0
    rw [deep_ns r]
    rfl
theorem sh_ns (l : List Nat) : SeqAt.shaped (.list (l.map fun (n : Nat) => PyData.int (n : Int))) = true := by
  show (PyData.canLayAll0 (l.map _) && decide (PyData.depthAll (l.map _) + 1 ≤ 64)) = true
  rw [lay_ns, deep_ns]
  decide
def under (k m : List Nat) : List Nat := (k.zip m).map fun x => Nat.land x.1 x.2
theorem under_more {k m : List Nat} {i a b : Nat} (h1 : k[i]? = some a) (h2 : m[i]? = some b) : under (k.take (i + 1)) (m.take (i + 1)) = under (k.take i) (m.take i) ++ [Nat.land a b] := by
  have l1 : i < k.length := (List.getElem?_eq_some_iff.mp h1).1
  have l2 : i < m.length := (List.getElem?_eq_some_iff.mp h2).1
  have e : (k.take i).length = (m.take i).length := by rw [List.length_take, List.length_take]; omega
  unfold under
  rw [take_more h1, take_more h2, List.zip_append e, List.map_append]
  rfl
theorem under_len (k m : List Nat) : (under k m).length = min k.length m.length := by
  unfold under
  rw [List.length_map, List.length_zip]
theorem under_all {k m : List Nat} : under (k.take (min k.length m.length)) (m.take (min k.length m.length)) = under k m := by
  unfold under
  rw [List.zip_eq_zipWith, ← List.take_zipWith, List.take_of_length_le, ← List.zip_eq_zipWith]
  rw [← List.zip_eq_zipWith, List.length_zip]
  exact Nat.le_refl _
theorem land_int (a b : Nat) : Builtin.bitAnd (a : Int) (b : Int) = ((Nat.land a b : Nat) : Int) := by
  rw [bitAnd_pp (Int.natCast_nonneg a) (Int.natCast_nonneg b)]
  rfl
/-! the promises -/
/-- under_mask(octets, mask): a new list -/
def spUnder (K : PySem.W.Frag) : Sp := fun vs H Q _ => ∃ (a b : Addr) (k m : List Nat), vs = [.ref a, .ref b] ∧ SqL K H a (ns k) ∧ SqL K H b (ns m) ∧ k.length ≤ 1000 ∧
  ∀ (H' : Hp) (p : Addr), Same H H' → H p = none → H' p = some (.lst (ns (under k m))) → Q (.ref p) H'
def spWord (K : PySem.W.Frag) : Sp := fun vs H Q _ => ∃ (a : Addr) (k : List Nat) (w : Nat), vs = [.ref a, .int (w : Int)] ∧ SqL K H a (ns k) ∧ w + 1 < k.length ∧ Q (.int ((Sj52.wordAt k w : Nat) : Int)) H
/-- a rule lies at p -/
def RuleAt (A : As) (H : Hp) (p : Addr) (r : Sj52.Rule) : Prop := ∃ dx m v, H p = some (.ins A.Rule dx (f_Rule (.ref m) (.ref v) (.int (r.word : Int)) (.int (r.lo : Int)) (.int (r.hi : Int)) (.int (r.deed : Int)))) ∧
  H m = some (.lst (ns r.mask)) ∧ H v = some (.lst (ns r.value))
theorem RuleAt.same {A : As} {H H' : Hp} {p : Addr} {r : Sj52.Rule} (s : Same H H') : RuleAt A H p r → RuleAt A H' p r
  | ⟨dx, m, v, h1, h2, h3⟩ => ⟨dx, m, v, s _ _ h1, s _ _ h2, s _ _ h3⟩
/-- what is asked of a rule -/
def WfR (r : Sj52.Rule) : Prop := r.mask.length = 16 ∧ r.word ≤ 14 ∧ r.value.length = 16
def RulesAt (A : As) (H : Hp) (l : Addr) (rs : List Sj52.Rule) : Prop := ∃ ps : List Addr, H l = some (.lst (ps.map V.ref)) ∧ Paired (fun p r => RuleAt A H p r ∧ WfR r) ps rs
theorem RulesAt.same {A : As} {H H' : Hp} {l : Addr} {rs : List Sj52.Rule} (s : Same H H') : RulesAt A H l rs → RulesAt A H' l rs
  | ⟨ps, h1, h2⟩ => ⟨ps, s _ _ h1, pr_mono (fun _ _ ⟨a, b⟩ => ⟨a.same s, b⟩) h2⟩
def spFits (K : PySem.W.Frag) (A : As) : Sp := fun vs H Q _ => ∃ (p a : Addr) (k : List Nat) (r : Sj52.Rule), vs = [.ref p, .ref a] ∧ RuleAt A H p r ∧ WfR r ∧ SqL K H a (ns k) ∧ k.length = 16 ∧ ∀ H', Same H H' → Q (.bl (r.fits k)) H'
def spDeed (K : PySem.W.Frag) (A : As) : Sp := fun vs H Q _ => ∃ (l a : Addr) (k : List Nat) (rs : List Sj52.Rule), vs = [.ref l, .ref a] ∧ RulesAt A H l rs ∧ SqL K H a (ns k) ∧ k.length = 16 ∧ ∀ H', Same H H' → Q (.int ((Sj52.first rs k : Nat) : Int)) H'
def spRule (A : As) : Sp := fun vs H Q _ => ∃ (p dx m v : Addr) (k u : List Nat) (w lo hi d : Nat), vs = [.ref p, .ref m, .ref v, .int (w : Int), .int (lo : Int), .int (hi : Int), .int (d : Int)] ∧ H p = some (.ins A.Rule dx []) ∧
  H m = some (.lst (ns k)) ∧ H v = some (.lst (ns u)) ∧ k.length = 16 ∧ u.length = 16 ∧ ∀ (H' : Hp) (c : Addr), H' p = some (.ins A.Rule dx (f_Rule (.ref m) (.ref c) (.int (w : Int)) (.int (lo : Int)) (.int (hi : Int)) (.int (d : Int)))) → H c = none → H' c = some (.lst (ns (under u k))) → But p H H' → Q .non H'
theorem first_at {rs : List Sj52.Rule} {k : List Nat} : ∀ {i : Nat} {r : Sj52.Rule}, rs[i]? = some r → (∀ x ∈ rs.take i, x.fits k = false) → r.fits k = true → Sj52.first rs k = r.deed := by
  induction rs with
  | nil => intro i r h; simp at h
  | cons a l ih =>
    intro i r h hn hf
    cases i with
    | zero =>
      have e : a = r := Option.some.inj h
      subst e
      unfold Sj52.first
      rw [List.find?_cons_of_pos (p := fun r : Sj52.Rule => r.fits k) hf]
    | succ i =>
      have ha : a.fits k = false := hn a (List.mem_cons_self ..)
      have e : Sj52.first (a :: l) k = Sj52.first l k := by
        unfold Sj52.first
        rw [List.find?_cons_of_neg (p := fun r : Sj52.Rule => r.fits k) (by rw [ha]; exact Bool.false_ne_true)]
      rw [e]
      exact ih h (fun x hx => hn x (List.mem_cons_of_mem _ hx)) hf
theorem first_none {rs : List Sj52.Rule} {k : List Nat} (h : ∀ x ∈ rs, x.fits k = false) : Sj52.first rs k = 0 := by
  unfold Sj52.first
  rw [List.find?_eq_none.mpr (fun x hx => by rw [h x hx]; exact Bool.false_ne_true)]
theorem fits_eq (r : Sj52.Rule) (k : List Nat) : r.fits k = ((under k r.mask == r.value) && (decide (r.lo ≤ Sj52.wordAt k r.word) && decide (Sj52.wordAt k r.word ≤ r.hi))) := rfl
section
variable {P : Program} {w : World} {K : PySem.W.Frag} {mg : Str → Option Value} {base : Heap} {A : As}
theorem ok_under_mask {f : Addr} {fd : FuncData} (F : Fun K "under_mask" "under_mask" s_under_mask f fd) (T : Txt K mg A) : FnOk P w K mg base CX0 1 f fd ["octets", "mask"] (spUnder K) := by
  refine F.ok sc_under_mask (fun vs H Q E h => ?_) (fun cdv A outer s H vs Q E hr h => ?_)
  · obtain ⟨a, b, k, m, rfl, _⟩ := h
    rfl
  · obtain ⟨a, b, k, m, rfl, ha, hb, hl, q⟩ := h
    refine ⟨_, (pss_one (ps_ret (pe_lc (own := [("octet", 2), ("bits", 3)]) (g := gTup K 2 (gCons (gName 2) (gCons (gName 3) gNil))) (tt := tYes) (by rfl) sc_under_mask.nd (pi_zip (by rfl) T.zip (pa_cons (pv 0) (pa_cons (pv 1) pa_nil))) (blkOk_by (own := [("octet", 2), ("bits", 3)]) (N := ["octets", "mask", "octet", "bits"]) (sc := defScope s_under_mask) (by decide +kernel)) (fun _ _ _ _ _ => (pg_tup rfl (pgs_cons (pg_name (i := 2) sc_under_mask.nd rfl (Or.inl rfl)) (pgs_cons (pg_name (i := 3) sc_under_mask.nd rfl (Or.inl rfl)) pgs_nil)))) (fun _ _ _ _ _ => pts_nil) (fun _ _ _ _ _ => (pe_op op_and (pv 2) (pv 3)))))), ?_⟩
    refine ⟨_, rfl, _, rfl, a, b, _, _, rfl, ha, hb, fun D hD => lc_it (walk_zip (xs := ns k) (ys := ns m) (n := min k.length m.length) (by rw [len_ns, len_ns])) (fun i H' => Same H H' ∧ H' D = some (.lst (ns (under (k.take i) (m.take i))))) ?_ ?_ ?_ ?_⟩
    · exact ⟨same_upd hD, upd_same⟩
    · exact fun i H' _ ⟨s1, _⟩ => ⟨s1.seq ha, s1.seq hb⟩
    · rintro i v H1 H2 hi ⟨s1, hD1⟩ ⟨t, x, y, rfl, ht, rfl, hx, hy⟩
      obtain ⟨n1, h1, rfl⟩ := get_ns hx
      obtain ⟨n2, h2, rfl⟩ := get_ns hy
      refine ⟨t, _, rfl, .inl (.inl upd_same), rfl, _, _, rfl, _, _, rfl, rfl, rfl, ?_⟩
      refine yes_if ?_
      refine ⟨_, rfl, _, rfl, _, _, rfl, rfl, _, Eq.trans (upd_ne (ne_of_none hD1 ht)) hD1, ?_, ?_, ?_⟩
      · rw [len_ns, under_len, List.length_take]
        exact Nat.lt_of_le_of_lt (Nat.le_trans (Nat.min_le_left _ _) (Nat.le_trans (Nat.min_le_right _ _) hl)) (by decide)
      · exact same_into (same_into s1 (s1.free ht)) hD
      · rw [upd_same, under_more h1 h2, ns_more, ← land_int]
    · rintro H1 ⟨s1, hD1⟩
      rw [under_all] at hD1
      exact q H1 D s1 hD hD1
theorem ok_word_of {f : Addr} {fd : FuncData} (F : Fun K "word_of" "word_of" s_word_of f fd) : FnOk P w K mg base CX0 1 f fd ["key", "word"] (spWord K) := by
  refine F.ok sc_word_of (fun vs H Q E h => ?_) (fun cdv A outer s H vs Q E hr h => ?_)
  · obtain ⟨a, k, w, rfl, _⟩ := h
    rfl
  · obtain ⟨a, k, w, rfl, ha, hl, q⟩ := h
    have e1 : k[w]? = some (k.getD w 0) := by
      rw [List.getD_eq_getElem?_getD, List.getElem?_eq_getElem (by omega)]
      rfl
    have e2 : k[w + 1]? = some (k.getD (w + 1) 0) := by
      rw [List.getD_eq_getElem?_getD, List.getElem?_eq_getElem (by omega)]
      rfl
    refine ⟨_, (pss_one (ps_ret (pe_op op_add (pe_op op_mul pe_int (pe_ix ix_list (pv 0) (pv 1) (fun _ _ => rfl))) (pe_ix ix_list (pv 0) (pe_op op_add (pv 1) pe_int) (fun _ _ => rfl))))), ?_⟩
    refine ⟨_, rfl, _, rfl, a, _, _, _, rfl, rfl, ha, at_ns e1 rfl, _, _, rfl, rfl, .inl ⟨by decide, by decide⟩, _, rfl, _, rfl, _, _, rfl, rfl, a, _, _, _, rfl, rfl, ha, at_ns e2 (by omega), _, _, rfl, rfl, ?_⟩
    have e : (256 : Int) * (k.getD w 0 : Int) + (k.getD (w + 1) 0 : Int) = ((Sj52.wordAt k w : Nat) : Int) := by
      unfold Sj52.wordAt
      omega
    show Q (.int ((256 : Int) * (k.getD w 0 : Int) + (k.getD (w + 1) 0 : Int))) H
    rw [e]
    exact q
theorem ok_fits {f : Addr} {fd : FuncData} (F : Fun K "fits" "fits" s_fits f fd) (T : Txt K mg A) (h_under_mask : Has P w K mg base 1 "under_mask" ["octets", "mask"] (spUnder K)) (h_word_of : Has P w K mg base 1 "word_of" ["key", "word"] (spWord K)) :
    FnOk P w K mg base CX0 2 f fd ["rule", "key"] (spFits K A) := by
  refine F.ok sc_fits (fun vs H Q E h => ?_) (fun cdv Ar outer s H vs Q E hr h => ?_)
  · obtain ⟨p, a, k, r, rfl, _⟩ := h
    rfl
  · obtain ⟨p, a, k, r, rfl, ⟨dx, m, v, hp, hm, hv⟩, ⟨wm, ww, _⟩, ha, hl, q⟩ := h
    refine ⟨_, (pss_cons (ps_if (pt_cmpR (op_neD hr.units) (pe_hca h_under_mask hr (by decide) rfl (pa_cons (pv 1) (pa_cons (pe_fld (pv 0) rfl) pa_nil))) (pe_fld (pv 0) rfl) (nomark _)) (pss_one (ps_ret pe_bl)) pss_nil)
      (pss_one (ps_ret (pe_chain op_le op_le (pe_fld (pv 0) rfl) (pe_hca h_word_of hr (by decide) rfl (pa_cons (pv 1) (pa_cons (pe_fld (pv 0) rfl) pa_nil))) (pe_fld (pv 0) rfl))))), ?_⟩
    refine ⟨_, rfl, _, rfl, p, A.Rule, dx, _, _, rfl, hp, T.cl_Rule, T.na_Rule_mask, lk_Rule_mask, a, m, k, r.mask, rfl, ha, SqL.of hm, by omega, fun H1 c s1 hc0 hc => ?_⟩
    have hp1 := s1 _ _ hp
    refine ⟨_, rfl, p, A.Rule, dx, _, _, rfl, hp1, T.cl_Rule, T.na_Rule_value, lk_Rule_value, _, _, .lst (SqL.of hc) (dp_ns _), .lst (SqL.of (s1 _ _ hv)) (dp_ns _), sh_ns _, sh_ns _, _, rfl, ?_⟩
    show if (!PyData.eqvAll ((under k r.mask).map _) (r.value.map _)) = true then _ else _
    rw [eqv_ns]
    cases e : (under k r.mask == r.value) with
    | false =>
      refine iteT ?_
      have e2 : r.fits k = false := by rw [fits_eq, e]; rfl
      have q2 := q H1 s1
      rw [e2] at q2
      exact q2
    | true =>
      refine iteF ?_
      have e2 : r.fits k = (decide (r.lo ≤ Sj52.wordAt k r.word) && decide (Sj52.wordAt k r.word ≤ r.hi)) := by rw [fits_eq, e]; rfl
      have q2 := q H1 s1
      rw [e2] at q2
      refine ⟨_, rfl, p, A.Rule, dx, _, _, rfl, hp1, T.cl_Rule, T.na_Rule_lo, lk_Rule_lo, _, rfl, _, rfl, p, A.Rule, dx, _, _, rfl, hp1, T.cl_Rule, T.na_Rule_word, lk_Rule_word, a, k, r.word, rfl, s1.seq ha, by omega, ?_⟩
      refine ⟨_, _, rfl, rfl, _, rfl, ?_⟩
      by_cases c1 : r.lo ≤ Sj52.wordAt k r.word
      · rw [decide_eq_true (show (r.lo : Int) ≤ (Sj52.wordAt k r.word : Int) by omega)]
        refine iteT ⟨_, rfl, p, A.Rule, dx, _, _, rfl, hp1, T.cl_Rule, T.na_Rule_hi, lk_Rule_hi, _, _, rfl, rfl, ?_⟩
        rw [decide_eq_true c1, Bool.true_and] at q2
        have e3 : decide ((Sj52.wordAt k r.word : Int) ≤ (r.hi : Int)) = decide (Sj52.wordAt k r.word ≤ r.hi) := by
          by_cases c2 : Sj52.wordAt k r.word ≤ r.hi
          · rw [decide_eq_true c2, decide_eq_true (by omega)]
          · rw [decide_eq_false c2, decide_eq_false (by omega)]
        show Q (.bl (decide ((Sj52.wordAt k r.word : Int) ≤ (r.hi : Int)))) H1
        rw [e3]
        exact q2
      · rw [decide_eq_false (show ¬ (r.lo : Int) ≤ (Sj52.wordAt k r.word : Int) by omega)]
        rw [decide_eq_false c1, Bool.false_and] at q2
        exact iteF q2
theorem ok_deed_by_rules {f : Addr} {fd : FuncData} (F : Fun K "deed_by_rules" "deed_by_rules" s_deed_by_rules f fd) (T : Txt K mg A) (h_fits : Has P w K mg base 2 "fits" ["rule", "key"] (spFits K A)) :
    FnOk P w K mg base CX0 3 f fd ["rules", "key"] (spDeed K A) := by
  refine F.ok sc_deed_by_rules (fun vs H Q E h => ?_) (fun cdv Ar outer s H vs Q E hr h => ?_)
  · obtain ⟨l, a, k, rs, rfl, _⟩ := h
    rfl
  · obtain ⟨l, a, k, rs, rfl, ⟨ps, hl, hp⟩, ha, hk, q⟩ := h
    refine ⟨_, (pss_cons (ps_for PassesOwn.never rfl (pi_list (pv 0)) (pg_name (i := 2) sc_deed_by_rules.nd rfl (Or.inl rfl))
      (pss_one (ps_if (pt_val (pe_hca h_fits hr (by decide) rfl (pa_cons (pv 2) (pa_cons (pv 1) pa_nil)))) (pss_one (ps_ret (pe_fld (pv 2) rfl))) pss_nil)))
      (pss_one (ps_ret (pe_gi T.c_DEED_WITHOUT_RULE)))), ?_⟩
    refine ⟨_, rfl, l, rfl, ⟨_, SqL.of hl⟩, for_list (K := K) (a := l) (xs := ps.map V.ref) (fun i σ H' => ∃ v, σ = [some (.ref l), some (.ref a), v] ∧ Same H H' ∧ ∀ x ∈ rs.take i, x.fits k = false)
      ⟨none, rfl, Same.refl _, fun x hx => by simp at hx⟩ (fun i σ H' _ ⟨_, _, s1, _⟩ => s1.seq (SqL.of hl)) ?_ ?_⟩
    · rintro i y σ H' hi ⟨v, rfl, s1, hn⟩
      obtain ⟨p, hpi, rfl⟩ := get_ref hi
      obtain ⟨r, hr', hrp, hw⟩ := pr_get hp hpi
      refine ⟨_, rfl, _, rfl, p, a, k, r, rfl, hrp.same s1, hw, s1.seq ha, hk, fun H2 s2 => ?_⟩
      have s3 := s1.trans s2
      refine ⟨_, rfl, ?_⟩
      cases e : r.fits k with
      | true =>
        obtain ⟨dx, m, v, hp1, _, _⟩ := hrp.same s3
        refine iteT ⟨_, rfl, p, A.Rule, dx, _, _, rfl, hp1, T.cl_Rule, T.na_Rule_deed, lk_Rule_deed, ?_⟩
        have q2 := q H2 s3
        rw [first_at hr' hn e] at q2
        exact q2
      | false =>
        refine iteF ⟨_, rfl, s3, fun x hx => ?_⟩
        rw [take_more hr'] at hx
        rcases List.mem_append.mp hx with h1 | h1
        · exact hn x h1
        · rw [List.mem_singleton.mp h1]
          exact e
    · rintro σ H' ⟨v, rfl, s1, hn⟩
      rw [List.length_map, pr_len hp, List.take_length] at hn
      have q2 := q H' s1
      rw [first_none hn] at q2
      exact q2
theorem ok_Rule_init {f : Addr} {fd : FuncData} (F : Fun K "__init__" "Rule.__init__" s_Rule_init f fd) (T : Txt K mg A) (h_under_mask : Has P w K mg base 1 "under_mask" ["octets", "mask"] (spUnder K)) :
    FnOk P w K mg base CX0 2 f fd ["self", "mask", "value", "word", "lo", "hi", "deed"] (spRule A) := by
  refine F.ok sc_Rule_init (fun vs H Q E h => ?_) (fun cdv Ar outer s H vs Q E hr h => ?_)
  · obtain ⟨p, dx, m, v, k, u, w, lo, hi, d, rfl, _⟩ := h
    rfl
  · obtain ⟨p, dx, m, v, k, u, w, lo, hi, d, rfl, hp, hm, hv, lk, lu, q⟩ := h
    have npm : m ≠ p := ne_of hm hp (by intro z; cases z)
    have npv : v ≠ p := ne_of hv hp (by intro z; cases z)
    refine ⟨_, (pss_cons (ps_fld (pv 0) (pv 1) rfl)
      (pss_cons (ps_fld (pv 0) (pe_hca h_under_mask hr (by decide) rfl (pa_cons (pv 2) (pa_cons (pv 1) pa_nil))) rfl)
      (pss_cons (ps_fld (pv 0) (pv 3) rfl)
      (pss_cons (ps_fld (pv 0) (pv 4) rfl)
      (pss_cons (ps_fld (pv 0) (pv 5) rfl)
      (pss_one (ps_fld (pv 0) (pv 6) rfl))))))), ?_⟩
    refine ⟨_, rfl, _, rfl, p, A.Rule, dx, [], rfl, hp, T.cl_Rule, T.na_Rule_mask, (by show 0 < 1000; decide), ?_⟩
    refine ⟨_, rfl, _, rfl, v, m, u, k, rfl, SqL.of (Eq.trans (upd_ne npv) hv), SqL.of (Eq.trans (upd_ne npm) hm), by omega, fun H1 c s1 hc0 hc => ?_⟩
    have hp1 := s1 _ _ upd_same
    have ncp : c ≠ p := ne_of hc hp1 (by intro z; cases z)
    refine ⟨_, rfl, p, A.Rule, dx, _, rfl, hp1, T.cl_Rule, T.na_Rule_value, (by show 1 < 1000; decide), ?_⟩
    refine ⟨_, rfl, _, rfl, p, A.Rule, dx, _, rfl, upd_same, T.cl_Rule, T.na_Rule_word, len_putF (len_putF (by decide)), ?_⟩
    refine ⟨_, rfl, _, rfl, p, A.Rule, dx, _, rfl, upd_same, T.cl_Rule, T.na_Rule_lo, len_putF (len_putF (len_putF (by decide))), ?_⟩
    refine ⟨_, rfl, _, rfl, p, A.Rule, dx, _, rfl, upd_same, T.cl_Rule, T.na_Rule_hi, len_putF (len_putF (len_putF (len_putF (by decide)))), ?_⟩
    refine ⟨_, rfl, _, rfl, p, A.Rule, dx, _, rfl, upd_same, T.cl_Rule, T.na_Rule_deed, len_putF (len_putF (len_putF (len_putF (len_putF (by decide))))), ?_⟩
    simp only [upd_upd, new_Rule]
    refine q _ c upd_same (none_upd hc0).2 ?_ fun b o e hb => ?_
    · rw [upd_ne ncp]
      exact hc
    · rw [upd_ne hb]
      exact s1 _ _ (Eq.trans (upd_ne hb) e)
end
end Fr

namespace Fr
open PySem PySem.Spec PyProof.Rows L2
/-! ### F2b. Changes of the rules -/
abbrev s_PutChange_init : Stmt := (inClass (top 13) 0)
theorem sc_PutChange_init : FnScope ["self", "place", "rule"] ["self", "place", "rule"] (defScope s_PutChange_init) := ⟨rfl, rfl, rfl, by decide +kernel, rfl, by decide +kernel, by decide +kernel⟩
abbrev s_PutChange_can_be_made : Stmt := (inClass (top 13) 1)
theorem sc_PutChange_can_be_made : FnScope ["self", "rules"] ["self", "rules"] (defScope s_PutChange_can_be_made) := ⟨rfl, rfl, rfl, by decide +kernel, rfl, by decide +kernel, by decide +kernel⟩
abbrev s_PutChange_make : Stmt := (inClass (top 13) 2)
theorem sc_PutChange_make : FnScope ["self", "rules"] ["self", "rules"] (defScope s_PutChange_make) := ⟨rfl, rfl, rfl, by decide +kernel, rfl, by decide +kernel, by decide +kernel⟩
abbrev s_OutChange_init : Stmt := (inClass (top 14) 0)
theorem sc_OutChange_init : FnScope ["self", "place"] ["self", "place"] (defScope s_OutChange_init) := ⟨rfl, rfl, rfl, by decide +kernel, rfl, by decide +kernel, by decide +kernel⟩
abbrev s_OutChange_can_be_made : Stmt := (inClass (top 14) 1)
theorem sc_OutChange_can_be_made : FnScope ["self", "rules"] ["self", "rules"] (defScope s_OutChange_can_be_made) := ⟨rfl, rfl, rfl, by decide +kernel, rfl, by decide +kernel, by decide +kernel⟩
abbrev s_OutChange_make : Stmt := (inClass (top 14) 2)
theorem sc_OutChange_make : FnScope ["self", "rules"] ["self", "rules"] (defScope s_OutChange_make) := ⟨rfl, rfl, rfl, by decide +kernel, rfl, by decide +kernel, by decide +kernel⟩
abbrev s_SwapChange_init : Stmt := (inClass (top 15) 0)
theorem sc_SwapChange_init : FnScope ["self", "place", "other"] ["self", "place", "other"] (defScope s_SwapChange_init) := ⟨rfl, rfl, rfl, by decide +kernel, rfl, by decide +kernel, by decide +kernel⟩
abbrev s_SwapChange_can_be_made : Stmt := (inClass (top 15) 1)
theorem sc_SwapChange_can_be_made : FnScope ["self", "rules"] ["self", "rules"] (defScope s_SwapChange_can_be_made) := ⟨rfl, rfl, rfl, by decide +kernel, rfl, by decide +kernel, by decide +kernel⟩
abbrev s_SwapChange_make : Stmt := (inClass (top 15) 2)
theorem sc_SwapChange_make : FnScope ["self", "rules", "moved"] ["self", "rules"] (defScope s_SwapChange_make) := ⟨rfl, rfl, rfl, by decide +kernel, rfl, by decide +kernel, by decide +kernel⟩
theorem erase_map : ∀ (i : Nat) (l : List Addr), (l.eraseIdx i).map V.ref = (l.map V.ref).eraseIdx i
  | _, [] => rfl
  | 0, _ :: _ => rfl
  | i + 1, a :: l => congrArg (V.ref a :: ·) (erase_map i l)
def ChangeAt (A : As) (H : Hp) (p : Addr) : Sj52.Change → Prop
  | .put i r => ∃ dx q, H p = some (.ins A.PutChange dx (f_PutChange (.int (i : Int)) (.ref q))) ∧ RuleAt A H q r ∧ WfR r
  | .out i => ∃ dx, H p = some (.ins A.OutChange dx (f_OutChange (.int (i : Int))))
  | .swap i j => ∃ dx, H p = some (.ins A.SwapChange dx (f_SwapChange (.int (i : Int)) (.int (j : Int))))
theorem ChangeAt.same {A : As} {H H' : Hp} {p : Addr} (s : Same H H') : ∀ {c : Sj52.Change}, ChangeAt A H p c → ChangeAt A H' p c
  | .put _ _, ⟨dx, q, h1, h2, h3⟩ => ⟨dx, q, s _ _ h1, h2.same s, h3⟩
  | .out _, ⟨dx, h⟩ => ⟨dx, s _ _ h⟩
  | .swap _ _, ⟨dx, h⟩ => ⟨dx, s _ _ h⟩
inductive IsPut : Sj52.Change → Prop | mk (i : Nat) (r : Sj52.Rule) : IsPut (.put i r)
inductive IsOut : Sj52.Change → Prop | mk (i : Nat) : IsOut (.out i)
inductive IsSwap : Sj52.Change → Prop | mk (i j : Nat) : IsSwap (.swap i j)
/-- places are small -/
def SmallC : Sj52.Change → Prop
  | .put i _ => i ≤ 31
  | .out i => i ≤ 31
  | .swap i j => i ≤ 31 ∧ j ≤ 31
def spCan (A : As) (is : Sj52.Change → Prop) : Sp := fun vs H Q _ => ∃ (p l : Addr) (c : Sj52.Change) (xs : List V) (rs : List Sj52.Rule), vs = [.ref p, .ref l] ∧ is c ∧ ChangeAt A H p c ∧ H l = some (.lst xs) ∧ xs.length = rs.length ∧ Q (.bl (c.does rs).isSome) H
def spMake (A : As) (is : Sj52.Change → Prop) : Sp := fun vs H Q _ => ∃ (I : Hp) (p l : Addr) (c : Sj52.Change) (ps : List Addr) (rs rs' : List Sj52.Rule), vs = [.ref p, .ref l] ∧ is c ∧ SmallC c ∧ Same I H ∧ ChangeAt A I p c ∧ H l = some (.lst (ps.map V.ref)) ∧
  Paired (fun p r => RuleAt A I p r ∧ WfR r) ps rs ∧ rs.length ≤ 32 ∧ c.does rs = some rs' ∧ ∀ ps' : List Addr, Paired (fun p r => RuleAt A I p r ∧ WfR r) ps' rs' → Q .non (upd H l (.lst (ps'.map V.ref)))
def spPutC (A : As) : Sp := fun vs H Q _ => ∃ (p dx q : Addr) (i : Nat), vs = [.ref p, .int (i : Int), .ref q] ∧ H p = some (.ins A.PutChange dx []) ∧ Q .non (upd H p (.ins A.PutChange dx (f_PutChange (.int (i : Int)) (.ref q))))
def spOutC (A : As) : Sp := fun vs H Q _ => ∃ (p dx : Addr) (i : Nat), vs = [.ref p, .int (i : Int)] ∧ H p = some (.ins A.OutChange dx []) ∧ Q .non (upd H p (.ins A.OutChange dx (f_OutChange (.int (i : Int)))))
def spSwapC (A : As) : Sp := fun vs H Q _ => ∃ (p dx : Addr) (i j : Nat), vs = [.ref p, .int (i : Int), .int (j : Int)] ∧ H p = some (.ins A.SwapChange dx []) ∧ Q .non (upd H p (.ins A.SwapChange dx (f_SwapChange (.int (i : Int)) (.int (j : Int)))))
section
variable {P : Program} {w : World} {K : PySem.W.Frag} {mg : Str → Option Value} {base : Heap} {A : As}
theorem ok_PutChange_init {f : Addr} {fd : FuncData} (F : Fun K "__init__" "PutChange.__init__" s_PutChange_init f fd) (T : Txt K mg A) : FnOk P w K mg base CX0 1 f fd ["self", "place", "rule"] (spPutC A) := by
  refine F.ok sc_PutChange_init (fun vs H Q E h => ?_) (fun cdv Ar outer s H vs Q E hr h => ?_)
  · obtain ⟨p, dx, q, i, rfl, _⟩ := h
    rfl
  · obtain ⟨p, dx, q, i, rfl, hp, q⟩ := h
    refine ⟨_, (pss_cons (ps_fld (pv 0) (pv 1) rfl)
      (pss_one (ps_fld (pv 0) (pv 2) rfl))), ?_⟩
    refine ⟨_, rfl, _, rfl, p, _, dx, [], rfl, hp, T.cl_PutChange, T.na_PutChange_place, (by show 0 < 1000; decide), ?_⟩
    refine ⟨_, rfl, _, rfl, p, _, dx, _, rfl, upd_same, T.cl_PutChange, T.na_PutChange_rule, (by show 1 < 1000; decide), ?_⟩
    simp only [upd_upd, new_PutChange]
    exact q
theorem ok_OutChange_init {f : Addr} {fd : FuncData} (F : Fun K "__init__" "OutChange.__init__" s_OutChange_init f fd) (T : Txt K mg A) : FnOk P w K mg base CX0 1 f fd ["self", "place"] (spOutC A) := by
  refine F.ok sc_OutChange_init (fun vs H Q E h => ?_) (fun cdv Ar outer s H vs Q E hr h => ?_)
  · obtain ⟨p, dx, i, rfl, _⟩ := h
    rfl
  · obtain ⟨p, dx, i, rfl, hp, q⟩ := h
    refine ⟨_, (pss_one (ps_fld (pv 0) (pv 1) rfl)), ?_⟩
    refine ⟨_, rfl, _, rfl, p, _, dx, [], rfl, hp, T.cl_OutChange, T.na_OutChange_place, (by show 0 < 1000; decide), ?_⟩
    simp only [new_OutChange]
    exact q
theorem ok_SwapChange_init {f : Addr} {fd : FuncData} (F : Fun K "__init__" "SwapChange.__init__" s_SwapChange_init f fd) (T : Txt K mg A) : FnOk P w K mg base CX0 1 f fd ["self", "place", "other"] (spSwapC A) := by
  refine F.ok sc_SwapChange_init (fun vs H Q E h => ?_) (fun cdv Ar outer s H vs Q E hr h => ?_)
  · obtain ⟨p, dx, i, j, rfl, _⟩ := h
    rfl
  · obtain ⟨p, dx, i, j, rfl, hp, q⟩ := h
    refine ⟨_, (pss_cons (ps_fld (pv 0) (pv 1) rfl)
      (pss_one (ps_fld (pv 0) (pv 2) rfl))), ?_⟩
    refine ⟨_, rfl, _, rfl, p, _, dx, [], rfl, hp, T.cl_SwapChange, T.na_SwapChange_place, (by show 0 < 1000; decide), ?_⟩
    refine ⟨_, rfl, _, rfl, p, _, dx, _, rfl, upd_same, T.cl_SwapChange, T.na_SwapChange_other, (by show 1 < 1000; decide), ?_⟩
    simp only [upd_upd, new_SwapChange]
    exact q
theorem ok_PutChange_can {f : Addr} {fd : FuncData} (F : Fun K "can_be_made" "PutChange.can_be_made" s_PutChange_can_be_made f fd) (T : Txt K mg A) : FnOk P w K mg base CX0 1 f fd ["self", "rules"] (spCan A IsPut) := by
  refine F.ok sc_PutChange_can_be_made (fun vs H Q E h => ?_) (fun cdv Ar outer s H vs Q E hr h => ?_)
  · obtain ⟨p, l, c, xs, rs, rfl, _⟩ := h
    rfl
  · obtain ⟨p, l, c, xs, rs, rfl, ⟨i, r⟩, ⟨dx, q, hp, _, _⟩, hl, hn, hQ⟩ := h
    refine ⟨_, (pss_one (ps_ret (pe_and (pe_cmpR op_le (pe_fld (pv 0) rfl) (pe_callB call_len_seq (by rfl) T.len PySem.boot_len (pa_cons (pv 1) pa_nil)) (nomark _)) (pe_one (pe_cmpR op_lt (pe_callB call_len_seq (by rfl) T.len PySem.boot_len (pa_cons (pv 1) pa_nil)) (pe_gi T.c_MOST_RULES) (nomark _)))))), ?_⟩
    refine ⟨_, rfl, p, _, dx, _, _, rfl, hp, T.cl_PutChange, T.na_PutChange_place, lk_PutChange_place, _, rfl, l, _, rfl, .inl (SqL.of hl), _, _, rfl, rfl, _, rfl, ?_⟩
    have e : (Sj52.Change.does rs (.put i r)).isSome = (decide ((i : Int) ≤ (xs.length : Int)) && decide ((xs.length : Int) < 32)) := by
      show (if rs.length < i ∨ Sj52.RULES ≤ rs.length then none else some (rs.take i ++ r :: rs.drop i)).isSome = _
      rw [hn]
      by_cases c1 : rs.length < i ∨ Sj52.RULES ≤ rs.length
      · rw [if_pos c1]
        rcases c1 with c1 | c1
        · rw [decide_eq_false (by omega)]
          rfl
        · rw [decide_eq_false (show ¬ ((rs.length : Int) < 32) by unfold Sj52.RULES at c1; omega), Bool.and_false]
          rfl
      · rw [if_neg c1, decide_eq_true (by omega), decide_eq_true (by unfold Sj52.RULES at c1; omega)]
        rfl
    rw [e] at hQ
    cases c1 : decide ((i : Int) ≤ (xs.length : Int)) with
    | false =>
      rw [c1, Bool.false_and] at hQ
      exact iteF hQ
    | true =>
      rw [c1, Bool.true_and] at hQ
      exact iteT ⟨_, rfl, l, _, rfl, .inl (SqL.of hl), _, _, rfl, rfl, hQ⟩
theorem ok_OutChange_can {f : Addr} {fd : FuncData} (F : Fun K "can_be_made" "OutChange.can_be_made" s_OutChange_can_be_made f fd) (T : Txt K mg A) : FnOk P w K mg base CX0 1 f fd ["self", "rules"] (spCan A IsOut) := by
  refine F.ok sc_OutChange_can_be_made (fun vs H Q E h => ?_) (fun cdv Ar outer s H vs Q E hr h => ?_)
  · obtain ⟨p, l, c, xs, rs, rfl, _⟩ := h
    rfl
  · obtain ⟨p, l, c, xs, rs, rfl, ⟨i⟩, ⟨dx, hp⟩, hl, hn, hQ⟩ := h
    refine ⟨_, (pss_one (ps_ret (pe_cmpR op_lt (pe_fld (pv 0) rfl) (pe_callB call_len_seq (by rfl) T.len PySem.boot_len (pa_cons (pv 1) pa_nil)) (nomark _)))), ?_⟩
    refine ⟨_, rfl, p, _, dx, _, _, rfl, hp, T.cl_OutChange, T.na_OutChange_place, lk_OutChange_place, _, rfl, l, _, rfl, .inl (SqL.of hl), _, _, rfl, rfl, ?_⟩
    have e : (Sj52.Change.does rs (.out i)).isSome = decide ((i : Int) < (xs.length : Int)) := by
      show (if rs.length ≤ i then none else some (rs.eraseIdx i)).isSome = _
      rw [hn]
      by_cases c1 : rs.length ≤ i
      · rw [if_pos c1, decide_eq_false (by omega)]
        rfl
      · rw [if_neg c1, decide_eq_true (by omega)]
        rfl
    rw [e] at hQ
    exact hQ
theorem ok_SwapChange_can {f : Addr} {fd : FuncData} (F : Fun K "can_be_made" "SwapChange.can_be_made" s_SwapChange_can_be_made f fd) (T : Txt K mg A) : FnOk P w K mg base CX0 1 f fd ["self", "rules"] (spCan A IsSwap) := by
  refine F.ok sc_SwapChange_can_be_made (fun vs H Q E h => ?_) (fun cdv Ar outer s H vs Q E hr h => ?_)
  · obtain ⟨p, l, c, xs, rs, rfl, _⟩ := h
    rfl
  · obtain ⟨p, l, c, xs, rs, rfl, ⟨i, j⟩, ⟨dx, hp⟩, hl, hn, hQ⟩ := h
    refine ⟨_, (pss_one (ps_ret (pe_and (pe_cmpR op_lt (pe_fld (pv 0) rfl) (pe_callB call_len_seq (by rfl) T.len PySem.boot_len (pa_cons (pv 1) pa_nil)) (nomark _)) (pe_one (pe_cmpR op_lt (pe_fld (pv 0) rfl) (pe_callB call_len_seq (by rfl) T.len PySem.boot_len (pa_cons (pv 1) pa_nil)) (nomark _)))))), ?_⟩
    refine ⟨_, rfl, p, _, dx, _, _, rfl, hp, T.cl_SwapChange, T.na_SwapChange_place, lk_SwapChange_place, _, rfl, l, _, rfl, .inl (SqL.of hl), _, _, rfl, rfl, _, rfl, ?_⟩
    have e : (Sj52.Change.does rs (.swap i j)).isSome = (decide ((i : Int) < (xs.length : Int)) && decide ((j : Int) < (xs.length : Int))) := by
      show (match rs[i]?, rs[j]? with | some a, some b => some ((rs.set i b).set j a) | _, _ => none).isSome = _
      rw [hn]
      by_cases c1 : i < rs.length
      · rw [decide_eq_true (show (i : Int) < (rs.length : Int) by omega), List.getElem?_eq_getElem c1]
        by_cases c2 : j < rs.length
        · rw [decide_eq_true (show (j : Int) < (rs.length : Int) by omega), List.getElem?_eq_getElem c2]
          rfl
        · rw [decide_eq_false (show ¬ (j : Int) < (rs.length : Int) by omega), List.getElem?_eq_none (by omega)]
          rfl
      · rw [decide_eq_false (show ¬ (i : Int) < (rs.length : Int) by omega), List.getElem?_eq_none (by omega)]
        rfl
    rw [e] at hQ
    cases c1 : decide ((i : Int) < (xs.length : Int)) with
    | false =>
      rw [c1, Bool.false_and] at hQ
      exact iteF hQ
    | true =>
      rw [c1, Bool.true_and] at hQ
      exact iteT ⟨_, rfl, p, _, dx, _, _, rfl, hp, T.cl_SwapChange, T.na_SwapChange_other, lk_SwapChange_other, _, rfl, l, _, rfl, .inl (SqL.of hl), _, _, rfl, rfl, hQ⟩
theorem ok_PutChange_make {f : Addr} {fd : FuncData} (F : Fun K "make" "PutChange.make" s_PutChange_make f fd) (T : Txt K mg A) : FnOk P w K mg base CX0 1 f fd ["self", "rules"] (spMake A IsPut) := by
  refine F.ok sc_PutChange_make (fun vs H Q E h => ?_) (fun cdv Ar outer s H vs Q E hr h => ?_)
  · obtain ⟨I, p, l, c, ps, rs, rs', rfl, _⟩ := h
    rfl
  · obtain ⟨I, p, l, c, ps, rs, rs', rfl, ⟨i, r⟩, sm, sI, ⟨dx, q, hp, hq, wq⟩, hl, hps, hn, hd, hQ⟩ := h
    have hp1 := sI _ _ hp
    have sm1 : i ≤ 31 := sm
    refine ⟨_, (pss_one (ps_expr (pe_bm PySem.F.plainAttrs_list PySem.F.slot_list_insert PySem.F.type_list_insert mt_insert (pv 1) (pa_cons (pe_fld (pv 0) rfl) (pa_cons (pe_fld (pv 0) rfl) pa_nil))))), ?_⟩
    refine ⟨_, rfl, .inl ⟨rfl, _, SqL.of hl⟩, _, rfl, p, _, dx, _, _, rfl, hp1, T.cl_PutChange, T.na_PutChange_place, lk_PutChange_place, _, rfl, p, _, dx, _, _, rfl, hp1, T.cl_PutChange, T.na_PutChange_rule, lk_PutChange_rule,
      l, _, _, _, rfl, rfl, hl, ?_, by omega, by omega, ?_⟩
    · rw [List.length_map, pr_len hps]
      exact Nat.lt_of_le_of_lt hn (by decide)
    · have hd2 : (if rs.length < i ∨ Sj52.RULES ≤ rs.length then none else some (rs.take i ++ r :: rs.drop i)) = some rs' := hd
      by_cases c1 : rs.length < i ∨ Sj52.RULES ≤ rs.length
      · rw [if_pos c1] at hd2
        cases hd2
      · rw [if_neg c1] at hd2
        cases hd2
        have e : (ps.map V.ref).take (i : Int).toNat ++ [V.ref q] ++ (ps.map V.ref).drop (i : Int).toNat = (ps.take i ++ q :: ps.drop i).map V.ref := by
          rw [Int.toNat_natCast, List.map_append, List.map_cons, List.map_take, List.map_drop, List.append_assoc]
          rfl
        show Q .non (upd H l (.lst ((ps.map V.ref).take (i : Int).toNat ++ [V.ref q] ++ (ps.map V.ref).drop (i : Int).toNat)))
        rw [e]
        exact hQ _ (pr_append (pr_take i hps) (.cons ⟨hq, wq⟩ (pr_drop i hps)))
theorem ok_OutChange_make {f : Addr} {fd : FuncData} (F : Fun K "make" "OutChange.make" s_OutChange_make f fd) (T : Txt K mg A) : FnOk P w K mg base CX0 1 f fd ["self", "rules"] (spMake A IsOut) := by
  refine F.ok sc_OutChange_make (fun vs H Q E h => ?_) (fun cdv Ar outer s H vs Q E hr h => ?_)
  · obtain ⟨I, p, l, c, ps, rs, rs', rfl, _⟩ := h
    rfl
  · obtain ⟨I, p, l, c, ps, rs, rs', rfl, ⟨i⟩, sm, sI, ⟨dx, hp⟩, hl, hps, hn, hd, hQ⟩ := h
    have hp1 := sI _ _ hp
    have sm1 : i ≤ 31 := sm
    have hd2 : (if rs.length ≤ i then none else some (rs.eraseIdx i)) = some rs' := hd
    by_cases c1 : rs.length ≤ i
    · rw [if_pos c1] at hd2
      cases hd2
    · rw [if_neg c1] at hd2
      cases hd2
      have li : i < ps.length := by rw [pr_len hps]; omega
      refine ⟨_, (pss_one (ps_expr (pe_bm PySem.F.plainAttrs_list PySem.F.slot_list_pop PySem.F.type_list_pop mt_popAt (pv 1) (pa_cons (pe_fld (pv 0) rfl) pa_nil)))), ?_⟩
      refine ⟨_, rfl, .inl ⟨rfl, _, SqL.of hl⟩, _, rfl, p, _, dx, _, _, rfl, hp1, T.cl_OutChange, T.na_OutChange_place, lk_OutChange_place, l, _, _, i, V.ref ps[i], rfl, rfl, hl, by omega, by omega, ?_, ?_, ?_⟩
      · refine (ixN_seq ?_).1
        unfold ixN
        rw [if_pos (by omega), if_pos (by rw [List.length_map]; omega), Int.toNat_natCast]
      · rw [List.getElem?_map, List.getElem?_eq_getElem li]
        rfl
      · have e : (ps.map V.ref).eraseIdx i = (ps.eraseIdx i).map V.ref := (erase_map i ps).symm
        rw [e]
        exact hQ _ (pr_erase i hps)
theorem ok_SwapChange_make {f : Addr} {fd : FuncData} (F : Fun K "make" "SwapChange.make" s_SwapChange_make f fd) (T : Txt K mg A) : FnOk P w K mg base CX0 1 f fd ["self", "rules"] (spMake A IsSwap) := by
  refine F.ok sc_SwapChange_make (fun vs H Q E h => ?_) (fun cdv Ar outer s H vs Q E hr h => ?_)
  · obtain ⟨I, p, l, c, ps, rs, rs', rfl, _⟩ := h
    rfl
  · obtain ⟨I, p, l, c, ps, rs, rs', rfl, ⟨i, j⟩, sm, sI, ⟨dx, hp⟩, hl, hps, hn, hd, hQ⟩ := h
    have hp1 := sI _ _ hp
    have hd2 : (match rs[i]?, rs[j]? with | some a, some b => some ((rs.set i b).set j a) | _, _ => none) = some rs' := hd
    have npl : p ≠ l := ne_of hp1 hl (by intro z; cases z)
    cases ei : rs[i]? with
    | none => rw [ei] at hd2; cases hd2
    | some a =>
      cases ej : rs[j]? with
      | none => rw [ei, ej] at hd2; cases hd2
      | some b =>
        rw [ei, ej] at hd2
        cases hd2
        have li : i < ps.length := by rw [pr_len hps]; exact (List.getElem?_eq_some_iff.mp ei).1
        have lj : j < ps.length := by rw [pr_len hps]; exact (List.getElem?_eq_some_iff.mp ej).1
        have gi : ps[i]? = some ps[i] := List.getElem?_eq_getElem li
        have gj : ps[j]? = some ps[j] := List.getElem?_eq_getElem lj
        obtain ⟨a', ea, ra⟩ := pr_get hps gi
        obtain ⟨b', eb, rb⟩ := pr_get hps gj
        rw [ei] at ea
        rw [ej] at eb
        cases ea
        cases eb
        have vi : (ps.map V.ref)[i]? = some (V.ref ps[i]) := by rw [List.getElem?_map, gi]; rfl
        have vj : (ps.map V.ref)[j]? = some (V.ref ps[j]) := by rw [List.getElem?_map, gj]; rfl
        refine ⟨_, (pss_cons (ps_set (i := 2) sc_SwapChange_make.nd rfl (Or.inl rfl) (pe_ix ix_list (pv 1) (pe_fld (pv 0) rfl) (fun _ _ => rfl)))
      (pss_cons (ps_asg (pe_ix ix_list (pv 1) (pe_fld (pv 0) rfl) (fun _ _ => rfl)) (pg_sub (pv 1) (pe_fld (pv 0) rfl) set_list))
      (pss_one (ps_asg (pv 2) (pg_sub (pv 1) (pe_fld (pv 0) rfl) set_list))))), ?_⟩
        refine ⟨_, rfl, _, rfl, p, _, dx, _, _, rfl, hp1, T.cl_SwapChange, T.na_SwapChange_place, lk_SwapChange_place, l, _, _, _, rfl, rfl, SqL.of hl, atI_nat vi, ?_⟩
        refine ⟨_, rfl, _, rfl, p, _, dx, _, _, rfl, hp1, T.cl_SwapChange, T.na_SwapChange_other, lk_SwapChange_other, l, _, _, _, rfl, rfl, SqL.of hl, atI_nat vj, ?_⟩
        refine ⟨_, rfl, _, rfl, p, _, dx, _, _, rfl, hp1, T.cl_SwapChange, T.na_SwapChange_place, lk_SwapChange_place, l, _, _, i, rfl, rfl, hl, ?_, ?_⟩
        · unfold ixN
          rw [if_pos (by omega), if_pos (by rw [List.length_map]; omega), Int.toNat_natCast]
        · have hp2 : upd H l (.lst ((ps.map V.ref).set i (V.ref ps[j]))) p = _ := Eq.trans (upd_ne npl) hp1
          refine ⟨_, rfl, _, rfl, _, rfl, p, _, dx, _, _, rfl, hp2, T.cl_SwapChange, T.na_SwapChange_other, lk_SwapChange_other, l, _, _, j, rfl, rfl, upd_same, ?_, ?_⟩
          · unfold ixN
            rw [if_pos (by omega), if_pos (by rw [List.length_set, List.length_map]; omega), Int.toNat_natCast]
          · rw [upd_upd]
            have e : ((ps.map V.ref).set i (V.ref ps[j])).set j (V.ref ps[i]) = ((ps.set i ps[j]).set j ps[i]).map V.ref := by rw [List.map_set, List.map_set]
            rw [e]
            exact hQ _ (pr_set (R := fun p r => RuleAt A I p r ∧ WfR r) ra j (pr_set (R := fun p r => RuleAt A I p r ∧ WfR r) rb i hps))
end
end Fr

namespace Fr
open PySem PySem.Spec PyProof.Rows L2
/-! ### F3. Flows: a key's row, the search in a row, the one that was seen least lately -/
abbrev s_Flow_init : Stmt := (inClass (top 25) 0)
theorem sc_Flow_init : FnScope ["self", "key", "deed", "size", "now"] ["self", "key", "deed", "size", "now"] (defScope s_Flow_init) := ⟨rfl, rfl, rfl, by decide +kernel, rfl, by decide +kernel, by decide +kernel⟩
abbrev s_Flow_count_frame : Stmt := (inClass (top 25) 1)
theorem sc_Flow_count_frame : FnScope ["self", "size", "now"] ["self", "size", "now"] (defScope s_Flow_count_frame) := ⟨rfl, rfl, rfl, by decide +kernel, rfl, by decide +kernel, by decide +kernel⟩
abbrev s_row_number : Stmt := (top 27)
theorem sc_row_number : FnScope ["seed", "key", "number", "octet"] ["seed", "key"] (defScope s_row_number) := ⟨rfl, rfl, rfl, by decide +kernel, rfl, by decide +kernel, by decide +kernel⟩
abbrev s_flow_of : Stmt := (top 28)
theorem sc_flow_of : FnScope ["row", "key", "flow"] ["row", "key"] (defScope s_flow_of) := ⟨rfl, rfl, rfl, by decide +kernel, rfl, by decide +kernel, by decide +kernel⟩
abbrev s_least_lately_seen : Stmt := (top 29)
theorem sc_least_lately_seen : FnScope ["row", "oldest", "place", "flow"] ["row"] (defScope s_least_lately_seen) := ⟨rfl, rfl, rfl, by decide +kernel, rfl, by decide +kernel, by decide +kernel⟩
theorem xor_int2 (a b : Nat) : Builtin.bitXor (a : Int) (b : Int) = ((Nat.xor a b : Nat) : Int) := by
  rw [Bits.bitXor_pp (Int.natCast_nonneg a) (Int.natCast_nonneg b)]
  rfl
def hstep (h b : Nat) : Nat := (Nat.xor h b * 0x01000193) % 2 ^ 32
theorem hash_eq (seed : Nat) (k : List Nat) : Sj52.hash seed k = k.foldl hstep (Nat.xor 0x811C9DC5 seed) := rfl
theorem xor_start (seed : Nat) : Builtin.bitXor 2166136261 (seed : Int) = ((Nat.xor 0x811C9DC5 seed : Nat) : Int) := xor_int2 2166136261 seed
theorem hstep_int (h b : Nat) : (((Nat.xor h b : Nat) : Int) * 16777619 % 4294967296) = ((hstep h b : Nat) : Int) := by
  unfold hstep
  rw [Int.natCast_emod, Int.natCast_mul]
  rfl
/-- a flow lies at p: what changes of it in H, its key in I -/
def FlowAt (A : As) (I H : Hp) (p : Addr) (f : Sj52.Flow) : Prop := ∃ dx k, H p = some (.ins A.Flow dx (f_Flow (.ref k) (.int (f.deed : Int)) (.int (f.frames : Int)) (.int (f.bytes : Int)) (.int (f.seen : Int)))) ∧ I k = some (.lst (ns f.key))
theorem FlowAt.same {A : As} {I I' H H' : Hp} {p : Addr} {f : Sj52.Flow} (sI : Same I I') (s : Same H H') : FlowAt A I H p f → FlowAt A I' H' p f
  | ⟨dx, k, h1, h2⟩ => ⟨dx, k, s _ _ h1, sI _ _ h2⟩
def spRowNo (K : PySem.W.Frag) : Sp := fun vs H Q _ => ∃ (a : Addr) (k : List Nat) (seed : Nat), vs = [.int (seed : Int), .ref a] ∧ SqL K H a (ns k) ∧ Q (.int ((Sj52.hash seed k % 16 : Nat) : Int)) H
def spFlow (A : As) : Sp := fun vs H Q _ => ∃ (p dx k : Addr) (d n t : Int), vs = [.ref p, .ref k, .int d, .int n, .int t] ∧ H p = some (.ins A.Flow dx []) ∧ Q .non (upd H p (.ins A.Flow dx (f_Flow (.ref k) (.int d) (.int 1) (.int n) (.int t))))
def spCount (A : As) : Sp := fun vs H Q _ => ∃ (p dx : Addr) (k d : V) (fr by_ : Int) (se : V) (n t : Int), vs = [.ref p, .int n, .int t] ∧ H p = some (.ins A.Flow dx (f_Flow k d (.int fr) (.int by_) se)) ∧
  Q .non (upd H p (.ins A.Flow dx (f_Flow k d (.int ((fr + 1) % 4294967296)) (.int ((by_ + n) % 4294967296)) (.int t))))
def spFlowOf (K : PySem.W.Frag) (A : As) : Sp := fun vs H Q _ => ∃ (I : Hp) (r a : Addr) (ps : List Addr) (fl : List Sj52.Flow) (k : List Nat), vs = [.ref r, .ref a] ∧ Same I H ∧ H r = some (.lst (ps.map V.ref)) ∧ Paired (FlowAt A I H) ps fl ∧ SqL K H a (ns k) ∧
  (∀ (i : Nat) (p : Addr) (f : Sj52.Flow), ps[i]? = some p → fl[i]? = some f → f.key = k → (∀ g ∈ fl.take i, g.key ≠ k) → Q (.ref p) H) ∧ ((∀ g ∈ fl, g.key ≠ k) → Q .non H)
/-- the first of those that were seen least lately -/
def LeastAt (fl : List Sj52.Flow) (i : Nat) : Prop := ∃ f, fl[i]? = some f ∧ (∀ (j : Nat) (g : Sj52.Flow), fl[j]? = some g → f.seen ≤ g.seen) ∧ ∀ (j : Nat) (g : Sj52.Flow), j < i → fl[j]? = some g → f.seen < g.seen
def spLeast (A : As) : Sp := fun vs H Q _ => ∃ (I : Hp) (r : Addr) (ps : List Addr) (fl : List Sj52.Flow), vs = [.ref r] ∧ H r = some (.lst (ps.map V.ref)) ∧ Paired (FlowAt A I H) ps fl ∧ 0 < fl.length ∧
  ∀ (H' : Hp) (i : Nat), Same H H' → LeastAt fl i → Q (.int (i : Int)) H'
section
variable {P : Program} {w : World} {K : PySem.W.Frag} {mg : Str → Option Value} {base : Heap} {A : As}
theorem ok_row_number {f : Addr} {fd : FuncData} (F : Fun K "row_number" "row_number" s_row_number f fd) (T : Txt K mg A) : FnOk P w K mg base CX0 1 f fd ["seed", "key"] (spRowNo K) := by
  refine F.ok sc_row_number (fun vs H Q E h => ?_) (fun cdv Ar outer s H vs Q E hr h => ?_)
  · obtain ⟨a, k, seed, rfl, _⟩ := h
    rfl
  · obtain ⟨a, k, seed, rfl, ha, q⟩ := h
    rw [hash_eq, Int.natCast_emod] at q
    refine ⟨_, (pss_cons (ps_set (i := 2) sc_row_number.nd rfl (Or.inl rfl) (pe_op op_xor (pe_gi T.c_ROW_START) (pv 0)))
      (pss_cons (ps_for PassesOwn.never rfl (pi_list (pv 1)) (pg_name (i := 3) sc_row_number.nd rfl (Or.inl rfl))
      (pss_one (ps_set (i := 2) sc_row_number.nd rfl (Or.inl rfl) (pe_op op_mod (pe_op op_mul (pe_op op_xor (pv 2) (pv 3)) (pe_gi T.c_ROW_FACTOR)) (pe_gi T.c_BEYOND_32_BITS)))))
      (pss_one (ps_ret (pe_op op_mod (pv 2) (pe_gi T.c_ROWS)))))), ?_⟩
    refine ⟨_, rfl, _, _, rfl, rfl, ?_⟩
    simp only [xor_start]
    generalize Nat.xor 0x811C9DC5 seed = h0 at q ⊢
    refine ⟨_, rfl, a, rfl, ⟨_, ha⟩, for_list (K := K) (a := a) (xs := ns k) (fun i σ H' => H' = H ∧ ∃ v, σ = [some (.int (seed : Int)), some (.ref a), some (.int (((k.take i).foldl hstep h0 : Nat) : Int)), v])
      ⟨rfl, none, rfl⟩ (fun i σ H' _ ⟨e, _⟩ => e ▸ ha) ?_ ?_⟩
    · rintro i y σ H' hi ⟨rfl, v, rfl⟩
      obtain ⟨n, hn, rfl⟩ := get_ns hi
      refine ⟨_, rfl, _, rfl, _, _, rfl, rfl, _, _, rfl, rfl, .inr ⟨by decide, by decide⟩, _, _, rfl, rfl, (by show (0 : Int) < 4294967296; decide), ?_⟩
      refine ⟨rfl, some (.int (n : Int)), ?_⟩
      rw [take_more hn, List.foldl_append, List.foldl_cons, List.foldl_nil]
      generalize (k.take i).foldl hstep h0 = h2
      simp only [xor_int2, hstep_int]
      generalize hstep h2 n = h1
      rfl
    · rintro σ H' ⟨rfl, v, rfl⟩
      rw [len_ns, List.take_length]
      generalize k.foldl hstep h0 = h2 at q ⊢
      exact ⟨_, rfl, _, _, rfl, rfl, (by show (0 : Int) < 16; decide), q⟩
theorem ok_Flow_init {f : Addr} {fd : FuncData} (F : Fun K "__init__" "Flow.__init__" s_Flow_init f fd) (T : Txt K mg A) : FnOk P w K mg base CX0 1 f fd ["self", "key", "deed", "size", "now"] (spFlow A) := by
  refine F.ok sc_Flow_init (fun vs H Q E h => ?_) (fun cdv Ar outer s H vs Q E hr h => ?_)
  · obtain ⟨p, dx, k, d, n, t, rfl, _⟩ := h
    rfl
  · obtain ⟨p, dx, k, d, n, t, rfl, hp, q⟩ := h
    refine ⟨_, (pss_cons (ps_fld (pv 0) (pv 1) rfl)
      (pss_cons (ps_fld (pv 0) (pv 2) rfl)
      (pss_cons (ps_fld (pv 0) pe_int rfl)
      (pss_cons (ps_fld (pv 0) (pv 3) rfl)
      (pss_one (ps_fld (pv 0) (pv 4) rfl)))))), ?_⟩
    refine ⟨_, rfl, _, rfl, p, _, dx, [], rfl, hp, T.cl_Flow, T.na_Flow_key, (by show 0 < 1000; decide), ?_⟩
    refine ⟨_, rfl, _, rfl, p, _, dx, _, rfl, upd_same, T.cl_Flow, T.na_Flow_deed, (by show 1 < 1000; decide), ?_⟩
    refine ⟨_, rfl, p, _, dx, _, rfl, upd_same, T.cl_Flow, T.na_Flow_frames, len_putF (len_putF (by decide)), ?_⟩
    refine ⟨_, rfl, _, rfl, p, _, dx, _, rfl, upd_same, T.cl_Flow, T.na_Flow_octets, len_putF (len_putF (len_putF (by decide))), ?_⟩
    refine ⟨_, rfl, _, rfl, p, _, dx, _, rfl, upd_same, T.cl_Flow, T.na_Flow_seen, len_putF (len_putF (len_putF (len_putF (by decide)))), ?_⟩
    simp only [upd_upd, new_Flow]
    exact q
theorem ok_Flow_count_frame {f : Addr} {fd : FuncData} (F : Fun K "count_frame" "Flow.count_frame" s_Flow_count_frame f fd) (T : Txt K mg A) : FnOk P w K mg base CX0 1 f fd ["self", "size", "now"] (spCount A) := by
  refine F.ok sc_Flow_count_frame (fun vs H Q E h => ?_) (fun cdv Ar outer s H vs Q E hr h => ?_)
  · obtain ⟨p, dx, k, d, fr, by_, se, n, t, rfl, _⟩ := h
    rfl
  · obtain ⟨p, dx, k, d, fr, by_, se, n, t, rfl, hp, q⟩ := h
    refine ⟨_, (pss_cons (ps_fld (pv 0) (pe_op op_mod (pe_op op_add (pe_fld (pv 0) rfl) pe_int) (pe_gi T.c_BEYOND_32_BITS)) rfl)
      (pss_cons (ps_fld (pv 0) (pe_op op_mod (pe_op op_add (pe_fld (pv 0) rfl) (pv 1)) (pe_gi T.c_BEYOND_32_BITS)) rfl)
      (pss_one (ps_fld (pv 0) (pv 2) rfl)))), ?_⟩
    refine ⟨_, rfl, p, _, dx, _, _, rfl, hp, T.cl_Flow, T.na_Flow_frames, lk_Flow_frames, _, _, rfl, rfl, _, _, rfl, rfl, (by show (0 : Int) < 4294967296; decide), _, rfl, p, _, dx, _, rfl, hp, T.cl_Flow, T.na_Flow_frames, (by show 5 < 1000; decide), ?_⟩
    simp only [put_Flow_frames]
    refine ⟨_, rfl, p, _, dx, _, _, rfl, upd_same, T.cl_Flow, T.na_Flow_octets, lk_Flow_octets, _, rfl, _, _, rfl, rfl, _, _, rfl, rfl, (by show (0 : Int) < 4294967296; decide), _, rfl, p, _, dx, _, rfl, upd_same, T.cl_Flow, T.na_Flow_octets, (by show 5 < 1000; decide), ?_⟩
    simp only [put_Flow_octets, upd_upd]
    refine ⟨_, rfl, _, rfl, p, _, dx, _, rfl, upd_same, T.cl_Flow, T.na_Flow_seen, (by show 5 < 1000; decide), ?_⟩
    simp only [put_Flow_seen, upd_upd]
    exact q
theorem ok_flow_of {f : Addr} {fd : FuncData} (F : Fun K "flow_of" "flow_of" s_flow_of f fd) (T : Txt K mg A) : FnOk P w K mg base CX0 1 f fd ["row", "key"] (spFlowOf K A) := by
  refine F.ok sc_flow_of (fun vs H Q E h => ?_) (fun cdv Ar outer s H vs Q E hr h => ?_)
  · obtain ⟨I, r, a, ps, fl, k, rfl, _⟩ := h
    rfl
  · obtain ⟨I, r, a, ps, fl, k, rfl, sI, hr1, hps, ha, q1, q2⟩ := h
    refine ⟨_, (pss_cons (ps_for PassesOwn.never rfl (pi_list (pv 0)) (pg_name (i := 2) sc_flow_of.nd rfl (Or.inl rfl))
      (pss_one (ps_if (pt_cmpR (op_eqD hr.units) (pe_fld (pv 2) rfl) (pv 1) (nomark _)) (pss_one (ps_ret (pv 2))) pss_nil)))
      (pss_one (ps_ret pe_non))), ?_⟩
    refine ⟨_, rfl, r, rfl, ⟨_, SqL.of hr1⟩, for_list (K := K) (a := r) (xs := ps.map V.ref) (fun i σ H' => H' = H ∧ (∃ v, σ = [some (.ref r), some (.ref a), v]) ∧ ∀ g ∈ fl.take i, g.key ≠ k)
      ⟨rfl, ⟨none, rfl⟩, fun g hg => by simp at hg⟩ (fun i σ H' _ ⟨e, _⟩ => e ▸ SqL.of hr1) ?_ ?_⟩
    · rintro i y σ H' hi ⟨rfl, ⟨v, rfl⟩, hn⟩
      obtain ⟨p, hpi, rfl⟩ := get_ref hi
      obtain ⟨fw, hf, dx, kk, hp, hk⟩ := pr_get hps hpi
      refine ⟨_, rfl, p, _, dx, _, _, rfl, hp, T.cl_Flow, T.na_Flow_key, lk_Flow_key, _, rfl, _, _, .lst (SqL.of (sI _ _ hk)) (dp_ns _), .lst ha (dp_ns _), sh_ns _, sh_ns _, _, rfl, ?_⟩
      show if (PyData.eqvAll (fw.key.map _) (k.map _)) = true then _ else _
      rw [eqv_ns]
      by_cases c : fw.key = k
      · rw [beq_iff_eq.mpr c]
        exact iteT ⟨_, rfl, q1 i p fw hpi hf c hn⟩
      · rw [beq_eq_false_iff_ne.mpr c]
        refine iteF ⟨rfl, ⟨_, rfl⟩, fun g hg => ?_⟩
        rw [take_more hf] at hg
        rcases List.mem_append.mp hg with h1 | h1
        · exact hn g h1
        · rw [List.mem_singleton.mp h1]
          exact c
    · rintro σ H' ⟨rfl, ⟨v, rfl⟩, hn⟩
      rw [List.length_map, pr_len hps, List.take_length] at hn
      exact q2 hn
theorem ok_least {f : Addr} {fd : FuncData} (F : Fun K "least_lately_seen" "least_lately_seen" s_least_lately_seen f fd) (T : Txt K mg A) : FnOk P w K mg base CX0 1 f fd ["row"] (spLeast A) := by
  refine F.ok sc_least_lately_seen (fun vs H Q E h => ?_) (fun cdv Ar outer s H vs Q E hr h => ?_)
  · obtain ⟨I, r, ps, fl, rfl, _⟩ := h
    rfl
  · obtain ⟨I, r, ps, fl, rfl, hr1, hps, hl, q⟩ := h
    have hlen := pr_len hps
    refine ⟨_, (pss_cons (ps_set (i := 1) sc_least_lately_seen.nd rfl (Or.inl rfl) pe_int)
      (pss_cons (ps_for PassesOwn.never rfl (pi_enum (by rfl) T.enumerate (pa_cons (pv 0) pa_nil)) (pg_tup rfl (pgs_cons (pg_name (i := 2) sc_least_lately_seen.nd rfl (Or.inl rfl)) (pgs_cons (pg_name (i := 3) sc_least_lately_seen.nd rfl (Or.inl rfl)) pgs_nil)))
      (pss_one (ps_if (pt_cmpR op_lt (pe_fld (pv 3) rfl) (pe_fld (pe_ix ix_list (pv 0) (pv 1) (fun _ _ => rfl)) rfl) (nomark _)) (pss_one (ps_set (i := 1) sc_least_lately_seen.nd rfl (Or.inl rfl) (pv 2))) pss_nil)))
      (pss_one (ps_ret (pv 1))))), ?_⟩
    refine ⟨_, rfl, r, _, rfl, SqL.of hr1, for_it (walk_enum (K := K) (a := r) (xs := ps.map V.ref)) (fun i σ H' => Same H H' ∧ ∃ (o : Nat) (v2 v3 : Option V) (fo : Sj52.Flow), σ = [some (.ref r), some (.int (o : Int)), v2, v3] ∧ fl[o]? = some fo ∧
      (∀ (j : Nat) (g : Sj52.Flow), j < i → fl[j]? = some g → fo.seen ≤ g.seen) ∧ ∀ (j : Nat) (g : Sj52.Flow), j < o → fl[j]? = some g → fo.seen < g.seen) ?_ ?_ ?_ ?_⟩
    · exact ⟨Same.refl _, 0, none, none, fl[0], rfl, List.getElem?_eq_getElem hl, fun j g hj => by omega, fun j g hj => by omega⟩
    · exact fun i σ H' _ ⟨s1, _⟩ => s1.seq (SqL.of hr1)
    · rintro i v σ H1 H2 hi ⟨s1, o, v2, v3, fo, rfl, ho, hle, hlt⟩ ⟨t, x, y, rfl, ht, rfl, hx, hy⟩
      obtain ⟨p, hpi, rfl⟩ := get_ref hy
      cases hx
      obtain ⟨fi, hfi, dx, kk, hp, hk⟩ := pr_get hps hpi
      have hoL : o < ps.length := by
        rw [hlen]
        exact (List.getElem?_eq_some_iff.mp ho).1
      have hpo : ps[o]? = some ps[o] := List.getElem?_eq_getElem hoL
      obtain ⟨fo', hfo', dxo, kko, hpo2, hko⟩ := pr_get hps hpo
      rw [ho] at hfo'
      cases hfo'
      have s2 : Same H (upd H1 t (.tup [.int (i : Nat), .ref p])) := same_into s1 (s1.free ht)
      refine ⟨t, _, rfl, .inl (.inl upd_same), rfl, _, _, rfl, _, _, rfl, rfl, ?_⟩
      have vo : (ps.map V.ref)[o]? = some (V.ref ps[o]) := by rw [List.getElem?_map, hpo]; rfl
      refine ⟨_, rfl, p, _, dx, _, _, rfl, s2 _ _ hp, T.cl_Flow, T.na_Flow_seen, lk_Flow_seen, _, rfl, _, rfl, r, _, _, _, rfl, rfl, SqL.of (s2 _ _ hr1), atI_nat vo, ps[o], _, dxo, _, _, rfl, s2 _ _ hpo2, T.cl_Flow, T.na_Flow_seen, lk_Flow_seen, _, _, rfl, rfl, _, rfl, ?_⟩
      by_cases c : fi.seen < fo.seen
      · rw [decide_eq_true (show (fi.seen : Int) < (fo.seen : Int) by omega)]
        refine iteT ⟨_, rfl, s2, i, _, _, fi, rfl, hfi, fun j g hj hg => ?_, fun j g hj hg => ?_⟩
        · rcases Nat.lt_or_ge j i with h1 | h1
          · have := hle j g h1 hg
            omega
          · have e : j = i := by omega
            subst e
            rw [hfi] at hg
            cases hg
            exact Nat.le_refl _
        · have := hle j g hj hg
          omega
      · rw [decide_eq_false (show ¬ (fi.seen : Int) < (fo.seen : Int) by omega)]
        refine iteF ⟨s2, o, _, _, fo, rfl, ho, fun j g hj hg => ?_, hlt⟩
        rcases Nat.lt_or_ge j i with h1 | h1
        · exact hle j g h1 hg
        · have e : j = i := by omega
          subst e
          rw [hfi] at hg
          cases hg
          omega
    · rintro σ H' ⟨s1, o, v2, v3, fo, rfl, ho, hle, hlt⟩
      rw [List.length_map, hlen] at hle
      exact ⟨_, rfl, q H' o s1 ⟨fo, ho, fun j g hg => hle j g (List.getElem?_eq_some_iff.mp hg).1 hg, hlt⟩⟩
end
end Fr

namespace Fr
open PySem PySem.Spec PyProof.Rows L2
/-! ### M1. The specification's sorting, by places -/
theorem find_first {k : List Nat} : ∀ {row : List Sj52.Flow} {i : Nat} {f : Sj52.Flow}, row[i]? = some f → f.key = k → (∀ g ∈ row.take i, g.key ≠ k) → (row.find? fun f => f.key == k) = some f
  | [], _, _, h, _, _ => by simp at h
  | a :: l, 0, f, h, e, _ => by
    have e2 : a = f := Option.some.inj h
    subst e2
    exact List.find?_cons_of_pos (p := fun f : Sj52.Flow => f.key == k) (beq_iff_eq.mpr e)
  | a :: l, i + 1, f, h, e, hn => by
    have ha : a.key ≠ k := hn a (List.mem_cons_self ..)
    rw [List.find?_cons_of_neg (p := fun f : Sj52.Flow => f.key == k) (by rw [beq_eq_false_iff_ne.mpr ha]; exact Bool.false_ne_true)]
    exact find_first (i := i) h e fun g hg => hn g (List.mem_cons_of_mem _ hg)
theorem find_no {k : List Nat} {row : List Sj52.Flow} (h : ∀ g ∈ row, g.key ≠ k) : (row.find? fun f => f.key == k) = none :=
  List.find?_eq_none.mpr fun x hx => by rw [beq_eq_false_iff_ne.mpr (h x hx)]; exact Bool.false_ne_true
theorem map_no {k : List Nat} {g : Sj52.Flow → Sj52.Flow} : ∀ {row : List Sj52.Flow}, (∀ x ∈ row, x.key ≠ k) → (row.map fun y => if y.key == k then g y else y) = row
  | [], _ => rfl
  | a :: l, h => by
    have ha : (a.key == k) = false := beq_eq_false_iff_ne.mpr (h a (List.mem_cons_self ..))
    rw [List.map_cons, map_no fun x hx => h x (List.mem_cons_of_mem _ hx), ha]
    rfl
theorem map_one {k : List Nat} {g : Sj52.Flow → Sj52.Flow} : ∀ {row : List Sj52.Flow} {i : Nat} {f : Sj52.Flow}, (row.map (·.key)).Nodup → row[i]? = some f → f.key = k → (row.map fun y => if y.key == k then g y else y) = row.set i (g f)
  | [], _, _, _, h, _ => by simp at h
  | a :: l, 0, f, hn, h, e => by
    have e2 : a = f := Option.some.inj h
    subst e2
    have hn2 : (a.key :: l.map (·.key)).Nodup := hn
    have hl : ∀ x ∈ l, x.key ≠ k := fun x hx z => (List.nodup_cons.mp hn2).1 (by rw [e, ← z]; exact List.mem_map_of_mem hx)
    rw [List.map_cons, map_no hl, beq_iff_eq.mpr e]
    rfl
  | a :: l, i + 1, f, hn, h, e => by
    have hn2 : (a.key :: l.map (·.key)).Nodup := hn
    have hm : f ∈ l := List.mem_of_getElem? (show l[i]? = some f from h)
    have ha : a.key ≠ k := fun z => (List.nodup_cons.mp hn2).1 (by rw [z, ← e]; exact List.mem_map_of_mem hm)
    rw [List.map_cons, map_one (i := i) (List.nodup_cons.mp hn2).2 h e, beq_eq_false_iff_ne.mpr ha]
    rfl
theorem min_le {l : List Nat} : ∀ {a : Nat}, l.foldl min a ≤ a ∧ ∀ x ∈ l, l.foldl min a ≤ x := by
  induction l with
  | nil => exact fun {a} => ⟨Nat.le_refl _, fun x hx => by simp at hx⟩
  | cons y r ih =>
    intro a
    obtain ⟨h1, h2⟩ := ih (a := min a y)
    refine ⟨Nat.le_trans h1 (Nat.min_le_left _ _), fun x hx => ?_⟩
    rcases List.mem_cons.mp hx with rfl | hx
    · exact Nat.le_trans h1 (Nat.min_le_right _ _)
    · exact h2 x hx
theorem min_ge {l : List Nat} {m : Nat} : ∀ {a : Nat}, m ≤ a → (∀ x ∈ l, m ≤ x) → m ≤ l.foldl min a := by
  induction l with
  | nil => exact fun {a} h _ => h
  | cons y r ih =>
    intro a h hx
    exact ih (a := min a y) (Nat.le_min.mpr ⟨h, hx y (List.mem_cons_self ..)⟩) fun x hx' => hx x (List.mem_cons_of_mem _ hx')
theorem idx_of {row : List Sj52.Flow} {p : Sj52.Flow → Bool} : ∀ {i : Nat} {f : Sj52.Flow}, row[i]? = some f → p f = true → (∀ (j : Nat) (g : Sj52.Flow), j < i → row[j]? = some g → p g = false) → row.findIdx p = i := by
  induction row with
  | nil => intro i f h; simp at h
  | cons a l ih =>
    intro i f h hp hn
    cases i with
    | zero =>
      have e2 : a = f := Option.some.inj h
      subst e2
      rw [List.findIdx_cons, hp]
      rfl
    | succ i =>
      have ha : p a = false := hn 0 a (Nat.succ_pos _) rfl
      rw [List.findIdx_cons, ha]
      show l.findIdx p + 1 = i + 1
      rw [ih (i := i) h hp fun j g hj hg => hn (j + 1) g (Nat.succ_lt_succ hj) hg]
theorem least_idx {row : List Sj52.Flow} {i now : Nat} (h : LeastAt row i) (hn : ∀ f ∈ row, f.seen ≤ now) : (row.findIdx fun y => y.seen == (row.map fun y => y.seen).foldl min now) = i := by
  obtain ⟨f, hf, h1, h2⟩ := h
  have hm : f ∈ row := List.mem_of_getElem? hf
  have e : (row.map fun y => y.seen).foldl min now = f.seen := by
    refine Nat.le_antisymm (min_le.2 _ (List.mem_map_of_mem hm)) (min_ge (hn f hm) fun x hx => ?_)
    obtain ⟨g, hg, rfl⟩ := List.mem_map.mp hx
    obtain ⟨j, hj⟩ := List.mem_iff_getElem?.mp hg
    exact h1 j g hj
  rw [e]
  refine idx_of hf (beq_iff_eq.mpr rfl) fun j g hj hg => ?_
  have := h2 j g hj hg
  exact beq_eq_false_iff_ne.mpr (by omega)
end Fr

namespace Fr
open PySem PySem.Spec PyProof.Rows L2
/-! ### F4. What is asked of a call's numbers; a frame's key -/
abbrev s_is_within : Stmt := (top 49)
theorem sc_is_within : FnScope ["number", "lowest", "highest"] ["number", "lowest", "highest"] (defScope s_is_within) := ⟨rfl, rfl, rfl, by decide +kernel, rfl, by decide +kernel, by decide +kernel⟩
abbrev s_are_octets : Stmt := (top 50)
theorem sc_are_octets : FnScope ["row", "how_many", "octet"] ["row", "how_many"] (defScope s_are_octets) := ⟨rfl, rfl, rfl, by decide +kernel, rfl, by decide +kernel, by decide +kernel⟩
abbrev s_is_place : Stmt := (top 51)
theorem sc_is_place : FnScope ["number"] ["number"] (defScope s_is_place) := ⟨rfl, rfl, rfl, by decide +kernel, rfl, by decide +kernel, by decide +kernel⟩
abbrev s_is_opening_as_told : Stmt := (top 52)
theorem sc_is_opening_as_told : FnScope ["call"] ["call"] (defScope s_is_opening_as_told) := ⟨rfl, rfl, rfl, by decide +kernel, rfl, by decide +kernel, by decide +kernel⟩
abbrev s_is_put_as_told : Stmt := (top 53)
theorem sc_is_put_as_told : FnScope ["call", "place", "word", "lo", "hi", "deed"] ["call"] (defScope s_is_put_as_told) := ⟨rfl, rfl, rfl, by decide +kernel, rfl, by decide +kernel, by decide +kernel⟩
abbrev s_is_frame_as_told : Stmt := (top 54)
theorem sc_is_frame_as_told : FnScope ["call", "size"] ["call"] (defScope s_is_frame_as_told) := ⟨rfl, rfl, rfl, by decide +kernel, rfl, by decide +kernel, by decide +kernel⟩
abbrev s_key_of : Stmt := (top 56)
theorem sc_key_of : FnScope ["frame", "places", "place"] ["frame", "places"] (defScope s_key_of) := ⟨rfl, rfl, rfl, by decide +kernel, rfl, by decide +kernel, by decide +kernel⟩
theorem zs_nats : ∀ {l : List Int}, (∀ x ∈ l, 0 ≤ x) → zs l = ns (Sj52.nats l)
  | [], _ => rfl
  | x :: r, h => by
    have e := zs_nats (l := r) fun y hy => h y (List.mem_cons_of_mem _ hy)
    show V.int x :: zs r = V.int ((x.toNat : Nat) : Int) :: ns (Sj52.nats r)
    rw [e, Int.toNat_of_nonneg (h x (List.mem_cons_self ..))]
theorem isIn_iff {a b z : Int} : Sj52.isIn a b z = true ↔ a ≤ z ∧ z ≤ b := by
  unfold Sj52.isIn
  rw [Bool.and_eq_true, decide_eq_true_iff, decide_eq_true_iff]
def spWithin : Sp := fun vs H Q _ => ∃ (x lo hi : Int), vs = [.int x, .int lo, .int hi] ∧ Q (.bl (Sj52.isIn lo hi x)) H
def okRow (n : Int) (l : List Int) : Bool := decide ((l.length : Int) = n) && l.all (Sj52.isIn 0 255)
def spOctets (K : PySem.W.Frag) : Sp := fun vs H Q _ => ∃ (a : Addr) (l : List Int) (n : Int), vs = [.ref a, .int n] ∧ SqL K H a (zs l) ∧ l.length ≤ 1000 ∧ ∀ H', Same H H' → Q (.bl (okRow n l)) H'
def spPlace : Sp := fun vs H Q _ => ∃ x : Int, vs = [.int x] ∧ Q (.bl (Sj52.isIn 0 31 x)) H
def spOpening (A : As) : Sp := fun vs H Q _ => ∃ (c : Addr) (p x : Int) (l : List Int), vs = [.ref c] ∧ CallAt A H c [[p, x], l] ∧ l.length ≤ 1000 ∧ ∀ H', Same H H' → Q (.bl (Sj52.isIn 0 4294967295 x && okRow 16 l)) H'
def okPut (i w lo hi d : Int) (m v : List Int) : Bool := Sj52.isIn 0 31 i && Sj52.isIn 0 14 w && (decide (0 ≤ lo) && decide (hi ≤ 65535) && decide (lo ≤ hi)) && Sj52.isIn 0 255 d && okRow 16 m && okRow 16 v
def spPutOk (A : As) : Sp := fun vs H Q _ => ∃ (c : Addr) (p i w lo hi d : Int) (m v : List Int), vs = [.ref c] ∧ CallAt A H c [[p, i, w, lo, hi, d], m, v] ∧ m.length ≤ 1000 ∧ v.length ≤ 1000 ∧ ∀ H', Same H H' → Q (.bl (okPut i w lo hi d m v)) H'
def spFrame (A : As) : Sp := fun vs H Q _ => ∃ (c : Addr) (p n : Int) (l : List Int), vs = [.ref c] ∧ CallAt A H c [[p, n], l] ∧ l.length ≤ 1000 ∧ ∀ H', Same H H' → Q (.bl (Sj52.isIn 0 256 n && okRow n l)) H'
def spKey (K : PySem.W.Frag) : Sp := fun vs H Q _ => ∃ (a b : Addr) (f pl : List Nat), vs = [.ref a, .ref b] ∧ SqL K H a (ns f) ∧ SqL K H b (ns pl) ∧ pl.length ≤ 1000 ∧ ∀ (H' : Hp) (p : Addr), Same H H' → H p = none → H' p = some (.lst (ns (Sj52.keyOf pl f))) → Q (.ref p) H'
section
variable {P : Program} {w : World} {K : PySem.W.Frag} {mg : Str → Option Value} {base : Heap} {A : As}
theorem ok_is_within {f : Addr} {fd : FuncData} (F : Fun K "is_within" "is_within" s_is_within f fd) : FnOk P w K mg base CX0 1 f fd ["number", "lowest", "highest"] spWithin := by
  refine F.ok sc_is_within (fun vs H Q E h => ?_) (fun cdv Ar outer s H vs Q E hr h => ?_)
  · obtain ⟨x, lo, hi, rfl, _⟩ := h
    rfl
  · obtain ⟨x, lo, hi, rfl, q⟩ := h
    refine ⟨_, (pss_one (ps_ret (pe_chain op_le op_le (pv 1) (pv 0) (pv 2)))), ?_⟩
    unfold Sj52.isIn at q
    refine ⟨_, rfl, _, rfl, _, _, rfl, rfl, _, rfl, ?_⟩
    cases c : decide (lo ≤ x) with
    | true =>
      rw [c, Bool.true_and] at q
      exact iteT ⟨_, rfl, _, _, rfl, rfl, q⟩
    | false =>
      rw [c, Bool.false_and] at q
      exact iteF q
theorem ok_is_place {f : Addr} {fd : FuncData} (F : Fun K "is_place" "is_place" s_is_place f fd) (T : Txt K mg A) (h_is_within : Has P w K mg base 1 "is_within" ["number", "lowest", "highest"] spWithin) : FnOk P w K mg base CX0 2 f fd ["number"] spPlace := by
  refine F.ok sc_is_place (fun vs H Q E h => ?_) (fun cdv Ar outer s H vs Q E hr h => ?_)
  · obtain ⟨x, rfl, _⟩ := h
    rfl
  · obtain ⟨x, rfl, q⟩ := h
    refine ⟨_, (pss_one (ps_ret (pe_hca h_is_within hr (by decide) rfl (pa_cons (pv 0) (pa_cons pe_int (pa_cons (pe_op op_sub (pe_gi T.c_MOST_RULES) pe_int) pa_nil)))))), ?_⟩
    exact ⟨_, rfl, _, _, rfl, rfl, x, 0, 31, rfl, q⟩
theorem ok_are_octets {f : Addr} {fd : FuncData} (F : Fun K "are_octets" "are_octets" s_are_octets f fd) (T : Txt K mg A) (h_is_within : Has P w K mg base 1 "is_within" ["number", "lowest", "highest"] spWithin) : FnOk P w K mg base CX0 2 f fd ["row", "how_many"] (spOctets K) := by
  refine F.ok sc_are_octets (fun vs H Q E h => ?_) (fun cdv Ar outer s H vs Q E hr h => ?_)
  · obtain ⟨a, l, n, rfl, _⟩ := h
    rfl
  · obtain ⟨a, l, n, rfl, ha, hl, q⟩ := h
    refine ⟨_, (pss_one (ps_ret (pe_and (pe_cmpR op_eq (pe_callB call_len_seq (by rfl) T.len PySem.boot_len (pa_cons (pv 0) pa_nil)) (pv 1) (nomark _)) (pe_one (pe_callB (cr_all rfl) (by rfl) T.all (by decide +kernel) (pa_cons (pe_lc (own := [("octet", 2)]) (g := gName 2) (tt := tYes) (by rfl) sc_are_octets.nd (pi_list (pv 0)) (blkOk_by (own := [("octet", 2)]) (N := ["row", "how_many", "octet"]) (sc := defScope s_are_octets) (by decide +kernel)) (fun _ _ _ _ _ => (pg_name (i := 2) sc_are_octets.nd rfl (Or.inl rfl))) (fun _ _ _ _ _ => pts_nil) (fun _ _ _ _ _ => (pe_hca h_is_within hr (by decide) rfl (pa_cons (pv 2) (pa_cons pe_int (pa_cons (pe_gi T.c_MOST_OCTET) pa_nil)))))) pa_nil)))))), ?_⟩
    refine ⟨_, rfl, a, _, rfl, .inl ha, _, rfl, rfl, _, rfl, ?_⟩
    rw [len_zs]
    have e0 : decide (V.int ((l.length : Nat) : Int) = V.int n) = decide ((l.length : Int) = n) := by
      by_cases c : (l.length : Int) = n
      · rw [c, decide_eq_true rfl, decide_eq_true rfl]
      · rw [decide_eq_false c, decide_eq_false (fun z => c (V.int.inj z))]
    rw [e0]
    unfold okRow at q
    cases c : decide ((l.length : Int) = n) with
    | false =>
      rw [c, Bool.false_and] at q
      exact iteF (q H (Same.refl _))
    | true =>
      rw [c, Bool.true_and] at q
      refine iteT ⟨_, rfl, a, rfl, ⟨_, ha⟩, fun D hD => lc_list (K := K) (a := a) (xs := zs l) (fun i H' => Same H H' ∧ H' D = some (.lst (((l.take i).map (Sj52.isIn 0 255)).map V.bl))) ⟨same_upd hD, upd_same⟩ (fun i H' _ ⟨s7, _⟩ => s7.seq ha) ?_ ?_⟩
      · rintro i y H5 hi ⟨s7, hD5⟩
        obtain ⟨z, hz, rfl⟩ := get_zs hi
        refine ⟨rfl, yes_if ⟨_, rfl, z, 0, 255, rfl, _, hD5, ?_, same_into s7 hD, ?_⟩⟩
        · rw [List.length_map, List.length_map, List.length_take]
          exact Nat.lt_of_le_of_lt (Nat.le_trans (Nat.min_le_right _ _) hl) (by decide)
        · rw [upd_same, take_more hz, List.map_append, List.map_append]
          rfl
      · rintro H5 ⟨s7, hD5⟩
        rw [len_zs, List.take_length] at hD5
        refine ⟨D, _, rfl, SqL.of hD5, ?_⟩
        have e1 : (l.map (Sj52.isIn 0 255)).all id = l.all (Sj52.isIn 0 255) := by
          rw [List.all_map]
          rfl
        rw [e1]
        exact q H5 s7
theorem ok_is_opening {f : Addr} {fd : FuncData} (F : Fun K "is_opening_as_told" "is_opening_as_told" s_is_opening_as_told f fd) (T : Txt K mg A) (h_is_within : Has P w K mg base 1 "is_within" ["number", "lowest", "highest"] spWithin)
    (h_are_octets : Has P w K mg base 2 "are_octets" ["row", "how_many"] (spOctets K)) : FnOk P w K mg base CX0 3 f fd ["call"] (spOpening A) := by
  refine F.ok sc_is_opening_as_told (fun vs H Q E h => ?_) (fun cdv Ar outer s H vs Q E hr h => ?_)
  · obtain ⟨c, p, x, l, rfl, _⟩ := h
    rfl
  · obtain ⟨c, p, x, l, rfl, ⟨n, xs, rows, dx, m, r, e, hc, hm, qs, hr1, hrs⟩, hl, q⟩ := h
    cases e
    cases hrs with
    | cons hq0 t =>
      cases t
      refine ⟨_, (pss_one (ps_ret (pe_and (pe_hca h_is_within hr (by decide) rfl (pa_cons (pe_ix ix_list (pe_fld (pv 0) rfl) pe_int (fun _ _ => rfl)) (pa_cons pe_int (pa_cons (pe_gi T.c_MOST_SEED) pa_nil)))) (pe_one (pe_hca h_are_octets hr (by decide) rfl (pa_cons (pe_ix ix_list (pe_fld (pv 0) rfl) pe_int (fun _ _ => rfl)) (pa_cons (pe_gi T.c_KEY_SIZE) pa_nil))))))), ?_⟩
      refine ⟨_, rfl, c, _, dx, _, _, rfl, hc, T.cl_Call, T.na_Call_numbers, lk_Call_numbers, m, _, _, _, rfl, rfl, SqL.of hm, atI_nat (j := 0) rfl, x, 0, 4294967295, rfl, _, rfl, ?_⟩
      cases c1 : Sj52.isIn 0 4294967295 x with
      | false =>
        rw [c1, Bool.false_and] at q
        exact iteF (q H (Same.refl _))
      | true =>
        rw [c1, Bool.true_and] at q
        exact iteT ⟨_, rfl, c, _, dx, _, _, rfl, hc, T.cl_Call, T.na_Call_rows, lk_Call_rows, r, _, _, _, rfl, rfl, SqL.of hr1, atI_nat (j := 0) rfl, _, l, 16, rfl, SqL.of hq0, hl, q⟩
theorem ok_is_frame {f : Addr} {fd : FuncData} (F : Fun K "is_frame_as_told" "is_frame_as_told" s_is_frame_as_told f fd) (T : Txt K mg A) (h_is_within : Has P w K mg base 1 "is_within" ["number", "lowest", "highest"] spWithin)
    (h_are_octets : Has P w K mg base 2 "are_octets" ["row", "how_many"] (spOctets K)) : FnOk P w K mg base CX0 3 f fd ["call"] (spFrame A) := by
  refine F.ok sc_is_frame_as_told (fun vs H Q E h => ?_) (fun cdv Ar outer s H vs Q E hr h => ?_)
  · obtain ⟨c, p, x, l, rfl, _⟩ := h
    rfl
  · obtain ⟨c, p, x, l, rfl, ⟨n, xs, rows, dx, m, r, e, hc, hm, qs, hr1, hrs⟩, hl, q⟩ := h
    cases e
    cases hrs with
    | cons hq0 t =>
      cases t
      refine ⟨_, (pss_cons (ps_set (i := 1) sc_is_frame_as_told.nd rfl (Or.inl rfl) (pe_ix ix_list (pe_fld (pv 0) rfl) pe_int (fun _ _ => rfl)))
      (pss_one (ps_ret (pe_and (pe_hca h_is_within hr (by decide) rfl (pa_cons (pv 1) (pa_cons pe_int (pa_cons (pe_gi T.c_MOST_FRAME) pa_nil)))) (pe_one (pe_hca h_are_octets hr (by decide) rfl (pa_cons (pe_ix ix_list (pe_fld (pv 0) rfl) pe_int (fun _ _ => rfl)) (pa_cons (pv 1) pa_nil)))))))), ?_⟩
      refine ⟨_, rfl, c, _, dx, _, _, rfl, hc, T.cl_Call, T.na_Call_numbers, lk_Call_numbers, m, _, _, _, rfl, rfl, SqL.of hm, atI_nat (j := 0) rfl, ?_⟩
      refine ⟨_, rfl, x, 0, 256, rfl, _, rfl, ?_⟩
      cases c1 : Sj52.isIn 0 256 x with
      | false =>
        rw [c1, Bool.false_and] at q
        exact iteF (q H (Same.refl _))
      | true =>
        rw [c1, Bool.true_and] at q
        exact iteT ⟨_, rfl, c, _, dx, _, _, rfl, hc, T.cl_Call, T.na_Call_rows, lk_Call_rows, r, _, _, _, rfl, rfl, SqL.of hr1, atI_nat (j := 0) rfl, _, rfl, _, l, x, rfl, SqL.of hq0, hl, q⟩
theorem ok_is_put {f : Addr} {fd : FuncData} (F : Fun K "is_put_as_told" "is_put_as_told" s_is_put_as_told f fd) (T : Txt K mg A) (h_is_within : Has P w K mg base 1 "is_within" ["number", "lowest", "highest"] spWithin) (h_is_place : Has P w K mg base 2 "is_place" ["number"] spPlace)
    (h_are_octets : Has P w K mg base 2 "are_octets" ["row", "how_many"] (spOctets K)) : FnOk P w K mg base CX0 3 f fd ["call"] (spPutOk A) := by
  refine F.ok sc_is_put_as_told (fun vs H Q E h => ?_) (fun cdv Ar outer s H vs Q E hr h => ?_)
  · obtain ⟨c, p, i, w, lo, hi, d, m, v, rfl, _⟩ := h
    rfl
  · obtain ⟨c, p, i, w, lo, hi, d, m, v, rfl, ⟨n, xs, rows, dx, a, r, e, hc, ha, qs, hr1, hrs⟩, hlm, hlv, q⟩ := h
    cases e
    cases hrs with
    | cons hq0 t =>
      cases t with
      | cons hq1 t =>
        cases t
        have num : ∀ {Q' : VK} {σ : L2.St} {j : Nat} {z : Int}, σ[0]? = some (some (.ref c)) → ([i, w, lo, hi, d] : List Int)[j]? = some z → Q' (.int z) H →
            tOp (rIxL K) (tFld K (tVar 0) "numbers") (tC (.int (j : Int))) σ H Q' := fun h0 hz hq =>
          ⟨_, h0, c, _, dx, _, _, rfl, hc, T.cl_Call, T.na_Call_numbers, lk_Call_numbers, a, _, _, _, rfl, rfl, SqL.of ha, at_zs hz rfl, hq⟩
        refine ⟨_, (pss_cons (ps_set (i := 1) sc_is_put_as_told.nd rfl (Or.inl rfl) (pe_ix ix_list (pe_fld (pv 0) rfl) pe_int (fun _ _ => rfl)))
      (pss_cons (ps_set (i := 2) sc_is_put_as_told.nd rfl (Or.inl rfl) (pe_ix ix_list (pe_fld (pv 0) rfl) pe_int (fun _ _ => rfl)))
      (pss_cons (ps_set (i := 3) sc_is_put_as_told.nd rfl (Or.inl rfl) (pe_ix ix_list (pe_fld (pv 0) rfl) pe_int (fun _ _ => rfl)))
      (pss_cons (ps_set (i := 4) sc_is_put_as_told.nd rfl (Or.inl rfl) (pe_ix ix_list (pe_fld (pv 0) rfl) pe_int (fun _ _ => rfl)))
      (pss_cons (ps_set (i := 5) sc_is_put_as_told.nd rfl (Or.inl rfl) (pe_ix ix_list (pe_fld (pv 0) rfl) pe_int (fun _ _ => rfl)))
      (pss_cons (ps_if (PW.pt (pw_or (pt_not (pt_val (pe_hca h_is_place hr (by decide) rfl (pa_cons (pv 1) pa_nil)))) (pw_or1 (pt_not (pt_val (pe_hca h_is_within hr (by decide) rfl (pa_cons (pv 2) (pa_cons pe_int (pa_cons (pe_gi T.c_MOST_WORD) pa_nil))))))))) (pss_one (ps_ret pe_bl)) pss_nil)
      (pss_cons (ps_if (PW.pt (pw_or (pt_cmpR op_lt (pv 3) pe_int (nomark _)) (pw_or (pt_cmpR op_gt (pv 4) (pe_gi T.c_MOST_WORD_VALUE) (nomark _)) (pw_or1 (pt_cmpR op_gt (pv 3) (pv 4) (nomark _)))))) (pss_one (ps_ret pe_bl)) pss_nil)
      (pss_cons (ps_if (pt_not (pt_val (pe_hca h_is_within hr (by decide) rfl (pa_cons (pv 5) (pa_cons pe_int (pa_cons (pe_gi T.c_MOST_OCTET) pa_nil)))))) (pss_one (ps_ret pe_bl)) pss_nil)
      (pss_one (ps_ret (pe_and (pe_hca h_are_octets hr (by decide) rfl (pa_cons (pe_ix ix_list (pe_fld (pv 0) rfl) pe_int (fun _ _ => rfl)) (pa_cons (pe_gi T.c_KEY_SIZE) pa_nil))) (pe_one (pe_hca h_are_octets hr (by decide) rfl (pa_cons (pe_ix ix_list (pe_fld (pv 0) rfl) pe_int (fun _ _ => rfl)) (pa_cons (pe_gi T.c_KEY_SIZE) pa_nil))))))))))))))), ?_⟩
        refine num (j := 0) rfl rfl ?_
        refine num (j := 1) rfl rfl ?_
        refine num (j := 2) rfl rfl ?_
        refine num (j := 3) rfl rfl ?_
        refine num (j := 4) rfl rfl ?_
        unfold okPut at q
        refine ⟨_, rfl, i, rfl, _, rfl, ?_⟩
        cases c1 : Sj52.isIn 0 31 i with
        | false =>
          simp only [c1, Bool.false_and] at q
          exact iteT (iteT (q H (Same.refl _)))
        | true =>
          refine iteF ⟨_, rfl, w, 0, 14, rfl, _, rfl, ?_⟩
          cases c2 : Sj52.isIn 0 14 w with
          | false =>
            simp only [c1, c2, Bool.false_and, Bool.and_false] at q
            exact iteT (q H (Same.refl _))
          | true =>
            refine iteF ?_
            simp only [c1, c2, Bool.true_and] at q
            refine ⟨_, rfl, _, _, rfl, rfl, _, rfl, ?_⟩
            by_cases d1 : lo < 0
            · rw [decide_eq_true d1]
              rw [decide_eq_false (show ¬ 0 ≤ lo by omega)] at q
              simp only [Bool.false_and] at q
              exact iteT (iteT (q H (Same.refl _)))
            · rw [decide_eq_false d1]
              rw [decide_eq_true (show 0 ≤ lo by omega)] at q
              refine iteF ⟨_, rfl, _, _, rfl, rfl, _, rfl, ?_⟩
              by_cases d2 : 65535 < hi
              · rw [decide_eq_true d2]
                rw [decide_eq_false (show ¬ hi ≤ 65535 by omega)] at q
                simp only [Bool.false_and, Bool.and_false] at q
                exact iteT (iteT (q H (Same.refl _)))
              · rw [decide_eq_false d2]
                rw [decide_eq_true (show hi ≤ 65535 by omega)] at q
                refine iteF ⟨_, rfl, _, rfl, _, _, rfl, rfl, _, rfl, ?_⟩
                by_cases d3 : hi < lo
                · rw [decide_eq_true d3]
                  rw [decide_eq_false (show ¬ lo ≤ hi by omega)] at q
                  simp only [Bool.false_and, Bool.and_false] at q
                  exact iteT (q H (Same.refl _))
                · rw [decide_eq_false d3]
                  rw [decide_eq_true (show lo ≤ hi by omega)] at q
                  refine iteF ⟨_, rfl, d, 0, 255, rfl, _, rfl, ?_⟩
                  simp only [Bool.true_and] at q
                  cases c4 : Sj52.isIn 0 255 d with
                  | false =>
                    simp only [c4, Bool.false_and] at q
                    exact iteT (q H (Same.refl _))
                  | true =>
                    simp only [c4, Bool.true_and] at q
                    refine iteF ⟨_, rfl, c, _, dx, _, _, rfl, hc, T.cl_Call, T.na_Call_rows, lk_Call_rows, r, _, _, _, rfl, rfl, SqL.of hr1, atI_nat (j := 0) rfl, _, m, 16, rfl, SqL.of hq0, hlm, fun H1 s1 => ⟨_, rfl, ?_⟩⟩
                    cases c5 : okRow 16 m with
                    | false =>
                      simp only [c5, Bool.false_and] at q
                      exact iteF (q H1 s1)
                    | true =>
                      simp only [c5, Bool.true_and] at q
                      exact iteT ⟨_, rfl, c, _, dx, _, _, rfl, s1 _ _ hc, T.cl_Call, T.na_Call_rows, lk_Call_rows, r, _, _, _, rfl, rfl, SqL.of (s1 _ _ hr1), atI_nat (j := 1) rfl, _, v, 16, rfl, SqL.of (s1 _ _ hq1), hlv, fun H2 s2 => q H2 (s1.trans s2)⟩
theorem ok_key_of {f : Addr} {fd : FuncData} (F : Fun K "key_of" "key_of" s_key_of f fd) (T : Txt K mg A) : FnOk P w K mg base CX0 1 f fd ["frame", "places"] (spKey K) := by
  refine F.ok sc_key_of (fun vs H Q E h => ?_) (fun cdv Ar outer s H vs Q E hr h => ?_)
  · obtain ⟨a, b, f, pl, rfl, _⟩ := h
    rfl
  · obtain ⟨a, b, fr, pl, rfl, ha, hb, hl, q⟩ := h
    refine ⟨_, (pss_one (ps_ret (pe_lc (own := [("place", 2)]) (g := gName 2) (tt := tYes) (by rfl) sc_key_of.nd (pi_list (pv 1)) (blkOk_by (own := [("place", 2)]) (N := ["frame", "places", "place"]) (sc := defScope s_key_of) (by decide +kernel)) (fun _ _ _ _ _ => (pg_name (i := 2) sc_key_of.nd rfl (Or.inl rfl))) (fun _ _ _ _ _ => pts_nil) (fun _ _ _ _ _ => (pe_ifExp (pt_cmpR op_lt (pv 2) (pe_callB (call_lenK (K := K) rfl) (by rfl) T.len PySem.boot_len (pa_cons (pv 0) pa_nil)) (nomark _)) (pe_ix (ix_listK (K := K) rfl) (pv 0) (pv 2) (fun _ _ => rfl)) pe_int))))), ?_⟩
    refine ⟨_, rfl, b, rfl, ⟨_, hb⟩, fun D hD => lc_list (K := K) (a := b) (xs := ns pl) (fun i H' => Same H H' ∧ H' D = some (.lst (ns (Sj52.keyOf (pl.take i) fr)))) ⟨same_upd hD, upd_same⟩ (fun i H' _ ⟨s7, _⟩ => s7.seq hb) ?_ ?_⟩
    · rintro i y H5 hi ⟨s7, hD5⟩
      obtain ⟨z, hz, rfl⟩ := get_ns hi
      have fin : ∀ o : V, o = .int ((fr.getD z 0 : Nat) : Int) → ∃ acc, H5 D = some (.lst acc) ∧ acc.length < sizeLine ∧ Same H (upd H5 D (.lst (acc ++ [o]))) ∧ upd H5 D (.lst (acc ++ [o])) D = some (.lst (ns (Sj52.keyOf (pl.take (i + 1)) fr))) := by
        rintro o rfl
        refine ⟨_, hD5, ?_, same_into s7 hD, ?_⟩
        · unfold Sj52.keyOf
          rw [len_ns, List.length_map, List.length_take]
          exact Nat.lt_of_le_of_lt (Nat.le_trans (Nat.min_le_right _ _) hl) (by decide)
        · rw [upd_same, take_more hz, ← ns_more]
          unfold Sj52.keyOf
          rw [List.map_append]
          rfl
      refine ⟨rfl, yes_if ⟨_, rfl, _, rfl, a, _, rfl, .inl (s7.seq ha), _, _, rfl, rfl, _, rfl, ?_⟩⟩
      rw [len_ns]
      by_cases c : z < fr.length
      · rw [decide_eq_true (show (z : Int) < (fr.length : Int) by omega)]
        have ez : fr[z]? = some (fr.getD z 0) := by
          rw [List.getD_eq_getElem?_getD, List.getElem?_eq_getElem c]
          rfl
        exact iteT ⟨_, rfl, _, rfl, a, _, _, _, rfl, rfl, s7.seq ha, at_ns ez rfl, fin _ rfl⟩
      · rw [decide_eq_false (show ¬ (z : Int) < (fr.length : Int) by omega)]
        refine iteF (fin _ ?_)
        rw [List.getD_eq_getElem?_getD, List.getElem?_eq_none (by omega)]
        rfl
    · rintro H5 ⟨s7, hD5⟩
      rw [len_ns, List.take_length] at hD5
      exact q H5 D s7 hD hD5
end
end Fr

namespace Fr
open PySem PySem.Spec PyProof.Rows L2
/-! ### F5. The table: what it owns, and what lies beside it -/
/-- I: what never changes; R: what belongs to others -/
structure Ctx (I R H : Hp) : Prop where
  sI : Same I H
  sR : Same R H
  dis : ∀ b o, I b = some o → R b = none
def Own (I R : Hp) (p : Addr) : Prop := I p = none ∧ R p = none
/-- more never changes; what stood and did not belong to it still doesn't -/
structure Gr (I I' H : Hp) : Prop where
  more : Same I I'
  free : ∀ b o, H b = some o → I b = none → I' b = none
section
variable {I I' I2 R H H' H2 : Hp} {p q : Addr} {o : HO}
theorem Ctx.fresh (c : Ctx I R H) (h : H p = none) : Own I R p := ⟨c.sI.free h, c.sR.free h⟩
theorem Ctx.grow (c : Ctx I R H) (s : Same H H') : Ctx I R H' := ⟨c.sI.trans s, c.sR.trans s, c.dis⟩
theorem Ctx.set (c : Ctx I R H) (w : Own I R p) : Ctx I R (upd H p o) := ⟨same_into c.sI w.1, same_into c.sR w.2, c.dis⟩
theorem Ctx.adopt (c : Ctx I R H) (s : Same H H') (h0 : H p = none) (h1 : H' p = some o) : Ctx (upd I p o) R H' := by
  refine ⟨fun b u e => ?_, c.sR.trans s, fun b u e => ?_⟩
  · by_cases hb : b = p
    · subst hb
      rw [upd_same] at e
      cases e
      exact h1
    · rw [upd_ne hb] at e
      exact s _ _ (c.sI _ _ e)
  · by_cases hb : b = p
    · subst hb
      exact c.sR.free h0
    · rw [upd_ne hb] at e
      exact c.dis b u e
theorem Ctx.put (c : Ctx I R H) (hR : R p = none) (h : H p = some o) : Ctx (upd I p o) R H := by
  refine ⟨fun b u e => ?_, c.sR, fun b u e => ?_⟩
  · by_cases hb : b = p
    · subst hb
      rw [upd_same] at e
      cases e
      exact h
    · rw [upd_ne hb] at e
      exact c.sI _ _ e
  · by_cases hb : b = p
    · subst hb
      exact hR
    · rw [upd_ne hb] at e
      exact c.dis b u e
theorem Gr.put (h0 : H p = none) (hI : I p = none) : Gr I (upd I p o) H := by
  refine ⟨same_upd hI, fun b u e hb => ?_⟩
  rw [upd_ne (ne_of_none e h0)]
  exact hb
theorem Gr.refl : Gr I I H := ⟨Same.refl _, fun _ _ _ h => h⟩
theorem Gr.adopt (h0 : H p = none) (hI : Same I H) : Gr I (upd I p o) H := by
  refine ⟨same_upd (hI.free h0), fun b u e hb => ?_⟩
  rw [upd_ne (ne_of_none e h0)]
  exact hb
theorem Gr.trans (g : Gr I I' H) (s : Same H H') (g' : Gr I' I2 H') : Gr I I2 H := ⟨g.more.trans g'.more, fun b u e h => g'.free b u (s _ _ e) (g.free b u e h)⟩
theorem Gr.own (g : Gr I I' H) (h : H p = some o) (w : Own I R p) : Own I' R p := ⟨g.free p o h w.1, w.2⟩
theorem Own.ne (w : Own I R p) (h : I q = some o) : q ≠ p := ne_of_none h w.1
end
structure RowAt (A : As) (I R H : Hp) (x : Addr × List Addr) (fl : List Sj52.Flow) : Prop where
  at_ : H x.1 = some (.lst (x.2.map V.ref))
  own : Own I R x.1
  fls : Paired (fun p f => FlowAt A I H p f ∧ Own I R p) x.2 fl
structure RowsOk (A : As) (I R H : Hp) (xs : List (Addr × List Addr)) (rows : List (List Sj52.Flow)) : Prop where
  pr : Paired (RowAt A I R H) xs rows
  d1 : ∀ (i j : Nat) (x y : Addr × List Addr), xs[i]? = some x → xs[j]? = some y → x.1 = y.1 → i = j
  d2 : ∀ (i j : Nat) (x y : Addr × List Addr) (p : Addr), xs[i]? = some x → xs[j]? = some y → p ∈ x.2 → p ∈ y.2 → i = j
  nd : ∀ (i : Nat) (x : Addr × List Addr), xs[i]? = some x → x.2.Nodup
def TabAt (A : As) (I R H : Hp) (t : Addr) (seed : Nat) (rows : List (List Sj52.Flow)) (cn : List Nat) : Prop :=
  ∃ (dx rl : Addr) (xs : List (Addr × List Addr)) (k0 k1 k2 : Nat), H t = some (.ins A.Table dx (f_Table (.int (seed : Int)) (.ref rl) (.int (k0 : Int)) (.int (k1 : Int)) (.int (k2 : Int)))) ∧ cn = [k0, k1, k2] ∧ Own I R t ∧ I rl = some (.lst ((xs.map (·.1)).map V.ref)) ∧ RowsOk A I R H xs rows
section
variable {A : As} {I I' R H H' : Hp}
theorem flow_some {p : Addr} {f : Sj52.Flow} (h : FlowAt A I H p f) : ∃ dx fs, H p = some (.ins A.Flow dx fs) := by
  obtain ⟨dx, k, h1, _⟩ := h
  exact ⟨dx, _, h1⟩
theorem pr_mem {α β : Type} {F : α → β → Prop} : ∀ {xs : List α} {ys : List β}, Paired F xs ys → ∀ x ∈ xs, ∃ y ∈ ys, F x y
  | _, _, .nil, x, h => by simp at h
  | _, _, .cons r t, x, h => by
    rcases List.mem_cons.mp h with rfl | h
    · exact ⟨_, List.mem_cons_self .., r⟩
    · obtain ⟨y, hy, q⟩ := pr_mem t x h
      exact ⟨y, List.mem_cons_of_mem _ hy, q⟩
theorem pr_monoM {α β : Type} {F G : α → β → Prop} : ∀ {xs : List α} {ys : List β}, (∀ a b, a ∈ xs → F a b → G a b) → Paired F xs ys → Paired G xs ys
  | _, _, _, .nil => .nil
  | _, _, f, .cons r t => .cons (f _ _ (List.mem_cons_self ..) r) (pr_monoM (fun a b h => f a b (List.mem_cons_of_mem _ h)) t)
theorem RowAt.same {x : Addr × List Addr} {fl : List Sj52.Flow} (g : Gr I I' H) (s1 : H' x.1 = H x.1) (s2 : ∀ p ∈ x.2, H' p = H p) (h : RowAt A I R H x fl) : RowAt A I' R H' x fl := by
  refine ⟨by rw [s1]; exact h.at_, g.own h.at_ h.own, pr_monoM (fun p f hp z => ?_) h.fls⟩
  obtain ⟨⟨dx, k, h1, h2⟩, w⟩ := z
  exact ⟨⟨dx, k, by rw [s2 p hp]; exact h1, g.more _ _ h2⟩, g.own h1 w⟩
theorem RowAt.grow {x : Addr × List Addr} {fl : List Sj52.Flow} (g : Gr I I' H) (s : Same H H') (h : RowAt A I R H x fl) : RowAt A I' R H' x fl := by
  refine h.same g (by rw [h.at_, s _ _ h.at_]) fun p hp => ?_
  obtain ⟨f, _, hf, _⟩ := pr_mem h.fls p hp
  obtain ⟨dx, fs, e⟩ := flow_some hf
  rw [e, s _ _ e]
theorem RowsOk.grow {xs : List (Addr × List Addr)} {rows : List (List Sj52.Flow)} (g : Gr I I' H) (s : Same H H') (h : RowsOk A I R H xs rows) : RowsOk A I' R H' xs rows :=
  ⟨pr_mono (fun _ _ z => z.grow g s) h.pr, h.d1, h.d2, h.nd⟩
theorem TabAt.grow {t : Addr} {seed : Nat} {rows : List (List Sj52.Flow)} {cn : List Nat} (g : Gr I I' H) (s : Same H H') : TabAt A I R H t seed rows cn → TabAt A I' R H' t seed rows cn
  | ⟨dx, rl, xs, k0, k1, k2, h1, hk, w, h2, h3⟩ => ⟨dx, rl, xs, k0, k1, k2, s _ _ h1, hk, g.own h1 w, g.more _ _ h2, h3.grow g s⟩
theorem pr_setM {α β : Type} {F G : α → β → Prop} {a : α} {b : β} (hab : G a b) : ∀ {xs : List α} {ys : List β} (i : Nat), Paired F xs ys → (∀ (j : Nat) (x : α) (y : β), j ≠ i → xs[j]? = some x → ys[j]? = some y → F x y → G x y) → Paired G (xs.set i a) (ys.set i b)
  | _, _, _, .nil, _ => .nil
  | _, _, 0, .cons _ t, f => by
    refine .cons hab ?_
    have z : ∀ {xs : List α} {ys : List β}, Paired F xs ys → (∀ (j : Nat) (x : α) (y : β), xs[j]? = some x → ys[j]? = some y → F x y → G x y) → Paired G xs ys := by
      intro xs ys p
      induction p with
      | nil => exact fun _ => .nil
      | cons r t ih => exact fun h => .cons (h 0 _ _ rfl rfl r) (ih fun j x y hx hy => h (j + 1) x y hx hy)
    exact z t fun j x y hx hy => f (j + 1) x y (Nat.succ_ne_zero j) hx hy
  | _, _, i + 1, .cons r t, f => .cons (f 0 _ _ (Nat.succ_ne_zero i).symm rfl rfl r) (pr_setM hab i t fun j x y hj hx hy => f (j + 1) x y (fun z => hj (Nat.succ.inj z)) hx hy)
/-- one row is changed -/
theorem RowsOk.set {xs : List (Addr × List Addr)} {rows : List (List Sj52.Flow)} {i : Nat} {r : Addr} {ps ps' : List Addr} {fl' : List Sj52.Flow} (h : RowsOk A I R H xs rows) (g : Gr I I' H) (hi : xs[i]? = some (r, ps))
    (k : ∀ b o, H b = some o → b ≠ r → b ∉ ps → H' b = some o) (hr : RowAt A I' R H' (r, ps') fl') (hn : ps'.Nodup) (hp : ∀ p ∈ ps', p ∈ ps ∨ H p = none) : RowsOk A I' R H' (xs.set i (r, ps')) (rows.set i fl') := by
  have hrow : ∀ (j : Nat) (x : Addr × List Addr), xs[j]? = some x → ∃ y, RowAt A I R H x y := fun j x hx => by
    obtain ⟨y, _, z⟩ := pr_get h.pr hx
    exact ⟨y, z⟩
  have notin : ∀ (j : Nat) (x : Addr × List Addr) (p : Addr), j ≠ i → xs[j]? = some x → p ∈ x.2 → p ∉ ps' := fun j x p hj hx hpx hps => by
    rcases hp p hps with z | z
    · exact hj (h.d2 j i x (r, ps) p hx hi hpx z)
    · obtain ⟨y, hy⟩ := hrow j x hx
      obtain ⟨f, _, hf, _⟩ := pr_mem hy.fls p hpx
      obtain ⟨dx, fs, e⟩ := flow_some hf
      rw [e] at z
      cases z
  have cases_set : ∀ (j : Nat) (x : Addr × List Addr), (xs.set i (r, ps'))[j]? = some x → (j = i ∧ x = (r, ps')) ∨ (j ≠ i ∧ xs[j]? = some x) := fun j x hx => by
    rw [List.getElem?_set] at hx
    by_cases hj : i = j
    · rw [if_pos hj] at hx
      split at hx
      · exact .inl ⟨hj.symm, (Option.some.inj hx).symm⟩
      · cases hx
    · rw [if_neg hj] at hx
      exact .inr ⟨fun z => hj z.symm, hx⟩
  refine ⟨pr_setM hr i h.pr fun j x y hj hx hy z => ?_, fun j1 j2 x y hx hy e => ?_, fun j1 j2 x y p hx hy h1 h2 => ?_, fun j x hx => ?_⟩
  · have n1 : x.1 ≠ r := fun q => hj (h.d1 j i x (r, ps) hx hi q)
    refine z.same g (Eq.trans (k _ _ z.at_ n1 fun q => ?_) z.at_.symm) fun p hp' => ?_
    · obtain ⟨y2, hy2⟩ := hrow i (r, ps) hi
      obtain ⟨f, _, hf, _⟩ := pr_mem hy2.fls _ q
      obtain ⟨dx, fs, e⟩ := flow_some hf
      rw [z.at_] at e
      cases e
    · obtain ⟨f, _, hf, _⟩ := pr_mem z.fls p hp'
      obtain ⟨dx, fs, e⟩ := flow_some hf
      rw [e]
      refine k _ _ e (fun q => ?_) fun q => hj (h.d2 j i x (r, ps) p hx hi hp' q)
      obtain ⟨y2, hy2⟩ := hrow i (r, ps) hi
      have e2 := hy2.at_
      rw [q] at e
      rw [e] at e2
      cases e2
  · rcases cases_set j1 x hx with ⟨a1, a2⟩ | ⟨a1, a2⟩ <;> rcases cases_set j2 y hy with ⟨b1, b2⟩ | ⟨b1, b2⟩
    · rw [a1, b1]
    · rw [a2] at e
      exact absurd (h.d1 j2 i y (r, ps) b2 hi e.symm) b1
    · rw [b2] at e
      exact absurd (h.d1 j1 i x (r, ps) a2 hi e) a1
    · exact h.d1 j1 j2 x y a2 b2 e
  · rcases cases_set j1 x hx with ⟨a1, a2⟩ | ⟨a1, a2⟩ <;> rcases cases_set j2 y hy with ⟨b1, b2⟩ | ⟨b1, b2⟩
    · rw [a1, b1]
    · rw [a2] at h1
      exact absurd h1 (notin j2 y p b1 b2 h2)
    · rw [b2] at h2
      exact absurd h2 (notin j1 x p a1 a2 h1)
    · exact h.d2 j1 j2 x y p a2 b2 h1 h2
  · rcases cases_set j x hx with ⟨a1, a2⟩ | ⟨a1, a2⟩
    · rw [a2]
      exact hn
    · exact h.nd j x a2
theorem set_fst {xs : List (Addr × List Addr)} {i : Nat} {r : Addr} {ps ps' : List Addr} (h : xs[i]? = some (r, ps)) : (xs.set i (r, ps')).map (·.1) = xs.map (·.1) := by
  rw [List.map_set]
  refine List.ext_getElem? fun j => ?_
  rw [List.getElem?_set]
  by_cases hj : i = j
  · subst hj
    rw [if_pos rfl, List.getElem?_map, h, List.length_map, if_pos (List.getElem?_eq_some_iff.mp h).1]
    rfl
  · rw [if_neg hj]
end
end Fr

namespace Fr
open PySem PySem.Spec PyProof.Rows L2
/-! ### F6. The table's methods -/
abbrev s_Table_init : Stmt := (inClass (top 26) 0)
theorem sc_Table_init : FnScope ["self", "seed", "row"] ["self", "seed"] (defScope s_Table_init) := ⟨rfl, rfl, rfl, by decide +kernel, rfl, by decide +kernel, by decide +kernel⟩
abbrev s_Table_sort_frame : Stmt := (inClass (top 26) 1)
theorem sc_Table_sort_frame : FnScope ["self", "rules", "key", "size", "now", "row", "flow", "deed"] ["self", "rules", "key", "size", "now"] (defScope s_Table_sort_frame) := ⟨rfl, rfl, rfl, by decide +kernel, rfl, by decide +kernel, by decide +kernel⟩
abbrev s_Table_learn : Stmt := (inClass (top 26) 2)
theorem sc_Table_learn : FnScope ["self", "row", "flow", "told"] ["self", "row", "flow"] (defScope s_Table_learn) := ⟨rfl, rfl, rfl, by decide +kernel, rfl, by decide +kernel, by decide +kernel⟩
abbrev s_Table_follow_rules : Stmt := (inClass (top 26) 5)
theorem sc_Table_follow_rules : FnScope ["self", "rules", "row", "flow"] ["self", "rules"] (defScope s_Table_follow_rules) := ⟨rfl, rfl, rfl, by decide +kernel, rfl, by decide +kernel, by decide +kernel⟩
section
variable {A : As} {I I' R R' H H' H1 H2 : Hp}
theorem RowsOk.row {xs : List (Addr × List Addr)} {rows : List (List Sj52.Flow)} {i : Nat} {x : Addr × List Addr} (h : RowsOk A I R H xs rows) (hi : xs[i]? = some x) : ∃ fl, rows[i]? = some fl ∧ RowAt A I R H x fl := pr_get h.pr hi
theorem ins_ne {C C' dx dx' : Addr} {fs fs' : List (Str × V)} (h : fs.length ≠ fs'.length) : HO.ins C dx fs ≠ HO.ins C' dx' fs' := fun z => h (congrArg List.length (HO.ins.inj z).2.2)
theorem tab_ne_flow {C C' dx dx' : Addr} {a b c d e a' b' c' d' e' : V} : HO.ins C dx (f_Table a b c d e) ≠ HO.ins C' dx' (f_Flow a' b' c' d' e') := fun z => by
  have h := (Prod.mk.inj (List.cons.inj (HO.ins.inj z).2.2).1).1
  exact absurd h (by decide)
theorem set_id {α : Type} {l : List α} {i : Nat} {x : α} (h : l[i]? = some x) : l.set i x = l := by
  refine List.ext_getElem? fun j => ?_
  rw [List.getElem?_set]
  by_cases hj : i = j
  · subst hj
    rw [if_pos rfl, h, if_pos (List.getElem?_eq_some_iff.mp h).1]
  · rw [if_neg hj]
/-- one flow is changed, its key stays -/
theorem RowsOk.flow {xs : List (Addr × List Addr)} {rows : List (List Sj52.Flow)} {i j : Nat} {r p dx k : Addr} {ps : List Addr} {fl : List Sj52.Flow} {f' : Sj52.Flow} {fs : List (Str × V)} (h : RowsOk A I R H xs rows) (hi : xs[i]? = some (r, ps)) (hfl : rows[i]? = some fl) (hj : ps[j]? = some p)
    (hp : H p = some (.ins A.Flow dx fs)) (hk : I k = some (.lst (ns f'.key))) :
    RowsOk A I R (upd H p (.ins A.Flow dx (f_Flow (.ref k) (.int (f'.deed : Int)) (.int (f'.frames : Int)) (.int (f'.bytes : Int)) (.int (f'.seen : Int))))) xs (rows.set i (fl.set j f')) := by
  obtain ⟨fl0, e0, hrow⟩ := h.row hi
  rw [hfl] at e0
  cases e0
  have npr : r ≠ p := ne_of hrow.at_ hp (by intro z; cases z)
  have hpm : p ∈ ps := List.mem_of_getElem? hj
  obtain ⟨f0, _, hf0, wp⟩ := pr_get hrow.fls hj
  have q := h.set (i := i) (r := r) (ps := ps) (ps' := ps) (fl' := fl.set j f') (I' := I) (H' := upd H p (.ins A.Flow dx (f_Flow (.ref k) (.int (f'.deed : Int)) (.int (f'.frames : Int)) (.int (f'.bytes : Int)) (.int (f'.seen : Int))))) Gr.refl hi
    (fun b o e _ nb => by
      have nbp : b ≠ p := fun z => nb (by rw [z]; exact hpm)
      rw [upd_ne nbp]
      exact e) ?_ (h.nd i _ hi) fun _ z => .inl z
  · rw [set_id hi] at q
    exact q
  · refine ⟨by rw [upd_ne npr]; exact hrow.at_, hrow.own, ?_⟩
    have z := pr_setM (F := fun p f => FlowAt A I H p f ∧ Own I R p) (G := fun q f => FlowAt A I (upd H p (.ins A.Flow dx (f_Flow (.ref k) (.int (f'.deed : Int)) (.int (f'.frames : Int)) (.int (f'.bytes : Int)) (.int (f'.seen : Int))))) q f ∧ Own I R q) (a := p) (b := f')
      ⟨⟨dx, k, upd_same, hk⟩, wp⟩ j hrow.fls fun m y g hm hy hg z => ?_
    · rw [set_id hj] at z
      exact z
    · have nyp : y ≠ p := fun e => hm (nd_ix (h.nd i _ hi) (show ps[m]? = some p from e ▸ hy) hj)
      obtain ⟨⟨d2, k2, h1, h2⟩, w⟩ := z
      exact ⟨⟨d2, k2, by rw [upd_ne nyp]; exact h1, h2⟩, w⟩
/-- the table's own record is changed -/
theorem RowsOk.off {xs : List (Addr × List Addr)} {rows : List (List Sj52.Flow)} {t C dx : Addr} {a b c d e : V} {o : HO} (h : RowsOk A I R H xs rows) (ht : H t = some (.ins C dx (f_Table a b c d e))) : RowsOk A I R (upd H t o) xs rows := by
  refine ⟨pr_mono (fun x fl z => z.same Gr.refl (upd_ne (ne_of z.at_ ht (by intro y; cases y))) fun p hp => ?_) h.pr, h.d1, h.d2, h.nd⟩
  obtain ⟨f, _, ⟨d2, k2, h1, h2⟩, _⟩ := pr_mem z.fls p hp
  exact upd_ne (ne_of ht h1 tab_ne_flow).symm
theorem TabAt.others {t : Addr} {seed : Nat} {rows : List (List Sj52.Flow)} {cn : List Nat} (h : ∀ p, R p = none → R' p = none) : TabAt A I R H t seed rows cn → TabAt A I R' H t seed rows cn
  | ⟨dx, rl, xs, k0, k1, k2, h1, hk, w, h2, h3⟩ => ⟨dx, rl, xs, k0, k1, k2, h1, hk, ⟨w.1, h _ w.2⟩, h2, pr_mono (fun _ _ z => ⟨z.at_, ⟨z.own.1, h _ z.own.2⟩, pr_mono (fun _ _ y => ⟨y.1, y.2.1, h _ y.2.2⟩) z.fls⟩) h3.pr, h3.d1, h3.d2, h3.nd⟩
/-- all that the table owns is as it was, and still its own -/
theorem TabAt.move {t : Addr} {seed : Nat} {rows : List (List Sj52.Flow)} {cn : List Nat} (g : Gr I I' H) (k : ∀ b o, H b = some o → R b = none → H' b = some o ∧ R' b = none) : TabAt A I R H t seed rows cn → TabAt A I' R' H' t seed rows cn
  | ⟨dx, rl, xs, k0, k1, k2, h1, hk, w, h2, h3⟩ => by
    refine ⟨dx, rl, xs, k0, k1, k2, (k _ _ h1 w.2).1, hk, ⟨(g.own h1 w).1, (k _ _ h1 w.2).2⟩, g.more _ _ h2, pr_mono (fun x fl z => ?_) h3.pr, h3.d1, h3.d2, h3.nd⟩
    refine ⟨(k _ _ z.at_ z.own.2).1, ⟨(g.own z.at_ z.own).1, (k _ _ z.at_ z.own.2).2⟩, pr_mono (fun p f y => ?_) z.fls⟩
    obtain ⟨⟨dp, kp, hp, hk⟩, wp⟩ := y
    exact ⟨⟨dp, kp, (k _ _ hp wp.2).1, g.more _ _ hk⟩, (g.own hp wp).1, (k _ _ hp wp.2).2⟩
/-- a new flow stands behind the others of a row (of whom one may have gone) -/
theorem RowsOk.learn {xs : List (Addr × List Addr)} {rows : List (List Sj52.Flow)} {i : Nat} {r x dx k : Addr} {ps ps1 : List Addr} {fl1 : List Sj52.Flow} {n : Sj52.Flow} (h : RowsOk A I R H xs rows) (hi : xs[i]? = some (r, ps)) (hps : ∀ p ∈ ps1, p ∈ ps) (hnd : ps1.Nodup)
    (hfl : Paired (fun p f => FlowAt A I H p f ∧ Own I R p) ps1 fl1) (hb : ∀ b o, H b = some o → b ≠ r → H2 b = some o) (hx0 : H x = none) (wx : Own I R x) (hx : H2 x = some (.ins A.Flow dx (f_Flow (.ref k) (.int (n.deed : Int)) (.int (n.frames : Int)) (.int (n.bytes : Int)) (.int (n.seen : Int)))))
    (hk : I k = some (.lst (ns n.key))) (hr : H2 r = some (.lst ((ps1 ++ [x]).map V.ref))) : RowsOk A I R H2 (xs.set i (r, ps1 ++ [x])) (rows.set i (fl1 ++ [n])) := by
  obtain ⟨fl, e0, hrow⟩ := h.row hi
  refine h.set (I' := I) Gr.refl hi (fun b o e nb _ => hb b o e nb) ⟨hr, hrow.own, pr_append (pr_mono (fun p f z => ?_) hfl) (.cons ⟨⟨dx, k, hx, hk⟩, wx⟩ .nil)⟩ ?_ ?_
  · obtain ⟨⟨d2, k2, h1, h2⟩, w⟩ := z
    exact ⟨⟨d2, k2, hb _ _ h1 (ne_of h1 hrow.at_ (by intro z; cases z)), h2⟩, w⟩
  · rw [List.nodup_append]
    refine ⟨hnd, by simp, fun a ha b hb2 => ?_⟩
    rw [List.mem_singleton.mp hb2]
    intro z
    obtain ⟨f, _, hf, _⟩ := pr_mem hfl a ha
    obtain ⟨d2, fs, e⟩ := flow_some hf
    rw [z, hx0] at e
    cases e
  · intro p hp
    rcases List.mem_append.mp hp with z | z
    · exact .inl (hps p z)
    · rw [List.mem_singleton.mp z]
      exact .inr hx0
end
/-- the first j are changed -/
def mix {α : Type} (g : α → α) (j : Nat) (l : List α) : List α := (l.take j).map g ++ l.drop j
section
variable {α : Type} {g : α → α} {l : List α} {j : Nat} {x : α}
theorem mix_zero : mix g 0 l = l := rfl
theorem mix_all : mix g l.length l = l.map g := by
  unfold mix
  rw [List.take_length, List.drop_length, List.append_nil]
theorem mix_len (h : j ≤ l.length) : ((l.take j).map g).length = j := by
  rw [List.length_map, List.length_take]
  omega
theorem mix_get (h : l[j]? = some x) : (mix g j l)[j]? = some x := by
  have hj := (List.getElem?_eq_some_iff.mp h).1
  unfold mix
  rw [List.getElem?_append_right (by rw [mix_len (by omega)]; exact Nat.le_refl _), mix_len (by omega), Nat.sub_self, List.getElem?_drop]
  exact h
theorem mix_set (h : l[j]? = some x) : (mix g j l).set j (g x) = mix g (j + 1) l := by
  have hj := (List.getElem?_eq_some_iff.mp h).1
  have e : l.drop j = x :: l.drop (j + 1) := by
    rw [List.drop_eq_getElem_cons hj]
    congr 1
    exact (List.getElem?_eq_some_iff.mp h).2
  unfold mix
  rw [List.set_append_right _ _ (by rw [mix_len (by omega)]; exact Nat.le_refl _), mix_len (by omega), Nat.sub_self, e, take_more h, List.map_append, List.append_assoc]
  rfl
end
/-- what the specification's rows keep -/
structure WfRow (now : Nat) (row : List Sj52.Flow) : Prop where
  few : row.length ≤ 4
  seen : ∀ f ∈ row, f.seen ≤ now
  keys : (row.map (·.key)).Nodup
  len : ∀ f ∈ row, f.key.length = 16
structure WfT (T : Sj52.Table) : Prop where
  places : T.places.length = 16
  few : T.rules.length ≤ 32
  rows : T.rows.length = 16
  row : ∀ r ∈ T.rows, WfRow T.now r
def spTable (A : As) : Sp := fun vs H Q _ => ∃ (p dx : Addr) (seed : Int), vs = [.ref p, .int seed] ∧ H p = some (.ins A.Table dx []) ∧ ∀ (H' : Hp) (rl : Addr) (rs : List Addr), But p H H' → H' p = some (.ins A.Table dx (f_Table (.int seed) (.ref rl) (.int 0) (.int 0) (.int 0))) →
  H rl = none → H' rl = some (.lst (rs.map V.ref)) → rs.length = 16 → rs.Nodup → (∀ r ∈ rs, H r = none ∧ r ≠ rl ∧ H' r = some (.lst [])) → Q .non H'
def spSort (A : As) : Sp := fun vs H Q _ => ∃ (I R : Hp) (t rl ka : Addr) (T : Sj52.Table) (f : List Nat), vs = [.ref t, .ref rl, .ref ka, .int ((f.length : Nat) : Int), .int (T.now : Int)] ∧ Ctx I R H ∧ TabAt A I R H t T.seed T.rows T.counts ∧ RulesAt A I rl T.rules ∧
  I ka = some (.lst (ns (Sj52.keyOf T.places f))) ∧ WfT T ∧ ∀ (H' : Hp) (p : Addr), Ctx I R H' → TabAt A I R H' t T.seed (T.sort f).1.rows (T.sort f).1.counts → H' p = some (.lst [.int (((T.sort f).2.1 : Nat) : Int), .int (((T.sort f).2.2 : Nat) : Int)]) → R p = none → Q (.ref p) H'
/-- one may have gone for the new one -/
def Went (ps : List Addr) (fl : List Sj52.Flow) (k2 : Nat) (ps1 : List Addr) (fl1 : List Sj52.Flow) (tl k3 : Nat) : Prop :=
  (fl.length ≠ 4 ∧ ps1 = ps ∧ fl1 = fl ∧ tl = 1 ∧ k3 = k2) ∨ (fl.length = 4 ∧ ∃ i, LeastAt fl i ∧ ps1 = ps.eraseIdx i ∧ fl1 = fl.eraseIdx i ∧ tl = 2 ∧ k3 = (k2 + 1) % Sj52.W)
def spLearn (A : As) : Sp := fun vs H Q _ => ∃ (I : Hp) (t dx r x : Addr) (sd rl k0 : V) (k1 k2 : Nat) (ps : List Addr) (fl : List Sj52.Flow), vs = [.ref t, .ref r, .ref x] ∧ H t = some (.ins A.Table dx (f_Table sd rl k0 (.int (k1 : Int)) (.int (k2 : Int)))) ∧ H r = some (.lst (ps.map V.ref)) ∧
  Paired (FlowAt A I H) ps fl ∧ fl.length ≤ 4 ∧ ∀ (H' : Hp) (ps1 : List Addr) (fl1 : List Sj52.Flow) (tl k3 : Nat), (∀ b o, H b = some o → b ≠ t → b ≠ r → H' b = some o) → H' t = some (.ins A.Table dx (f_Table sd rl k0 (.int (((k1 + 1) % Sj52.W : Nat) : Int)) (.int (k3 : Int)))) →
  H' r = some (.lst ((ps1 ++ [x]).map V.ref)) → Went ps fl k2 ps1 fl1 tl k3 → Q (.int (tl : Int)) H'
def spFollow (A : As) : Sp := fun vs H Q _ => ∃ (I R : Hp) (t rl : Addr) (seed : Nat) (rows : List (List Sj52.Flow)) (cn : List Nat) (rs : List Sj52.Rule), vs = [.ref t, .ref rl] ∧ Ctx I R H ∧ TabAt A I R H t seed rows cn ∧ RulesAt A I rl rs ∧ (∀ r ∈ rows, ∀ f ∈ r, f.key.length = 16) ∧
  ∀ H' : Hp, Ctx I R H' → TabAt A I R H' t seed (rows.map fun r => r.map fun y => { y with deed := Sj52.first rs y.key }) cn → Q .non H'
section
variable {P : Program} {w : World} {K : PySem.W.Frag} {mg : Str → Option Value} {base : Heap} {A : As}
theorem ok_Table_init {f : Addr} {fd : FuncData} (F : Fun K "__init__" "Table.__init__" s_Table_init f fd) (T : Txt K mg A) : FnOk P w K mg base CX0 1 f fd ["self", "seed"] (spTable A) := by
  refine F.ok sc_Table_init (fun vs H Q E h => ?_) (fun cdv Ar outer s H vs Q E hr h => ?_)
  · obtain ⟨p, dx, seed, rfl, _⟩ := h
    rfl
  · obtain ⟨p, dx, seed, rfl, hp, q⟩ := h
    refine ⟨_, (pss_cons (ps_fld (pv 0) (pv 1) rfl)
      (pss_cons (ps_fld (pv 0) (pe_lc (own := [("row", 2)]) (g := gName 2) (tt := tYes) (by rfl) sc_Table_init.nd (pi_range1 (by rfl) T.range (pa_cons (pe_gi T.c_ROWS) pa_nil)) (blkOk_by (own := [("row", 2)]) (N := ["self", "seed", "row"]) (sc := defScope s_Table_init) (by decide +kernel)) (fun _ _ _ _ _ => (pg_name (i := 2) sc_Table_init.nd rfl (Or.inl rfl))) (fun _ _ _ _ _ => pts_nil) (fun _ _ _ _ _ => (pe_lst pa_nil))) rfl)
      (pss_cons (ps_fld (pv 0) pe_int rfl)
      (pss_cons (ps_fld (pv 0) pe_int rfl)
      (pss_one (ps_fld (pv 0) pe_int rfl)))))), ?_⟩
    refine ⟨_, rfl, _, rfl, p, _, dx, [], rfl, hp, T.cl_Table, T.na_Table_seed, (by show 0 < 1000; decide), ?_⟩
    refine ⟨16, rfl, by decide, by decide, fun D hD => lc_range (lo := 0) (n := 16) (fun i H' => ∃ rs : List Addr, Same (upd H p (.ins A.Table dx (putF "seed" (.int seed) []))) H' ∧ H' D = some (.lst (rs.map V.ref)) ∧ rs.length = i ∧ rs.Nodup ∧ ∀ r ∈ rs, upd H p (.ins A.Table dx (putF "seed" (.int seed) [])) r = none ∧ r ≠ D ∧ H' r = some (.lst [])) ?_ ?_ ?_⟩
    · exact ⟨[], same_upd hD, upd_same, rfl, List.nodup_nil, fun r hr => by simp at hr⟩
    · rintro i H1 hi ⟨rs, s1, hD1, hl, hnd, hrs⟩
      refine ⟨rfl, yes_if ⟨Nat.zero_le _, fun c hc => ⟨_, Eq.trans (upd_ne (ne_of_none hD1 hc)) hD1, ?_, rs ++ [c], same_into (same_into s1 (s1.free hc)) hD, ?_, ?_, ?_, ?_⟩⟩⟩
      · rw [List.length_map, hl]
        exact Nat.lt_of_lt_of_le hi (by decide)
      · rw [upd_same, List.map_append]
        rfl
      · rw [List.length_append, hl]
        rfl
      · rw [List.nodup_append]
        refine ⟨hnd, by simp, fun a ha b hb => ?_⟩
        rw [List.mem_singleton.mp hb]
        intro z
        have := (hrs a ha).2.2
        rw [z, hc] at this
        cases this
      · intro r hr
        have ncD : c ≠ D := (ne_of_none hD1 hc).symm
        rcases List.mem_append.mp hr with z | z
        · obtain ⟨z1, z2, z3⟩ := hrs r z
          refine ⟨z1, z2, ?_⟩
          rw [upd_ne z2, upd_ne (ne_of_none z3 hc)]
          exact z3
        · rw [List.mem_singleton.mp z]
          refine ⟨s1.free hc, ncD, ?_⟩
          rw [upd_ne ncD, upd_same]
    · rintro H1 ⟨rs, s1, hD1, hl, hnd, hrs⟩
      have hp1 := s1 _ _ upd_same
      obtain ⟨nDp, hD0⟩ := none_upd hD
      refine ⟨_, rfl, p, _, dx, _, rfl, hp1, T.cl_Table, T.na_Table_rows, (by show 1 < 1000; decide), ?_⟩
      refine ⟨_, rfl, p, _, dx, _, rfl, upd_same, T.cl_Table, T.na_Table_frames_known, len_putF (len_putF (by decide)), ?_⟩
      refine ⟨_, rfl, p, _, dx, _, rfl, upd_same, T.cl_Table, T.na_Table_frames_learnt, len_putF (len_putF (len_putF (by decide))), ?_⟩
      refine ⟨_, rfl, p, _, dx, _, rfl, upd_same, T.cl_Table, T.na_Table_flows_displaced, len_putF (len_putF (len_putF (len_putF (by decide)))), ?_⟩
      simp only [upd_upd, new_Table]
      refine q _ D rs (fun b o e hb => ?_) upd_same hD0 (by rw [upd_ne nDp]; exact hD1) hl hnd fun r hr => ?_
      · rw [upd_ne hb]
        exact s1 _ _ (Eq.trans (upd_ne hb) e)
      · obtain ⟨z1, z2, z3⟩ := hrs r hr
        obtain ⟨n1, z4⟩ := none_upd z1
        exact ⟨z4, z2, by rw [upd_ne n1]; exact z3⟩
theorem ok_learn {f : Addr} {fd : FuncData} (F : Fun K "learn" "Table.learn" s_Table_learn f fd) (T : Txt K mg A) (h_least_lately_seen : Has P w K mg base 1 "least_lately_seen" ["row"] (spLeast A)) :
    FnOk P w K mg base CX0 2 f fd ["self", "row", "flow"] (spLearn A) := by
  refine F.ok sc_Table_learn (fun vs H Q E h => ?_) (fun cdv Ar outer s H vs Q E hr h => ?_)
  · obtain ⟨I, t, dx, r, x, sd, rl, k0, k1, k2, ps, fl, rfl, _⟩ := h
    rfl
  · obtain ⟨I, t, dx, r, x, sd, rl, k0, k1, k2, ps, fl, rfl, ht, hr0, hfl, h4, q⟩ := h
    refine ⟨_, (pss_cons (ps_fld (pv 0) (pe_op op_mod (pe_op op_add (pe_fld (pv 0) rfl) pe_int) (pe_gi T.c_BEYOND_32_BITS)) rfl)
      (pss_cons (ps_set (i := 3) sc_Table_learn.nd rfl (Or.inl rfl) (pe_gi T.c_LEARNT))
      (pss_cons (ps_if (pt_cmpR op_eq (pe_callB call_len_seq (by rfl) T.len PySem.boot_len (pa_cons (pv 1) pa_nil)) (pe_gi T.c_MOST_IN_ROW) (nomark _)) (pss_cons (ps_expr (pe_bm PySem.F.plainAttrs_list PySem.F.slot_list_pop PySem.F.type_list_pop mt_popAt (pv 1) (pa_cons (pe_hca h_least_lately_seen hr (by decide) rfl (pa_cons (pv 1) pa_nil)) pa_nil)))
      (pss_cons (ps_fld (pv 0) (pe_op op_mod (pe_op op_add (pe_fld (pv 0) rfl) pe_int) (pe_gi T.c_BEYOND_32_BITS)) rfl)
      (pss_one (ps_set (i := 3) sc_Table_learn.nd rfl (Or.inl rfl) (pe_gi T.c_LEARNT_FOR_ANOTHER))))) pss_nil)
      (pss_cons (ps_expr (pe_bm PySem.F.plainAttrs_list PySem.F.slot_list_append PySem.F.type_list_append mt_append (pv 1) (pa_cons (pv 2) pa_nil)))
      (pss_one (ps_ret (pv 3))))))), ?_⟩
    have lps : ps.length = fl.length := pr_len hfl
    have ntr : t ≠ r := ne_of ht hr0 (by intro z; cases z)
    have e1 : ((k1 : Int) + 1) % 4294967296 = (((k1 + 1) % Sj52.W : Nat) : Int) := by
      unfold Sj52.W
      omega
    have e2 : ((k2 : Int) + 1) % 4294967296 = (((k2 + 1) % Sj52.W : Nat) : Int) := by
      unfold Sj52.W
      omega
    refine ⟨_, rfl, t, _, dx, _, _, rfl, ht, T.cl_Table, T.na_Table_frames_learnt, lk_Table_frames_learnt, _, _, rfl, rfl, _, _, rfl, rfl, (by show (0 : Int) < 4294967296; decide), _, rfl, t, _, dx, _, rfl, ht, T.cl_Table, T.na_Table_frames_learnt, (by show 5 < 1000; decide), ?_⟩
    simp only [put_Table_frames_learnt, e1]
    have hr1 : upd H t (.ins A.Table dx (f_Table sd rl k0 (.int (((k1 + 1) % Sj52.W : Nat) : Int)) (.int (k2 : Int)))) r = _ := Eq.trans (upd_ne ntr.symm) hr0
    have ht1 : upd H t (.ins A.Table dx (f_Table sd rl k0 (.int (((k1 + 1) % Sj52.W : Nat) : Int)) (.int (k2 : Int)))) t = _ := upd_same
    have kb1 : ∀ b o, H b = some o → b ≠ t → upd H t (.ins A.Table dx (f_Table sd rl k0 (.int (((k1 + 1) % Sj52.W : Nat) : Int)) (.int (k2 : Int)))) b = some o := fun b o e nb => Eq.trans (upd_ne nb) e
    generalize upd H t (.ins A.Table dx (f_Table sd rl k0 (.int (((k1 + 1) % Sj52.W : Nat) : Int)) (.int (k2 : Int)))) = H1 at hr1 ht1 kb1 ⊢
    have hfl1 : Paired (FlowAt A I H1) ps fl := pr_mono (fun p f ⟨d2, kk, h1, h2⟩ => ⟨d2, kk, kb1 _ _ h1 (ne_of ht h1 tab_ne_flow).symm, h2⟩) hfl
    -- behind the if
    have fin : ∀ (H2 : Hp) (ps1 : List Addr) (fl1 : List Sj52.Flow) (tl k3 : Nat), (∀ b o, H b = some o → b ≠ t → b ≠ r → H2 b = some o) → H2 t = some (.ins A.Table dx (f_Table sd rl k0 (.int (((k1 + 1) % Sj52.W : Nat) : Int)) (.int (k3 : Int)))) → H2 r = some (.lst (ps1.map V.ref)) → ps1.length ≤ 4 → Went ps fl k2 ps1 fl1 tl k3 →
        tSeq (tDrop (tBM K "list" rAppend (tVar 1) (tCons (tVar 2) tNil))) (tRet (tVar 3)) { nx := fun _ H' => Q .non H', rt := Q } [some (.ref t), some (.ref r), some (.ref x), some (.int (tl : Int))] H2 := by
      intro H2 ps1 fl1 tl k3 hb ht2 hr2 hl hw
      refine ⟨_, rfl, .inl ⟨rfl, _, SqL.of hr2⟩, _, rfl, r, _, _, rfl, rfl, hr2, ?_, ?_⟩
      · rw [List.length_map]
        exact Nat.lt_of_le_of_lt hl (by decide)
      · refine ⟨_, rfl, q _ ps1 fl1 tl k3 (fun b o e n1 n2 => Eq.trans (upd_ne n2) (hb b o e n1 n2)) (Eq.trans (upd_ne ntr) ht2) ?_ hw⟩
        rw [upd_same, List.map_append]
        rfl
    refine ⟨_, rfl, r, _, rfl, .inl (SqL.of hr1), rfl, _, rfl, ?_⟩
    show if decide (V.int (((ps.map V.ref).length : Nat) : Int) = V.int 4) = true then _ else _
    rw [List.length_map]
    by_cases c4 : ps.length = 4
    · rw [decide_eq_true (by rw [c4]; rfl)]
      refine iteT ⟨_, rfl, .inl ⟨rfl, _, SqL.of hr1⟩, _, rfl, I, r, ps, fl, rfl, hr1, hfl1, by omega, fun H2 j s2 hj => ?_⟩
      have hjl : j < ps.length := by
        obtain ⟨f, hf, _⟩ := hj
        rw [lps]
        exact (List.getElem?_eq_some_iff.mp hf).1
      have hr2 := s2 _ _ hr1
      have ht2 := s2 _ _ ht1
      refine ⟨r, _, _, j, V.ref ps[j], rfl, rfl, hr2, by omega, by omega, ?_, ?_, ?_⟩
      · refine (ixN_seq ?_).1
        unfold ixN
        rw [if_pos (by omega), if_pos (by rw [List.length_map]; omega), Int.toNat_natCast]
      · rw [List.getElem?_map, List.getElem?_eq_getElem hjl]
        rfl
      · rw [← erase_map]
        have ht3 : upd H2 r (.lst ((ps.eraseIdx j).map V.ref)) t = _ := Eq.trans (upd_ne ntr) ht2
        refine ⟨_, rfl, t, _, dx, _, _, rfl, ht3, T.cl_Table, T.na_Table_flows_displaced, lk_Table_flows_displaced, _, _, rfl, rfl, _, _, rfl, rfl, (by show (0 : Int) < 4294967296; decide), _, rfl, t, _, dx, _, rfl, ht3, T.cl_Table, T.na_Table_flows_displaced, (by show 5 < 1000; decide), ?_⟩
        simp only [put_Table_flows_displaced, e2]
        refine fin _ (ps.eraseIdx j) (fl.eraseIdx j) 2 ((k2 + 1) % Sj52.W) (fun b o e n1 n2 => ?_) upd_same (Eq.trans (upd_ne ntr.symm) upd_same) ?_ (.inr ⟨by omega, j, hj, rfl, rfl, rfl, rfl⟩)
        · rw [upd_ne n1, upd_ne n2]
          exact s2 _ _ (kb1 _ _ e n1)
        · rw [List.length_eraseIdx]
          split <;> omega
    · rw [decide_eq_false (fun z => c4 (by have := V.int.inj z; omega))]
      exact iteF (fin H1 ps fl 1 k2 (fun b o e n1 _ => kb1 b o e n1) ht1 hr1 (by omega) (.inl ⟨by omega, rfl, rfl, rfl, rfl⟩))
theorem ok_sort_frame {f : Addr} {fd : FuncData} (F : Fun K "sort_frame" "Table.sort_frame" s_Table_sort_frame f fd) (T : Txt K mg A) (h_row_number : Has P w K mg base 1 "row_number" ["seed", "key"] (spRowNo K)) (h_flow_of : Has P w K mg base 1 "flow_of" ["row", "key"] (spFlowOf K A))
    (hm_Flow_count_frame : HasM P w K mg base 1 A.Flow "count_frame" ["self", "size", "now"] (spCount A)) (h_deed_by_rules : Has P w K mg base 3 "deed_by_rules" ["rules", "key"] (spDeed K A))
    (hm_Table_learn : HasM P w K mg base 2 A.Table "learn" ["self", "row", "flow"] (spLearn A)) (hc_Flow : HasC P w K mg base 1 "Flow" A.Flow ["self", "key", "deed", "size", "now"] (spFlow A)) :
    FnOk P w K mg base CX0 4 f fd ["self", "rules", "key", "size", "now"] (spSort A) := by
  refine F.ok sc_Table_sort_frame (fun vs H Q E h => ?_) (fun cdv Ar outer s H vs Q E hr h => ?_)
  · obtain ⟨I, R, t, rl, ka, Tb, fr, rfl, _⟩ := h
    rfl
  · obtain ⟨I, R, t, rl, ka, Tb, fr, rfl, cx, ⟨dx, wl, xs, k0, k1, k2, ht, hcn, wt, hwl, ok⟩, hrules, hka, wf, q⟩ := h
    refine ⟨_, (pss_cons (ps_set (i := 5) sc_Table_sort_frame.nd rfl (Or.inl rfl) (pe_ix ix_list (pe_fld (pv 0) rfl) (pe_hca h_row_number hr (by decide) rfl (pa_cons (pe_fld (pv 0) rfl) (pa_cons (pv 2) pa_nil))) (fun _ _ => rfl)))
      (pss_cons (ps_set (i := 6) sc_Table_sort_frame.nd rfl (Or.inl rfl) (pe_hca h_flow_of hr (by decide) rfl (pa_cons (pv 5) (pa_cons (pv 2) pa_nil))))
      (pss_cons (ps_if (pt_cmpR op_isN (pv 6) pe_non (nomark _)) (pss_cons (ps_set (i := 7) sc_Table_sort_frame.nd rfl (Or.inl rfl) (pe_hca h_deed_by_rules hr (by decide) rfl (pa_cons (pv 1) (pa_cons (pv 2) pa_nil))))
      (pss_one (ps_ret (pe_lst (pa_cons (pv 7) (pa_cons (pe_hme hm_Table_learn hr (by decide) (pv 0) (pa_cons (pv 5) (pa_cons (pe_hmk hc_Flow hr (by decide) rfl (pa_cons (pv 2) (pa_cons (pv 7) (pa_cons (pv 3) (pa_cons (pv 4) pa_nil))))) pa_nil))) pa_nil)))))) pss_nil)
      (pss_cons (ps_expr (pe_hme hm_Flow_count_frame hr (by decide) (pv 6) (pa_cons (pv 3) (pa_cons (pv 4) pa_nil))))
      (pss_cons (ps_fld (pv 0) (pe_op op_mod (pe_op op_add (pe_fld (pv 0) rfl) pe_int) (pe_gi T.c_BEYOND_32_BITS)) rfl)
      (pss_one (ps_ret (pe_lst (pa_cons (pe_fld (pv 6) rfl) (pa_cons (pe_gi T.c_WAS_THERE) pa_nil)))))))))), ?_⟩
    have hlen : (Sj52.keyOf Tb.places fr).length = 16 := by
      unfold Sj52.keyOf
      rw [List.length_map]
      exact wf.places
    generalize hkey : Sj52.keyOf Tb.places fr = key at hka hlen
    have hi : Sj52.hash Tb.seed key % 16 < 16 := Nat.mod_lt _ (by decide)
    generalize hii : Sj52.hash Tb.seed key % 16 = i at hi
    have lxs : xs.length = 16 := by
      rw [pr_len ok.pr]
      exact wf.rows
    obtain ⟨⟨r, ps⟩, hxi⟩ : ∃ x, xs[i]? = some x := ⟨xs[i], List.getElem?_eq_getElem (by omega)⟩
    obtain ⟨fl, hfl, hrow⟩ := ok.row hxi
    have hv : ((xs.map (·.1)).map V.ref)[i]? = some (V.ref r) := by rw [List.getElem?_map, List.getElem?_map, hxi]; rfl
    have wfr := wf.row fl (List.mem_of_getElem? hfl)
    have hflows : Paired (FlowAt A I H) ps fl := pr_mono (fun _ _ z => z.1) hrow.fls
    have hrowOf : Tb.rowOf key = i := hii
    have hTrow : Tb.row key = fl := by
      show Tb.rows.getD (Tb.rowOf key) [] = fl
      rw [hrowOf, List.getD_eq_getElem?_getD, hfl]
      rfl
    have hsort : Tb.sort fr = (match fl.find? fun f => f.key == key with
      | some x => ({ Tb with rows := Tb.rows.set i (fl.map fun y => if y.key == key then { y with frames := (y.frames + 1) % Sj52.W, bytes := (y.bytes + fr.length) % Sj52.W, seen := Tb.now } else y), counts := Sj52.counted Tb.counts 0 }, x.deed, 0)
      | none => if fl.length < Sj52.WAYS then ({ Tb with rows := Tb.rows.set i (fl ++ [⟨key, Sj52.first Tb.rules key, 1, fr.length, Tb.now⟩]), counts := Sj52.counted Tb.counts 1 }, Sj52.first Tb.rules key, 1)
        else ({ Tb with rows := Tb.rows.set i (fl.eraseIdx (fl.findIdx fun y => y.seen == (fl.map fun y => y.seen).foldl min Tb.now) ++ [⟨key, Sj52.first Tb.rules key, 1, fr.length, Tb.now⟩]), counts := Sj52.counted (Sj52.counted Tb.counts 1) 2 }, Sj52.first Tb.rules key, 2)) := by
      unfold Sj52.Table.sort Sj52.Table.find
      rw [hkey]
      dsimp only
      rw [hTrow, hrowOf]
      cases fl.find? (fun f => f.key == key) <;> rfl
    -- row = self.rows[row_number(self.seed, key)]
    refine ⟨_, rfl, t, _, dx, _, _, rfl, ht, T.cl_Table, T.na_Table_rows, lk_Table_rows, _, rfl, t, _, dx, _, _, rfl, ht, T.cl_Table, T.na_Table_seed, lk_Table_seed, _, rfl, ka, key, Tb.seed, rfl, SqL.of (cx.sI _ _ hka), ?_⟩
    rw [hii]
    refine ⟨wl, _, _, _, rfl, rfl, SqL.of (cx.sI _ _ hwl), atI_nat hv, ?_⟩
    -- flow = flow_of(row, key)
    refine ⟨_, rfl, _, rfl, I, r, ka, ps, fl, key, rfl, cx.sI, hrow.at_, hflows, SqL.of (cx.sI _ _ hka), fun j p f hj hf hfk hn => ?_, fun hno => ?_⟩
    · -- it is there
      obtain ⟨f2, hf2, ⟨dp, kp, hp, hkp⟩, wp⟩ := pr_get hrow.fls hj
      rw [hf] at hf2
      cases hf2
      refine ⟨_, rfl, rfl, _, rfl, ?_⟩
      show if decide (V.ref p = V.non) = true then _ else _
      rw [decide_eq_false (fun z => V.noConfusion z)]
      refine iteF ?_
      refine ⟨_, rfl, p, dp, _, rfl, hp, lkm_Flow_count_frame, _, rfl, _, rfl, p, dp, _, _, _, _, _, _, _, rfl, hp, ?_⟩
      have e1 : ((f.frames : Int) + 1) % 4294967296 = (((f.frames + 1) % Sj52.W : Nat) : Int) := by
        unfold Sj52.W
        omega
      have e2 : ((f.bytes : Int) + ((fr.length : Nat) : Int)) % 4294967296 = (((f.bytes + fr.length) % Sj52.W : Nat) : Int) := by
        unfold Sj52.W
        omega
      have e3 : ((k0 : Int) + 1) % 4294967296 = (((k0 + 1) % Sj52.W : Nat) : Int) := by
        unfold Sj52.W
        omega
      rw [e1, e2]
      have ok2 := ok.flow (f' := { f with frames := (f.frames + 1) % Sj52.W, bytes := (f.bytes + fr.length) % Sj52.W, seen := Tb.now }) hxi hfl hj hp hkp
      have es : Tb.sort fr = ({ Tb with rows := Tb.rows.set i (fl.set j { f with frames := (f.frames + 1) % Sj52.W, bytes := (f.bytes + fr.length) % Sj52.W, seen := Tb.now }), counts := Sj52.counted Tb.counts 0 }, f.deed, 0) := by
        rw [hsort, find_first hf hfk hn]
        dsimp only
        rw [map_one (g := fun y => { y with frames := (y.frames + 1) % Sj52.W, bytes := (y.bytes + fr.length) % Sj52.W, seen := Tb.now }) wfr.keys hf hfk]
      have ntp : t ≠ p := ne_of ht hp tab_ne_flow
      have ht2 : upd H p (.ins A.Flow dp (f_Flow (.ref kp) (.int (f.deed : Int)) (.int (((f.frames + 1) % Sj52.W : Nat) : Int)) (.int (((f.bytes + fr.length) % Sj52.W : Nat) : Int)) (.int (Tb.now : Int)))) t = _ := Eq.trans (upd_ne ntp) ht
      have hp2 : upd H p (.ins A.Flow dp (f_Flow (.ref kp) (.int (f.deed : Int)) (.int (((f.frames + 1) % Sj52.W : Nat) : Int)) (.int (((f.bytes + fr.length) % Sj52.W : Nat) : Int)) (.int (Tb.now : Int)))) p = _ := upd_same
      have cx2 := cx.set (o := .ins A.Flow dp (f_Flow (.ref kp) (.int (f.deed : Int)) (.int (((f.frames + 1) % Sj52.W : Nat) : Int)) (.int (((f.bytes + fr.length) % Sj52.W : Nat) : Int)) (.int (Tb.now : Int)))) wp
      generalize upd H p (.ins A.Flow dp (f_Flow (.ref kp) (.int (f.deed : Int)) (.int (((f.frames + 1) % Sj52.W : Nat) : Int)) (.int (((f.bytes + fr.length) % Sj52.W : Nat) : Int)) (.int (Tb.now : Int)))) = H2 at ok2 ht2 hp2 cx2 ⊢
      -- self.frames_known = ..
      refine ⟨_, rfl, t, _, dx, _, _, rfl, ht2, T.cl_Table, T.na_Table_frames_known, lk_Table_frames_known, _, _, rfl, rfl, _, _, rfl, rfl, (by show (0 : Int) < 4294967296; decide), _, rfl, t, _, dx, _, rfl, ht2, T.cl_Table, T.na_Table_frames_known, (by show 5 < 1000; decide), ?_⟩
      simp only [put_Table_frames_known, e3]
      have ok3 := ok2.off (o := .ins A.Table dx (f_Table (.int (Tb.seed : Int)) (.ref wl) (.int (((k0 + 1) % Sj52.W : Nat) : Int)) (.int (k1 : Int)) (.int (k2 : Int)))) ht2
      have cx3 := cx2.set (o := .ins A.Table dx (f_Table (.int (Tb.seed : Int)) (.ref wl) (.int (((k0 + 1) % Sj52.W : Nat) : Int)) (.int (k1 : Int)) (.int (k2 : Int)))) wt
      have hp3 : upd H2 t (.ins A.Table dx (f_Table (.int (Tb.seed : Int)) (.ref wl) (.int (((k0 + 1) % Sj52.W : Nat) : Int)) (.int (k1 : Int)) (.int (k2 : Int)))) p = _ := Eq.trans (upd_ne ntp.symm) hp2
      have ht3 : upd H2 t (.ins A.Table dx (f_Table (.int (Tb.seed : Int)) (.ref wl) (.int (((k0 + 1) % Sj52.W : Nat) : Int)) (.int (k1 : Int)) (.int (k2 : Int)))) t = _ := upd_same
      generalize upd H2 t (.ins A.Table dx (f_Table (.int (Tb.seed : Int)) (.ref wl) (.int (((k0 + 1) % Sj52.W : Nat) : Int)) (.int (k1 : Int)) (.int (k2 : Int)))) = H3 at ok3 cx3 hp3 ht3 ⊢
      refine ⟨_, rfl, p, _, dp, _, _, rfl, hp3, T.cl_Flow, T.na_Flow_deed, lk_Flow_deed, (by show 2 ≤ sizeLine; decide), fun c hc => ?_⟩
      have s1 := same_upd (o := .lst [.int (f.deed : Int), .int 0]) hc
      refine q _ c (cx3.grow s1) ?_ ?_ (cx3.sR.free hc)
      · rw [es]
        exact ⟨dx, wl, xs, (k0 + 1) % Sj52.W, k1, k2, s1 _ _ ht3, (by rw [hcn]; rfl), wt, hwl, ok3.grow Gr.refl s1⟩
      · rw [es]
        exact upd_same
    · -- it is learnt
      refine ⟨_, rfl, rfl, _, rfl, ?_⟩
      show if decide (V.non = V.non) = true then _ else _
      rw [decide_eq_true rfl]
      refine iteT ⟨_, rfl, _, rfl, rl, ka, key, Tb.rules, rfl, hrules.same cx.sI, SqL.of (cx.sI _ _ hka), hlen, fun H1 s1 => ?_⟩
      have cx1 := cx.grow s1
      have hr1 : H1 r = some (.lst (ps.map V.ref)) := s1 _ _ hrow.at_
      have ok1 := ok.grow (Gr.refl (I := I)) s1
      have hrow1 := hrow.grow (Gr.refl (I := I)) s1
      have ht1 := s1 _ _ ht
      have lps : ps.length = fl.length := pr_len hrow.fls
      refine ⟨_, rfl, _, rfl, t, dx, _, rfl, ht1, lkm_Table_learn, _, rfl, _, rfl, _, rfl, _, rfl, _, rfl, fun x dy nx nd nex => ?_⟩
      refine ⟨x, dy, ka, _, _, _, rfl, upd_same, rfl, ?_⟩
      rw [upd_upd]
      have sx : Same H1 (upd (upd H1 dy (.own x)) x (.ins A.Flow dy (f_Flow (.ref ka) (.int ((Sj52.first Tb.rules key : Nat) : Int)) (.int 1) (.int ((fr.length : Nat) : Int)) (.int (Tb.now : Int))))) := same_into (same_upd nd) nx
      have hx : upd (upd H1 dy (.own x)) x (.ins A.Flow dy (f_Flow (.ref ka) (.int ((Sj52.first Tb.rules key : Nat) : Int)) (.int 1) (.int ((fr.length : Nat) : Int)) (.int (Tb.now : Int)))) x = _ := upd_same
      generalize upd (upd H1 dy (.own x)) x (.ins A.Flow dy (f_Flow (.ref ka) (.int ((Sj52.first Tb.rules key : Nat) : Int)) (.int 1) (.int ((fr.length : Nat) : Int)) (.int (Tb.now : Int)))) = Hx at sx hx ⊢
      refine ⟨I, t, dx, r, x, _, _, _, k1, k2, ps, fl, rfl, sx _ _ ht1, sx _ _ hr1, pr_mono (fun _ _ z => z.1.same (Same.refl I) sx) hrow1.fls, wfr.few, fun H2 ps1 fl1 tl k3 hb ht2 hr2 hw => ?_⟩
      have wx : Own I R x := cx1.fresh nx
      have ntx : t ≠ x := ne_of_none ht1 nx
      have nrx : r ≠ x := ne_of_none hr1 nx
      have ntr : t ≠ r := ne_of ht1 hr1 (by intro z; cases z)
      have okT := ok1.off (o := .ins A.Table dx (f_Table (.int (Tb.seed : Int)) (.ref wl) (.int (k0 : Int)) (.int (((k1 + 1) % Sj52.W : Nat) : Int)) (.int (k3 : Int)))) ht1
      have flT : Paired (fun p f => FlowAt A I (upd H1 t (.ins A.Table dx (f_Table (.int (Tb.seed : Int)) (.ref wl) (.int (k0 : Int)) (.int (((k1 + 1) % Sj52.W : Nat) : Int)) (.int (k3 : Int))))) p f ∧ Own I R p) ps fl := by
        obtain ⟨fl2, e2, z⟩ := okT.row hxi
        rw [hfl] at e2
        cases e2
        exact z.fls
      have hsub : (∀ p ∈ ps1, p ∈ ps) ∧ ps1.Nodup ∧ Paired (fun p f => FlowAt A I (upd H1 t (.ins A.Table dx (f_Table (.int (Tb.seed : Int)) (.ref wl) (.int (k0 : Int)) (.int (((k1 + 1) % Sj52.W : Nat) : Int)) (.int (k3 : Int))))) p f ∧ Own I R p) ps1 fl1 ∧
          Tb.sort fr = ({ Tb with rows := Tb.rows.set i (fl1 ++ [⟨key, Sj52.first Tb.rules key, 1, fr.length, Tb.now⟩]), counts := [k0, (k1 + 1) % Sj52.W, k3] }, Sj52.first Tb.rules key, tl) := by
        rcases hw with ⟨hl4, rfl, rfl, rfl, rfl⟩ | ⟨hl4, j, hj, rfl, rfl, rfl, rfl⟩
        · refine ⟨fun p hp => hp, ok.nd i _ hxi, flT, ?_⟩
          rw [hsort, find_no hno]
          dsimp only
          rw [if_pos (show fl1.length < Sj52.WAYS by have := wfr.few; unfold Sj52.WAYS; omega), hcn]
          rfl
        · refine ⟨fun p hp => List.mem_of_mem_eraseIdx hp, List.Nodup.sublist (List.eraseIdx_sublist ..) (ok.nd i _ hxi), pr_erase j flT, ?_⟩
          rw [hsort, find_no hno]
          dsimp only
          rw [if_neg (show ¬ fl.length < Sj52.WAYS by unfold Sj52.WAYS; omega), least_idx hj wfr.seen, hcn]
          rfl
      obtain ⟨hs1, hnd, hfl1, es⟩ := hsub
      have kb : ∀ b o, upd H1 t (.ins A.Table dx (f_Table (.int (Tb.seed : Int)) (.ref wl) (.int (k0 : Int)) (.int (((k1 + 1) % Sj52.W : Nat) : Int)) (.int (k3 : Int)))) b = some o → b ≠ r → H2 b = some o := fun b o e nb => by
        by_cases nbt : b = t
        · subst nbt
          rw [upd_same] at e
          rw [← e]
          exact ht2
        · rw [upd_ne nbt] at e
          exact hb b o (sx _ _ e) nbt nb
      have ok3 := okT.learn (n := ⟨key, Sj52.first Tb.rules key, 1, fr.length, Tb.now⟩) (H2 := H2) (dx := dy) (k := ka) hxi hs1 hnd hfl1 kb (by rw [upd_ne ntx.symm]; exact nx) wx (hb x _ hx ntx.symm nrx.symm) hka hr2
      have cx3 : Ctx I R H2 := ⟨fun b o e => hb b o (sx _ _ (cx1.sI _ _ e)) (wt.ne e) (hrow.own.ne e), fun b o e => hb b o (sx _ _ (cx1.sR _ _ e)) (ne_of_none e wt.2) (ne_of_none e hrow.own.2), cx.dis⟩
      refine ⟨(by show 2 ≤ sizeLine; decide), fun c hc => ?_⟩
      have s4 := same_upd (o := .lst [.int ((Sj52.first Tb.rules key : Nat) : Int), .int (tl : Int)]) hc
      refine q _ c (cx3.grow s4) ?_ ?_ (cx3.sR.free hc)
      · rw [es]
        refine ⟨dx, wl, xs.set i (r, ps1 ++ [x]), k0, (k1 + 1) % Sj52.W, k3, s4 _ _ ht2, rfl, wt, ?_, ok3.grow Gr.refl s4⟩
        rw [set_fst hxi]
        exact hwl
      · rw [es]
        exact upd_same
theorem ok_follow_rules {f : Addr} {fd : FuncData} (F : Fun K "follow_rules" "Table.follow_rules" s_Table_follow_rules f fd) (T : Txt K mg A) (h_deed_by_rules : Has P w K mg base 3 "deed_by_rules" ["rules", "key"] (spDeed K A)) :
    FnOk P w K mg base CX0 4 f fd ["self", "rules"] (spFollow A) := by
  refine F.ok sc_Table_follow_rules (fun vs H Q E h => ?_) (fun cdv Ar outer s H vs Q E hr h => ?_)
  · obtain ⟨I, R, t, rl, seed, rows, cn, rs, rfl, _⟩ := h
    rfl
  · obtain ⟨I, R, t, rl, seed, rows, cn, rs, rfl, cx, ⟨dx, wl, xs, k0, k1, k2, ht, hcn, wt, hwl, ok⟩, hrules, hkl, q⟩ := h
    refine ⟨_, (pss_one (ps_for PassesOwn.never rfl (pi_list (pe_fld (pv 0) rfl)) (pg_name (i := 2) sc_Table_follow_rules.nd rfl (Or.inl rfl))
      (pss_one (ps_for PassesOwn.never rfl (pi_list (pv 2)) (pg_name (i := 3) sc_Table_follow_rules.nd rfl (Or.inl rfl))
      (pss_one (ps_fld (pv 3) (pe_hca h_deed_by_rules hr (by decide) rfl (pa_cons (pv 1) (pa_cons (pe_fld (pv 3) rfl) pa_nil))) rfl)))))), ?_⟩
    have lxs := pr_len ok.pr
    refine ⟨_, rfl, t, _, dx, _, _, rfl, ht, T.cl_Table, T.na_Table_rows, lk_Table_rows, wl, rfl, ⟨_, SqL.of (cx.sI _ _ hwl)⟩,
      for_list (K := K) (a := wl) (xs := (xs.map (·.1)).map V.ref) (fun i σ H' => ∃ v2 v3, σ = [some (.ref t), some (.ref rl), v2, v3] ∧ Ctx I R H' ∧ H' t = some (.ins A.Table dx (f_Table (.int (seed : Int)) (.ref wl) (.int (k0 : Int)) (.int (k1 : Int)) (.int (k2 : Int)))) ∧ RowsOk A I R H' xs (mix (fun r : List Sj52.Flow => r.map fun y => { y with deed := Sj52.first rs y.key }) i rows))
      ⟨none, none, rfl, cx, ht, ok⟩ (fun i σ H' _ ⟨_, _, _, cx1, _⟩ => SqL.of (cx1.sI _ _ hwl)) ?_ ?_⟩
    · rintro i y σ H1 hi ⟨v2, v3, rfl, cx1, ht1, ok1⟩
      obtain ⟨r, hri, rfl⟩ := get_ref hi
      obtain ⟨ps, hxi⟩ : ∃ ps, xs[i]? = some (r, ps) := by
        rw [List.getElem?_map] at hri
        cases e : xs[i]? with
        | none => rw [e] at hri; cases hri
        | some x =>
          rw [e] at hri
          have e2 : x.1 = r := Option.some.inj hri
          exact ⟨x.2, by rw [← e2]⟩
      obtain ⟨fl0, hfl0, hrow0⟩ := ok.row hxi
      obtain ⟨fl1, hfl1, hrow1⟩ := ok1.row hxi
      have e1 := mix_get (g := fun r : List Sj52.Flow => r.map fun y => { y with deed := Sj52.first rs y.key }) hfl0
      rw [e1] at hfl1
      cases hfl1
      have lps : ps.length = fl0.length := pr_len hrow0.fls
      have key16 : ∀ f ∈ fl0, f.key.length = 16 := hkl fl0 (List.mem_of_getElem? hfl0)
      refine ⟨_, rfl, r, rfl, ⟨_, SqL.of hrow1.at_⟩, for_list (K := K) (a := r) (xs := ps.map V.ref) (fun j σ H' => ∃ v3, σ = [some (.ref t), some (.ref rl), some (.ref r), v3] ∧ Ctx I R H' ∧ H' t = some (.ins A.Table dx (f_Table (.int (seed : Int)) (.ref wl) (.int (k0 : Int)) (.int (k1 : Int)) (.int (k2 : Int)))) ∧
        RowsOk A I R H' xs ((mix (fun r : List Sj52.Flow => r.map fun y => { y with deed := Sj52.first rs y.key }) i rows).set i (mix (fun y : Sj52.Flow => { y with deed := Sj52.first rs y.key }) j fl0))) ?_ ?_ ?_ ?_⟩
      · refine ⟨_, rfl, cx1, ht1, ?_⟩
        rw [mix_zero, set_id e1]
        exact ok1
      · rintro j σ H2 _ ⟨_, _, _, _, ok2⟩
        obtain ⟨_, _, hrow2⟩ := ok2.row hxi
        exact SqL.of hrow2.at_
      · rintro j y σ H2 hj ⟨v3, rfl, cx2, ht2, ok2⟩
        obtain ⟨p, hpj, rfl⟩ := get_ref hj
        obtain ⟨fl2, hfl2, hrow2⟩ := ok2.row hxi
        have e2 : ((mix (fun r : List Sj52.Flow => r.map fun y => { y with deed := Sj52.first rs y.key }) i rows).set i (mix (fun y : Sj52.Flow => { y with deed := Sj52.first rs y.key }) j fl0))[i]? = some (mix (fun y : Sj52.Flow => { y with deed := Sj52.first rs y.key }) j fl0) :=
          List.getElem?_set_self (List.getElem?_eq_some_iff.mp e1).1
        rw [e2] at hfl2
        cases hfl2
        obtain ⟨fw, hfw, ⟨dp, kp, hp, hkp⟩, wp⟩ := pr_get hrow2.fls hpj
        obtain ⟨f0, hf0⟩ : ∃ f0, fl0[j]? = some f0 := ⟨fl0[j]'(by rw [← lps]; exact (List.getElem?_eq_some_iff.mp hpj).1), List.getElem?_eq_getElem _⟩
        have e3 := mix_get (g := fun y : Sj52.Flow => { y with deed := Sj52.first rs y.key }) hf0
        rw [e3] at hfw
        have e5 : f0 = fw := Option.some.inj hfw
        subst e5
        refine ⟨_, rfl, _, rfl, p, _, dp, _, _, rfl, hp, T.cl_Flow, T.na_Flow_key, lk_Flow_key, rl, kp, f0.key, rs, rfl, hrules.same cx2.sI, SqL.of (cx2.sI _ _ hkp), key16 f0 (List.mem_of_getElem? hf0), fun H3 s3 => ?_⟩
        have hp3 := s3 _ _ hp
        refine ⟨_, rfl, p, _, dp, _, rfl, hp3, T.cl_Flow, T.na_Flow_deed, (by show 5 < 1000; decide), ?_⟩
        rw [put_Flow_deed]
        have ok3 := (ok2.grow (Gr.refl (I := I)) s3).flow (f' := { f0 with deed := Sj52.first rs f0.key }) hxi e2 hpj hp3 hkp
        rw [List.set_set, mix_set hf0] at ok3
        have ntp : t ≠ p := ne_of ht2 hp tab_ne_flow
        exact ⟨_, rfl, (cx2.grow s3).set wp, Eq.trans (upd_ne ntp) (s3 _ _ ht2), ok3⟩
      · rintro σ H2 ⟨v3, rfl, cx2, ht2, ok2⟩
        rw [List.length_map, lps, mix_all] at ok2
        have e4 := mix_set (g := fun r : List Sj52.Flow => r.map fun y => { y with deed := Sj52.first rs y.key }) hfl0
        rw [e4] at ok2
        exact ⟨_, _, rfl, cx2, ht2, ok2⟩
    · rintro σ H1 ⟨v2, v3, rfl, cx1, ht1, ok1⟩
      rw [List.length_map, List.length_map, lxs, mix_all] at ok1
      exact q H1 cx1 ⟨dx, wl, xs, k0, k1, k2, ht1, hcn, wt, hwl, ok1⟩
end
end Fr

namespace Fr
open PySem PySem.Spec PyProof.Rows L2
/-! ### F6b. All flows in order; the old ones go -/
abbrev s_Table_let_old_go : Stmt := (inClass (top 26) 3)
theorem sc_Table_let_old_go : FnScope ["self", "ticks", "now", "before", "row"] ["self", "ticks", "now"] (defScope s_Table_let_old_go) := ⟨rfl, rfl, rfl, by decide +kernel, rfl, by decide +kernel, by decide +kernel⟩
abbrev s_Table_in_order : Stmt := (inClass (top 26) 4)
theorem sc_Table_in_order : FnScope ["self", "flows", "row"] ["self"] (defScope s_Table_in_order) := ⟨rfl, rfl, rfl, by decide +kernel, rfl, by decide +kernel, by decide +kernel⟩
abbrev s_seen_lately : Stmt := (top 30)
theorem sc_seen_lately : FnScope ["row", "ticks", "now", "flow"] ["row", "ticks", "now"] (defScope s_seen_lately) := ⟨rfl, rfl, rfl, by decide +kernel, rfl, by decide +kernel, by decide +kernel⟩
theorem flat_few {α : Type} {n : Nat} : ∀ {l : List (List α)}, (∀ r ∈ l, r.length ≤ n) → l.flatten.length ≤ n * l.length
  | [], _ => Nat.zero_le _
  | a :: l, h => by
    have h1 := h a (List.mem_cons_self ..)
    have h2 := flat_few (l := l) fun r hr => h r (List.mem_cons_of_mem _ hr)
    rw [List.flatten_cons, List.length_append, List.length_cons, Nat.mul_add, Nat.mul_one]
    omega
theorem pr_flat {α β : Type} {F : α → β → Prop} {G : Addr × List α → List β → Prop} (h : ∀ x y, G x y → Paired F x.2 y) : ∀ {xs : List (Addr × List α)} {ys : List (List β)}, Paired G xs ys → Paired F (xs.map (·.2)).flatten ys.flatten
  | _, _, .nil => .nil
  | _, _, .cons r t => pr_append (h _ _ r) (pr_flat h t)
theorem flat_more {α β : Type} {g : α → List β} {l : List α} {i : Nat} {x : α} (h : l[i]? = some x) : ((l.take (i + 1)).map g).flatten = ((l.take i).map g).flatten ++ g x := by
  rw [take_more h, List.map_append, List.flatten_append]
  show _ ++ (g x ++ []) = _
  rw [List.append_nil]
theorem flat_le {α β : Type} {g : α → List β} {l : List α} {i : Nat} : ((l.take i).map g).flatten.length ≤ (l.map g).flatten.length := by
  have e : l.map g = (l.take i).map g ++ (l.drop i).map g := by rw [← List.map_append, List.take_append_drop]
  rw [e, List.flatten_append, List.length_append]
  omega
def spInOrder (A : As) : Sp := fun vs H Q _ => ∃ (t dx rl : Addr) (a c d e : V) (xs : List (Addr × List Addr)), vs = [.ref t] ∧ H t = some (.ins A.Table dx (f_Table a (.ref rl) c d e)) ∧ H rl = some (.lst ((xs.map (·.1)).map V.ref)) ∧ (∀ x ∈ xs, H x.1 = some (.lst (x.2.map V.ref))) ∧
  (xs.map (·.2)).flatten.length ≤ 1000 ∧ ∀ (H' : Hp) (p : Addr), Same H H' → H p = none → H' p = some (.lst ((xs.map (·.2)).flatten.map V.ref)) → Q (.ref p) H'
def young (now n : Nat) (f : Sj52.Flow) : Bool := decide (now < f.seen + n)
def spSeen (A : As) : Sp := fun vs H Q _ => ∃ (I : Hp) (r : Addr) (n now : Nat) (ps : List Addr) (fl : List Sj52.Flow), vs = [.ref r, .int (n : Int), .int (now : Int)] ∧ H r = some (.lst (ps.map V.ref)) ∧ Paired (FlowAt A I H) ps fl ∧ fl.length ≤ 1000 ∧
  ∀ (H' : Hp) (p : Addr) (ps' : List Addr), Same H H' → H p = none → H' p = some (.lst (ps'.map V.ref)) → ps'.Sublist ps → (∀ G : Addr → Sj52.Flow → Prop, Paired G ps fl → Paired G ps' (fl.filter (young now n))) → Q (.ref p) H'
def spOld (A : As) : Sp := fun vs H Q _ => ∃ (I R : Hp) (t : Addr) (n now seed : Nat) (rows : List (List Sj52.Flow)) (cn : List Nat), vs = [.ref t, .int (n : Int), .int (now : Int)] ∧ Ctx I R H ∧ TabAt A I R H t seed rows cn ∧ rows.length ≤ 16 ∧ (∀ r ∈ rows, r.length ≤ 4) ∧
  ∀ (H' I' : Hp), Ctx I' R H' → Same I I' → TabAt A I' R H' t seed (rows.map (List.filter (young now n))) cn → Q (.int ((rows.flatten.length : Int) - ((rows.map (List.filter (young now n))).flatten.length : Int))) H'
section
variable {P : Program} {w : World} {K : PySem.W.Frag} {mg : Str → Option Value} {base : Heap} {A : As}
theorem ok_in_order {f : Addr} {fd : FuncData} (F : Fun K "in_order" "Table.in_order" s_Table_in_order f fd) (T : Txt K mg A) : FnOk P w K mg base CX0 1 f fd ["self"] (spInOrder A) := by
  refine F.ok sc_Table_in_order (fun vs H Q E h => ?_) (fun cdv Ar outer s H vs Q E hr h => ?_)
  · obtain ⟨t, dx, rl, a, c, d, e, xs, rfl, _⟩ := h
    rfl
  · obtain ⟨t, dx, rl, a, c, d, e, xs, rfl, ht, hrl, hxs, hl, q⟩ := h
    refine ⟨_, (pss_cons (ps_set (i := 1) sc_Table_in_order.nd rfl (Or.inl rfl) (pe_lst pa_nil))
      (pss_cons (ps_for PassesOwn.never rfl (pi_list (pe_fld (pv 0) rfl)) (pg_name (i := 2) sc_Table_in_order.nd rfl (Or.inl rfl))
      (pss_one (ps_expr (pe_bm PySem.F.plainAttrs_list PySem.F.slot_list_extend PySem.F.type_list_extend mt_extend (pv 1) (pa_cons (pv 2) pa_nil)))))
      (pss_one (ps_ret (pv 1))))), ?_⟩
    refine ⟨Nat.zero_le _, fun D hD => ?_⟩
    have s0 := same_upd (o := .lst []) hD
    refine ⟨_, rfl, t, _, dx, _, _, rfl, s0 _ _ ht, T.cl_Table, T.na_Table_rows, lk_Table_rows, rl, rfl, ⟨_, SqL.of (s0 _ _ hrl)⟩,
      for_list (K := K) (a := rl) (xs := (xs.map (·.1)).map V.ref) (fun i σ H' => ∃ v2, σ = [some (.ref t), some (.ref D), v2] ∧ Same H H' ∧ H' D = some (.lst (((xs.take i).map (·.2)).flatten.map V.ref)))
      ⟨none, rfl, s0, upd_same⟩ (fun i σ H' _ ⟨_, _, s1, _⟩ => SqL.of (s1 _ _ hrl)) ?_ ?_⟩
    · rintro i y σ H1 hi ⟨v2, rfl, s1, hD1⟩
      obtain ⟨r, hri, rfl⟩ := get_ref hi
      obtain ⟨ps, hxi⟩ : ∃ ps, xs[i]? = some (r, ps) := by
        rw [List.getElem?_map] at hri
        cases e : xs[i]? with
        | none => rw [e] at hri; cases hri
        | some x =>
          rw [e] at hri
          have e2 : x.1 = r := Option.some.inj hri
          exact ⟨x.2, by rw [← e2]⟩
      have hr1 : H1 r = some (.lst (ps.map V.ref)) := s1 _ _ (hxs _ (List.mem_of_getElem? hxi))
      have em := flat_more (g := fun x : Addr × List Addr => x.2) hxi
      refine ⟨_, rfl, .inl ⟨rfl, _, SqL.of hD1⟩, _, rfl, D, r, _, _, rfl, rfl, hD1, hr1, ?_, ?_⟩
      · have h1 := flat_le (g := fun x : Addr × List Addr => x.2) (l := xs) (i := i + 1)
        rw [em, List.length_append] at h1
        rw [List.length_map, List.length_map]
        exact Nat.le_trans (Nat.le_trans h1 hl) (by decide)
      · refine ⟨_, rfl, same_into s1 hD, ?_⟩
        rw [upd_same, em, List.map_append]
    · rintro σ H1 ⟨v2, rfl, s1, hD1⟩
      rw [List.length_map, List.length_map, List.take_length] at hD1
      exact ⟨_, rfl, q H1 D s1 hD hD1⟩
theorem ok_seen_lately {f : Addr} {fd : FuncData} (F : Fun K "seen_lately" "seen_lately" s_seen_lately f fd) (T : Txt K mg A) : FnOk P w K mg base CX0 1 f fd ["row", "ticks", "now"] (spSeen A) := by
  refine F.ok sc_seen_lately (fun vs H Q E h => ?_) (fun cdv Ar outer s H vs Q E hr h => ?_)
  · obtain ⟨I, r, n, now, ps, fl, rfl, _⟩ := h
    rfl
  · obtain ⟨I, r, n, now, ps, fl, rfl, hr0, hfl, hl, q⟩ := h
    refine ⟨_, (pss_one (ps_ret (pe_lc (own := [("flow", 3)]) (g := gName 3) (by rfl) sc_seen_lately.nd (pi_list (pv 0)) (blkOk_by (own := [("flow", 3)]) (N := ["row", "ticks", "now", "flow"]) (sc := defScope s_seen_lately) (by decide +kernel)) (fun _ _ _ _ _ => (pg_name (i := 3) sc_seen_lately.nd rfl (Or.inl rfl))) (fun _ _ _ _ _ => (pts_one (pt_cmpR op_lt (pe_op op_sub (pv 2) (pe_fldK (K := K) rfl (pv 3) rfl)) (pv 1) (nomark _)))) (fun _ _ _ _ _ => (pv 3))))), ?_⟩
    have lps := pr_len hfl
    refine ⟨_, rfl, r, rfl, ⟨_, SqL.of hr0⟩, fun D hD => lc_list (K := K) (a := r) (xs := ps.map V.ref) (fun i H' => Same H H' ∧ ∃ ps' : List Addr, H' D = some (.lst (ps'.map V.ref)) ∧ ps'.Sublist (ps.take i) ∧ ∀ G : Addr → Sj52.Flow → Prop, Paired G ps fl → Paired G ps' ((fl.take i).filter (young now n)))
      ⟨same_upd hD, [], upd_same, List.nil_sublist _, fun _ _ => .nil⟩ (fun i H' _ ⟨s7, _⟩ => SqL.of (s7 _ _ hr0)) ?_ ?_⟩
    · rintro i y H1 hi ⟨s1, ps', hD1, hsub, hG⟩
      obtain ⟨p, hpi, rfl⟩ := get_ref hi
      obtain ⟨fw, hfw, dp, kp, hp, hkp⟩ := pr_get hfl hpi
      refine ⟨rfl, _, rfl, _, rfl, p, _, dp, _, _, rfl, s1 _ _ hp, T.cl_Flow, T.na_Flow_seen, lk_Flow_seen, _, _, rfl, rfl, _, rfl, _, _, rfl, rfl, _, rfl, ?_⟩
      have ef : (fl.take (i + 1)).filter (young now n) = (fl.take i).filter (young now n) ++ [fw].filter (young now n) := by rw [take_more hfw, List.filter_append]
      have hlen : ps'.length ≤ 1000 := by
        have h1 := hsub.length_le
        rw [List.length_take] at h1
        omega
      by_cases c : now < fw.seen + n
      · rw [decide_eq_true (show (now : Int) - (fw.seen : Int) < (n : Int) by omega)]
        refine iteT ⟨_, rfl, _, hD1, ?_, same_into s1 hD, ps' ++ [p], ?_, ?_, fun G hP => ?_⟩
        · rw [List.length_map]
          exact Nat.lt_of_le_of_lt hlen (by decide)
        · rw [upd_same, List.map_append]
          rfl
        · rw [take_more hpi]
          exact hsub.append (List.Sublist.refl _)
        · have e1 : [fw].filter (young now n) = [fw] := List.filter_cons_of_pos (p := young now n) (decide_eq_true c)
          rw [ef, e1]
          obtain ⟨f2, hf2, hg⟩ := pr_get hP hpi
          rw [hfw] at hf2
          cases hf2
          exact pr_append (hG G hP) (.cons hg .nil)
      · rw [decide_eq_false (show ¬ (now : Int) - (fw.seen : Int) < (n : Int) by omega)]
        refine iteF ⟨s1, ps', hD1, ?_, fun G hP => ?_⟩
        · rw [take_more hpi]
          exact hsub.trans (List.sublist_append_left _ _)
        · have e1 : [fw].filter (young now n) = [] := List.filter_cons_of_neg (p := young now n) (by unfold young; rw [decide_eq_false c]; exact Bool.false_ne_true)
          rw [ef, e1, List.append_nil]
          exact hG G hP
    · rintro H1 ⟨s1, ps', hD1, hsub, hG⟩
      rw [List.length_map, List.take_length] at hsub
      refine q H1 D ps' s1 hD hD1 hsub fun G hP => ?_
      have z := hG G hP
      rw [List.length_map, lps, List.take_length] at z
      exact z
theorem ok_let_old_go {f : Addr} {fd : FuncData} (F : Fun K "let_old_go" "Table.let_old_go" s_Table_let_old_go f fd) (T : Txt K mg A) (hm_Table_in_order : HasM P w K mg base 1 A.Table "in_order" ["self"] (spInOrder A))
    (h_seen_lately : Has P w K mg base 1 "seen_lately" ["row", "ticks", "now"] (spSeen A)) : FnOk P w K mg base CX0 2 f fd ["self", "ticks", "now"] (spOld A) := by
  refine F.ok sc_Table_let_old_go (fun vs H Q E h => ?_) (fun cdv Ar outer s H vs Q E hr h => ?_)
  · obtain ⟨I, R, t, n, now, seed, rows, cn, rfl, _⟩ := h
    rfl
  · obtain ⟨I, R, t, n, now, seed, rows, cn, rfl, cx, ⟨dx, wl, xs, k0, k1, k2, ht, hcn, wt, hwl, ok⟩, h16, h4, q⟩ := h
    refine ⟨_, (pss_cons (ps_set (i := 3) sc_Table_let_old_go.nd rfl (Or.inl rfl) (pe_callB call_len_seq (by rfl) T.len PySem.boot_len (pa_cons (pe_hme0 hm_Table_in_order hr (by decide) (pv 0)) pa_nil)))
      (pss_cons (ps_fld (pv 0) (pe_lc (own := [("row", 4)]) (g := gName 4) (tt := tYes) (by rfl) sc_Table_let_old_go.nd (pi_list (pe_fld (pv 0) rfl)) (blkOk_by (own := [("row", 4)]) (N := ["self", "ticks", "now", "before", "row"]) (sc := defScope s_Table_let_old_go) (by decide +kernel)) (fun _ _ _ _ _ => (pg_name (i := 4) sc_Table_let_old_go.nd rfl (Or.inl rfl))) (fun _ _ _ _ _ => pts_nil) (fun _ _ _ _ _ => (pe_hca h_seen_lately hr (by decide) rfl (pa_cons (pv 4) (pa_cons (pv 1) (pa_cons (pv 2) pa_nil)))))) rfl)
      (pss_one (ps_ret (pe_op op_sub (pv 3) (pe_callB call_len_seq (by rfl) T.len PySem.boot_len (pa_cons (pe_hme0 hm_Table_in_order hr (by decide) (pv 0)) pa_nil))))))), ?_⟩
    have lxs := pr_len ok.pr
    have efl : (xs.map (·.2)).flatten.length = rows.flatten.length := pr_len (pr_flat (fun _ _ z => z.fls) ok.pr)
    have few : rows.flatten.length ≤ 64 := by
      have := flat_few h4
      omega
    -- before = len(self.in_order())
    refine ⟨_, rfl, t, dx, _, rfl, ht, lkm_Table_in_order, t, dx, wl, _, _, _, _, xs, rfl, ht, cx.sI _ _ hwl, fun x hx => ?_, by omega, fun H1 p1 s1 _ hp1 => ?_⟩
    · obtain ⟨fl, _, z⟩ := pr_mem ok.pr x hx
      exact z.at_
    refine ⟨p1, _, rfl, .inl (SqL.of hp1), ?_⟩
    rw [List.length_map, efl]
    have ht1 := s1 _ _ ht
    have cx1 := cx.grow s1
    -- self.rows = [..]
    refine ⟨_, rfl, t, _, dx, _, _, rfl, ht1, T.cl_Table, T.na_Table_rows, lk_Table_rows, wl, rfl, ⟨_, SqL.of (cx1.sI _ _ hwl)⟩,
      fun D hD => lc_list (K := K) (a := wl) (xs := (xs.map (·.1)).map V.ref) (fun i H' => Same H1 H' ∧ ∃ ys : List (Addr × List Addr), H' D = some (.lst ((ys.map (·.1)).map V.ref)) ∧
        Paired (fun (y : Addr × List Addr) (fl : List Sj52.Flow) => H1 y.1 = none ∧ y.1 ≠ D ∧ H' y.1 = some (.lst (y.2.map V.ref)) ∧ Paired (fun p f => FlowAt A I H p f ∧ Own I R p) y.2 fl) ys ((rows.take i).map (List.filter (young now n))) ∧
        (ys.map (·.1)).Nodup ∧ ∀ (j : Nat) (y : Addr × List Addr), ys[j]? = some y → ∃ x, xs[j]? = some x ∧ y.2.Sublist x.2)
      ⟨same_upd hD, [], upd_same, .nil, List.nodup_nil, fun j y hy => by simp at hy⟩ (fun i H' _ ⟨s7, _⟩ => SqL.of (s7 _ _ (cx1.sI _ _ hwl))) ?_ ?_⟩
    · rintro i y H2 hi ⟨s2, ys, hD2, hys, hnd, hsub⟩
      obtain ⟨r, hri, rfl⟩ := get_ref hi
      obtain ⟨ps, hxi⟩ : ∃ ps, xs[i]? = some (r, ps) := by
        rw [List.getElem?_map] at hri
        cases e : xs[i]? with
        | none => rw [e] at hri; cases hri
        | some x =>
          rw [e] at hri
          have e2 : x.1 = r := Option.some.inj hri
          exact ⟨x.2, by rw [← e2]⟩
      obtain ⟨fl, hfl, hrow⟩ := ok.row hxi
      have hil := (List.getElem?_eq_some_iff.mp hfl).1
      have lys : ys.length = i := by
        rw [pr_len hys, List.length_map, List.length_take]
        omega
      have s12 := s1.trans s2
      refine ⟨rfl, yes_if ⟨_, rfl, _, rfl, _, rfl, I, r, n, now, ps, fl, rfl, s12 _ _ hrow.at_, pr_mono (fun _ _ z => z.1.same (Same.refl I) s12) hrow.fls, ?_, fun H3 p ps' s3 hp0 hp3 hps hG => ?_⟩⟩
      · have := h4 fl (List.mem_of_getElem? hfl)
        omega
      have npD : p ≠ D := (ne_of_none hD2 hp0).symm
      refine ⟨_, s3 _ _ hD2, ?_, same_into (s2.trans s3) hD, ys ++ [(p, ps')], ?_, ?_, ?_, ?_⟩
      · rw [List.length_map, List.length_map, lys]
        exact Nat.lt_of_lt_of_le hil (Nat.le_trans h16 (by decide))
      · rw [upd_same, List.map_append, List.map_append]
        rfl
      · rw [take_more hfl, List.map_append]
        refine pr_append (pr_mono (fun y fl2 ⟨z1, z2, z3, z4⟩ => ⟨z1, z2, Eq.trans (upd_ne z2) (s3 _ _ z3), z4⟩) hys) (.cons ⟨s2.free hp0, npD, Eq.trans (upd_ne npD) hp3, hG _ hrow.fls⟩ .nil)
      · rw [List.map_append, List.nodup_append]
        refine ⟨hnd, by simp, fun a ha b hb => ?_⟩
        obtain ⟨y, hy, rfl⟩ := List.mem_map.mp ha
        have e : b = p := List.mem_singleton.mp hb
        rw [e]
        obtain ⟨_, _, _, _, z3, _⟩ := pr_mem hys y hy
        exact ne_of_none z3 hp0
      · intro j y hy
        by_cases hj : j < ys.length
        · rw [List.getElem?_append_left hj] at hy
          exact hsub j y hy
        · rw [List.getElem?_append_right (by omega)] at hy
          have hj2 : j - ys.length = 0 := by
            have := (List.getElem?_eq_some_iff.mp hy).1
            have e : [(p, ps')].length = 1 := rfl
            omega
          rw [hj2] at hy
          have e : (p, ps') = y := Option.some.inj hy
          subst e
          have ej : j = i := by omega
          subst ej
          exact ⟨_, hxi, hps⟩
    · rintro H2 ⟨s2, ys, hD2, hys, hnd, hsub⟩
      rw [List.length_map, List.length_map, lxs, List.take_length] at hys
      have ht2 := s2 _ _ ht1
      refine ⟨_, rfl, t, _, dx, _, rfl, ht2, T.cl_Table, T.na_Table_rows, (by show 5 < 1000; decide), ?_⟩
      rw [put_Table_rows]
      have ntD : D ≠ t := (ne_of_none ht1 hD).symm
      have ht3 : upd H2 t (.ins A.Table dx (f_Table (.int (seed : Int)) (.ref D) (.int (k0 : Int)) (.int (k1 : Int)) (.int (k2 : Int)))) t = _ := upd_same
      have hD3 : upd H2 t (.ins A.Table dx (f_Table (.int (seed : Int)) (.ref D) (.int (k0 : Int)) (.int (k1 : Int)) (.int (k2 : Int)))) D = _ := Eq.trans (upd_ne ntD) hD2
      have kb : ∀ b o, H2 b = some o → b ≠ t → upd H2 t (.ins A.Table dx (f_Table (.int (seed : Int)) (.ref D) (.int (k0 : Int)) (.int (k1 : Int)) (.int (k2 : Int)))) b = some o := fun b o e nb => Eq.trans (upd_ne nb) e
      have cx3 := (cx1.grow s2).set (o := .ins A.Table dx (f_Table (.int (seed : Int)) (.ref D) (.int (k0 : Int)) (.int (k1 : Int)) (.int (k2 : Int)))) wt
      generalize upd H2 t (.ins A.Table dx (f_Table (.int (seed : Int)) (.ref D) (.int (k0 : Int)) (.int (k1 : Int)) (.int (k2 : Int)))) = H3 at ht3 hD3 kb cx3 ⊢
      have nyt : ∀ y ∈ ys, y.1 ≠ t := fun y hy => by
        obtain ⟨_, _, z1, _⟩ := pr_mem hys y hy
        exact (ne_of_none ht1 z1).symm
      have efl2 : (ys.map (·.2)).flatten.length = (rows.map (List.filter (young now n))).flatten.length := pr_len (pr_flat (fun _ _ z => z.2.2.2) hys)
      have few2 : (rows.map (List.filter (young now n))).flatten.length ≤ 64 := by
        have := flat_few (n := 4) (l := rows.map (List.filter (young now n))) fun r hr => by
          obtain ⟨r0, hr0, rfl⟩ := List.mem_map.mp hr
          exact Nat.le_trans (List.length_filter_le _ _) (h4 r0 hr0)
        rw [List.length_map] at this
        omega
      have hI0 : I D = none := cx1.sI.free hD
      have hH0 : H D = none := s1.free hD
      have g : Gr I (upd I D (.lst ((ys.map (·.1)).map V.ref))) H := Gr.put hH0 hI0
      have cx4 := cx3.put (cx1.sR.free hD) hD3
      have hID : upd I D (.lst ((ys.map (·.1)).map V.ref)) D = _ := upd_same
      have hIy : ∀ b, H1 b = none → b ≠ D → Own (upd I D (.lst ((ys.map (·.1)).map V.ref))) R b := fun b hb nb => ⟨Eq.trans (upd_ne nb) (cx1.sI.free hb), cx1.sR.free hb⟩
      generalize upd I D (.lst ((ys.map (·.1)).map V.ref)) = I2 at g cx4 hID hIy
      -- before - len(self.in_order())
      refine ⟨_, rfl, _, rfl, t, dx, _, rfl, ht3, lkm_Table_in_order, t, dx, D, _, _, _, _, ys, rfl, ht3, hD3, fun y hy => ?_, by omega, fun H4 p4 s4 _ hp4 => ?_⟩
      · obtain ⟨_, _, z1, z2, z3, _⟩ := pr_mem hys y hy
        exact kb _ _ z3 (nyt y hy)
      refine ⟨p4, _, rfl, .inl (SqL.of hp4), _, _, rfl, rfl, ?_⟩
      rw [List.length_map, efl2]
      refine q H4 I2 (cx4.grow s4) g.more ⟨dx, D, ys, k0, k1, k2, s4 _ _ ht3, hcn, g.own ht wt, hID, ?_⟩
      refine RowsOk.grow Gr.refl s4 ⟨?_, fun i j x y hx hy e => ?_, fun i j x y p hx hy h1 h2 => ?_, fun i x hx => ?_⟩
      · refine pr_monoM (fun y fl hy ⟨z1, z2, z3, z4⟩ => ⟨kb _ _ z3 (nyt y hy), hIy _ z1 z2, pr_mono (fun p f z => ?_) z4⟩) hys
        obtain ⟨⟨dp, kp, hp, hk⟩, wp⟩ := z
        exact ⟨⟨dp, kp, kb _ _ (s2 _ _ (s1 _ _ hp)) (ne_of ht hp tab_ne_flow).symm, g.more _ _ hk⟩, g.own hp wp⟩
      · have e1 : (ys.map (·.1))[i]? = some x.1 := by rw [List.getElem?_map, hx]; rfl
        have e2 : (ys.map (·.1))[j]? = some x.1 := by rw [List.getElem?_map, hy, e]; rfl
        exact nd_ix hnd e1 e2
      · obtain ⟨x0, hx0, sx⟩ := hsub i x hx
        obtain ⟨y0, hy0, sy⟩ := hsub j y hy
        exact ok.d2 i j x0 y0 p hx0 hy0 (sx.subset h1) (sy.subset h2)
      · obtain ⟨x0, hx0, sx⟩ := hsub i x hx
        exact (ok.nd i x0 hx0).sublist sx
end
end Fr

namespace Fr
open PySem PySem.Spec PyProof.Rows L2
/-! ### F7. The desk and the calls on it -/
abbrev s_Desk_init : Stmt := (inClass (top 48) 0)
theorem sc_Desk_init : FnScope ["self", "seed", "places"] ["self", "seed", "places"] (defScope s_Desk_init) := ⟨rfl, rfl, rfl, by decide +kernel, rfl, by decide +kernel, by decide +kernel⟩
abbrev s_let_wait : Stmt := (top 57)
theorem sc_let_wait : FnScope ["desk", "change"] ["desk", "change"] (defScope s_let_wait) := ⟨rfl, rfl, rfl, by decide +kernel, rfl, by decide +kernel, by decide +kernel⟩
abbrev s_put : Stmt := (top 58)
theorem sc_put : FnScope ["desk", "call", "numbers", "rule"] ["desk", "call"] (defScope s_put) := ⟨rfl, rfl, rfl, by decide +kernel, rfl, by decide +kernel, by decide +kernel⟩
abbrev s_out : Stmt := (top 59)
theorem sc_out : FnScope ["desk", "call", "place"] ["desk", "call"] (defScope s_out) := ⟨rfl, rfl, rfl, by decide +kernel, rfl, by decide +kernel, by decide +kernel⟩
abbrev s_swap : Stmt := (top 60)
theorem sc_swap : FnScope ["desk", "call", "place", "other"] ["desk", "call"] (defScope s_swap) := ⟨rfl, rfl, rfl, by decide +kernel, rfl, by decide +kernel, by decide +kernel⟩
abbrev s_commit : Stmt := (top 61)
theorem sc_commit : FnScope ["desk", "call", "waiting", "rules", "number", "change"] ["desk", "call"] (defScope s_commit) := ⟨rfl, rfl, rfl, by decide +kernel, rfl, by decide +kernel, by decide +kernel⟩
abbrev s_forget : Stmt := (top 62)
theorem sc_forget : FnScope ["desk", "call", "how_many"] ["desk", "call"] (defScope s_forget) := ⟨rfl, rfl, rfl, by decide +kernel, rfl, by decide +kernel, by decide +kernel⟩
abbrev s_sort_call : Stmt := (top 63)
theorem sc_sort_call : FnScope ["desk", "call", "key"] ["desk", "call"] (defScope s_sort_call) := ⟨rfl, rfl, rfl, by decide +kernel, rfl, by decide +kernel, by decide +kernel⟩
/-- others' things and the desk's own, where the table can't reach -/
abbrev R2 (R : Hp) (d wl : Addr) : Hp := upd (upd R d (.lst [])) wl (.lst [])
def DeskAt (A : As) (I R H : Hp) (d : Addr) (s : Sj52.Desk) : Prop :=
  ∃ (dx pl rl wl t : Addr) (cs : List Addr), H d = some (.ins A.Desk dx (f_Desk (.ref pl) (.ref rl) (.ref wl) (.ref t) (.int (s.table.now : Int)))) ∧ Own I R d ∧ I pl = some (.lst (ns s.table.places)) ∧ RulesAt A I rl s.table.rules ∧
    H wl = some (.lst (cs.map V.ref)) ∧ Own I R wl ∧ Paired (fun p c => ChangeAt A I p c ∧ SmallC c) cs s.waits ∧ TabAt A I (R2 R d wl) H t s.table.seed s.table.rows s.table.counts
structure WfD (s : Sj52.Desk) : Prop where
  tab : WfT s.table
  waits : s.waits.length ≤ 16
section
variable {A : As} {I I' R H H' : Hp} {d wl p : Addr} {s : Sj52.Desk} {od ow : HO}
theorem DeskAt.grow (g : Gr I I' H) (sm : Same H H') : DeskAt A I R H d s → DeskAt A I' R H' d s
  | ⟨dx, pl, rl, wl, t, cs, h1, w1, h2, h3, h4, w4, h5, h6⟩ => ⟨dx, pl, rl, wl, t, cs, sm _ _ h1, g.own h1 w1, g.more _ _ h2, h3.same g.more, sm _ _ h4, g.own h4 w4, pr_mono (fun _ _ z => ⟨z.1.same g.more, z.2⟩) h5, h6.grow g sm⟩
theorem ctx_in (c : Ctx I R H) (w1 : Own I R d) (w2 : Own I R wl) (h1 : H d = some od) (h2 : H wl = some ow) (n : d ≠ wl) : Ctx I (upd (upd R d od) wl ow) H := by
  refine ⟨c.sI, fun b o e => ?_, fun b o e => ?_⟩
  · by_cases hb : b = wl
    · subst hb
      rw [upd_same] at e
      cases e
      exact h2
    · rw [upd_ne hb] at e
      by_cases hd : b = d
      · subst hd
        rw [upd_same] at e
        cases e
        exact h1
      · rw [upd_ne hd] at e
        exact c.sR _ _ e
  · rw [upd_ne (w2.ne e), upd_ne (w1.ne e)]
    exact c.dis b o e
theorem ctx_out (c : Ctx I (upd (upd R d od) wl ow) H) (w1 : Own I R d) (w2 : Own I R wl) (n : d ≠ wl) : Ctx I R H ∧ H d = some od ∧ H wl = some ow := by
  refine ⟨⟨c.sI, fun b o e => c.sR _ _ ?_, fun b o e => ?_⟩, c.sR _ _ ?_, c.sR _ _ upd_same⟩
  · rw [upd_ne (ne_of_none e w2.2), upd_ne (ne_of_none e w1.2)]
    exact e
  · have z := c.dis b o e
    rw [upd_ne (w2.ne e), upd_ne (w1.ne e)] at z
    exact z
  · rw [upd_ne n, upd_same]
theorem dom2 {o1 o2 o3 o4 : HO} : ∀ p, upd (upd R d o1) wl o2 p = none → upd (upd R d o3) wl o4 p = none := fun p h => by
  obtain ⟨n1, h1⟩ := none_upd h
  obtain ⟨n2, h2⟩ := none_upd h1
  rw [upd_ne n1, upd_ne n2]
  exact h2
end
def tellsOf (x : Sj52.Ans) : List Int := x.v :: x.l
def spWait (A : As) : Sp := fun vs H Q _ => ∃ (I R : Hp) (d p : Addr) (s : Sj52.Desk) (c : Sj52.Change), vs = [.ref d, .ref p] ∧ Ctx I R H ∧ DeskAt A I R H d s ∧ s.waits.length ≤ 16 ∧ ChangeAt A I p c ∧ SmallC c ∧
  ∀ (H' : Hp) (q : Addr), Ctx I R H' → DeskAt A I R H' d (Sj52.wait s c).1 → H' q = some (.lst (zs (tellsOf (Sj52.wait s c).2))) → R q = none → Q (.ref q) H'
/-- a call on a desk: what is handed in, what comes of it -/
def spOn (A : As) (ok : List (List Int) → Sj52.Call → Prop) : Sp := fun vs H Q _ => ∃ (I R : Hp) (d c : Addr) (s : Sj52.Desk) (raw : List (List Int)) (q : Sj52.Call), vs = [.ref d, .ref c] ∧ Ctx I R H ∧ DeskAt A I R H d s ∧ WfD s ∧ CallAt A I c raw ∧ ok raw q ∧
  ∀ (H' I' : Hp) (p : Addr), Ctx I' R H' → Same I I' → DeskAt A I' R H' d (Sj52.on s q).1 → H' p = some (.lst (zs (tellsOf (Sj52.on s q).2))) → R p = none → Q (.ref p) H'
def byte (l : List Int) : Prop := ∀ x ∈ l, 0 ≤ x ∧ x ≤ 255
inductive OkPut : List (List Int) → Sj52.Call → Prop
  | mk (n i w lo hi x : Int) (m v : List Int) (lm : m.length = 16) (lv : v.length = 16) (bm : byte m) (bv : byte v) : OkPut [[n, i, w, lo, hi, x], m, v] (.put i w lo hi x m v)
inductive OkOut : List (List Int) → Sj52.Call → Prop
  | mk (n i : Int) : OkOut [[n, i]] (.out i)
inductive OkSwap : List (List Int) → Sj52.Call → Prop
  | mk (n i j : Int) : OkSwap [[n, i, j]] (.swap i j)
inductive OkCommit : List (List Int) → Sj52.Call → Prop
  | mk (n : Int) : OkCommit [[n]] .commit
inductive OkForget : List (List Int) → Sj52.Call → Prop
  | mk (n : Int) : OkForget [[n]] .forget
inductive OkSort : List (List Int) → Sj52.Call → Prop
  | mk (n z : Int) (l : List Int) (len : l.length = Sj52Neutral.many z 256) (b : byte l) : OkSort [[n, z], l] (.sort z l)
inductive OkTry : List (List Int) → Sj52.Call → Prop
  | mk (n z : Int) (l : List Int) (len : l.length = Sj52Neutral.many z 256) (b : byte l) : OkTry [[n, z], l] (.try_ z l)
inductive OkTick : List (List Int) → Sj52.Call → Prop
  | mk (n z : Int) : OkTick [[n, z]] (.tick z)
inductive OkAge : List (List Int) → Sj52.Call → Prop
  | mk (n z : Int) : OkAge [[n, z]] (.age z)
inductive OkFlow : List (List Int) → Sj52.Call → Prop
  | mk (n z : Int) : OkFlow [[n, z]] (.flow z)
inductive OkFlows : List (List Int) → Sj52.Call → Prop
  | mk (n : Int) : OkFlows [[n]] .flows
inductive OkRule : List (List Int) → Sj52.Call → Prop
  | mk (n z : Int) : OkRule [[n, z]] (.rule z)
inductive OkCounts : List (List Int) → Sj52.Call → Prop
  | mk (n : Int) : OkCounts [[n]] .counts
/-- which number goes with which -/
inductive Goes : (List (List Int) → Sj52.Call → Prop) → Int → Prop
  | put : Goes OkPut 2
  | out : Goes OkOut 3
  | swap : Goes OkSwap 4
  | commit : Goes OkCommit 5
  | forget : Goes OkForget 6
  | sort : Goes OkSort 7
  | try_ : Goes OkTry 8
  | tick : Goes OkTick 9
  | age : Goes OkAge 10
  | flow : Goes OkFlow 11
  | flows : Goes OkFlows 12
  | rule : Goes OkRule 13
  | counts : Goes OkCounts 14
section
variable {P : Program} {w : World} {K : PySem.W.Frag} {mg : Str → Option Value} {base : Heap} {A : As}
theorem ok_let_wait {f : Addr} {fd : FuncData} (F : Fun K "let_wait" "let_wait" s_let_wait f fd) (T : Txt K mg A) : FnOk P w K mg base CX0 1 f fd ["desk", "change"] (spWait A) := by
  refine F.ok sc_let_wait (fun vs H Q E h => ?_) (fun cdv Ar outer sh H vs Q E hr h => ?_)
  · obtain ⟨I, R, d, p, s, c, rfl, _⟩ := h
    rfl
  · obtain ⟨I, R, d, p, s, c, rfl, cx, ⟨dx, pl, rl, wl, t, cs, hd, wd, hpl, hrl, hwl, ww, hcs, htab⟩, hl, hc, hsm, q⟩ := h
    have ndw : d ≠ wl := ne_of hd hwl (by intro z; cases z)
    have lcs := pr_len hcs
    refine ⟨_, (pss_cons (ps_if (pt_cmpR op_eq (pe_callB call_len_seq (by rfl) T.len PySem.boot_len (pa_cons (pe_fld (pv 0) rfl) pa_nil)) (pe_gi T.c_MOST_WAITING) (nomark _)) (pss_one (ps_ret (pe_lst (pa_cons (pe_gi T.c_TOO_MANY_WAIT) pa_nil)))) pss_nil)
      (pss_cons (ps_expr (pe_bm PySem.F.plainAttrs_list PySem.F.slot_list_append PySem.F.type_list_append mt_append (pe_fld (pv 0) rfl) (pa_cons (pv 1) pa_nil)))
      (pss_one (ps_ret (pe_lst (pa_cons (pe_callB call_len_seq (by rfl) T.len PySem.boot_len (pa_cons (pe_fld (pv 0) rfl) pa_nil)) pa_nil)))))), ?_⟩
    refine ⟨_, rfl, d, _, dx, _, _, rfl, hd, T.cl_Desk, T.na_Desk_waiting, lk_Desk_waiting, wl, _, rfl, .inl (SqL.of hwl), rfl, _, rfl, ?_⟩
    show if decide (V.int (((cs.map V.ref).length : Nat) : Int) = V.int 16) = true then _ else _
    rw [List.length_map, lcs]
    by_cases c16 : s.waits.length = 16
    · rw [decide_eq_true (by rw [c16]; rfl)]
      refine iteT ⟨(by show 1 ≤ sizeLine; decide), fun r hr0 => ?_⟩
      have e : Sj52.wait s c = (s, Sj52.just (-5)) := by
        unfold Sj52.wait
        rw [if_pos (by omega)]
      rw [e] at q
      have s1 := same_upd (o := .lst [.int (-5)]) hr0
      exact q _ r (cx.grow s1) (DeskAt.grow Gr.refl s1 ⟨dx, pl, rl, wl, t, cs, hd, wd, hpl, hrl, hwl, ww, hcs, htab⟩) upd_same (cx.sR.free hr0)
    · rw [decide_eq_false (fun z => c16 (by have := V.int.inj z; omega))]
      have e : Sj52.wait s c = ({ s with waits := s.waits ++ [c] }, Sj52.just (Sj52.nat s.waits.length + 1)) := by
        unfold Sj52.wait
        rw [if_neg (by omega)]
      rw [e] at q
      refine iteF ⟨_, rfl, d, _, dx, _, _, rfl, hd, T.cl_Desk, T.na_Desk_waiting, lk_Desk_waiting, .inl ⟨rfl, _, SqL.of hwl⟩, _, rfl, wl, _, _, rfl, rfl, hwl, ?_, ?_⟩
      · rw [List.length_map, lcs]
        exact Nat.lt_of_le_of_lt hl (by decide)
      · have e2 : cs.map V.ref ++ [V.ref p] = (cs ++ [p]).map V.ref := by rw [List.map_append]; rfl
        rw [e2]
        have hd2 : upd H wl (.lst ((cs ++ [p]).map V.ref)) d = _ := Eq.trans (upd_ne ndw) hd
        refine ⟨_, rfl, d, _, dx, _, _, rfl, hd2, T.cl_Desk, T.na_Desk_waiting, lk_Desk_waiting, wl, _, rfl, .inl (SqL.of upd_same), (by show 1 ≤ sizeLine; decide), fun r hr0 => ?_⟩
        have s1 := same_upd (o := .lst [.int ((((cs ++ [p]).map V.ref).length : Nat) : Int)]) hr0
        have D2 : DeskAt A I R (upd H wl (.lst ((cs ++ [p]).map V.ref))) d { s with waits := s.waits ++ [c] } := by
          refine ⟨dx, pl, rl, wl, t, cs ++ [p], hd2, wd, hpl, hrl, upd_same, ww, pr_append hcs (.cons ⟨hc, hsm⟩ .nil), ?_⟩
          obtain ⟨d3, r3, xs, k0, k1, k2, h1, hk, w1, h2, ok⟩ := htab
          have nR : ∀ b, R2 R d wl b = none → b ≠ wl := fun b hb => (none_upd hb).1
          refine ⟨d3, r3, xs, k0, k1, k2, Eq.trans (upd_ne (nR _ w1.2)) h1, hk, w1, h2, pr_mono (fun x fl z => z.same Gr.refl (upd_ne (nR _ z.own.2)) fun b hb => ?_) ok.pr, ok.d1, ok.d2, ok.nd⟩
          obtain ⟨f, _, _, wf⟩ := pr_mem z.fls b hb
          exact upd_ne (nR _ wf.2)
        refine q _ r ((cx.set ww).grow s1) (D2.grow Gr.refl s1) ?_ ((cx.set ww).sR.free hr0)
        rw [upd_same]
        show some (HO.lst [V.int ((((cs ++ [p]).map V.ref).length : Nat) : Int)]) = some (HO.lst [V.int (((s.waits.length : Nat) : Int) + 1)])
        rw [List.length_map, List.length_append, lcs]
        rfl
end
end Fr

namespace Fr
open PySem PySem.Spec PyProof.Rows L2
/-! ### F8. put, out, swap, forget, sort, commit -/
theorem okRow_row (l : List Int) : okRow 16 l = Sj52.isRow l := by
  unfold okRow Sj52.isRow Sj52.KEY
  congr 1
  by_cases c : l.length = 16
  · rw [c]
    rfl
  · rw [decide_eq_false (by omega), beq_eq_false_iff_ne.mpr c]
theorem okPut_eq (i w lo hi x : Int) (m v : List Int) : (!Sj52.isIn 0 31 i || !Sj52.isIn 0 14 w || !Sj52.isIn 0 65535 lo || !Sj52.isIn lo 65535 hi || !Sj52.isIn 0 255 x || !Sj52.isRow m || !Sj52.isRow v) = !okPut i w lo hi x m v := by
  have e : (Sj52.isIn 0 65535 lo && Sj52.isIn lo 65535 hi) = (decide (0 ≤ lo) && decide (hi ≤ 65535) && decide (lo ≤ hi)) := by
    unfold Sj52.isIn
    rw [Bool.eq_iff_iff]
    simp only [Bool.and_eq_true, decide_eq_true_iff]
    omega
  unfold okPut
  rw [← e, okRow_row, okRow_row]
  cases Sj52.isIn 0 31 i <;> cases Sj52.isIn 0 14 w <;> cases Sj52.isIn 0 65535 lo <;> cases Sj52.isIn lo 65535 hi <;> cases Sj52.isIn 0 255 x <;> cases Sj52.isRow m <;> cases Sj52.isRow v <;> rfl
theorem isIn_nat {a b z : Int} (h : Sj52.isIn a b z = true) (ha : 0 ≤ a) : ((z.toNat : Nat) : Int) = z ∧ z.toNat ≤ b.toNat := by
  obtain ⟨h1, h2⟩ := isIn_iff.mp h
  exact ⟨Int.toNat_of_nonneg (by omega), by omega⟩
section
variable {P : Program} {w : World} {K : PySem.W.Frag} {mg : Str → Option Value} {base : Heap} {A : As}
theorem ok_out {f : Addr} {fd : FuncData} (F : Fun K "out" "out" s_out f fd) (T : Txt K mg A) (h_is_place : Has P w K mg base 2 "is_place" ["number"] spPlace) (h_let_wait : Has P w K mg base 1 "let_wait" ["desk", "change"] (spWait A))
    (hc_OutChange : HasC P w K mg base 1 "OutChange" A.OutChange ["self", "place"] (spOutC A)) : FnOk P w K mg base CX0 3 f fd ["desk", "call"] (spOn A OkOut) := by
  refine F.ok sc_out (fun vs H Q E h => ?_) (fun cdv Ar outer sh H vs Q E hr h => ?_)
  · obtain ⟨I, R, d, c, s, raw, qq, rfl, _⟩ := h
    rfl
  · obtain ⟨I, R, d, c, s, raw, qq, rfl, cx, hdesk, wf, ⟨n, xs, rows, dx, a, r, e, hc, ha, hrows⟩, ⟨n', i⟩, q⟩ := h
    cases e
    refine ⟨_, (pss_cons (ps_set (i := 2) sc_out.nd rfl (Or.inl rfl) (pe_ix ix_list (pe_fld (pv 1) rfl) pe_int (fun _ _ => rfl)))
      (pss_cons (ps_if (pt_not (pt_val (pe_hca h_is_place hr (by decide) rfl (pa_cons (pv 2) pa_nil)))) (pss_one (ps_ret (pe_lst (pa_cons (pe_gi T.c_NOT_AS_TOLD) pa_nil)))) pss_nil)
      (pss_one (ps_ret (pe_hca h_let_wait hr (by decide) rfl (pa_cons (pv 0) (pa_cons (pe_hmk hc_OutChange hr (by decide) rfl (pa_cons (pv 2) pa_nil)) pa_nil))))))), ?_⟩
    refine ⟨_, rfl, c, _, dx, _, _, rfl, cx.sI _ _ hc, T.cl_Call, T.na_Call_numbers, lk_Call_numbers, a, _, _, _, rfl, rfl, SqL.of (cx.sI _ _ ha), atI_nat (j := 0) rfl, ?_⟩
    refine ⟨_, rfl, i, rfl, _, rfl, ?_⟩
    cases c1 : Sj52.isIn 0 31 i with
    | false =>
      refine iteT ⟨(by show 1 ≤ sizeLine; decide), fun p hp => ?_⟩
      have e : Sj52.on s (.out i) = (s, Sj52.just (-2)) := by
        show (if (!Sj52.isIn 0 31 i) = true then (s, Sj52.just (-2)) else Sj52.wait s (.out i.toNat)) = _
        rw [c1]
        rfl
      rw [e] at q
      have s1 := same_upd (o := .lst [.int (-2)]) hp
      exact q _ I p (cx.grow s1) (Same.refl _) (hdesk.grow Gr.refl s1) upd_same (cx.sR.free hp)
    | true =>
      obtain ⟨e1, e2⟩ := isIn_nat c1 (by decide)
      have e : Sj52.on s (.out i) = Sj52.wait s (.out i.toNat) := by
        show (if (!Sj52.isIn 0 31 i) = true then (s, Sj52.just (-2)) else Sj52.wait s (.out i.toNat)) = _
        rw [c1]
        rfl
      rw [e] at q
      refine iteF ⟨_, rfl, _, rfl, fun x dy nx nd nex => ⟨x, dy, i.toNat, ?_, upd_same, rfl, ?_⟩⟩
      · rw [e1]
      · rw [upd_upd]
        have s1 : Same H (upd (upd H dy (.own x)) x (.ins A.OutChange dy (f_OutChange (.int ((i.toNat : Nat) : Int))))) := same_into (same_upd nd) nx
        have g : Gr I (upd I x (.ins A.OutChange dy (f_OutChange (.int ((i.toNat : Nat) : Int))))) H := Gr.adopt nx cx.sI
        refine ⟨_, R, d, x, s, .out i.toNat, rfl, cx.adopt s1 nx upd_same, hdesk.grow g s1, wf.waits, ⟨dy, upd_same⟩, e2, fun H' p c' D' hp hR => q H' _ p c' g.more D' hp hR⟩
theorem ok_swap {f : Addr} {fd : FuncData} (F : Fun K "swap" "swap" s_swap f fd) (T : Txt K mg A) (h_is_place : Has P w K mg base 2 "is_place" ["number"] spPlace) (h_let_wait : Has P w K mg base 1 "let_wait" ["desk", "change"] (spWait A))
    (hc_SwapChange : HasC P w K mg base 1 "SwapChange" A.SwapChange ["self", "place", "other"] (spSwapC A)) : FnOk P w K mg base CX0 3 f fd ["desk", "call"] (spOn A OkSwap) := by
  refine F.ok sc_swap (fun vs H Q E h => ?_) (fun cdv Ar outer sh H vs Q E hr h => ?_)
  · obtain ⟨I, R, d, c, s, raw, qq, rfl, _⟩ := h
    rfl
  · obtain ⟨I, R, d, c, s, raw, qq, rfl, cx, hdesk, wf, ⟨n, xs, rows, dx, a, r, e, hc, ha, hrows⟩, ⟨n', i, j⟩, q⟩ := h
    cases e
    refine ⟨_, (pss_cons (ps_set (i := 2) sc_swap.nd rfl (Or.inl rfl) (pe_ix ix_list (pe_fld (pv 1) rfl) pe_int (fun _ _ => rfl)))
      (pss_cons (ps_set (i := 3) sc_swap.nd rfl (Or.inl rfl) (pe_ix ix_list (pe_fld (pv 1) rfl) pe_int (fun _ _ => rfl)))
      (pss_cons (ps_if (PW.pt (pw_or (pt_not (pt_val (pe_hca h_is_place hr (by decide) rfl (pa_cons (pv 2) pa_nil)))) (pw_or1 (pt_not (pt_val (pe_hca h_is_place hr (by decide) rfl (pa_cons (pv 3) pa_nil))))))) (pss_one (ps_ret (pe_lst (pa_cons (pe_gi T.c_NOT_AS_TOLD) pa_nil)))) pss_nil)
      (pss_one (ps_ret (pe_hca h_let_wait hr (by decide) rfl (pa_cons (pv 0) (pa_cons (pe_hmk hc_SwapChange hr (by decide) rfl (pa_cons (pv 2) (pa_cons (pv 3) pa_nil))) pa_nil)))))))), ?_⟩
    refine ⟨_, rfl, c, _, dx, _, _, rfl, cx.sI _ _ hc, T.cl_Call, T.na_Call_numbers, lk_Call_numbers, a, _, _, _, rfl, rfl, SqL.of (cx.sI _ _ ha), atI_nat (j := 0) rfl, ?_⟩
    refine ⟨_, rfl, c, _, dx, _, _, rfl, cx.sI _ _ hc, T.cl_Call, T.na_Call_numbers, lk_Call_numbers, a, _, _, _, rfl, rfl, SqL.of (cx.sI _ _ ha), atI_nat (j := 1) rfl, ?_⟩
    have eo : Sj52.on s (.swap i j) = if (!Sj52.isIn 0 31 i || !Sj52.isIn 0 31 j) = true then (s, Sj52.just (-2)) else Sj52.wait s (.swap i.toNat j.toNat) := rfl
    have bad : (!Sj52.isIn 0 31 i || !Sj52.isIn 0 31 j) = true → ∀ σ, tRet (tLst (tCons (tC (.int (-2))) tNil)) { nx := fun _ H' => Q .non H', rt := Q } σ H := fun hb σ => by
      refine ⟨(by show 1 ≤ sizeLine; decide), fun p hp => ?_⟩
      rw [eo, if_pos hb] at q
      have s1 := same_upd (o := .lst [.int (-2)]) hp
      exact q _ I p (cx.grow s1) (Same.refl _) (hdesk.grow Gr.refl s1) upd_same (cx.sR.free hp)
    refine ⟨_, rfl, i, rfl, _, rfl, ?_⟩
    cases c1 : Sj52.isIn 0 31 i with
    | false =>
      exact iteT (iteT (bad (by rw [c1]; rfl) _))
    | true =>
      refine iteF ⟨_, rfl, j, rfl, _, rfl, ?_⟩
      cases c2 : Sj52.isIn 0 31 j with
      | false => exact iteT (bad (by rw [c1, c2]; rfl) _)
      | true =>
        obtain ⟨e1, e2⟩ := isIn_nat c1 (by decide)
        obtain ⟨e3, e4⟩ := isIn_nat c2 (by decide)
        rw [eo, if_neg (by rw [c1, c2]; decide)] at q
        refine iteF ⟨_, rfl, _, rfl, _, rfl, fun x dy nx nd nex => ⟨x, dy, i.toNat, j.toNat, ?_, upd_same, rfl, ?_⟩⟩
        · rw [e1, e3]
        · rw [upd_upd]
          have s1 : Same H (upd (upd H dy (.own x)) x (.ins A.SwapChange dy (f_SwapChange (.int ((i.toNat : Nat) : Int)) (.int ((j.toNat : Nat) : Int))))) := same_into (same_upd nd) nx
          have g : Gr I (upd I x (.ins A.SwapChange dy (f_SwapChange (.int ((i.toNat : Nat) : Int)) (.int ((j.toNat : Nat) : Int))))) H := Gr.adopt nx cx.sI
          refine ⟨_, R, d, x, s, .swap i.toNat j.toNat, rfl, cx.adopt s1 nx upd_same, hdesk.grow g s1, wf.waits, ⟨dy, upd_same⟩, ⟨e2, e4⟩, fun H' p c' D' hp hR => q H' _ p c' g.more D' hp hR⟩
theorem ok_put {f : Addr} {fd : FuncData} (F : Fun K "put" "put" s_put f fd) (T : Txt K mg A) (h_is_put_as_told : Has P w K mg base 3 "is_put_as_told" ["call"] (spPutOk A)) (h_let_wait : Has P w K mg base 1 "let_wait" ["desk", "change"] (spWait A))
    (hc_PutChange : HasC P w K mg base 1 "PutChange" A.PutChange ["self", "place", "rule"] (spPutC A)) (hc_Rule : HasC P w K mg base 2 "Rule" A.Rule ["self", "mask", "value", "word", "lo", "hi", "deed"] (spRule A)) : FnOk P w K mg base CX0 4 f fd ["desk", "call"] (spOn A OkPut) := by
  refine F.ok sc_put (fun vs H Q E h => ?_) (fun cdv Ar outer sh H vs Q E hr h => ?_)
  · obtain ⟨I, R, d, c, s, raw, qq, rfl, _⟩ := h
    rfl
  · obtain ⟨I, R, d, c, s, raw, qq, rfl, cx, hdesk, wf, hcall, ⟨n', i, w, lo, hi, x, m, v, lm, lv, bm, bv⟩, q⟩ := h
    obtain ⟨n, xs, rows, dx, a, r, e, hc, ha, qs, hr1, hrs⟩ := id hcall
    cases e
    cases hrs with
    | cons hq0 t =>
      cases t with
      | cons hq1 t =>
        cases t
        rename_i am av
        refine ⟨_, (pss_cons (ps_if (pt_not (pt_val (pe_hca h_is_put_as_told hr (by decide) rfl (pa_cons (pv 1) pa_nil)))) (pss_one (ps_ret (pe_lst (pa_cons (pe_gi T.c_NOT_AS_TOLD) pa_nil)))) pss_nil)
      (pss_cons (ps_set (i := 2) sc_put.nd rfl (Or.inl rfl) (pe_fld (pv 1) rfl))
      (pss_cons (ps_set (i := 3) sc_put.nd rfl (Or.inl rfl) (pe_hmk hc_Rule hr (by decide) rfl (pa_cons (pe_ix ix_list (pe_fld (pv 1) rfl) pe_int (fun _ _ => rfl)) (pa_cons (pe_ix ix_list (pe_fld (pv 1) rfl) pe_int (fun _ _ => rfl)) (pa_cons (pe_ix ix_list (pv 2) pe_int (fun _ _ => rfl)) (pa_cons (pe_ix ix_list (pv 2) pe_int (fun _ _ => rfl)) (pa_cons (pe_ix ix_list (pv 2) pe_int (fun _ _ => rfl)) (pa_cons (pe_ix ix_list (pv 2) pe_int (fun _ _ => rfl)) pa_nil))))))))
      (pss_one (ps_ret (pe_hca h_let_wait hr (by decide) rfl (pa_cons (pv 0) (pa_cons (pe_hmk hc_PutChange hr (by decide) rfl (pa_cons (pe_ix ix_list (pv 2) pe_int (fun _ _ => rfl)) (pa_cons (pv 3) pa_nil))) pa_nil)))))))), ?_⟩
        refine ⟨_, rfl, c, _, i, w, lo, hi, x, m, v, rfl, hcall.same cx.sI, by omega, by omega, fun H1 s1 => ⟨_, rfl, ?_⟩⟩
        have cx1 := cx.grow s1
        have hdesk1 := hdesk.grow (Gr.refl (I := I)) s1
        have eo : Sj52.on s (.put i w lo hi x m v) = if (!okPut i w lo hi x m v) = true then (s, Sj52.just (-2)) else
            Sj52.wait s (.put i.toNat ⟨Sj52.nats m, ((Sj52.nats v).zip (Sj52.nats m)).map (fun y => Nat.land y.1 y.2), w.toNat, lo.toNat, hi.toNat, x.toNat⟩) := by
          rw [← okPut_eq]
          rfl
        rw [eo] at q
        cases cp : okPut i w lo hi x m v with
        | false =>
          refine iteT ⟨(by show 1 ≤ sizeLine; decide), fun p hp => ?_⟩
          rw [cp] at q
          have s2 := same_upd (o := .lst [.int (-2)]) hp
          exact q _ I p (cx1.grow s2) (Same.refl _) (hdesk1.grow Gr.refl s2) upd_same (cx1.sR.free hp)
        | true =>
          rw [cp] at q
          have cq := cp
          unfold okPut at cq
          simp only [Bool.and_eq_true, decide_eq_true_iff] at cq
          obtain ⟨⟨⟨⟨⟨p1, p2⟩, ⟨p3, p4⟩, p5⟩, p6⟩, p7⟩, p8⟩ := cq
          obtain ⟨i1, i2⟩ := isIn_nat p1 (by decide)
          obtain ⟨w1, w2⟩ := isIn_nat p2 (by decide)
          obtain ⟨x1, x2⟩ := isIn_nat p6 (by decide)
          have lo1 : ((lo.toNat : Nat) : Int) = lo := Int.toNat_of_nonneg p3
          have hi1 : ((hi.toNat : Nat) : Int) = hi := Int.toNat_of_nonneg (by omega)
          have hc1 := cx1.sI _ _ hc
          have ha1 := cx1.sI _ _ ha
          have num : ∀ {Q' : VK} {σ : L2.St} {H' : Hp} {j : Nat} {z : Int}, Same H1 H' → σ[2]? = some (some (.ref a)) → ([i, w, lo, hi, x] : List Int)[j]? = some z → Q' (.int z) H' →
              tOp (rIxL K) (tVar 2) (tC (.int (j : Int))) σ H' Q' := fun sm h0 hz hq =>
            ⟨_, h0, a, _, _, _, rfl, rfl, SqL.of (sm _ _ ha1), at_zs hz rfl, hq⟩
          refine iteF ⟨_, rfl, c, _, dx, _, _, rfl, hc1, T.cl_Call, T.na_Call_numbers, lk_Call_numbers, ?_⟩
          refine ⟨_, rfl, c, _, dx, _, _, rfl, hc1, T.cl_Call, T.na_Call_rows, lk_Call_rows, r, _, _, _, rfl, rfl, SqL.of (cx1.sI _ _ hr1), atI_nat (j := 0) rfl, ?_⟩
          refine ⟨_, rfl, c, _, dx, _, _, rfl, hc1, T.cl_Call, T.na_Call_rows, lk_Call_rows, r, _, _, _, rfl, rfl, SqL.of (cx1.sI _ _ hr1), atI_nat (j := 1) rfl, ?_⟩
          refine num (j := 1) (Same.refl _) rfl rfl (num (j := 2) (Same.refl _) rfl rfl (num (j := 3) (Same.refl _) rfl rfl (num (j := 4) (Same.refl _) rfl rfl ?_)))
          intro y dy ny nd ney
          have hm1 : H1 am = some (.lst (ns (Sj52.nats m))) := by rw [← zs_nats fun z hz => (bm z hz).1]; exact cx1.sI _ _ hq0
          have hv1 : H1 av = some (.lst (ns (Sj52.nats v))) := by rw [← zs_nats fun z hz => (bv z hz).1]; exact cx1.sI _ _ hq1
          have sm1 : Same H1 (upd (upd H1 dy (.own y)) y (.ins A.Rule dy [])) := same_into (same_upd nd) ny
          have lnats : ∀ l : List Int, (Sj52.nats l).length = l.length := fun l => List.length_map ..
          refine ⟨y, dy, am, av, Sj52.nats m, Sj52.nats v, w.toNat, lo.toNat, hi.toNat, x.toNat, ?_, upd_same, sm1 _ _ hm1, sm1 _ _ hv1, by rw [lnats]; exact lm, by rw [lnats]; exact lv, fun H2 cv hy2 hcv0 hcv hbut => ⟨rfl, ?_⟩⟩
          · rw [w1, lo1, hi1, x1]
          have s2 : Same H1 H2 := same_made ny nd hbut
          have hcv1 : H1 cv = none := (none_upd (none_upd hcv0).2).2
          have ncy : cv ≠ y := (none_upd hcv0).1
          have hRy : R y = none := cx1.sR.free ny
          have hIy : I y = none := cx1.sI.free ny
          have cx2 := ((cx1.grow s2).put (cx1.sR.free hcv1) hcv).put hRy hy2
          have g1 : Gr I (upd I cv (.lst (ns (under (Sj52.nats v) (Sj52.nats m))))) H1 := Gr.put hcv1 (cx1.sI.free hcv1)
          have g2 : Gr (upd I cv (.lst (ns (under (Sj52.nats v) (Sj52.nats m))))) (upd (upd I cv (.lst (ns (under (Sj52.nats v) (Sj52.nats m))))) y (.ins A.Rule dy (f_Rule (.ref am) (.ref cv) (.int ((w.toNat : Nat) : Int)) (.int ((lo.toNat : Nat) : Int)) (.int ((hi.toNat : Nat) : Int)) (.int ((x.toNat : Nat) : Int))))) H1 :=
            Gr.put ny (by rw [upd_ne ncy.symm]; exact hIy)
          have hR2 : RuleAt A (upd (upd I cv (.lst (ns (under (Sj52.nats v) (Sj52.nats m))))) y (.ins A.Rule dy (f_Rule (.ref am) (.ref cv) (.int ((w.toNat : Nat) : Int)) (.int ((lo.toNat : Nat) : Int)) (.int ((hi.toNat : Nat) : Int)) (.int ((x.toNat : Nat) : Int))))) y
              ⟨Sj52.nats m, under (Sj52.nats v) (Sj52.nats m), w.toNat, lo.toNat, hi.toNat, x.toNat⟩ := by
            refine ⟨dy, am, cv, upd_same, g2.more _ _ (g1.more _ _ ?_), g2.more _ _ upd_same⟩
            rw [← zs_nats fun z hz => (bm z hz).1]
            exact hq0
          have g12 := g1.trans (Same.refl H1) g2
          generalize upd (upd I cv (.lst (ns (under (Sj52.nats v) (Sj52.nats m))))) y (.ins A.Rule dy (f_Rule (.ref am) (.ref cv) (.int ((w.toNat : Nat) : Int)) (.int ((lo.toNat : Nat) : Int)) (.int ((hi.toNat : Nat) : Int)) (.int ((x.toNat : Nat) : Int)))) = I2 at cx2 hR2 g12
          have hdesk2 := hdesk1.grow g12 s2
          refine ⟨_, rfl, num (j := 0) s2 rfl rfl ⟨_, rfl, fun z dz nz ndz nez => ⟨z, dz, y, i.toNat, ?_, upd_same, rfl, ?_⟩⟩⟩
          · rw [i1]
          rw [upd_upd]
          have s3 : Same H2 (upd (upd H2 dz (.own z)) z (.ins A.PutChange dz (f_PutChange (.int ((i.toNat : Nat) : Int)) (.ref y)))) := same_into (same_upd ndz) nz
          have g3 : Gr I2 (upd I2 z (.ins A.PutChange dz (f_PutChange (.int ((i.toNat : Nat) : Int)) (.ref y)))) H2 := Gr.adopt nz cx2.sI
          refine ⟨_, R, d, z, s, .put i.toNat ⟨Sj52.nats m, under (Sj52.nats v) (Sj52.nats m), w.toNat, lo.toNat, hi.toNat, x.toNat⟩, rfl, cx2.adopt s3 nz upd_same, hdesk2.grow g3 s3, wf.waits, ⟨dz, y, upd_same, hR2.same g3.more, by rw [lnats]; exact lm, w2, by rw [under_len, lnats, lnats]; omega⟩, i2,
            fun H' p c' D' hp hR => q H' _ p c' (g12.more.trans g3.more) D' hp hR⟩
/-- the desk with a new, empty list of changes -/
theorem desk_forget {I R H : Hp} {d dx pl rl wl t wn : Addr} {s : Sj52.Desk} {cs : List Addr} (hd : H d = some (.ins A.Desk dx (f_Desk (.ref pl) (.ref rl) (.ref wl) (.ref t) (.int (s.table.now : Int))))) (wd : Own I R d) (hpl : I pl = some (.lst (ns s.table.places))) (hrl : RulesAt A I rl s.table.rules)
    (hwl : H wl = some (.lst (cs.map V.ref))) (htab : TabAt A I (R2 R d wl) H t s.table.seed s.table.rows s.table.counts) (hn : H wn = none) (cx : Ctx I R H) :
    DeskAt A I R (upd (upd H wn (.lst [])) d (.ins A.Desk dx (f_Desk (.ref pl) (.ref rl) (.ref wn) (.ref t) (.int (s.table.now : Int))))) d { s with waits := [] } := by
  have nwd : wn ≠ d := (ne_of_none hd hn).symm
  refine ⟨dx, pl, rl, wn, t, [], upd_same, wd, hpl, hrl, Eq.trans (upd_ne nwd) upd_same, cx.fresh hn, .nil, htab.move Gr.refl fun b o e hb => ?_⟩
  obtain ⟨n1, hb1⟩ := none_upd hb
  obtain ⟨n2, hb2⟩ := none_upd hb1
  have n3 : b ≠ wn := ne_of_none e hn
  refine ⟨?_, ?_⟩
  · rw [upd_ne n2, upd_ne n3]
    exact e
  · exact Eq.trans (upd_ne n3) (Eq.trans (upd_ne n2) hb2)
theorem ok_forget {f : Addr} {fd : FuncData} (F : Fun K "forget" "forget" s_forget f fd) (T : Txt K mg A) : FnOk P w K mg base CX0 1 f fd ["desk", "call"] (spOn A OkForget) := by
  refine F.ok sc_forget (fun vs H Q E h => ?_) (fun cdv Ar outer sh H vs Q E hr h => ?_)
  · obtain ⟨I, R, d, c, s, raw, qq, rfl, _⟩ := h
    rfl
  · obtain ⟨I, R, d, c, s, raw, qq, rfl, cx, ⟨dx, pl, rl, wl, t, cs, hd, wd, hpl, hrl, hwl, ww, hcs, htab⟩, wf, hcall, ⟨n'⟩, q⟩ := h
    refine ⟨_, (pss_cons (ps_set (i := 2) sc_forget.nd rfl (Or.inl rfl) (pe_callB call_len_seq (by rfl) T.len PySem.boot_len (pa_cons (pe_fld (pv 0) rfl) pa_nil)))
      (pss_cons (ps_fld (pv 0) (pe_lst pa_nil) rfl)
      (pss_one (ps_ret (pe_lst (pa_cons (pv 2) pa_nil)))))), ?_⟩
    refine ⟨_, rfl, d, _, dx, _, _, rfl, hd, T.cl_Desk, T.na_Desk_waiting, lk_Desk_waiting, wl, _, rfl, .inl (SqL.of hwl), ?_⟩
    refine ⟨Nat.zero_le _, fun wn hn => ?_⟩
    have ndn : d ≠ wn := ne_of_none hd hn
    refine ⟨_, rfl, d, _, dx, _, rfl, Eq.trans (upd_ne ndn) hd, T.cl_Desk, T.na_Desk_waiting, (by show 5 < 1000; decide), ?_⟩
    rw [put_Desk_waiting]
    refine ⟨_, rfl, (by show 1 ≤ sizeLine; decide), fun r hr0 => ?_⟩
    have D2 := desk_forget hd wd hpl hrl hwl htab hn cx
    have s1 := same_upd (o := .lst [.int (((cs.map V.ref).length : Nat) : Int)]) hr0
    refine q _ I r (((cx.grow (same_upd hn)).set wd).grow s1) (Same.refl _) (D2.grow Gr.refl s1) ?_ (((cx.grow (same_upd hn)).set wd).sR.free hr0)
    rw [upd_same, List.length_map, pr_len hcs]
    rfl
theorem ok_sort_call {f : Addr} {fd : FuncData} (F : Fun K "sort_call" "sort_call" s_sort_call f fd) (T : Txt K mg A) (h_is_frame_as_told : Has P w K mg base 3 "is_frame_as_told" ["call"] (spFrame A)) (h_key_of : Has P w K mg base 1 "key_of" ["frame", "places"] (spKey K))
    (hm_Table_sort_frame : HasM P w K mg base 4 A.Table "sort_frame" ["self", "rules", "key", "size", "now"] (spSort A)) : FnOk P w K mg base CX0 5 f fd ["desk", "call"] (spOn A OkSort) := by
  refine F.ok sc_sort_call (fun vs H Q E h => ?_) (fun cdv Ar outer sh H vs Q E hr h => ?_)
  · obtain ⟨I, R, d, c, s, raw, qq, rfl, _⟩ := h
    rfl
  · obtain ⟨I, R, d, c, s, raw, qq, rfl, cx, hdesk, wf, hcall, ⟨n', z, l, len, bl⟩, q⟩ := h
    obtain ⟨n, xs, rows, dx, a, r, e, hc, ha, qs, hr1, hrs⟩ := id hcall
    cases e
    cases hrs with
    | cons hq0 t =>
      cases t
      rename_i al
      have llen : l.length ≤ 256 := by
        rw [len]
        unfold Sj52Neutral.many
        split <;> omega
      refine ⟨_, (pss_cons (ps_if (pt_not (pt_val (pe_hca h_is_frame_as_told hr (by decide) rfl (pa_cons (pv 1) pa_nil)))) (pss_one (ps_ret (pe_lst (pa_cons (pe_gi T.c_NOT_AS_TOLD) pa_nil)))) pss_nil)
      (pss_cons (ps_set (i := 2) sc_sort_call.nd rfl (Or.inl rfl) (pe_hca h_key_of hr (by decide) rfl (pa_cons (pe_ix ix_list (pe_fld (pv 1) rfl) pe_int (fun _ _ => rfl)) (pa_cons (pe_fld (pv 0) rfl) pa_nil))))
      (pss_one (ps_ret (pe_hme hm_Table_sort_frame hr (by decide) (pe_fld (pv 0) rfl) (pa_cons (pe_fld (pv 0) rfl) (pa_cons (pv 2) (pa_cons (pe_ix ix_list (pe_fld (pv 1) rfl) pe_int (fun _ _ => rfl)) (pa_cons (pe_fld (pv 0) rfl) pa_nil))))))))), ?_⟩
      refine ⟨_, rfl, c, _, z, l, rfl, hcall.same cx.sI, by omega, fun H1 s1 => ⟨_, rfl, ?_⟩⟩
      have cx1 := cx.grow s1
      have hdesk1 := hdesk.grow (Gr.refl (I := I)) s1
      have eo : Sj52.on s (.sort z l) = if (!Sj52.isIn 0 256 z) = true then (s, Sj52.just (-2)) else ({ s with table := (s.table.sort (Sj52.nats (l.take z.toNat))).1 }, ⟨Sj52.nat (s.table.sort (Sj52.nats (l.take z.toNat))).2.1, [Sj52.nat (s.table.sort (Sj52.nats (l.take z.toNat))).2.2]⟩) := rfl
      rw [eo] at q
      cases c1 : Sj52.isIn 0 256 z with
      | false =>
        rw [Bool.false_and]
        refine iteT ⟨(by show 1 ≤ sizeLine; decide), fun p hp => ?_⟩
        rw [c1] at q
        have s2 := same_upd (o := .lst [.int (-2)]) hp
        exact q _ I p (cx1.grow s2) (Same.refl _) (hdesk1.grow Gr.refl s2) upd_same (cx1.sR.free hp)
      | true =>
        obtain ⟨z1, z2⟩ := isIn_nat c1 (by decide)
        have zz := isIn_iff.mp c1
        have l2 : l.length = z.toNat := by
          rw [len]
          unfold Sj52Neutral.many
          rw [if_pos zz]
        have okr : okRow z l = true := by
          unfold okRow
          rw [decide_eq_true (by omega), Bool.true_and, List.all_eq_true]
          exact fun y hy => isIn_iff.mpr (bl y hy)
        rw [okr, Bool.true_and]
        rw [c1, show l.take z.toNat = l by rw [List.take_of_length_le (by omega)]] at q
        obtain ⟨dd, pl, rl, wl, t, cs, hd, wd, hpl, hrl, hwl, ww, hcs, htab⟩ := hdesk1
        have hal : H1 al = some (.lst (ns (Sj52.nats l))) := by rw [← zs_nats fun y hy => (bl y hy).1]; exact cx1.sI _ _ hq0
        refine iteF ⟨_, rfl, c, _, dx, _, _, rfl, cx1.sI _ _ hc, T.cl_Call, T.na_Call_rows, lk_Call_rows, r, _, _, _, rfl, rfl, SqL.of (cx1.sI _ _ hr1), atI_nat (j := 0) rfl, _, rfl, d, _, dd, _, _, rfl, hd, T.cl_Desk, T.na_Desk_places, lk_Desk_places,
          al, pl, Sj52.nats l, s.table.places, rfl, SqL.of hal, SqL.of (cx1.sI _ _ hpl), by have := wf.tab.places; omega, fun H2 k s2 hk0 hk => ?_⟩
        have hd2 := s2 _ _ hd
        have g : Gr I (upd I k (.lst (ns (Sj52.keyOf s.table.places (Sj52.nats l))))) H1 := Gr.adopt hk0 cx1.sI
        have cx2 := cx1.adopt s2 hk0 hk
        have hIk : upd I k (.lst (ns (Sj52.keyOf s.table.places (Sj52.nats l)))) k = some (.lst (ns (Sj52.keyOf s.table.places (Sj52.nats l)))) := upd_same
        generalize upd I k (.lst (ns (Sj52.keyOf s.table.places (Sj52.nats l)))) = I2 at g cx2 hIk
        have wd2 := g.own hd wd
        have ww2 := g.own hwl ww
        have hwl2 := s2 _ _ hwl
        have ndw : d ≠ wl := ne_of hd hwl (by intro y; cases y)
        have htab2 := htab.grow g s2
        obtain ⟨dt, rt, xs, k0, k1, k2, htt, _⟩ := id htab2
        have elen : ((Sj52.nats l).length : Int) = z := by
          have : (Sj52.nats l).length = l.length := List.length_map ..
          rw [this]
          omega
        refine ⟨_, rfl, d, _, dd, _, _, rfl, hd2, T.cl_Desk, T.na_Desk_table, lk_Desk_table, t, dt, _, rfl, htt, lkm_Table_sort_frame, _, rfl, d, _, dd, _, _, rfl, hd2, T.cl_Desk, T.na_Desk_rules, lk_Desk_rules, _, rfl, _, rfl, c, _, dx, _, _, rfl, cx2.sI _ _ (g.more _ _ hc), T.cl_Call, T.na_Call_numbers, lk_Call_numbers,
          a, _, _, _, rfl, rfl, SqL.of (cx2.sI _ _ (g.more _ _ ha)), atI_nat (j := 0) rfl, _, rfl, d, _, dd, _, _, rfl, hd2, T.cl_Desk, T.na_Desk_now, lk_Desk_now, I2, upd (upd R d _) wl _, t, rl, k, s.table, Sj52.nats l, ?_, ctx_in cx2 wd2 ww2 hd2 hwl2 ndw, htab2.others dom2, hrl.same g.more, hIk, wf.tab, fun H3 p cx3 ht3 hp hR => ?_⟩
        · rw [elen]
        · obtain ⟨cx4, hd4, hwl4⟩ := ctx_out cx3 wd2 ww2 ndw
          have keepT : (s.table.sort (Sj52.nats l)).1.places = s.table.places ∧ (s.table.sort (Sj52.nats l)).1.rules = s.table.rules ∧ (s.table.sort (Sj52.nats l)).1.seed = s.table.seed ∧ (s.table.sort (Sj52.nats l)).1.now = s.table.now := by
            unfold Sj52.Table.sort
            dsimp only
            split
            · exact ⟨rfl, rfl, rfl, rfl⟩
            · split <;> exact ⟨rfl, rfl, rfl, rfl⟩
          obtain ⟨k1, k2, k3, k4⟩ := keepT
          refine q H3 I2 p cx4 g.more ⟨dd, pl, rl, wl, t, cs, ?_, wd2, ?_, ?_, hwl4, ww2, pr_mono (fun _ _ y => ⟨y.1.same g.more, y.2⟩) hcs, ?_⟩ hp (none_upd (none_upd hR).2).2
          · show H3 d = some (.ins A.Desk dd (f_Desk (.ref pl) (.ref rl) (.ref wl) (.ref t) (.int ((s.table.sort (Sj52.nats l)).1.now : Int))))
            rw [k4]
            exact hd4
          · show I2 pl = some (.lst (ns (s.table.sort (Sj52.nats l)).1.places))
            rw [k1]
            exact g.more _ _ hpl
          · show RulesAt A I2 rl (s.table.sort (Sj52.nats l)).1.rules
            rw [k2]
            exact hrl.same g.more
          · show TabAt A I2 (R2 R d wl) H3 t (s.table.sort (Sj52.nats l)).1.seed (s.table.sort (Sj52.nats l)).1.rows (s.table.sort (Sj52.nats l)).1.counts
            rw [k3]
            exact ht3.others dom2
end
end Fr

namespace Fr
open PySem PySem.Spec PyProof.Rows L2
/-! ### F9. commit; a new desk -/
theorem all_more {rs : List Sj52.Rule} {cs : List Sj52.Change} {i : Nat} {c : Sj52.Change} (h : cs[i]? = some c) : Sj52.all rs (cs.take (i + 1)) = (match Sj52.all rs (cs.take i) with
    | .inl n => .inl n
    | .inr l => match c.does l with
      | none => .inl i
      | some m => .inr m) := by
  have hl : (cs.take i).length = i := by
    have := (List.getElem?_eq_some_iff.mp h).1
    rw [List.length_take]
    omega
  unfold Sj52.all
  rw [take_more h, List.zipIdx_append, List.foldl_append, hl]
  show _ = _
  rw [Nat.zero_add]
  rfl
theorem all_inl {rs : List Sj52.Rule} {cs : List Sj52.Change} {i n : Nat} (h : Sj52.all rs (cs.take i) = .inl n) : Sj52.all rs cs = .inl n := by
  have e : cs = cs.take i ++ cs.drop i := (List.take_append_drop i cs).symm
  rw [e]
  unfold Sj52.all at h ⊢
  rw [List.zipIdx_append, List.foldl_append, h]
  generalize (cs.drop i).zipIdx (0 + (cs.take i).length) = l
  induction l with
  | nil => rfl
  | cons x r ih =>
    rw [List.foldl_cons]
    exact ih
theorem does_len {rs rs' : List Sj52.Rule} {c : Sj52.Change} (h : c.does rs = some rs') (hl : rs.length ≤ 32) : rs'.length ≤ 32 := by
  cases c with
  | put i r =>
    have h2 : (if rs.length < i ∨ Sj52.RULES ≤ rs.length then none else some (rs.take i ++ r :: rs.drop i)) = some rs' := h
    by_cases c1 : rs.length < i ∨ Sj52.RULES ≤ rs.length
    · rw [if_pos c1] at h2
      cases h2
    · rw [if_neg c1] at h2
      cases h2
      unfold Sj52.RULES at c1
      rw [List.length_append, List.length_cons, List.length_take, List.length_drop]
      omega
  | out i =>
    have h2 : (if rs.length ≤ i then none else some (rs.eraseIdx i)) = some rs' := h
    by_cases c1 : rs.length ≤ i
    · rw [if_pos c1] at h2
      cases h2
    · rw [if_neg c1] at h2
      cases h2
      rw [List.length_eraseIdx]
      split <;> omega
  | swap i j =>
    have h2 : (match rs[i]?, rs[j]? with | some a, some b => some ((rs.set i b).set j a) | _, _ => none) = some rs' := h
    cases ei : rs[i]? with
    | none => rw [ei] at h2; cases h2
    | some a =>
      cases ej : rs[j]? with
      | none => rw [ei, ej] at h2; cases h2
      | some b =>
        rw [ei, ej] at h2
        cases h2
        rw [List.length_set, List.length_set]
        exact hl
theorem if_none {α : Type} {o : Option α} {X Y : Prop} (h1 : o = none → X) (h2 : ∀ y, o = some y → Y) : if (!o.isSome) = true then X else Y := by
  cases o with
  | none => exact iteT (h1 rfl)
  | some y => exact iteF (h2 y rfl)
/-- the three classes of changes, each with its promise -/
inductive CanS (A : As) : Addr → Sp → Prop
  | put : CanS A A.PutChange (spCan A IsPut)
  | out : CanS A A.OutChange (spCan A IsOut)
  | swap : CanS A A.SwapChange (spCan A IsSwap)
inductive MakeS (A : As) : Addr → Sp → Prop
  | put : MakeS A A.PutChange (spMake A IsPut)
  | out : MakeS A A.OutChange (spMake A IsOut)
  | swap : MakeS A A.SwapChange (spMake A IsSwap)
theorem get_pair {rs : List Addr} {i : Nat} {y : Addr × List Addr} (h : (rs.map fun r => (r, ([] : List Addr)))[i]? = some y) : ∃ a, rs[i]? = some a ∧ y = (a, []) := by
  rw [List.getElem?_map] at h
  cases e : rs[i]? with
  | none => rw [e] at h; cases h
  | some a => rw [e] at h; exact ⟨a, rfl, (Option.some.inj h).symm⟩
/-- a new desk -/
def spDesk (A : As) : Sp := fun vs H Q _ => ∃ (I R : Hp) (H0 : Hp) (p dx pl : Addr) (seed : Nat) (places : List Nat), vs = [.ref p, .int (seed : Int), .ref pl] ∧ Ctx I R H0 ∧ H0 p = none ∧ H0 dx = none ∧ dx ≠ p ∧ H = upd (upd H0 dx (.own p)) p (.ins A.Desk dx []) ∧ I pl = some (.lst (ns places)) ∧
  ∀ (H' I' : Hp), Ctx I' R H' → Same I I' → DeskAt A I' R H' p ⟨⟨places, [], seed, List.replicate Sj52.ROWS [], 0, List.replicate 3 0⟩, []⟩ → Q .non H'
section
variable {P : Program} {w : World} {K : PySem.W.Frag} {mg : Str → Option Value} {base : Heap} {A : As}
theorem ok_commit {f : Addr} {fd : FuncData} (F : Fun K "commit" "commit" s_commit f fd) (T : Txt K mg A) (hm_can_be_made : ∀ C sp, CanS A C sp → ∃ ps, HasM P w K mg base 1 C "can_be_made" ps sp) (hm_make : ∀ C sp, MakeS A C sp → ∃ ps, HasM P w K mg base 1 C "make" ps sp)
    (hm_Table_follow_rules : HasM P w K mg base 4 A.Table "follow_rules" ["self", "rules"] (spFollow A)) : FnOk P w K mg base CX0 5 f fd ["desk", "call"] (spOn A OkCommit) := by
  refine F.ok sc_commit (fun vs H Q E h => ?_) (fun cdv Ar outer sh H vs Q E hr h => ?_)
  · obtain ⟨I, R, d, c, s, raw, qq, rfl, _⟩ := h
    rfl
  · obtain ⟨I, R, d, c, s, raw, qq, rfl, cx, ⟨dx, pl, rl, wl, t, cs, hd, wd, hpl, hrl, hwl, ww, hcs, htab⟩, wf, hcall, ⟨n'⟩, q⟩ := h
    refine ⟨_, (pss_cons (ps_set (i := 2) sc_commit.nd rfl (Or.inl rfl) (pe_fld (pv 0) rfl))
      (pss_cons (ps_fld (pv 0) (pe_lst pa_nil) rfl)
      (pss_cons (ps_set (i := 3) sc_commit.nd rfl (Or.inl rfl) (pe_callTy call_list_of (by rfl) T.list (by decide +kernel) (pa_cons (pe_fld (pv 0) rfl) pa_nil)))
      (pss_cons (ps_for PassesOwn.never rfl (pi_enum (by rfl) T.enumerate (pa_cons (pv 2) pa_nil)) (pg_tup rfl (pgs_cons (pg_name (i := 4) sc_commit.nd rfl (Or.inl rfl)) (pgs_cons (pg_name (i := 5) sc_commit.nd rfl (Or.inl rfl)) pgs_nil)))
      (pss_cons (ps_if (pt_not (pt_val (pe_hmeA hm_can_be_made hr (pv 5) (pa_cons (pv 3) pa_nil)))) (pss_one (ps_ret (pe_lst (pa_cons (pe_op op_sub (pe_gi T.c_CHANGE_FAILED) (pv 4)) pa_nil)))) pss_nil)
      (pss_one (ps_expr (pe_hmeA hm_make hr (pv 5) (pa_cons (pv 3) pa_nil))))))
      (pss_cons (ps_fld (pv 0) (pv 3) rfl)
      (pss_cons (ps_expr (pe_hme hm_Table_follow_rules hr (by decide) (pe_fld (pv 0) rfl) (pa_cons (pv 3) pa_nil)))
      (pss_one (ps_ret (pe_lst (pa_cons (pe_callB call_len_seq (by rfl) T.len PySem.boot_len (pa_cons (pv 3) pa_nil)) pa_nil)))))))))), ?_⟩
    -- waiting = desk.waiting; desk.waiting = []
    refine ⟨_, rfl, d, _, dx, _, _, rfl, hd, T.cl_Desk, T.na_Desk_waiting, lk_Desk_waiting, ?_⟩
    refine ⟨Nat.zero_le _, fun wn hn => ?_⟩
    have ndn : d ≠ wn := ne_of_none hd hn
    refine ⟨_, rfl, d, _, dx, _, rfl, Eq.trans (upd_ne ndn) hd, T.cl_Desk, T.na_Desk_waiting, (by show 5 < 1000; decide), ?_⟩
    rw [put_Desk_waiting]
    have D0 := desk_forget hd wd hpl hrl hwl htab hn cx
    have cx0 : Ctx I R (upd (upd H wn (.lst [])) d (.ins A.Desk dx (f_Desk (.ref pl) (.ref rl) (.ref wn) (.ref t) (.int (s.table.now : Int))))) := (cx.grow (same_upd hn)).set wd
    have hd0 : upd (upd H wn (.lst [])) d (.ins A.Desk dx (f_Desk (.ref pl) (.ref rl) (.ref wn) (.ref t) (.int (s.table.now : Int)))) d = _ := upd_same
    have ndw : wl ≠ d := (ne_of hd hwl (by intro z; cases z)).symm
    have hwl0 : upd (upd H wn (.lst [])) d (.ins A.Desk dx (f_Desk (.ref pl) (.ref rl) (.ref wn) (.ref t) (.int (s.table.now : Int)))) wl = some (.lst (cs.map V.ref)) := by
      rw [upd_ne ndw, upd_ne (ne_of_none hwl hn)]
      exact hwl
    generalize upd (upd H wn (.lst [])) d (.ins A.Desk dx (f_Desk (.ref pl) (.ref rl) (.ref wn) (.ref t) (.int (s.table.now : Int)))) = H0 at D0 cx0 hd0 hwl0 ⊢
    obtain ⟨ps, hrp, hps⟩ := hrl
    -- rules = list(desk.rules)
    refine ⟨_, rfl, d, _, dx, _, _, rfl, hd0, T.cl_Desk, T.na_Desk_rules, lk_Desk_rules, rl, _, rfl, .inl (SqL.of (cx0.sI _ _ hrp)), fun rn hrn => ?_⟩
    have lcs := pr_len hcs
    refine ⟨_, rfl, wl, _, rfl, SqL.of (Eq.trans (upd_ne (ne_of_none hwl0 hrn)) hwl0), for_it (walk_enum (K := K) (a := wl) (xs := cs.map V.ref)) (fun i σ H' => Same H0 H' ∧ ∃ (v4 v5 : Option V) (qs : List Addr) (rs : List Sj52.Rule), σ = [some (.ref d), some (.ref c), some (.ref wl), some (.ref rn), v4, v5] ∧ H' rn = some (.lst (qs.map V.ref)) ∧
      Paired (fun p r => RuleAt A I p r ∧ WfR r) qs rs ∧ rs.length ≤ 32 ∧ Sj52.all s.table.rules (s.waits.take i) = .inr rs) ?_ ?_ ?_ ?_⟩
    · exact ⟨same_upd hrn, none, none, ps, s.table.rules, rfl, upd_same, hps, wf.tab.few, rfl⟩
    · exact fun i σ H' _ ⟨s1, _⟩ => SqL.of (s1 _ _ hwl0)
    · rintro i v σ H1 H2 hi ⟨s1, v4, v5, qs, rs, rfl, hrn1, hqs, hrs, hall⟩ ⟨tp, x, y, rfl, htp, rfl, hx, hy⟩
      obtain ⟨p, hpi, rfl⟩ := get_ref hy
      cases hx
      obtain ⟨ch, hci, hch, hsm⟩ := pr_get hcs hpi
      have s2 : Same H0 (upd H1 tp (.tup [.int (i : Nat), .ref p])) := same_into s1 (s1.free htp)
      have hrn2 : upd H1 tp (.tup [.int (i : Nat), .ref p]) rn = some (.lst (qs.map V.ref)) := Eq.trans (upd_ne (ne_of_none hrn1 htp)) hrn1
      have hTup : SqT K (upd H1 tp (.tup [.int (i : Nat), .ref p])) tp [.int (i : Nat), .ref p] := .inl (.inl upd_same)
      refine ⟨tp, _, rfl, hTup, rfl, _, _, rfl, _, _, rfl, rfl, ?_⟩
      generalize upd H1 tp (.tup [.int (i : Nat), .ref p]) = H3 at s2 hrn2 ⊢
      have sI3 : Same I H3 := cx0.sI.trans s2
      have hch3 := hch.same sI3
      have hmore := all_more (rs := s.table.rules) hci
      rw [hall] at hmore
      dsimp only at hmore
      -- if not change.can_be_made(rules): return [CHANGE_FAILED - number]
      have bad : ch.does rs = none → ∀ D : Ends, D.rt = Q → tRet (tLst (tCons (tOp (rI0 fun i j => V.int (i - j)) (tC (V.int (-100))) (tVar 4)) tNil)) D [some (.ref d), some (.ref c), some (.ref wl), some (.ref rn), some (.int (i : Nat)), some (.ref p)] H3 := by
        intro ed D hD
        rw [ed] at hmore
        have ea : Sj52.all s.table.rules s.waits = .inl i := all_inl hmore
        have eo : Sj52.on s .commit = ({ s with waits := [] }, Sj52.just (-100 - Sj52.nat i)) := by
          show (match Sj52.all s.table.rules s.waits with | .inl n => ({ s with waits := [] }, Sj52.just (-100 - Sj52.nat n)) | .inr rs => (⟨s.table.again rs, []⟩, Sj52.just (Sj52.nat rs.length))) = _
          rw [ea]
        rw [eo] at q
        refine ⟨_, rfl, _, _, rfl, rfl, (by show 1 ≤ sizeLine; decide), fun r hr0 => ?_⟩
        rw [hD]
        have s3 := same_upd (o := .lst [.int (-100 - (i : Int))]) hr0
        exact q _ I r ((cx0.grow s2).grow s3) (Same.refl _) ((D0.grow Gr.refl s2).grow Gr.refl s3) upd_same ((cx0.grow s2).sR.free hr0)
      -- change.make(rules)
      have fin : ∀ rs', ch.does rs = some rs' → ∀ qs' : List Addr, Paired (fun p r => RuleAt A I p r ∧ WfR r) qs' rs' → Same H0 (upd H3 rn (.lst (qs'.map V.ref))) ∧ ∃ (v4 v5 : Option V) (qs : List Addr) (rs : List Sj52.Rule), [some (.ref d), some (.ref c), some (.ref wl), some (.ref rn), some (.int (i : Nat)), some (.ref p)] = [some (.ref d), some (.ref c), some (.ref wl), some (.ref rn), v4, v5] ∧
            upd H3 rn (.lst (qs'.map V.ref)) rn = some (.lst (qs.map V.ref)) ∧ Paired (fun p r => RuleAt A I p r ∧ WfR r) qs rs ∧ rs.length ≤ 32 ∧ Sj52.all s.table.rules (s.waits.take (i + 1)) = .inr rs := by
        intro rs' ed qs' hq'
        rw [ed] at hmore
        exact ⟨same_into s2 hrn, _, _, qs', rs', rfl, upd_same, hq', does_len ed hrs, hmore⟩
      have len2 : (qs.map V.ref).length = rs.length := by rw [List.length_map, pr_len hqs]
      cases ch with
      | put j r =>
        obtain ⟨dp, pr, e1, _⟩ := id hch3
        refine ⟨_, rfl, _, _, p, dp, _, .put, rfl, e1, lkm_PutChange_can_be_made, _, rfl, p, rn, _, _, rs, rfl, .mk j r, hch3, hrn2, len2, _, rfl, if_none (fun ed => bad ed _ rfl) fun rs' ed => ?_⟩
        exact ⟨_, rfl, _, _, p, dp, _, .put, rfl, e1, lkm_PutChange_make, _, rfl, I, p, rn, _, qs, rs, rs', rfl, .mk j r, hsm, sI3, hch, hrn2, hqs, hrs, ed, fin rs' ed⟩
      | out j =>
        obtain ⟨dp, e1⟩ := id hch3
        refine ⟨_, rfl, _, _, p, dp, _, .out, rfl, e1, lkm_OutChange_can_be_made, _, rfl, p, rn, _, _, rs, rfl, .mk j, hch3, hrn2, len2, _, rfl, if_none (fun ed => bad ed _ rfl) fun rs' ed => ?_⟩
        exact ⟨_, rfl, _, _, p, dp, _, .out, rfl, e1, lkm_OutChange_make, _, rfl, I, p, rn, _, qs, rs, rs', rfl, .mk j, hsm, sI3, hch, hrn2, hqs, hrs, ed, fin rs' ed⟩
      | swap j k =>
        obtain ⟨dp, e1⟩ := id hch3
        refine ⟨_, rfl, _, _, p, dp, _, .swap, rfl, e1, lkm_SwapChange_can_be_made, _, rfl, p, rn, _, _, rs, rfl, .mk j k, hch3, hrn2, len2, _, rfl, if_none (fun ed => bad ed _ rfl) fun rs' ed => ?_⟩
        exact ⟨_, rfl, _, _, p, dp, _, .swap, rfl, e1, lkm_SwapChange_make, _, rfl, I, p, rn, _, qs, rs, rs', rfl, .mk j k, hsm, sI3, hch, hrn2, hqs, hrs, ed, fin rs' ed⟩
    · rintro σ H1 ⟨s1, v4, v5, qs, rs, rfl, hrn1, hqs, hrs, hall⟩
      rw [List.length_map, lcs, List.take_length] at hall
      have eo : Sj52.on s .commit = (⟨s.table.again rs, []⟩, Sj52.just (Sj52.nat rs.length)) := by
        show (match Sj52.all s.table.rules s.waits with | .inl n => ({ s with waits := [] }, Sj52.just (-100 - Sj52.nat n)) | .inr rs => (⟨s.table.again rs, []⟩, Sj52.just (Sj52.nat rs.length))) = _
        rw [hall]
      rw [eo] at q
      have cx1 := cx0.grow s1
      have hd1 := s1 _ _ hd0
      have ndr : d ≠ rn := ne_of_none hd0 hrn
      -- desk.rules = rules
      refine ⟨_, rfl, _, rfl, d, _, dx, _, rfl, hd1, T.cl_Desk, T.na_Desk_rules, (by show 5 < 1000; decide), ?_⟩
      rw [put_Desk_rules]
      have hrnI : I rn = none := cx0.sI.free hrn
      have hrnR : R rn = none := cx0.sR.free hrn
      have g : Gr I (upd I rn (.lst (qs.map V.ref))) H0 := Gr.put hrn hrnI
      have cx2 : Ctx (upd I rn (.lst (qs.map V.ref))) R (upd H1 d (.ins A.Desk dx (f_Desk (.ref pl) (.ref rn) (.ref wn) (.ref t) (.int (s.table.now : Int))))) := (cx1.set wd).put hrnR (Eq.trans (upd_ne ndr.symm) hrn1)
      have hrules : RulesAt A (upd I rn (.lst (qs.map V.ref))) rn rs := ⟨qs, upd_same, pr_mono (fun _ _ z => ⟨z.1.same g.more, z.2⟩) hqs⟩
      generalize upd I rn (.lst (qs.map V.ref)) = I2 at g cx2 hrules
      -- desk.table.follow_rules(rules)
      have hd2 : upd H1 d (.ins A.Desk dx (f_Desk (.ref pl) (.ref rn) (.ref wn) (.ref t) (.int (s.table.now : Int)))) d = some (.ins A.Desk dx (f_Desk (.ref pl) (.ref rn) (.ref wn) (.ref t) (.int (s.table.now : Int)))) := upd_same
      obtain ⟨dx', pl', rl', wn', t', cs', hd', wd', hpl', hrl', hwn', wwn', hcs', htab'⟩ := D0
      rw [hd0] at hd'
      have ei := (HO.ins.inj (Option.some.inj hd'))
      obtain ⟨_, e2, e3⟩ := ei
      have e4 : (V.ref pl, V.ref rl, V.ref wn, V.ref t) = (V.ref pl', V.ref rl', V.ref wn', V.ref t') := by
        have h1 := List.cons.inj e3
        have h2 := List.cons.inj h1.2
        have h3 := List.cons.inj h2.2
        have h4 := List.cons.inj h3.2
        rw [(Prod.mk.inj h1.1).2, (Prod.mk.inj h2.1).2, (Prod.mk.inj h3.1).2, (Prod.mk.inj h4.1).2]
      cases e4
      have hwn1 := s1 _ _ hwn'
      have nwd : wn ≠ d := (ne_of hd0 hwn' (by intro z; cases z)).symm
      have hwn2 : upd H1 d (.ins A.Desk dx (f_Desk (.ref pl) (.ref rn) (.ref wn) (.ref t) (.int (s.table.now : Int)))) wn = some (.lst (cs'.map V.ref)) := Eq.trans (upd_ne nwd) hwn1
      have wd2 := g.own hd0 wd
      have ww2 := g.own hwn' wwn'
      have htab2 : TabAt A I2 (R2 R d wn) (upd H1 d (.ins A.Desk dx (f_Desk (.ref pl) (.ref rn) (.ref wn) (.ref t) (.int (s.table.now : Int))))) t s.table.seed s.table.rows s.table.counts :=
        TabAt.move g (fun b o e hb => ⟨by
          obtain ⟨n1, hb1⟩ := none_upd hb
          rw [upd_ne (none_upd hb1).1]
          exact s1 _ _ e, hb⟩) htab'
      generalize upd H1 d (.ins A.Desk dx (f_Desk (.ref pl) (.ref rn) (.ref wn) (.ref t) (.int (s.table.now : Int)))) = H2 at cx2 hd2 hwn2 htab2 ⊢
      obtain ⟨dt, rt, xs, k0, k1, k2, htt, _⟩ := id htab2
      refine ⟨_, rfl, d, _, dx, _, _, rfl, hd2, T.cl_Desk, T.na_Desk_table, lk_Desk_table, t, dt, _, rfl, htt, lkm_Table_follow_rules, _, rfl, I2, upd (upd R d _) wn _, t, rn, s.table.seed, s.table.rows, s.table.counts, rs, rfl, ctx_in cx2 wd2 ww2 hd2 hwn2 nwd.symm, htab2.others dom2, hrules,
        fun r hr f hf => (wf.tab.row r hr).len f hf, fun H3 cx3 ht3 => ?_⟩
      obtain ⟨cx4, hd4, hwn4⟩ := ctx_out cx3 wd2 ww2 nwd.symm
      -- return [len(rules)]
      obtain ⟨qs2, hq2, hq3⟩ := id hrules
      refine ⟨_, rfl, rn, _, rfl, .inl (SqL.of (cx4.sI _ _ hq2)), (by show 1 ≤ sizeLine; decide), fun r hr0 => ?_⟩
      have s4 := same_upd (o := .lst [.int (((qs2.map V.ref).length : Nat) : Int)]) hr0
      refine q _ I2 r (cx4.grow s4) g.more (DeskAt.grow Gr.refl s4 ?_) (Eq.trans upd_same ?_) (cx4.sR.free hr0)
      rotate_left
      · rw [List.length_map, pr_len hq3]
        rfl
      exact ⟨dx, pl, rn, wn, t, cs', hd4, wd2, g.more _ _ hpl, hrules, hwn4, ww2, pr_mono (fun _ _ y => ⟨y.1.same g.more, y.2⟩) hcs', ht3.others dom2⟩
theorem ok_Desk_init {f : Addr} {fd : FuncData} (F : Fun K "__init__" "Desk.__init__" s_Desk_init f fd) (T : Txt K mg A) (hc_Table : HasC P w K mg base 1 "Table" A.Table ["self", "seed"] (spTable A)) : FnOk P w K mg base CX0 3 f fd ["self", "seed", "places"] (spDesk A) := by
  refine F.ok sc_Desk_init (fun vs H Q E h => ?_) (fun cdv Ar outer sh H vs Q E hr h => ?_)
  · obtain ⟨I, R, H0, p, dx, pl, seed, places, rfl, _⟩ := h
    rfl
  · obtain ⟨I, R, H0, p, dx, pl, seed, places, rfl, cx, hp0, hdx0, ndp, rfl, hpl, q⟩ := h
    refine ⟨_, (pss_cons (ps_fld (pv 0) (pv 2) rfl)
      (pss_cons (ps_fld (pv 0) (pe_lst pa_nil) rfl)
      (pss_cons (ps_fld (pv 0) (pe_lst pa_nil) rfl)
      (pss_cons (ps_fld (pv 0) (pe_hmk hc_Table hr (by decide) rfl (pa_cons (pv 1) pa_nil)) rfl)
      (pss_one (ps_fld (pv 0) pe_int rfl)))))), ?_⟩
    have sm0 : Same H0 (upd (upd H0 dx (.own p)) p (.ins A.Desk dx [])) := same_into (same_upd hdx0) hp0
    refine ⟨_, rfl, _, rfl, p, _, dx, [], rfl, upd_same, T.cl_Desk, T.na_Desk_places, (by show 0 < 1000; decide), ?_⟩
    rw [upd_upd]
    refine ⟨Nat.zero_le _, fun rl hrl => ?_⟩
    obtain ⟨nrp, hrl1⟩ := none_upd hrl
    obtain ⟨nrd, hrl0⟩ := none_upd hrl1
    refine ⟨_, rfl, p, _, dx, _, rfl, Eq.trans (upd_ne nrp.symm) upd_same, T.cl_Desk, T.na_Desk_rules, (by show 1 < 1000; decide), ?_⟩
    refine ⟨Nat.zero_le _, fun wl hwl => ?_⟩
    obtain ⟨nwp, hwl1⟩ := none_upd hwl
    obtain ⟨nwr, hwl2⟩ := none_upd hwl1
    obtain ⟨_, hwl3⟩ := none_upd hwl2
    obtain ⟨nwd, hwl0⟩ := none_upd hwl3
    refine ⟨_, rfl, p, _, dx, _, rfl, Eq.trans (upd_ne nwp.symm) upd_same, T.cl_Desk, T.na_Desk_waiting, len_putF (len_putF (by decide)), ?_⟩
    have hp3 : ∀ {X : Hp} {o : HO}, upd X p o p = some o := upd_same
    have sm3 : ∀ {o1 o2 o3 : HO}, Same H0 (upd (upd (upd (upd (upd (upd H0 dx (.own p)) p o1) rl (.lst [])) p o2) wl (.lst [])) p o3) := fun {o1 o2 o3} =>
      same_into (same_into (same_into (same_into (same_into (same_upd hdx0) hp0) hrl0) hp0) hwl0) hp0
    have hrl3 : ∀ {X : Hp} {o1 o2 o3 : HO}, upd (upd (upd (upd X rl (.lst [])) p o2) wl (.lst [])) p o3 rl = some (.lst []) := fun {X o1 o2 o3} => by
      rw [upd_ne nrp, upd_ne nwr.symm, upd_ne nrp, upd_same]
    have hwl3' : ∀ {X : Hp} {o3 : HO}, upd (upd X wl (.lst [])) p o3 wl = some (.lst []) := fun {X o3} => by
      rw [upd_ne nwp, upd_same]
    have F1 := @sm3 (.ins A.Desk dx (putF "places" (.ref pl) [])) (.ins A.Desk dx (putF "rules" (.ref rl) (putF "places" (.ref pl) []))) (.ins A.Desk dx (putF "waiting" (.ref wl) (putF "rules" (.ref rl) (putF "places" (.ref pl) []))))
    have F2 := @hrl3 (upd (upd H0 dx (.own p)) p (.ins A.Desk dx (putF "places" (.ref pl) []))) (.lst []) (.ins A.Desk dx (putF "rules" (.ref rl) (putF "places" (.ref pl) []))) (.ins A.Desk dx (putF "waiting" (.ref wl) (putF "rules" (.ref rl) (putF "places" (.ref pl) []))))
    have F3 := @hwl3' (upd (upd (upd (upd H0 dx (.own p)) p (.ins A.Desk dx (putF "places" (.ref pl) []))) rl (.lst [])) p (.ins A.Desk dx (putF "rules" (.ref rl) (putF "places" (.ref pl) [])))) (.ins A.Desk dx (putF "waiting" (.ref wl) (putF "rules" (.ref rl) (putF "places" (.ref pl) []))))
    have F4 : upd (upd (upd (upd (upd (upd H0 dx (.own p)) p (.ins A.Desk dx (putF "places" (.ref pl) []))) rl (.lst [])) p (.ins A.Desk dx (putF "rules" (.ref rl) (putF "places" (.ref pl) [])))) wl (.lst [])) p (.ins A.Desk dx (putF "waiting" (.ref wl) (putF "rules" (.ref rl) (putF "places" (.ref pl) [])))) p = some (.ins A.Desk dx (putF "waiting" (.ref wl) (putF "rules" (.ref rl) (putF "places" (.ref pl) [])))) := upd_same
    generalize upd (upd (upd (upd (upd (upd H0 dx (.own p)) p (.ins A.Desk dx (putF "places" (.ref pl) []))) rl (.lst [])) p (.ins A.Desk dx (putF "rules" (.ref rl) (putF "places" (.ref pl) [])))) wl (.lst [])) p (.ins A.Desk dx (putF "waiting" (.ref wl) (putF "rules" (.ref rl) (putF "places" (.ref pl) [])))) = H3 at F1 F2 F3 F4 ⊢
    -- self.table = Table(seed)
    refine ⟨_, rfl, fun x dy nx nd nex => ⟨x, dy, _, rfl, upd_same, fun H4 rt rs hbut hx hrt0 hrt hrsl hrsn hrs => ⟨rfl, ?_⟩⟩⟩
    have s4 : Same H3 H4 := same_made nx nd hbut
    have hp4 := s4 _ _ F4
    refine ⟨_, rfl, p, _, dx, _, rfl, hp4, T.cl_Desk, T.na_Desk_table, len_putF (len_putF (len_putF (by decide))), ?_⟩
    refine ⟨_, rfl, p, _, dx, _, rfl, upd_same, T.cl_Desk, T.na_Desk_now, len_putF (len_putF (len_putF (len_putF (by decide)))), ?_⟩
    rw [upd_upd, new_Desk]
    obtain ⟨nrtx, hrt1⟩ := none_upd hrt0
    obtain ⟨nrtd, hrt3⟩ := none_upd hrt1
    have npx : p ≠ x := ne_of_none F4 nx
    have nrx : rl ≠ x := ne_of_none F2 nx
    have nwx : wl ≠ x := ne_of_none F3 nx
    have nprt : p ≠ rt := ne_of_none F4 hrt3
    have nrrt : rl ≠ rt := ne_of_none F2 hrt3
    have nwrt : wl ≠ rt := ne_of_none F3 hrt3
    have sH : Same H0 H4 := F1.trans s4
    have wp : Own I R p := cx.fresh hp0
    have hrl5 : upd H4 p (.ins A.Desk dx (f_Desk (.ref pl) (.ref rl) (.ref wl) (.ref x) (.int 0))) rl = some (.lst []) := by rw [upd_ne nrp]; exact s4 _ _ F2
    have hrt5 : upd H4 p (.ins A.Desk dx (f_Desk (.ref pl) (.ref rl) (.ref wl) (.ref x) (.int 0))) rt = some (.lst (rs.map V.ref)) := by rw [upd_ne nprt.symm]; exact hrt
    have hwl5 : upd H4 p (.ins A.Desk dx (f_Desk (.ref pl) (.ref rl) (.ref wl) (.ref x) (.int 0))) wl = some (.lst []) := by rw [upd_ne nwp]; exact s4 _ _ F3
    have hx5 : upd H4 p (.ins A.Desk dx (f_Desk (.ref pl) (.ref rl) (.ref wl) (.ref x) (.int 0))) x = some (.ins A.Table dy (f_Table (.int (seed : Int)) (.ref rt) (.int 0) (.int 0) (.int 0))) := by rw [upd_ne npx.symm]; exact hx
    have cx5 := (((cx.grow sH).set (o := .ins A.Desk dx (f_Desk (.ref pl) (.ref rl) (.ref wl) (.ref x) (.int 0))) wp).put (cx.sR.free hrl0) hrl5).put (cx.sR.free (F1.free hrt3)) hrt5
    have ownx : ∀ b, H3 b = none → b ≠ rt → Own (upd (upd I rl (.lst [])) rt (.lst (rs.map V.ref))) R b := fun b hb nb => ⟨by
      rw [upd_ne nb, upd_ne (ne_of_none F2 hb).symm]
      exact cx.sI.free (F1.free hb), cx.sR.free (F1.free hb)⟩
    have own3 : ∀ b, H0 b = none → b ≠ rt → b ≠ rl → Own (upd (upd I rl (.lst [])) rt (.lst (rs.map V.ref))) R b := fun b hb nb nb2 => ⟨by
      rw [upd_ne nb, upd_ne nb2]
      exact cx.sI.free hb, cx.sR.free hb⟩
    have own2 : ∀ b, H3 b = none → b ≠ rt → Own (upd (upd I rl (.lst [])) rt (.lst (rs.map V.ref))) (R2 R p wl) b := fun b hb nb => ⟨(ownx b hb nb).1, by
      show upd (upd R p (.lst [])) wl (.lst []) b = none
      rw [upd_ne (ne_of_none F3 hb).symm, upd_ne (ne_of_none F4 hb).symm]
      exact (ownx b hb nb).2⟩
    have hI : I rl = none := cx.sI.free hrl0
    have hI2 : upd I rl (.lst []) rt = none := by
      rw [upd_ne nrrt.symm]
      exact cx.sI.free (F1.free hrt3)
    refine q _ _ cx5 ((same_upd hI).trans (same_upd hI2)) ⟨dx, pl, rl, wl, x, [], upd_same, own3 p hp0 nprt nrp.symm, same_upd hI2 _ _ (same_upd hI _ _ hpl), ⟨[], same_upd hI2 _ _ upd_same, .nil⟩, hwl5, own3 wl hwl0 nwrt nwr, .nil, ?_⟩
    refine ⟨dy, rt, rs.map fun r => (r, []), 0, 0, 0, hx5, rfl, own2 x nx nrtx.symm, ?_, ?_, ?_, ?_, ?_⟩
    · have e : (rs.map fun r => (r, ([] : List Addr))).map (·.1) = rs := by
        rw [List.map_map]
        exact List.map_id rs
      rw [upd_same, e]
    · have rowsAll : ∀ l : List Addr, (∀ r ∈ l, r ∈ rs) → Paired (RowAt A (upd (upd I rl (.lst [])) rt (.lst (rs.map V.ref))) (R2 R p wl) (upd H4 p (.ins A.Desk dx (f_Desk (.ref pl) (.ref rl) (.ref wl) (.ref x) (.int 0))))) (l.map fun r => (r, [])) (List.replicate l.length []) := by
        intro l
        induction l with
        | nil => exact fun _ => .nil
        | cons r l ih =>
          intro hl
          obtain ⟨h1, h2, h3⟩ := hrs r (hl r (List.mem_cons_self ..))
          have h4 := (none_upd (none_upd h1).2).2
          refine .cons ⟨?_, own2 r h4 h2, .nil⟩ (ih fun b hb => hl b (List.mem_cons_of_mem _ hb))
          rw [upd_ne (ne_of_none F4 h4).symm]
          exact h3
      have z := rowsAll rs fun _ h => h
      rw [hrsl] at z
      exact z
    · intro i j y z hy hz e
      obtain ⟨a1, h1, rfl⟩ := get_pair hy
      obtain ⟨a2, h2, rfl⟩ := get_pair hz
      have e2 : a1 = a2 := e
      subst e2
      exact nd_ix hrsn h1 h2
    · intro i j y z b hy hz hb
      obtain ⟨a1, h1, rfl⟩ := get_pair hy
      exact absurd hb (List.not_mem_nil)
    · intro i y hy
      obtain ⟨a1, h1, rfl⟩ := get_pair hy
      exact List.nodup_nil
end
end Fr

namespace Fr
open PySem PySem.Spec PyProof.Rows L2
/-! ### F9b. try, tick, age -/
abbrev s_are_ticks : Stmt := (top 55)
theorem sc_are_ticks : FnScope ["number"] ["number"] (defScope s_are_ticks) := ⟨rfl, rfl, rfl, by decide +kernel, rfl, by decide +kernel, by decide +kernel⟩
abbrev s_try_call : Stmt := (top 64)
theorem sc_try_call : FnScope ["desk", "call"] ["desk", "call"] (defScope s_try_call) := ⟨rfl, rfl, rfl, by decide +kernel, rfl, by decide +kernel, by decide +kernel⟩
abbrev s_tick : Stmt := (top 65)
theorem sc_tick : FnScope ["desk", "call", "ticks"] ["desk", "call"] (defScope s_tick) := ⟨rfl, rfl, rfl, by decide +kernel, rfl, by decide +kernel, by decide +kernel⟩
abbrev s_age : Stmt := (top 66)
theorem sc_age : FnScope ["desk", "call", "ticks"] ["desk", "call"] (defScope s_age) := ⟨rfl, rfl, rfl, by decide +kernel, rfl, by decide +kernel, by decide +kernel⟩
def spTicks : Sp := fun vs H Q _ => ∃ x : Int, vs = [.int x] ∧ Q (.bl (Sj52.isIn 1 100000 x)) H
theorem own_in {I I' R H : Hp} {d wl : Addr} {od ow : HO} (c : Ctx I' (upd (upd R d od) wl ow) H) (w1 : Own I R d) (w2 : Own I R wl) (n : d ≠ wl) : Own I' R d ∧ Own I' R wl := by
  refine ⟨⟨?_, w1.2⟩, ?_, w2.2⟩
  · cases e : I' d with
    | none => rfl
    | some o =>
      have z := c.dis d o e
      rw [upd_ne n, upd_same] at z
      cases z
  · cases e : I' wl with
    | none => rfl
    | some o =>
      have z := c.dis wl o e
      rw [upd_same] at z
      cases z
section
variable {P : Program} {w : World} {K : PySem.W.Frag} {mg : Str → Option Value} {base : Heap} {A : As}
theorem ok_are_ticks {f : Addr} {fd : FuncData} (F : Fun K "are_ticks" "are_ticks" s_are_ticks f fd) (T : Txt K mg A) (h_is_within : Has P w K mg base 1 "is_within" ["number", "lowest", "highest"] spWithin) : FnOk P w K mg base CX0 2 f fd ["number"] spTicks := by
  refine F.ok sc_are_ticks (fun vs H Q E h => ?_) (fun cdv Ar outer s H vs Q E hr h => ?_)
  · obtain ⟨x, rfl, _⟩ := h
    rfl
  · obtain ⟨x, rfl, q⟩ := h
    refine ⟨_, (pss_one (ps_ret (pe_hca h_is_within hr (by decide) rfl (pa_cons (pv 0) (pa_cons pe_int (pa_cons (pe_gi T.c_MOST_TICKS) pa_nil)))))), ?_⟩
    exact ⟨_, rfl, x, 1, 100000, rfl, q⟩
theorem ok_try_call {f : Addr} {fd : FuncData} (F : Fun K "try_call" "try_call" s_try_call f fd) (T : Txt K mg A) (h_is_frame_as_told : Has P w K mg base 3 "is_frame_as_told" ["call"] (spFrame A)) (h_key_of : Has P w K mg base 1 "key_of" ["frame", "places"] (spKey K))
    (h_deed_by_rules : Has P w K mg base 3 "deed_by_rules" ["rules", "key"] (spDeed K A)) : FnOk P w K mg base CX0 4 f fd ["desk", "call"] (spOn A OkTry) := by
  refine F.ok sc_try_call (fun vs H Q E h => ?_) (fun cdv Ar outer sh H vs Q E hr h => ?_)
  · obtain ⟨I, R, d, c, s, raw, qq, rfl, _⟩ := h
    rfl
  · obtain ⟨I, R, d, c, s, raw, qq, rfl, cx, hdesk, wf, hcall, ⟨n', z, l, len, bl⟩, q⟩ := h
    obtain ⟨n, xs, rows, dx, a, r, e, hc, ha, qs, hr1, hrs⟩ := id hcall
    cases e
    cases hrs with
    | cons hq0 t =>
      cases t
      rename_i al
      have llen : l.length ≤ 256 := by
        rw [len]
        unfold Sj52Neutral.many
        split <;> omega
      refine ⟨_, (pss_cons (ps_if (pt_not (pt_val (pe_hca h_is_frame_as_told hr (by decide) rfl (pa_cons (pv 1) pa_nil)))) (pss_one (ps_ret (pe_lst (pa_cons (pe_gi T.c_NOT_AS_TOLD) pa_nil)))) pss_nil)
      (pss_one (ps_ret (pe_lst (pa_cons (pe_hca h_deed_by_rules hr (by decide) rfl (pa_cons (pe_fld (pv 0) rfl) (pa_cons (pe_hca h_key_of hr (by decide) rfl (pa_cons (pe_ix ix_list (pe_fld (pv 1) rfl) pe_int (fun _ _ => rfl)) (pa_cons (pe_fld (pv 0) rfl) pa_nil))) pa_nil))) pa_nil))))), ?_⟩
      refine ⟨_, rfl, c, _, z, l, rfl, hcall.same cx.sI, by omega, fun H1 s1 => ⟨_, rfl, ?_⟩⟩
      have cx1 := cx.grow s1
      have hdesk1 := hdesk.grow (Gr.refl (I := I)) s1
      have eo : Sj52.on s (.try_ z l) = if (!Sj52.isIn 0 256 z) = true then (s, Sj52.just (-2)) else (s, Sj52.just (Sj52.nat (Sj52.first s.table.rules (Sj52.keyOf s.table.places (Sj52.nats (l.take z.toNat)))))) := rfl
      rw [eo] at q
      cases c1 : Sj52.isIn 0 256 z with
      | false =>
        rw [Bool.false_and]
        refine iteT ⟨(by show 1 ≤ sizeLine; decide), fun p hp => ?_⟩
        rw [c1] at q
        have s2 := same_upd (o := .lst [.int (-2)]) hp
        exact q _ I p (cx1.grow s2) (Same.refl _) (hdesk1.grow Gr.refl s2) upd_same (cx1.sR.free hp)
      | true =>
        obtain ⟨z1, z2⟩ := isIn_nat c1 (by decide)
        have zz := isIn_iff.mp c1
        have l2 : l.length = z.toNat := by
          rw [len]
          unfold Sj52Neutral.many
          rw [if_pos zz]
        have okr : okRow z l = true := by
          unfold okRow
          rw [decide_eq_true (by omega), Bool.true_and, List.all_eq_true]
          exact fun y hy => isIn_iff.mpr (bl y hy)
        rw [okr, Bool.true_and]
        rw [c1, show l.take z.toNat = l by rw [List.take_of_length_le (by omega)]] at q
        obtain ⟨dd, pl, rl, wl, t, cs, hd, wd, hpl, hrl, hwl, ww, hcs, htab⟩ := id hdesk1
        have hal : H1 al = some (.lst (ns (Sj52.nats l))) := by rw [← zs_nats fun y hy => (bl y hy).1]; exact cx1.sI _ _ hq0
        refine iteF ⟨_, rfl, d, _, dd, _, _, rfl, hd, T.cl_Desk, T.na_Desk_rules, lk_Desk_rules, _, rfl, c, _, dx, _, _, rfl, cx1.sI _ _ hc, T.cl_Call, T.na_Call_rows, lk_Call_rows, r, _, _, _, rfl, rfl, SqL.of (cx1.sI _ _ hr1), atI_nat (j := 0) rfl, _, rfl, d, _, dd, _, _, rfl, hd, T.cl_Desk, T.na_Desk_places, lk_Desk_places,
          al, pl, Sj52.nats l, s.table.places, rfl, SqL.of hal, SqL.of (cx1.sI _ _ hpl), by have := wf.tab.places; omega, fun H2 k s2 hk0 hk => ?_⟩
        have hlen : (Sj52.keyOf s.table.places (Sj52.nats l)).length = 16 := by
          unfold Sj52.keyOf
          rw [List.length_map]
          exact wf.tab.places
        refine ⟨rl, k, _, s.table.rules, rfl, hrl.same (cx1.sI.trans s2), SqL.of hk, hlen, fun H3 s3 => ⟨(by show 1 ≤ sizeLine; decide), fun p hp => ?_⟩⟩
        have s4 := (s2.trans s3).trans (same_upd (o := .lst [.int ((Sj52.first s.table.rules (Sj52.keyOf s.table.places (Sj52.nats l)) : Nat) : Int)]) hp)
        exact q _ I p (cx1.grow s4) (Same.refl _) (hdesk1.grow Gr.refl s4) upd_same ((cx1.grow (s2.trans s3)).sR.free hp)
theorem ok_tick {f : Addr} {fd : FuncData} (F : Fun K "tick" "tick" s_tick f fd) (T : Txt K mg A) (h_are_ticks : Has P w K mg base 2 "are_ticks" ["number"] spTicks) : FnOk P w K mg base CX0 3 f fd ["desk", "call"] (spOn A OkTick) := by
  refine F.ok sc_tick (fun vs H Q E h => ?_) (fun cdv Ar outer sh H vs Q E hr h => ?_)
  · obtain ⟨I, R, d, c, s, raw, qq, rfl, _⟩ := h
    rfl
  · obtain ⟨I, R, d, c, s, raw, qq, rfl, cx, hdesk, wf, ⟨n, xs, rows, dx, a, r, e, hc, ha, hrows⟩, ⟨n', i⟩, q⟩ := h
    cases e
    obtain ⟨dd, pl, rl, wl, t, cs, hd, wd, hpl, hrl, hwl, ww, hcs, htab⟩ := id hdesk
    refine ⟨_, (pss_cons (ps_set (i := 2) sc_tick.nd rfl (Or.inl rfl) (pe_ix ix_list (pe_fld (pv 1) rfl) pe_int (fun _ _ => rfl)))
      (pss_cons (ps_if (PW.pt (pw_or (pt_not (pt_val (pe_hca h_are_ticks hr (by decide) rfl (pa_cons (pv 2) pa_nil)))) (pw_or1 (pt_cmpR op_gt (pe_op op_add (pe_fld (pv 0) rfl) (pv 2)) (pe_gi T.c_MOST_NOW) (nomark _))))) (pss_one (ps_ret (pe_lst (pa_cons (pe_gi T.c_NOT_AS_TOLD) pa_nil)))) pss_nil)
      (pss_cons (ps_fldaug (pv 0) (pv 2) in_add)
      (pss_one (ps_ret (pe_lst (pa_cons (pe_fld (pv 0) rfl) pa_nil))))))), ?_⟩
    refine ⟨_, rfl, c, _, dx, _, _, rfl, cx.sI _ _ hc, T.cl_Call, T.na_Call_numbers, lk_Call_numbers, a, _, _, _, rfl, rfl, SqL.of (cx.sI _ _ ha), atI_nat (j := 0) rfl, ?_⟩
    have eo : Sj52.on s (.tick i) = if (!Sj52.isIn 1 100000 i || decide (2 ^ 30 < Sj52.nat s.table.now + i)) = true then (s, Sj52.just (-2)) else ({ s with table := { s.table with now := s.table.now + i.toNat } }, Sj52.just (Sj52.nat (s.table.now + i.toNat))) := rfl
    have bad : (!Sj52.isIn 1 100000 i || decide (2 ^ 30 < Sj52.nat s.table.now + i)) = true → ∀ σ, tRet (tLst (tCons (tC (.int (-2))) tNil)) { nx := fun _ H' => Q .non H', rt := Q } σ H := fun hb σ => by
      refine ⟨(by show 1 ≤ sizeLine; decide), fun p hp => ?_⟩
      rw [eo, if_pos hb] at q
      have s1 := same_upd (o := .lst [.int (-2)]) hp
      exact q _ I p (cx.grow s1) (Same.refl _) (hdesk.grow Gr.refl s1) upd_same (cx.sR.free hp)
    refine ⟨_, rfl, i, rfl, _, rfl, ?_⟩
    cases c1 : Sj52.isIn 1 100000 i with
    | false => exact iteT (iteT (bad (by rw [c1]; rfl) _))
    | true =>
      obtain ⟨i1, i2⟩ := isIn_nat c1 (by decide)
      refine iteF ⟨_, rfl, d, _, dd, _, _, rfl, hd, T.cl_Desk, T.na_Desk_now, lk_Desk_now, _, rfl, _, _, rfl, rfl, _, _, rfl, rfl, _, rfl, ?_⟩
      by_cases c2 : (1073741824 : Int) < (s.table.now : Int) + i
      · rw [decide_eq_true c2]
        refine iteT (bad ?_ _)
        rw [c1]
        exact decide_eq_true c2
      · rw [decide_eq_false c2]
        have cb : (!Sj52.isIn 1 100000 i || decide (2 ^ 30 < Sj52.nat s.table.now + i)) = false := by
          rw [c1]
          exact decide_eq_false c2
        rw [eo, cb] at q
        refine iteF ⟨_, rfl, d, _, dd, _, _, rfl, hd, T.cl_Desk, T.na_Desk_now, lk_Desk_now, _, rfl, _, _, rfl, rfl, dd, _, hd, (by show 5 < 1000; decide), ?_⟩
        rw [put_Desk_now]
        have en : (s.table.now : Int) + i = ((s.table.now + i.toNat : Nat) : Int) := by omega
        rw [en]
        refine ⟨_, rfl, d, _, dd, _, _, rfl, upd_same, T.cl_Desk, T.na_Desk_now, lk_Desk_now, (by show 1 ≤ sizeLine; decide), fun p hp => ?_⟩
        have cx1 := cx.set (o := .ins A.Desk dd (f_Desk (.ref pl) (.ref rl) (.ref wl) (.ref t) (.int ((s.table.now + i.toNat : Nat) : Int)))) wd
        have nwd : wl ≠ d := (ne_of hd hwl (by intro y; cases y)).symm
        have D2 : DeskAt A I R (upd H d (.ins A.Desk dd (f_Desk (.ref pl) (.ref rl) (.ref wl) (.ref t) (.int ((s.table.now + i.toNat : Nat) : Int))))) d { s with table := { s.table with now := s.table.now + i.toNat } } := by
          refine ⟨dd, pl, rl, wl, t, cs, upd_same, wd, hpl, hrl, Eq.trans (upd_ne nwd) hwl, ww, hcs, TabAt.move Gr.refl (fun b o e hb => ⟨?_, hb⟩) htab⟩
          rw [upd_ne (none_upd (none_upd hb).2).1]
          exact e
        have s1 := same_upd (o := .lst [.int ((s.table.now + i.toNat : Nat) : Int)]) hp
        exact q _ I p (cx1.grow s1) (Same.refl _) (D2.grow Gr.refl s1) upd_same (cx1.sR.free hp)
theorem ok_age {f : Addr} {fd : FuncData} (F : Fun K "age" "age" s_age f fd) (T : Txt K mg A) (h_are_ticks : Has P w K mg base 2 "are_ticks" ["number"] spTicks) (hm_Table_let_old_go : HasM P w K mg base 2 A.Table "let_old_go" ["self", "ticks", "now"] (spOld A)) :
    FnOk P w K mg base CX0 3 f fd ["desk", "call"] (spOn A OkAge) := by
  refine F.ok sc_age (fun vs H Q E h => ?_) (fun cdv Ar outer sh H vs Q E hr h => ?_)
  · obtain ⟨I, R, d, c, s, raw, qq, rfl, _⟩ := h
    rfl
  · obtain ⟨I, R, d, c, s, raw, qq, rfl, cx, hdesk, wf, ⟨n, xs, rows, dx, a, r, e, hc, ha, hrows⟩, ⟨n', i⟩, q⟩ := h
    cases e
    obtain ⟨dd, pl, rl, wl, t, cs, hd, wd, hpl, hrl, hwl, ww, hcs, htab⟩ := id hdesk
    refine ⟨_, (pss_cons (ps_set (i := 2) sc_age.nd rfl (Or.inl rfl) (pe_ix ix_list (pe_fld (pv 1) rfl) pe_int (fun _ _ => rfl)))
      (pss_cons (ps_if (pt_not (pt_val (pe_hca h_are_ticks hr (by decide) rfl (pa_cons (pv 2) pa_nil)))) (pss_one (ps_ret (pe_lst (pa_cons (pe_gi T.c_NOT_AS_TOLD) pa_nil)))) pss_nil)
      (pss_one (ps_ret (pe_lst (pa_cons (pe_hme hm_Table_let_old_go hr (by decide) (pe_fld (pv 0) rfl) (pa_cons (pv 2) (pa_cons (pe_fld (pv 0) rfl) pa_nil))) pa_nil)))))), ?_⟩
    refine ⟨_, rfl, c, _, dx, _, _, rfl, cx.sI _ _ hc, T.cl_Call, T.na_Call_numbers, lk_Call_numbers, a, _, _, _, rfl, rfl, SqL.of (cx.sI _ _ ha), atI_nat (j := 0) rfl, ?_⟩
    have eo : Sj52.on s (.age i) = if (!Sj52.isIn 1 100000 i) = true then (s, Sj52.just (-2)) else ({ s with table := s.table.aged i.toNat }, Sj52.just (Sj52.nat s.table.flows.length - Sj52.nat (s.table.aged i.toNat).flows.length)) := rfl
    rw [eo] at q
    refine ⟨_, rfl, i, rfl, _, rfl, ?_⟩
    cases c1 : Sj52.isIn 1 100000 i with
    | false =>
      refine iteT ⟨(by show 1 ≤ sizeLine; decide), fun p hp => ?_⟩
      rw [c1] at q
      have s1 := same_upd (o := .lst [.int (-2)]) hp
      exact q _ I p (cx.grow s1) (Same.refl _) (hdesk.grow Gr.refl s1) upd_same (cx.sR.free hp)
    | true =>
      rw [c1] at q
      obtain ⟨i1, i2⟩ := isIn_nat c1 (by decide)
      have ndw : d ≠ wl := ne_of hd hwl (by intro y; cases y)
      obtain ⟨dt, rt, xt, k0, k1, k2, htt, _⟩ := id htab
      refine iteF ⟨_, rfl, d, _, dd, _, _, rfl, hd, T.cl_Desk, T.na_Desk_table, lk_Desk_table, t, dt, _, rfl, htt, lkm_Table_let_old_go, _, rfl, _, rfl, d, _, dd, _, _, rfl, hd, T.cl_Desk, T.na_Desk_now, lk_Desk_now,
        I, upd (upd R d _) wl _, t, i.toNat, s.table.now, s.table.seed, s.table.rows, s.table.counts, ?_, ctx_in cx wd ww hd hwl ndw, htab.others dom2, by rw [wf.tab.rows]; exact Nat.le_refl _, fun r hr => (wf.tab.row r hr).few, fun H3 I3 cx3 sI3 ht3 => ?_⟩
      · rw [i1]
      · obtain ⟨wd3, ww3⟩ := own_in cx3 wd ww ndw
        obtain ⟨cx4, hd4, hwl4⟩ := ctx_out cx3 wd3 ww3 ndw
        refine ⟨(by show 1 ≤ sizeLine; decide), fun p hp => ?_⟩
        have s1 := same_upd (o := .lst [.int ((s.table.rows.flatten.length : Int) - ((s.table.rows.map (List.filter (young s.table.now i.toNat))).flatten.length : Int))]) hp
        refine q _ I3 p (cx4.grow s1) sI3 (DeskAt.grow Gr.refl s1 ⟨dd, pl, rl, wl, t, cs, hd4, wd3, sI3 _ _ hpl, hrl.same sI3, hwl4, ww3, pr_mono (fun _ _ y => ⟨y.1.same sI3, y.2⟩) hcs, ht3.others dom2⟩) upd_same (cx4.sR.free hp)
end
end Fr

namespace Fr
open PySem PySem.Spec PyProof.Rows L2
/-! ### F9c. flow, flows, rule, counts -/
abbrev s_tell_flow : Stmt := (top 67)
theorem sc_tell_flow : FnScope ["desk", "call", "number", "flows", "flow"] ["desk", "call"] (defScope s_tell_flow) := ⟨rfl, rfl, rfl, by decide +kernel, rfl, by decide +kernel, by decide +kernel⟩
abbrev s_tell_flows : Stmt := (top 68)
theorem sc_tell_flows : FnScope ["desk", "call", "of_rows", "row"] ["desk", "call"] (defScope s_tell_flows) := ⟨rfl, rfl, rfl, by decide +kernel, rfl, by decide +kernel, by decide +kernel⟩
abbrev s_tell_rule : Stmt := (top 69)
theorem sc_tell_rule : FnScope ["desk", "call", "place", "rule"] ["desk", "call"] (defScope s_tell_rule) := ⟨rfl, rfl, rfl, by decide +kernel, rfl, by decide +kernel, by decide +kernel⟩
abbrev s_tell_counts : Stmt := (top 70)
theorem sc_tell_counts : FnScope ["desk", "call", "table", "of_frames"] ["desk", "call"] (defScope s_tell_counts) := ⟨rfl, rfl, rfl, by decide +kernel, rfl, by decide +kernel, by decide +kernel⟩
theorem zs_ints (l : List Nat) : zs (Sj52.ints l) = ns l := by
  show List.map V.int (List.map Sj52.nat l) = _
  rw [List.map_map]
  rfl
theorem tells_cat {z : Int} {l m : List Int} : zs (z :: (l ++ m)) = ([V.int z] ++ zs l) ++ zs m := by
  show V.int z :: List.map V.int (l ++ m) = _
  rw [List.map_append]
  rfl
theorem sum_lens : ∀ l : List (List Sj52.Flow), (l.map fun r => Sj52.nat r.length).sum = Sj52.nat l.flatten.length
  | [] => rfl
  | a :: l => by
    rw [List.map_cons, List.sum_cons, sum_lens l, List.flatten_cons, List.length_append]
    show ((a.length : Nat) : Int) + ((l.flatten.length : Nat) : Int) = ((a.length + l.flatten.length : Nat) : Int)
    omega
section
variable {P : Program} {w : World} {K : PySem.W.Frag} {mg : Str → Option Value} {base : Heap} {A : As}
theorem ok_tell_flow {f : Addr} {fd : FuncData} (F : Fun K "tell_flow" "tell_flow" s_tell_flow f fd) (T : Txt K mg A) (h_is_within : Has P w K mg base 1 "is_within" ["number", "lowest", "highest"] spWithin)
    (hm_Table_in_order : HasM P w K mg base 1 A.Table "in_order" ["self"] (spInOrder A)) : FnOk P w K mg base CX0 2 f fd ["desk", "call"] (spOn A OkFlow) := by
  refine F.ok sc_tell_flow (fun vs H Q E h => ?_) (fun cdv Ar outer sh H vs Q E hr h => ?_)
  · obtain ⟨I, R, d, c, s, raw, qq, rfl, _⟩ := h
    rfl
  · obtain ⟨I, R, d, c, s, raw, qq, rfl, cx, hdesk, wf, ⟨n, xs, rows, dx, a, r, e, hc, ha, hrows⟩, ⟨n', i⟩, q⟩ := h
    cases e
    obtain ⟨dd, pl, rl, wl, t, cs, hd, wd, hpl, hrl, hwl, ww, hcs, htab⟩ := id hdesk
    refine ⟨_, (pss_cons (ps_set (i := 2) sc_tell_flow.nd rfl (Or.inl rfl) (pe_ix ix_list (pe_fld (pv 1) rfl) pe_int (fun _ _ => rfl)))
      (pss_cons (ps_if (pt_not (pt_val (pe_hca h_is_within hr (by decide) rfl (pa_cons (pv 2) (pa_cons pe_int (pa_cons (pe_op op_sub (pe_gi T.c_MOST_FLOWS) pe_int) pa_nil)))))) (pss_one (ps_ret (pe_lst (pa_cons (pe_gi T.c_NOT_AS_TOLD) pa_nil)))) pss_nil)
      (pss_cons (ps_set (i := 3) sc_tell_flow.nd rfl (Or.inl rfl) (pe_hme0 hm_Table_in_order hr (by decide) (pe_fld (pv 0) rfl)))
      (pss_cons (ps_if (pt_cmpR op_ge (pv 2) (pe_callB call_len_seq (by rfl) T.len PySem.boot_len (pa_cons (pv 3) pa_nil)) (nomark _)) (pss_one (ps_ret (pe_lst (pa_cons (pe_gi T.c_NONE_THERE) pa_nil)))) pss_nil)
      (pss_cons (ps_set (i := 4) sc_tell_flow.nd rfl (Or.inl rfl) (pe_ix ix_list (pv 3) (pv 2) (fun _ _ => rfl)))
      (pss_one (ps_ret (pe_op op_cat (pe_op op_cat (pe_lst (pa_cons pe_int pa_nil)) (pe_fld (pv 4) rfl)) (pe_lst (pa_cons (pe_fld (pv 4) rfl) (pa_cons (pe_fld (pv 4) rfl) (pa_cons (pe_fld (pv 4) rfl) (pa_cons (pe_fld (pv 4) rfl) pa_nil))))))))))))), ?_⟩
    refine ⟨_, rfl, c, _, dx, _, _, rfl, cx.sI _ _ hc, T.cl_Call, T.na_Call_numbers, lk_Call_numbers, a, _, _, _, rfl, rfl, SqL.of (cx.sI _ _ ha), atI_nat (j := 0) rfl, ?_⟩
    have eo : Sj52.on s (.flow i) = if (!Sj52.isIn 0 63 i) = true then (s, Sj52.just (-2)) else (match s.table.flows[i.toNat]? with
      | none => (s, Sj52.just (-6))
      | some f => (s, ⟨0, Sj52.told f⟩)) := rfl
    rw [eo] at q
    refine ⟨_, rfl, _, _, rfl, rfl, i, 0, 63, rfl, _, rfl, ?_⟩
    cases c1 : Sj52.isIn 0 63 i with
    | false =>
      refine iteT ⟨(by show 1 ≤ sizeLine; decide), fun p hp => ?_⟩
      rw [c1] at q
      have s1 := same_upd (o := .lst [.int (-2)]) hp
      exact q _ I p (cx.grow s1) (Same.refl _) (hdesk.grow Gr.refl s1) upd_same (cx.sR.free hp)
    | true =>
      rw [c1] at q
      obtain ⟨m, rfl⟩ := Int.eq_ofNat_of_zero_le (isIn_iff.mp c1).1
      rw [Int.toNat_natCast] at q
      obtain ⟨dt, rt, xt, k0, k1, k2, htt, hcn, wt, hrt, ok⟩ := id htab
      have hfl := pr_flat (F := fun p f => FlowAt A I H p f ∧ Own I (R2 R d wl) p) (fun _ _ z => z.fls) ok.pr
      have lfl := pr_len hfl
      have few : s.table.rows.flatten.length ≤ 64 := by
        have h1 := flat_few (n := 4) (l := s.table.rows) fun r hr => (wf.tab.row r hr).few
        have h2 := wf.tab.rows
        omega
      refine iteF ⟨_, rfl, d, _, dd, _, _, rfl, hd, T.cl_Desk, T.na_Desk_table, lk_Desk_table, t, dt, _, rfl, htt, lkm_Table_in_order, t, dt, rt, _, _, _, _, xt, rfl, htt, cx.sI _ _ hrt, fun x hx => ?_, by omega, fun H1 p1 s1 _ hp1 => ?_⟩
      · obtain ⟨fl, _, z⟩ := pr_mem ok.pr x hx
        exact z.at_
      have cx1 := cx.grow s1
      have hdesk1 := hdesk.grow (Gr.refl (I := I)) s1
      refine ⟨_, rfl, _, rfl, p1, _, rfl, .inl (SqL.of hp1), _, _, rfl, rfl, _, rfl, ?_⟩
      rw [List.length_map, lfl]
      by_cases c2 : s.table.rows.flatten.length ≤ m
      · rw [decide_eq_true (show ((s.table.rows.flatten.length : Nat) : Int) ≤ (m : Int) by omega)]
        have e1 : s.table.flows[m]? = none := List.getElem?_eq_none c2
        rw [e1] at q
        refine iteT ⟨(by show 1 ≤ sizeLine; decide), fun p hp => ?_⟩
        have s2 := same_upd (o := .lst [.int (-6)]) hp
        exact q _ I p (cx1.grow s2) (Same.refl _) (hdesk1.grow Gr.refl s2) upd_same (cx1.sR.free hp)
      · rw [decide_eq_false (show ¬ ((s.table.rows.flatten.length : Nat) : Int) ≤ (m : Int) by omega)]
        obtain ⟨fp, hfp⟩ : ∃ fp, (xt.map (·.2)).flatten[m]? = some fp := ⟨_, List.getElem?_eq_getElem (by omega)⟩
        obtain ⟨fw, hfw, ⟨dp, kp, hp, hkp⟩, _⟩ := pr_get hfl hfp
        have e1 : s.table.flows[m]? = some fw := hfw
        rw [e1] at q
        have hv : ((xt.map (·.2)).flatten.map V.ref)[m]? = some (V.ref fp) := by rw [List.getElem?_map, hfp]; rfl
        have key16 : fw.key.length = 16 := by
          obtain ⟨r0, hr0, hm⟩ := List.mem_flatten.mp (List.mem_of_getElem? hfw)
          exact (wf.tab.row r0 hr0).len fw hm
        have lk : (ns fw.key).length = 16 := by rw [len_ns]; exact key16
        refine iteF ⟨_, rfl, _, rfl, p1, _, _, _, rfl, rfl, SqL.of hp1, atI_nat hv, ?_⟩
        refine ⟨(by show 1 ≤ sizeLine; decide), fun q1 hq1 => ?_⟩
        have s2 := s1.trans (same_upd (o := .lst [.int 0]) hq1)
        have h1 : upd H1 q1 (.lst [.int 0]) q1 = _ := upd_same
        generalize upd H1 q1 (.lst [.int 0]) = H2 at s2 h1 ⊢
        refine ⟨_, rfl, fp, _, dp, _, _, rfl, s2 _ _ hp, T.cl_Flow, T.na_Flow_key, lk_Flow_key, q1, kp, _, _, rfl, rfl, h1, s2 _ _ (cx.sI _ _ hkp), ?_, fun q2 hq2 => ?_⟩
        · rw [lk]
          decide
        have s3 := s2.trans (same_upd (o := .lst ([V.int 0] ++ ns fw.key)) hq2)
        have h2 : upd H2 q2 (.lst ([V.int 0] ++ ns fw.key)) q2 = _ := upd_same
        generalize upd H2 q2 (.lst ([V.int 0] ++ ns fw.key)) = H3 at s3 h2 ⊢
        have hp3 := s3 _ _ hp
        refine ⟨_, rfl, fp, _, dp, _, _, rfl, hp3, T.cl_Flow, T.na_Flow_deed, lk_Flow_deed, _, rfl, fp, _, dp, _, _, rfl, hp3, T.cl_Flow, T.na_Flow_frames, lk_Flow_frames, _, rfl, fp, _, dp, _, _, rfl, hp3, T.cl_Flow, T.na_Flow_octets, lk_Flow_octets, _, rfl, fp, _, dp, _, _, rfl, hp3, T.cl_Flow, T.na_Flow_seen, lk_Flow_seen,
          (by show 4 ≤ sizeLine; decide), fun q3 hq3 => ?_⟩
        have sx := same_upd (o := .lst [.int (fw.deed : Int), .int (fw.frames : Int), .int (fw.bytes : Int), .int (fw.seen : Int)]) hq3
        have s4 := s3.trans sx
        have h3 := sx _ _ h2
        have h4 : upd H3 q3 (.lst [.int (fw.deed : Int), .int (fw.frames : Int), .int (fw.bytes : Int), .int (fw.seen : Int)]) q3 = _ := upd_same
        generalize upd H3 q3 (.lst [.int (fw.deed : Int), .int (fw.frames : Int), .int (fw.bytes : Int), .int (fw.seen : Int)]) = H4 at s4 h3 h4 ⊢
        refine ⟨q2, q3, _, _, rfl, rfl, h3, h4, ?_, fun q4 hq4 => ?_⟩
        · rw [List.length_append, lk]
          show 1 + 16 + 4 ≤ sizeLine
          decide
        have s5 := s4.trans (same_upd (o := .lst (([V.int 0] ++ ns fw.key) ++ [.int (fw.deed : Int), .int (fw.frames : Int), .int (fw.bytes : Int), .int (fw.seen : Int)])) hq4)
        refine q _ I q4 (cx.grow s5) (Same.refl _) (hdesk.grow Gr.refl s5) ?_ ((cx.grow s4).sR.free hq4)
        rw [upd_same]
        show _ = some (HO.lst (zs (0 :: (Sj52.ints fw.key ++ [Sj52.nat fw.deed, Sj52.nat fw.frames, Sj52.nat fw.bytes, Sj52.nat fw.seen]))))
        rw [tells_cat, zs_ints]
        rfl
theorem ok_tell_flows {f : Addr} {fd : FuncData} (F : Fun K "tell_flows" "tell_flows" s_tell_flows f fd) (T : Txt K mg A) : FnOk P w K mg base CX0 1 f fd ["desk", "call"] (spOn A OkFlows) := by
  refine F.ok sc_tell_flows (fun vs H Q E h => ?_) (fun cdv Ar outer sh H vs Q E hr h => ?_)
  · obtain ⟨I, R, d, c, s, raw, qq, rfl, _⟩ := h
    rfl
  · obtain ⟨I, R, d, c, s, raw, qq, rfl, cx, hdesk, wf, hcall, ⟨n'⟩, q⟩ := h
    obtain ⟨dd, pl, rl, wl, t, cs, hd, wd, hpl, hrl, hwl, ww, hcs, htab⟩ := id hdesk
    obtain ⟨dt, rt, xt, k0, k1, k2, htt, hcn, wt, hrt, ok⟩ := id htab
    refine ⟨_, (pss_cons (ps_setLc (i := 2) (own := [("row", 3)]) (g := gName 3) (tt := tYes) (by rfl) sc_tell_flows.nd rfl rfl (sw_true rfl rfl rfl (by decide +kernel)) (pi_list (pe_fld (pe_fld (pv 0) rfl) rfl)) (blkOk_by (own := [("row", 3)]) (N := ["desk", "call", "of_rows", "row"]) (sc := defScope s_tell_flows) (by decide +kernel)) (fun _ _ _ _ _ => (pg_name (i := 3) sc_tell_flows.nd rfl (Or.inl rfl))) (fun _ _ _ _ _ => pts_nil) (fun _ _ _ _ _ => (pe_callB (call_lenK (K := K) rfl) (by rfl) T.len PySem.boot_len (pa_cons (pv 3) pa_nil))))
      (pss_one (ps_ret (pe_op op_cat (pe_lst (pa_cons (pe_callB (cr_sum rfl) (by rfl) T.sum (by decide +kernel) (pa_cons (pv 2) pa_nil)) pa_nil)) (pv 2))))), ?_⟩
    have eo : Sj52.on s .flows = (s, ⟨Sj52.nat s.table.flows.length, s.table.rows.map fun r => Sj52.nat r.length⟩) := rfl
    rw [eo] at q
    have h16 := wf.tab.rows
    have lxt := pr_len ok.pr
    refine ⟨_, rfl, d, _, dd, _, _, rfl, hd, T.cl_Desk, T.na_Desk_table, lk_Desk_table, t, _, dt, _, _, rfl, htt, T.cl_Table, T.na_Table_rows, lk_Table_rows, rt, rfl, ⟨_, SqL.of (cx.sI _ _ hrt)⟩,
      fun D hD => lc_list (K := K) (a := rt) (xs := (xt.map (·.1)).map V.ref) (fun i H' => Same H H' ∧ H' D = some (.lst (zs ((s.table.rows.take i).map fun r => Sj52.nat r.length)))) ⟨same_upd hD, upd_same⟩ (fun i H' _ ⟨s7, _⟩ => SqL.of (s7 _ _ (cx.sI _ _ hrt))) ?_ ?_⟩
    · rintro i y H1 hi ⟨s1, hD1⟩
      obtain ⟨r, hri, rfl⟩ := get_ref hi
      obtain ⟨ps, hxi⟩ : ∃ ps, xt[i]? = some (r, ps) := by
        rw [List.getElem?_map] at hri
        cases e : xt[i]? with
        | none => rw [e] at hri; cases hri
        | some x =>
          rw [e] at hri
          have e2 : x.1 = r := Option.some.inj hri
          exact ⟨x.2, by rw [← e2]⟩
      obtain ⟨fl, hfl, hrow⟩ := ok.row hxi
      have lps : ps.length = fl.length := pr_len hrow.fls
      refine ⟨rfl, yes_if ⟨_, rfl, r, _, rfl, .inl (SqL.of (s1 _ _ hrow.at_)), _, hD1, ?_, same_into s1 hD, ?_⟩⟩
      · rw [len_zs, List.length_map, List.length_take]
        exact Nat.lt_of_le_of_lt (show _ ≤ 16 by omega) (by decide)
      · rw [upd_same, take_more hfl, List.map_append, List.length_map, lps]
        show _ = some (HO.lst (zs (_ ++ [_])))
        rw [zs_more]
        rfl
    · rintro H1 ⟨s1, hD1⟩
      rw [List.length_map, List.length_map, lxt, List.take_length] at hD1
      refine ⟨_, rfl, D, _, rfl, SqL.of hD1, (by show 1 ≤ sizeLine; decide), fun q1 hq1 => ?_⟩
      rw [sum_lens]
      have sx := same_upd (o := .lst [.int (Sj52.nat s.table.rows.flatten.length)]) hq1
      have h1 : upd H1 q1 (.lst [.int (Sj52.nat s.table.rows.flatten.length)]) q1 = _ := upd_same
      have h2 := sx _ _ hD1
      have s2 := s1.trans sx
      generalize upd H1 q1 (.lst [.int (Sj52.nat s.table.rows.flatten.length)]) = H2 at h1 h2 s2 ⊢
      refine ⟨_, rfl, q1, D, _, _, rfl, rfl, h1, h2, ?_, fun q2 hq2 => ?_⟩
      · rw [len_zs, List.length_map, h16]
        show 1 + 16 ≤ sizeLine
        decide
      have s3 := s2.trans (same_upd (o := .lst ([V.int (Sj52.nat s.table.rows.flatten.length)] ++ zs (s.table.rows.map fun r => Sj52.nat r.length))) hq2)
      exact q _ I q2 (cx.grow s3) (Same.refl _) (hdesk.grow Gr.refl s3) upd_same ((cx.grow s2).sR.free hq2)
theorem ok_tell_rule {f : Addr} {fd : FuncData} (F : Fun K "tell_rule" "tell_rule" s_tell_rule f fd) (T : Txt K mg A) (h_is_place : Has P w K mg base 2 "is_place" ["number"] spPlace) : FnOk P w K mg base CX0 3 f fd ["desk", "call"] (spOn A OkRule) := by
  refine F.ok sc_tell_rule (fun vs H Q E h => ?_) (fun cdv Ar outer sh H vs Q E hr h => ?_)
  · obtain ⟨I, R, d, c, s, raw, qq, rfl, _⟩ := h
    rfl
  · obtain ⟨I, R, d, c, s, raw, qq, rfl, cx, hdesk, wf, ⟨n, xs, rows, dx, a, r, e, hc, ha, hrows⟩, ⟨n', i⟩, q⟩ := h
    cases e
    obtain ⟨dd, pl, rl, wl, t, cs, hd, wd, hpl, ⟨ps, hrl, hps⟩, hwl, ww, hcs, htab⟩ := id hdesk
    refine ⟨_, (pss_cons (ps_set (i := 2) sc_tell_rule.nd rfl (Or.inl rfl) (pe_ix ix_list (pe_fld (pv 1) rfl) pe_int (fun _ _ => rfl)))
      (pss_cons (ps_if (pt_not (pt_val (pe_hca h_is_place hr (by decide) rfl (pa_cons (pv 2) pa_nil)))) (pss_one (ps_ret (pe_lst (pa_cons (pe_gi T.c_NOT_AS_TOLD) pa_nil)))) pss_nil)
      (pss_cons (ps_if (pt_cmpR op_ge (pv 2) (pe_callB call_len_seq (by rfl) T.len PySem.boot_len (pa_cons (pe_fld (pv 0) rfl) pa_nil)) (nomark _)) (pss_one (ps_ret (pe_lst (pa_cons (pe_gi T.c_NONE_THERE) pa_nil)))) pss_nil)
      (pss_cons (ps_set (i := 3) sc_tell_rule.nd rfl (Or.inl rfl) (pe_ix ix_list (pe_fld (pv 0) rfl) (pv 2) (fun _ _ => rfl)))
      (pss_one (ps_ret (pe_op op_cat (pe_op op_cat (pe_op op_cat (pe_lst (pa_cons pe_int pa_nil)) (pe_fld (pv 3) rfl)) (pe_fld (pv 3) rfl)) (pe_lst (pa_cons (pe_fld (pv 3) rfl) (pa_cons (pe_fld (pv 3) rfl) (pa_cons (pe_fld (pv 3) rfl) (pa_cons (pe_fld (pv 3) rfl) pa_nil)))))))))))), ?_⟩
    refine ⟨_, rfl, c, _, dx, _, _, rfl, cx.sI _ _ hc, T.cl_Call, T.na_Call_numbers, lk_Call_numbers, a, _, _, _, rfl, rfl, SqL.of (cx.sI _ _ ha), atI_nat (j := 0) rfl, ?_⟩
    have eo : Sj52.on s (.rule i) = if (!Sj52.isIn 0 31 i) = true then (s, Sj52.just (-2)) else (match s.table.rules[i.toNat]? with
      | none => (s, Sj52.just (-6))
      | some r => (s, ⟨0, Sj52.ints (r.mask ++ r.value ++ [r.word, r.lo, r.hi, r.deed])⟩)) := rfl
    rw [eo] at q
    refine ⟨_, rfl, i, rfl, _, rfl, ?_⟩
    cases c1 : Sj52.isIn 0 31 i with
    | false =>
      refine iteT ⟨(by show 1 ≤ sizeLine; decide), fun p hp => ?_⟩
      rw [c1] at q
      have s1 := same_upd (o := .lst [.int (-2)]) hp
      exact q _ I p (cx.grow s1) (Same.refl _) (hdesk.grow Gr.refl s1) upd_same (cx.sR.free hp)
    | true =>
      rw [c1] at q
      obtain ⟨m, rfl⟩ := Int.eq_ofNat_of_zero_le (isIn_iff.mp c1).1
      rw [Int.toNat_natCast] at q
      have lps := pr_len hps
      have hrl1 := cx.sI _ _ hrl
      refine iteF ⟨_, rfl, _, rfl, d, _, dd, _, _, rfl, hd, T.cl_Desk, T.na_Desk_rules, lk_Desk_rules, rl, _, rfl, .inl (SqL.of hrl1), _, _, rfl, rfl, _, rfl, ?_⟩
      rw [List.length_map, lps]
      by_cases c2 : s.table.rules.length ≤ m
      · rw [decide_eq_true (show ((s.table.rules.length : Nat) : Int) ≤ (m : Int) by omega)]
        have e1 : s.table.rules[m]? = none := List.getElem?_eq_none c2
        rw [e1] at q
        refine iteT ⟨(by show 1 ≤ sizeLine; decide), fun p hp => ?_⟩
        have s2 := same_upd (o := .lst [.int (-6)]) hp
        exact q _ I p (cx.grow s2) (Same.refl _) (hdesk.grow Gr.refl s2) upd_same (cx.sR.free hp)
      · rw [decide_eq_false (show ¬ ((s.table.rules.length : Nat) : Int) ≤ (m : Int) by omega)]
        obtain ⟨rp, hrp⟩ : ∃ rp, ps[m]? = some rp := ⟨_, List.getElem?_eq_getElem (by omega)⟩
        obtain ⟨ru, hru, ⟨dp, am, av, hp, hm, hv⟩, lm, _, lv⟩ := pr_get hps hrp
        rw [hru] at q
        have hvv : (ps.map V.ref)[m]? = some (V.ref rp) := by rw [List.getElem?_map, hrp]; rfl
        have lm2 : (ns ru.mask).length = 16 := by rw [len_ns]; exact lm
        have lv2 : (ns ru.value).length = 16 := by rw [len_ns]; exact lv
        refine iteF ⟨_, rfl, d, _, dd, _, _, rfl, hd, T.cl_Desk, T.na_Desk_rules, lk_Desk_rules, _, rfl, rl, _, _, _, rfl, rfl, SqL.of hrl1, atI_nat hvv, ?_⟩
        refine ⟨(by show 1 ≤ sizeLine; decide), fun q1 hq1 => ?_⟩
        have s2 := same_upd (o := .lst [.int 0]) hq1
        have h1 : upd H q1 (.lst [.int 0]) q1 = _ := upd_same
        generalize upd H q1 (.lst [.int 0]) = H2 at s2 h1 ⊢
        have hp2 := s2 _ _ (cx.sI _ _ hp)
        refine ⟨_, rfl, rp, _, dp, _, _, rfl, hp2, T.cl_Rule, T.na_Rule_mask, lk_Rule_mask, q1, am, _, _, rfl, rfl, h1, s2 _ _ (cx.sI _ _ hm), ?_, fun q2 hq2 => ?_⟩
        · rw [lm2]
          decide
        have s3 := s2.trans (same_upd (o := .lst ([V.int 0] ++ ns ru.mask)) hq2)
        have h2 : upd H2 q2 (.lst ([V.int 0] ++ ns ru.mask)) q2 = _ := upd_same
        generalize upd H2 q2 (.lst ([V.int 0] ++ ns ru.mask)) = H3 at s3 h2 ⊢
        have hp3 := s3 _ _ (cx.sI _ _ hp)
        refine ⟨_, rfl, rp, _, dp, _, _, rfl, hp3, T.cl_Rule, T.na_Rule_value, lk_Rule_value, q2, av, _, _, rfl, rfl, h2, s3 _ _ (cx.sI _ _ hv), ?_, fun q3 hq3 => ?_⟩
        · rw [List.length_append, lm2, lv2]
          decide
        have s4 := s3.trans (same_upd (o := .lst (([V.int 0] ++ ns ru.mask) ++ ns ru.value)) hq3)
        have h3 : upd H3 q3 (.lst (([V.int 0] ++ ns ru.mask) ++ ns ru.value)) q3 = _ := upd_same
        generalize upd H3 q3 (.lst (([V.int 0] ++ ns ru.mask) ++ ns ru.value)) = H4 at s4 h3 ⊢
        have hp4 := s4 _ _ (cx.sI _ _ hp)
        refine ⟨_, rfl, rp, _, dp, _, _, rfl, hp4, T.cl_Rule, T.na_Rule_word, lk_Rule_word, _, rfl, rp, _, dp, _, _, rfl, hp4, T.cl_Rule, T.na_Rule_lo, lk_Rule_lo, _, rfl, rp, _, dp, _, _, rfl, hp4, T.cl_Rule, T.na_Rule_hi, lk_Rule_hi, _, rfl, rp, _, dp, _, _, rfl, hp4, T.cl_Rule, T.na_Rule_deed, lk_Rule_deed,
          (by show 4 ≤ sizeLine; decide), fun q4 hq4 => ?_⟩
        have sx := same_upd (o := .lst [.int (ru.word : Int), .int (ru.lo : Int), .int (ru.hi : Int), .int (ru.deed : Int)]) hq4
        have s5 := s4.trans sx
        have h4 := sx _ _ h3
        have h5 : upd H4 q4 (.lst [.int (ru.word : Int), .int (ru.lo : Int), .int (ru.hi : Int), .int (ru.deed : Int)]) q4 = _ := upd_same
        generalize upd H4 q4 (.lst [.int (ru.word : Int), .int (ru.lo : Int), .int (ru.hi : Int), .int (ru.deed : Int)]) = H5 at s5 h4 h5 ⊢
        refine ⟨q3, q4, _, _, rfl, rfl, h4, h5, ?_, fun q5 hq5 => ?_⟩
        · rw [List.length_append, List.length_append, lm2, lv2]
          show 1 + 16 + 16 + 4 ≤ sizeLine
          decide
        have s6 := s5.trans (same_upd (o := .lst ((([V.int 0] ++ ns ru.mask) ++ ns ru.value) ++ [.int (ru.word : Int), .int (ru.lo : Int), .int (ru.hi : Int), .int (ru.deed : Int)])) hq5)
        refine q _ I q5 (cx.grow s6) (Same.refl _) (hdesk.grow Gr.refl s6) ?_ ((cx.grow s5).sR.free hq5)
        rw [upd_same]
        show _ = some (HO.lst (V.int 0 :: zs (Sj52.ints (ru.mask ++ ru.value ++ [ru.word, ru.lo, ru.hi, ru.deed]))))
        rw [zs_ints]
        show _ = some (HO.lst (V.int 0 :: List.map _ (ru.mask ++ ru.value ++ [ru.word, ru.lo, ru.hi, ru.deed])))
        rw [List.map_append, List.map_append]
        rfl
theorem ok_tell_counts {f : Addr} {fd : FuncData} (F : Fun K "tell_counts" "tell_counts" s_tell_counts f fd) (T : Txt K mg A) : FnOk P w K mg base CX0 1 f fd ["desk", "call"] (spOn A OkCounts) := by
  refine F.ok sc_tell_counts (fun vs H Q E h => ?_) (fun cdv Ar outer sh H vs Q E hr h => ?_)
  · obtain ⟨I, R, d, c, s, raw, qq, rfl, _⟩ := h
    rfl
  · obtain ⟨I, R, d, c, s, raw, qq, rfl, cx, hdesk, wf, hcall, ⟨n'⟩, q⟩ := h
    obtain ⟨dd, pl, rl, wl, t, cs, hd, wd, hpl, ⟨ps, hrl, hps⟩, hwl, ww, hcs, htab⟩ := id hdesk
    obtain ⟨dt, rt, xt, k0, k1, k2, htt, hcn, wt, hrt, ok⟩ := id htab
    refine ⟨_, (pss_cons (ps_set (i := 2) sc_tell_counts.nd rfl (Or.inl rfl) (pe_fld (pv 0) rfl))
      (pss_cons (ps_set (i := 3) sc_tell_counts.nd rfl (Or.inl rfl) (pe_lst (pa_cons (pe_fld (pv 2) rfl) (pa_cons (pe_fld (pv 2) rfl) (pa_cons (pe_fld (pv 2) rfl) pa_nil)))))
      (pss_one (ps_ret (pe_op op_cat (pe_op op_cat (pe_lst (pa_cons pe_int pa_nil)) (pv 3)) (pe_lst (pa_cons (pe_callB call_len_seq (by rfl) T.len PySem.boot_len (pa_cons (pe_fld (pv 0) rfl) pa_nil)) (pa_cons (pe_callB call_len_seq (by rfl) T.len PySem.boot_len (pa_cons (pe_fld (pv 0) rfl) pa_nil)) (pa_cons (pe_fld (pv 0) rfl) pa_nil))))))))), ?_⟩
    have eo : Sj52.on s .counts = (s, ⟨0, Sj52.ints [k0, k1, k2] ++ [Sj52.nat s.table.rules.length, Sj52.nat s.waits.length, Sj52.nat s.table.now]⟩) := by
      rw [← hcn]
      rfl
    rw [eo] at q
    refine ⟨_, rfl, d, _, dd, _, _, rfl, hd, T.cl_Desk, T.na_Desk_table, lk_Desk_table, ?_⟩
    refine ⟨_, rfl, t, _, dt, _, _, rfl, htt, T.cl_Table, T.na_Table_frames_known, lk_Table_frames_known, _, rfl, t, _, dt, _, _, rfl, htt, T.cl_Table, T.na_Table_frames_learnt, lk_Table_frames_learnt, _, rfl, t, _, dt, _, _, rfl, htt, T.cl_Table, T.na_Table_flows_displaced, lk_Table_flows_displaced, (by show 3 ≤ sizeLine; decide), fun q1 hq1 => ?_⟩
    have s1 := same_upd (o := .lst [.int (k0 : Int), .int (k1 : Int), .int (k2 : Int)]) hq1
    have h1 : upd H q1 (.lst [.int (k0 : Int), .int (k1 : Int), .int (k2 : Int)]) q1 = _ := upd_same
    generalize upd H q1 (.lst [.int (k0 : Int), .int (k1 : Int), .int (k2 : Int)]) = H1 at s1 h1 ⊢
    refine ⟨(by show 1 ≤ sizeLine; decide), fun q2 hq2 => ?_⟩
    have sx := same_upd (o := .lst [.int 0]) hq2
    have h2 : upd H1 q2 (.lst [.int 0]) q2 = _ := upd_same
    have h3 := sx _ _ h1
    have s2 := s1.trans sx
    generalize upd H1 q2 (.lst [.int 0]) = H2 at s2 h2 h3 ⊢
    refine ⟨_, rfl, q2, q1, _, _, rfl, rfl, h2, h3, (by show 4 ≤ sizeLine; decide), fun q3 hq3 => ?_⟩
    have s3 := s2.trans (same_upd (o := .lst ([V.int 0] ++ [.int (k0 : Int), .int (k1 : Int), .int (k2 : Int)])) hq3)
    have h4 : upd H2 q3 (.lst ([V.int 0] ++ [.int (k0 : Int), .int (k1 : Int), .int (k2 : Int)])) q3 = _ := upd_same
    generalize upd H2 q3 (.lst ([V.int 0] ++ [.int (k0 : Int), .int (k1 : Int), .int (k2 : Int)])) = H3 at s3 h4 ⊢
    have hd3 := s3 _ _ hd
    refine ⟨_, rfl, d, _, dd, _, _, rfl, hd3, T.cl_Desk, T.na_Desk_rules, lk_Desk_rules, rl, _, rfl, .inl (SqL.of (s3 _ _ (cx.sI _ _ hrl))), _, rfl, d, _, dd, _, _, rfl, hd3, T.cl_Desk, T.na_Desk_waiting, lk_Desk_waiting, wl, _, rfl, .inl (SqL.of (s3 _ _ hwl)), _, rfl, d, _, dd, _, _, rfl, hd3, T.cl_Desk, T.na_Desk_now, lk_Desk_now,
      (by show 3 ≤ sizeLine; decide), fun q4 hq4 => ?_⟩
    rw [List.length_map, List.length_map, pr_len hps, pr_len hcs]
    have sy := same_upd (o := .lst [.int ((s.table.rules.length : Nat) : Int), .int ((s.waits.length : Nat) : Int), .int (s.table.now : Int)]) hq4
    have h5 := sy _ _ h4
    have h6 : upd H3 q4 (.lst [.int ((s.table.rules.length : Nat) : Int), .int ((s.waits.length : Nat) : Int), .int (s.table.now : Int)]) q4 = _ := upd_same
    have s4 := s3.trans sy
    generalize upd H3 q4 (.lst [.int ((s.table.rules.length : Nat) : Int), .int ((s.waits.length : Nat) : Int), .int (s.table.now : Int)]) = H4 at s4 h5 h6 ⊢
    refine ⟨q3, q4, _, _, rfl, rfl, h5, h6, (by show 7 ≤ sizeLine; decide), fun q5 hq5 => ?_⟩
    have s5 := s4.trans (same_upd (o := .lst (([V.int 0] ++ [.int (k0 : Int), .int (k1 : Int), .int (k2 : Int)]) ++ [.int ((s.table.rules.length : Nat) : Int), .int ((s.waits.length : Nat) : Int), .int (s.table.now : Int)])) hq5)
    exact q _ I q5 (cx.grow s5) (Same.refl _) (hdesk.grow Gr.refl s5) upd_same ((cx.grow s4).sR.free hq5)
end
end Fr

namespace Fr
open PySem PySem.Spec PyProof.Rows L2
/-! ### M2. What is asked of a list of calls -/
inductive GoodC : List (List Int) → Sj52.Call → Prop
  | open_ (x : Int) (l : List Int) (hx : 0 ≤ x ∧ x ≤ 4294967295) (len : l.length = 16) (b : byte l) : GoodC [[1, x], l] (.open_ x l)
  | on (ok : List (List Int) → Sj52.Call → Prop) (n : Int) (xs : List Int) (rows : List (List Int)) (q : Sj52.Call) (g : Goes ok n) (h : ok ((n :: xs) :: rows) q) : GoodC ((n :: xs) :: rows) q
theorem calls_form {shape : Int → Option (Nat × Nat)} : ∀ {f : Nat} {l : List Int} {raw : List (List (List Int))}, PyFlat.calls shape f l = some raw → ∀ c ∈ raw, ∃ p xs rows n k, c = (p :: xs) :: rows ∧ shape p = some (n, k) ∧ xs.length = n ∧ rows.length = k := by
  intro f
  induction f with
  | zero =>
    intro l raw h c hc
    cases l with
    | nil =>
      rw [calls_nil h] at hc
      cases hc
    | cons p r => cases h
  | succ f ih =>
    intro l raw h c hc
    cases l with
    | nil =>
      rw [calls_nil h] at hc
      cases hc
    | cons p r =>
      have h2 : (match PyFlat.call shape (p :: r) with | none => none | some (c, t) => match PyFlat.calls shape f t with | none => none | some cs => some (c :: cs)) = some raw := h
      have h3 : PyFlat.call shape (p :: r) = (match shape p with | none => none | some (n, k) => if r.length < n then none else match PyFlat.rows k (r.drop n) with | none => none | some (xs, t) => some ((p :: r.take n) :: xs, t)) := rfl
      rw [h3] at h2
      cases e1 : shape p with
      | none => rw [e1] at h2; cases h2
      | some nk =>
        obtain ⟨n, k⟩ := nk
        rw [e1] at h2
        dsimp only at h2
        by_cases c1 : r.length < n
        · rw [if_pos c1] at h2
          cases h2
        · rw [if_neg c1] at h2
          cases e2 : PyFlat.rows k (r.drop n) with
          | none => rw [e2] at h2; cases h2
          | some xt =>
            obtain ⟨xs, t⟩ := xt
            rw [e2] at h2
            dsimp only at h2
            cases e3 : PyFlat.calls shape f t with
            | none => rw [e3] at h2; cases h2
            | some cs =>
              rw [e3] at h2
              cases h2
              rcases List.mem_cons.mp hc with rfl | hc
              · exact ⟨p, r.take n, xs, n, k, rfl, e1, by rw [List.length_take]; omega, (rows_tot e2).2.2⟩
              · exact ih e3 c hc
theorem len0 {α : Type} {l : List α} (h : l.length = 0) : l = [] := List.length_eq_zero_iff.mp h
theorem len1 {α : Type} {l : List α} (h : l.length = 1) : ∃ a, l = [a] := List.length_eq_one_iff.mp h
theorem len2 {α : Type} {l : List α} (h : l.length = 2) : ∃ a b, l = [a, b] := by
  match l, h with
  | [a, b], _ => exact ⟨a, b, rfl⟩
theorem len5 {α : Type} {l : List α} (h : l.length = 5) : ∃ a b c d e, l = [a, b, c, d, e] := by
  match l, h with
  | [a, b, c, d, e], _ => exact ⟨a, b, c, d, e, rfl⟩
theorem of_isSome {α : Type} {c : Prop} [Decidable c] {a : α} (h : (if c then some a else none).isSome = true) : c := by
  by_cases q : c
  · exact q
  · rw [if_neg q] at h
    cases h
theorem byte_of {l : List Int} (h : Sj52Neutral.bytesOk l = true) : byte l := fun x hx => by
  have := List.all_eq_true.mp h x hx
  rw [Bool.and_eq_true, decide_eq_true_iff, decide_eq_true_iff] at this
  exact this
theorem one_row {lo hi : Int} {a b : Nat} {l : List Int} (h : PyInside.lists [(lo, hi, a, b)] [l] = true) : a ≤ l.length ∧ l.length ≤ b := by
  have h2 : (decide (a ≤ l.length) && decide (l.length ≤ b) && l.all (PyInside.within lo hi) && true) = true := h
  simp only [Bool.and_eq_true, decide_eq_true_iff] at h2
  exact ⟨h2.1.1.1, h2.1.1.2⟩
theorem two_rows {lo hi lo' hi' : Int} {a b a' b' : Nat} {l l' : List Int} (h : PyInside.lists [(lo, hi, a, b), (lo', hi', a', b')] [l, l'] = true) : (a ≤ l.length ∧ l.length ≤ b) ∧ (a' ≤ l'.length ∧ l'.length ≤ b') := by
  have h2 : (decide (a ≤ l.length) && decide (l.length ≤ b) && l.all (PyInside.within lo hi) && PyInside.lists [(lo', hi', a', b')] [l']) = true := h
  rw [Bool.and_eq_true] at h2
  refine ⟨?_, one_row h2.2⟩
  have h3 := h2.1
  simp only [Bool.and_eq_true, decide_eq_true_iff] at h3
  exact ⟨h3.1.1, h3.1.2⟩
theorem good_of {p : Int} {xs : List Int} {rows : List (List Int)} {n k : Nat} (hs : PySj52.shape p = some (n, k)) (hx : xs.length = n) (hr : rows.length = k) (hb : PyInside.call PySj52.bound ((p :: xs) :: rows) = true)
    (ha : Sj52Neutral.asked1 (PySj52.whole ((p :: xs) :: rows)) = true) : ∃ q, GoodC ((p :: xs) :: rows) q ∧ Sj52Neutral.callOf ((PySj52.whole ((p :: xs) :: rows)).headD []) = some q := by
  have ha2 : (Sj52Neutral.callOf ((PySj52.whole ((p :: xs) :: rows)).headD [])).isSome = true := by
    unfold Sj52Neutral.asked1 at ha
    rw [Bool.and_eq_true, Bool.and_eq_true] at ha
    exact ha.2.2
  have hb2 : PyInside.each (PySj52.bound p).1 xs = true ∧ PyInside.lists (PySj52.bound p).2 rows = true := by
    have h : (PyInside.each (PySj52.bound p).1 xs && PyInside.lists (PySj52.bound p).2 rows) = true := hb
    rw [Bool.and_eq_true] at h
    exact h
  unfold PySj52.shape at hs
  by_cases c1 : p = 1
  · subst c1
    rw [if_pos rfl] at hs
    cases hs
    obtain ⟨x, rfl⟩ := len1 hx
    obtain ⟨l, rfl⟩ := len1 hr
    have z : (if 0 ≤ x ∧ l.length = 16 ∧ Sj52Neutral.bytesOk l = true then some (Sj52.Call.open_ x l) else none).isSome = true := ha2
    have q := of_isSome z
    have hx2 : (PyInside.within 0 4294967295 x && true) = true := hb2.1
    rw [Bool.and_true] at hx2
    unfold PyInside.within at hx2
    rw [Bool.and_eq_true, decide_eq_true_iff, decide_eq_true_iff] at hx2
    exact ⟨.open_ x l, .open_ x l hx2 q.2.1 (byte_of q.2.2), if_pos q⟩
  rw [if_neg c1] at hs
  by_cases c2 : p = 2
  · subst c2
    rw [if_pos rfl] at hs
    cases hs
    obtain ⟨i, w, lo, hi, d, rfl⟩ := len5 hx
    obtain ⟨m, v, rfl⟩ := len2 hr
    have hl := two_rows (show PyInside.lists [(0, 255, 16, 16), (0, 255, 16, 16)] [m, v] = true from hb2.2)
    have lm : m.length = 16 := by omega
    have lv : v.length = 16 := by omega
    have z : (if Sj52Neutral.small [i, w, lo, hi, d] = true ∧ (m ++ v).length = 32 ∧ Sj52Neutral.bytesOk (m ++ v) = true then some (Sj52.Call.put i w lo hi d ((m ++ v).take 16) ((m ++ v).drop 16)) else none).isSome = true := ha2
    have q := of_isSome z
    have bb := byte_of q.2.2
    have e1 : (m ++ v).take 16 = m := by rw [← lm, List.take_left]
    have e2 : (m ++ v).drop 16 = v := by rw [← lm, List.drop_left]
    refine ⟨.put i w lo hi d m v, .on OkPut 2 _ _ _ .put (.mk 2 i w lo hi d m v lm lv (fun x hx => bb x (List.mem_append_left _ hx)) fun x hx => bb x (List.mem_append_right _ hx)), ?_⟩
    have z2 : Sj52Neutral.callOf ((PySj52.whole [[2, i, w, lo, hi, d], m, v]).headD []) = (if Sj52Neutral.small [i, w, lo, hi, d] = true ∧ (m ++ v).length = 32 ∧ Sj52Neutral.bytesOk (m ++ v) = true then some (Sj52.Call.put i w lo hi d ((m ++ v).take 16) ((m ++ v).drop 16)) else none) := rfl
    rw [z2, if_pos q, e1, e2]
  rw [if_neg c2] at hs
  by_cases c3 : p = 3
  · subst c3
    rw [if_pos rfl] at hs
    cases hs
    obtain ⟨i, rfl⟩ := len1 hx
    cases len0 hr
    have z : (if Sj52Neutral.small [i] = true then some (Sj52.Call.out i) else none).isSome = true := ha2
    exact ⟨.out i, .on OkOut 3 _ _ _ .out (.mk 3 i), if_pos (of_isSome z)⟩
  rw [if_neg c3] at hs
  by_cases c4 : p = 4
  · subst c4
    rw [if_pos rfl] at hs
    cases hs
    obtain ⟨i, j, rfl⟩ := len2 hx
    cases len0 hr
    have z : (if Sj52Neutral.small [i, j] = true then some (Sj52.Call.swap i j) else none).isSome = true := ha2
    exact ⟨.swap i j, .on OkSwap 4 _ _ _ .swap (.mk 4 i j), if_pos (of_isSome z)⟩
  rw [if_neg c4] at hs
  by_cases c5 : p = 5
  · subst c5
    rw [if_pos rfl] at hs
    cases hs
    cases len0 hx
    cases len0 hr
    exact ⟨.commit, .on OkCommit 5 _ _ _ .commit (.mk 5), rfl⟩
  rw [if_neg c5] at hs
  by_cases c6 : p = 6
  · subst c6
    rw [if_pos rfl] at hs
    cases hs
    cases len0 hx
    cases len0 hr
    exact ⟨.forget, .on OkForget 6 _ _ _ .forget (.mk 6), rfl⟩
  rw [if_neg c6] at hs
  by_cases c7 : p = 7
  · subst c7
    rw [if_pos rfl] at hs
    cases hs
    obtain ⟨x, rfl⟩ := len1 hx
    obtain ⟨l, rfl⟩ := len1 hr
    have z : (if Sj52Neutral.small [x] = true ∧ l.length = Sj52Neutral.many x 256 ∧ Sj52Neutral.bytesOk l = true then some (Sj52.Call.sort x l) else none).isSome = true := ha2
    have q := of_isSome z
    exact ⟨.sort x l, .on OkSort 7 _ _ _ .sort (.mk 7 x l q.2.1 (byte_of q.2.2)), if_pos q⟩
  rw [if_neg c7] at hs
  by_cases c8 : p = 8
  · subst c8
    rw [if_pos rfl] at hs
    cases hs
    obtain ⟨x, rfl⟩ := len1 hx
    obtain ⟨l, rfl⟩ := len1 hr
    have z : (if Sj52Neutral.small [x] = true ∧ l.length = Sj52Neutral.many x 256 ∧ Sj52Neutral.bytesOk l = true then some (Sj52.Call.try_ x l) else none).isSome = true := ha2
    have q := of_isSome z
    exact ⟨.try_ x l, .on OkTry 8 _ _ _ .try_ (.mk 8 x l q.2.1 (byte_of q.2.2)), if_pos q⟩
  rw [if_neg c8] at hs
  by_cases c9 : p = 9
  · subst c9
    rw [if_pos rfl] at hs
    cases hs
    obtain ⟨i, rfl⟩ := len1 hx
    cases len0 hr
    have z : (if Sj52Neutral.small [i] = true then some (Sj52.Call.tick i) else none).isSome = true := ha2
    exact ⟨.tick i, .on OkTick 9 _ _ _ .tick (.mk 9 i), if_pos (of_isSome z)⟩
  rw [if_neg c9] at hs
  by_cases c10 : p = 10
  · subst c10
    rw [if_pos rfl] at hs
    cases hs
    obtain ⟨i, rfl⟩ := len1 hx
    cases len0 hr
    have z : (if Sj52Neutral.small [i] = true then some (Sj52.Call.age i) else none).isSome = true := ha2
    exact ⟨.age i, .on OkAge 10 _ _ _ .age (.mk 10 i), if_pos (of_isSome z)⟩
  rw [if_neg c10] at hs
  by_cases c11 : p = 11
  · subst c11
    rw [if_pos rfl] at hs
    cases hs
    obtain ⟨i, rfl⟩ := len1 hx
    cases len0 hr
    have z : (if Sj52Neutral.small [i] = true then some (Sj52.Call.flow i) else none).isSome = true := ha2
    exact ⟨.flow i, .on OkFlow 11 _ _ _ .flow (.mk 11 i), if_pos (of_isSome z)⟩
  rw [if_neg c11] at hs
  by_cases c12 : p = 12
  · subst c12
    rw [if_pos rfl] at hs
    cases hs
    cases len0 hx
    cases len0 hr
    exact ⟨.flows, .on OkFlows 12 _ _ _ .flows (.mk 12), rfl⟩
  rw [if_neg c12] at hs
  by_cases c13 : p = 13
  · subst c13
    rw [if_pos rfl] at hs
    cases hs
    obtain ⟨i, rfl⟩ := len1 hx
    cases len0 hr
    have z : (if Sj52Neutral.small [i] = true then some (Sj52.Call.rule i) else none).isSome = true := ha2
    exact ⟨.rule i, .on OkRule 13 _ _ _ .rule (.mk 13 i), if_pos (of_isSome z)⟩
  rw [if_neg c13] at hs
  by_cases c14 : p = 14
  · subst c14
    rw [if_pos rfl] at hs
    cases hs
    cases len0 hx
    cases len0 hr
    exact ⟨.counts, .on OkCounts 14 _ _ _ .counts (.mk 14), rfl⟩
  rw [if_neg c14] at hs
  cases hs
/-- a call played -/
def play (s : Sj52.State) (c : List (List Int)) : Sj52.State × List Int := Sj52Neutral.step s (PySj52.whole c)
/-- the state behind so many calls, and all that is told -/
def runs : Sj52.State → List (List (List Int)) → Sj52.State × List Int
  | s, [] => (s, [])
  | s, c :: r => ((runs (play s c).1 r).1, (((play s c).2.length : Nat) : Int) :: (play s c).2 ++ (runs (play s c).1 r).2)
theorem runs_told : ∀ (cs : List (List (List Int))) (s : Sj52.State), PyFlat.told (PyFlat.played Sj52Neutral.step s (cs.map PySj52.whole)) = (runs s cs).2
  | [], _ => rfl
  | c :: r, s => by
    show ((((play s c).2.length : Nat) : Int) :: (play s c).2) ++ PyFlat.told (PyFlat.played Sj52Neutral.step (play s c).1 (r.map PySj52.whole)) = _
    rw [runs_told r]
    rfl
theorem runs_more : ∀ (cs : List (List (List Int))) (c : List (List Int)) (s : Sj52.State), runs s (cs ++ [c]) = ((play (runs s cs).1 c).1, (runs s cs).2 ++ ((((play (runs s cs).1 c).2.length : Nat) : Int) :: (play (runs s cs).1 c).2))
  | [], c, s => by
    show ((play s c).1, (((play s c).2.length : Nat) : Int) :: (play s c).2 ++ []) = _
    rw [List.append_nil]
    rfl
  | d :: r, c, s => by
    show ((runs (play s d).1 (r ++ [c])).1, (((play s d).2.length : Nat) : Int) :: (play s d).2 ++ (runs (play s d).1 (r ++ [c])).2) = _
    rw [runs_more r c]
    show _ = ((play (runs (play s d).1 r).1 c).1, ((((play s d).2.length : Nat) : Int) :: (play s d).2 ++ (runs (play s d).1 r).2) ++ _)
    rw [List.append_assoc]
    rfl
theorem runs_app : ∀ (a b : List (List (List Int))) (s : Sj52.State), ∃ z, (runs s (a ++ b)).2 = (runs s a).2 ++ z
  | [], b, s => ⟨_, rfl⟩
  | c :: r, b, s => by
    obtain ⟨z, e⟩ := runs_app r b (play s c).1
    refine ⟨z, ?_⟩
    show (((play s c).2.length : Nat) : Int) :: (play s c).2 ++ (runs (play s c).1 (r ++ b)).2 = ((((play s c).2.length : Nat) : Int) :: (play s c).2 ++ (runs (play s c).1 r).2) ++ z
    rw [e, List.append_assoc]
theorem runs_len (cs : List (List (List Int))) (i : Nat) (s : Sj52.State) : (runs s (cs.take i)).2.length ≤ (runs s cs).2.length := by
  obtain ⟨z, e⟩ := runs_app (cs.take i) (cs.drop i) s
  rw [List.take_append_drop] at e
  rw [e, List.length_append]
  exact Nat.le_add_right _ _
theorem play_of {c : List (List Int)} {q : Sj52.Call} (s : Sj52.State) (h : Sj52Neutral.callOf ((PySj52.whole c).headD []) = some q) : play s c = ((Sj52.step s q).1, tellsOf (Sj52.step s q).2) := by
  unfold play Sj52Neutral.step
  rw [h]
  rfl
theorem asked_of {l : List Int} (h : PySj52.answers_asked l = true) : ∃ raw, PyFlat.calls PySj52.shape l.length l = some raw ∧ raw.length ≤ 60 ∧ (∀ c ∈ raw, ∃ q, GoodC c q ∧ Sj52Neutral.callOf ((PySj52.whole c).headD []) = some q) ∧ PySj52.answers l = (runs none raw).2 ∧ (PySj52.answers l).length ≤ 10000000 := by
  unfold PySj52.answers_asked at h
  cases e : PyFlat.calls PySj52.shape l.length l with
  | none => rw [e] at h; cases h
  | some raw =>
    rw [e] at h
    dsimp only at h
    rw [Bool.and_eq_true, Bool.and_eq_true, Bool.and_eq_true, Bool.and_eq_true] at h
    obtain ⟨⟨⟨⟨_, h60⟩, hin⟩, hask⟩, hsh⟩ := h
    have ea : PySj52.answers l = (runs none raw).2 := by
      unfold PySj52.answers PySj52.calls
      rw [e]
      exact runs_told raw none
    refine ⟨raw, rfl, of_decide_eq_true h60, fun c hc => ?_, ea, of_decide_eq_true hsh⟩
    obtain ⟨p, xs, rows, n, k, rfl, hs, hx, hr⟩ := calls_form e c hc
    unfold Sj52Neutral.asked at hask
    rw [Bool.and_eq_true] at hask
    exact good_of hs hx hr (List.all_eq_true.mp hin _ hc) (List.all_eq_true.mp hask.1 _ (List.mem_map_of_mem hc))
end Fr

namespace Fr
open PySem PySem.Spec PyProof.Rows L2
/-! ### M3. What the specification's desk keeps -/
theorem wf_row_map {now : Nat} {row : List Sj52.Flow} {g : Sj52.Flow → Sj52.Flow} (h : WfRow now row) (hk : ∀ f ∈ row, (g f).key = f.key) (hs : ∀ f ∈ row, (g f).seen ≤ now) : WfRow now (row.map g) := by
  refine ⟨by rw [List.length_map]; exact h.few, fun f hf => ?_, ?_, fun f hf => ?_⟩
  · obtain ⟨y, hy, rfl⟩ := List.mem_map.mp hf
    exact hs y hy
  · have e : (row.map g).map (·.key) = row.map (·.key) := by
      rw [List.map_map]
      exact List.map_congr_left fun y hy => hk y hy
    rw [e]
    exact h.keys
  · obtain ⟨y, hy, rfl⟩ := List.mem_map.mp hf
    rw [hk y hy]
    exact h.len y hy
theorem wf_row_sub {now : Nat} {row row' : List Sj52.Flow} (h : WfRow now row) (s : row'.Sublist row) : WfRow now row' :=
  ⟨Nat.le_trans s.length_le h.few, fun f hf => h.seen f (s.subset hf), h.keys.sublist (s.map _), fun f hf => h.len f (s.subset hf)⟩
theorem wf_row_add {now : Nat} {row : List Sj52.Flow} {n : Sj52.Flow} (h : WfRow now row) (hl : row.length < 4) (hn : ∀ f ∈ row, f.key ≠ n.key) (hs : n.seen ≤ now) (hk : n.key.length = 16) : WfRow now (row ++ [n]) := by
  refine ⟨by rw [List.length_append]; exact hl, fun f hf => ?_, ?_, fun f hf => ?_⟩
  · rcases List.mem_append.mp hf with z | z
    · exact h.seen f z
    · rw [List.mem_singleton.mp z]
      exact hs
  · rw [List.map_append, List.nodup_append]
    refine ⟨h.keys, by simp, fun a ha b hb => ?_⟩
    obtain ⟨y, hy, rfl⟩ := List.mem_map.mp ha
    have e : b = n.key := List.mem_singleton.mp hb
    rw [e]
    exact hn y hy
  · rcases List.mem_append.mp hf with z | z
    · exact h.len f z
    · rw [List.mem_singleton.mp z]
      exact hk
theorem wf_later {now now' : Nat} {row : List Sj52.Flow} (h : WfRow now row) (hn : now ≤ now') : WfRow now' row := ⟨h.few, fun f hf => Nat.le_trans (h.seen f hf) hn, h.keys, h.len⟩
theorem mem_set_or {α : Type} {l : List α} {i : Nat} {x y : α} (h : y ∈ l.set i x) : y ∈ l ∨ y = x := List.mem_or_eq_of_mem_set h
theorem wf_sort {T : Sj52.Table} (h : WfT T) (f : List Nat) : WfT (T.sort f).1 := by
  have hi : T.rowOf (Sj52.keyOf T.places f) < T.rows.length := by
    rw [h.rows]
    exact Nat.mod_lt _ (by decide)
  have hrow : T.row (Sj52.keyOf T.places f) ∈ T.rows := by
    show T.rows.getD (T.rowOf (Sj52.keyOf T.places f)) [] ∈ T.rows
    rw [List.getD_eq_getElem?_getD, List.getElem?_eq_getElem hi]
    exact List.getElem_mem hi
  have wr := h.row _ hrow
  have hk : (Sj52.keyOf T.places f).length = 16 := by
    unfold Sj52.keyOf
    rw [List.length_map]
    exact h.places
  have fin : ∀ (row : List Sj52.Flow) (c : List Nat), WfRow T.now row → WfT { T with rows := T.rows.set (T.rowOf (Sj52.keyOf T.places f)) row, counts := c } := fun row c wr2 =>
    ⟨h.places, h.few, by show (T.rows.set _ _).length = 16; rw [List.length_set]; exact h.rows, fun r hr => by
      rcases mem_set_or hr with z | z
      · exact h.row r z
      · rw [z]
        exact wr2⟩
  unfold Sj52.Table.sort
  dsimp only
  split
  · refine fin _ _ (wf_row_map wr (fun y _ => ?_) fun y hy => ?_)
    · split <;> rfl
    · split
      · exact Nat.le_refl _
      · exact wr.seen y hy
  · rename_i e
    have hn : ∀ g ∈ T.row (Sj52.keyOf T.places f), g.key ≠ Sj52.keyOf T.places f := fun g hg z => by
      have e2 : (T.row (Sj52.keyOf T.places f)).find? (fun f_1 => f_1.key == Sj52.keyOf T.places f) = none := e
      have := List.find?_eq_none.mp e2 g hg
      exact this (beq_iff_eq.mpr z)
    split
    · rename_i c
      exact fin _ _ (wf_row_add wr c hn (Nat.le_refl _) hk)
    · rename_i c
      refine fin _ _ (wf_row_add (wf_row_sub wr (List.eraseIdx_sublist ..)) ?_ (fun g hg => hn g (List.mem_of_mem_eraseIdx hg)) (Nat.le_refl _) hk)
      have hlt : (T.row (Sj52.keyOf T.places f)).findIdx (fun y => y.seen == ((T.row (Sj52.keyOf T.places f)).map fun y => y.seen).foldl min T.now) < (T.row (Sj52.keyOf T.places f)).length := by
        have h4 : (T.row (Sj52.keyOf T.places f)).length = 4 := by
          have := wr.few
          unfold Sj52.WAYS at c
          omega
        generalize T.row (Sj52.keyOf T.places f) = row at wr h4
        rw [List.findIdx_lt_length]
        have hmem : ∀ (l : List Nat) (a : Nat), l.foldl min a = a ∨ l.foldl min a ∈ l := by
          intro l
          induction l with
          | nil => exact fun a => .inl rfl
          | cons y r ih =>
            intro a
            rw [List.foldl_cons]
            rcases ih (min a y) with z | z
            · rcases Nat.le_total a y with q | q
              · rw [Nat.min_eq_left q] at z
                rw [Nat.min_eq_left q]
                exact .inl z
              · rw [Nat.min_eq_right q] at z
                rw [Nat.min_eq_right q]
                exact .inr (by rw [z]; exact List.mem_cons_self ..)
            · exact .inr (List.mem_cons_of_mem _ z)
        rcases hmem (row.map fun y => y.seen) T.now with z | z
        · cases row with
          | nil => cases h4
          | cons y r =>
            refine ⟨y, List.mem_cons_self .., beq_iff_eq.mpr ?_⟩
            have h1 := min_le (l := (y :: r).map fun y => y.seen) (a := T.now)
            have h2 := h1.2 y.seen (List.mem_map_of_mem (List.mem_cons_self ..))
            have h3 := wr.seen y (List.mem_cons_self ..)
            rw [z] at h2 ⊢
            omega
        · obtain ⟨y, hy, e3⟩ := List.mem_map.mp z
          exact ⟨y, hy, beq_iff_eq.mpr e3⟩
      rw [List.length_eraseIdx, if_pos hlt]
      have := wr.few
      omega
theorem wf_all {rs rs' : List Sj52.Rule} {cs : List Sj52.Change} (hl : rs.length ≤ 32) (h : Sj52.all rs cs = .inr rs') : rs'.length ≤ 32 := by
  have z : ∀ (i : Nat) (rs' : List Sj52.Rule), i ≤ cs.length → Sj52.all rs (cs.take i) = .inr rs' → rs'.length ≤ 32 := by
    intro i
    induction i with
    | zero =>
      intro rs' _ e
      have e2 : (Sum.inr rs : Nat ⊕ List Sj52.Rule) = .inr rs' := e
      cases e2
      exact hl
    | succ i ih =>
      intro rs' hi e
      have hc : cs[i]? = some cs[i] := List.getElem?_eq_getElem (by omega)
      rw [all_more hc] at e
      cases e1 : Sj52.all rs (cs.take i) with
      | inl n => rw [e1] at e; cases e
      | inr l =>
        rw [e1] at e
        dsimp only at e
        cases e2 : cs[i].does l with
        | none => rw [e2] at e; cases e
        | some m =>
          rw [e2] at e
          cases e
          exact does_len e2 (ih l (by omega) e1)
  exact z cs.length rs' (Nat.le_refl _) (by rw [List.take_length]; exact h)
theorem wf_wait {s : Sj52.Desk} {c : Sj52.Change} (h : WfD s) : WfD (Sj52.wait s c).1 := by
  unfold Sj52.wait
  split
  · exact h
  · refine ⟨h.tab, ?_⟩
    show (s.waits ++ [c]).length ≤ 16
    rw [List.length_append]
    show s.waits.length + 1 ≤ 16
    omega
theorem wf_on {s : Sj52.Desk} (h : WfD s) (q : Sj52.Call) : WfD (Sj52.on s q).1 := by
  cases q with
  | open_ _ _ => exact h
  | put i w lo hi x m v =>
    show WfD (if _ then _ else _ : Sj52.Desk × Sj52.Ans).1
    split
    · exact h
    · exact wf_wait h
  | out i =>
    show WfD (if _ then _ else _ : Sj52.Desk × Sj52.Ans).1
    split
    · exact h
    · exact wf_wait h
  | swap i j =>
    show WfD (if _ then _ else _ : Sj52.Desk × Sj52.Ans).1
    split
    · exact h
    · exact wf_wait h
  | commit =>
    show WfD (match Sj52.all s.table.rules s.waits with | .inl n => ({ s with waits := [] }, Sj52.just (-100 - Sj52.nat n)) | .inr rs => (⟨s.table.again rs, []⟩, Sj52.just (Sj52.nat rs.length)) : Sj52.Desk × Sj52.Ans).1
    cases e : Sj52.all s.table.rules s.waits with
    | inl n => exact ⟨h.tab, Nat.zero_le _⟩
    | inr rs =>
      refine ⟨⟨h.tab.places, wf_all h.tab.few e, ?_, fun r hr => ?_⟩, Nat.zero_le _⟩
      · show (List.map _ s.table.rows).length = 16
        rw [List.length_map]
        exact h.tab.rows
      · obtain ⟨r0, hr0, rfl⟩ := List.mem_map.mp hr
        exact wf_row_map (h.tab.row r0 hr0) (fun _ _ => rfl) fun y hy => (h.tab.row r0 hr0).seen y hy
  | forget => exact ⟨h.tab, Nat.zero_le _⟩
  | sort n l =>
    show WfD (if _ then _ else _ : Sj52.Desk × Sj52.Ans).1
    split
    · exact h
    · exact ⟨wf_sort h.tab _, h.waits⟩
  | try_ n l =>
    show WfD (if _ then _ else _ : Sj52.Desk × Sj52.Ans).1
    split <;> exact h
  | tick n =>
    show WfD (if _ then _ else _ : Sj52.Desk × Sj52.Ans).1
    split
    · exact h
    · exact ⟨⟨h.tab.places, h.tab.few, h.tab.rows, fun r hr => wf_later (h.tab.row r hr) (Nat.le_add_right _ _)⟩, h.waits⟩
  | age n =>
    show WfD (if _ then _ else _ : Sj52.Desk × Sj52.Ans).1
    split
    · exact h
    · refine ⟨⟨h.tab.places, h.tab.few, ?_, fun r hr => ?_⟩, h.waits⟩
      · show (List.map _ s.table.rows).length = 16
        rw [List.length_map]
        exact h.tab.rows
      · obtain ⟨r0, hr0, rfl⟩ := List.mem_map.mp hr
        exact wf_row_sub (h.tab.row r0 hr0) List.filter_sublist
  | flow i =>
    show WfD (if _ then _ else _ : Sj52.Desk × Sj52.Ans).1
    split
    · exact h
    · split <;> exact h
  | flows => exact h
  | rule i =>
    show WfD (if _ then _ else _ : Sj52.Desk × Sj52.Ans).1
    split
    · exact h
    · split <;> exact h
  | counts => exact h
end Fr

namespace Fr
open PySem PySem.Spec PyProof.Rows L2
/-! ### F10. answer_at and answers -/
abbrev s_answer_at : Stmt := (top 72)
theorem sc_answer_at : FnScope ["desk", "call", "answering"] ["desk", "call"] (defScope s_answer_at) := ⟨rfl, rfl, rfl, by decide +kernel, rfl, by decide +kernel, by decide +kernel⟩
abbrev s_answers : Stmt := (top 73)
theorem sc_answers : FnScope ["calls", "desk", "told", "call", "answer"] ["calls"] (defScope s_answers) := ⟨rfl, rfl, rfl, by decide +kernel, rfl, by decide +kernel, by decide +kernel⟩
def StAt (A : As) (I R H : Hp) (dv : V) : Sj52.State → Prop
  | none => dv = .non
  | some s => ∃ d, dv = .ref d ∧ DeskAt A I R H d s ∧ WfD s
theorem StAt.grow {A : As} {I I' R H H' : Hp} {dv : V} (g : Gr I I' H) (sm : Same H H') : ∀ {s : Sj52.State}, StAt A I R H dv s → StAt A I' R H' dv s
  | none, h => h
  | some _, ⟨d, e, h, w⟩ => ⟨d, e, h.grow g sm, w⟩
/-- others' things have changed -/
theorem DeskAt.move {A : As} {I R R' H H' : Hp} {d : Addr} {s : Sj52.Desk} (k : ∀ b o, H b = some o → R b = none → H' b = some o ∧ R' b = none) : DeskAt A I R H d s → DeskAt A I R' H' d s
  | ⟨dx, pl, rl, wl, t, cs, h1, w1, h2, h3, h4, w4, h5, h6⟩ => by
    refine ⟨dx, pl, rl, wl, t, cs, (k _ _ h1 w1.2).1, ⟨w1.1, (k _ _ h1 w1.2).2⟩, h2, h3, (k _ _ h4 w4.2).1, ⟨w4.1, (k _ _ h4 w4.2).2⟩, h5, h6.move Gr.refl fun b o e hb => ?_⟩
    obtain ⟨n1, hb1⟩ := none_upd hb
    obtain ⟨n2, hb2⟩ := none_upd hb1
    obtain ⟨z1, z2⟩ := k b o e hb2
    exact ⟨z1, Eq.trans (upd_ne n1) (Eq.trans (upd_ne n2) z2)⟩
theorem StAt.move {A : As} {I R R' H H' : Hp} {dv : V} (k : ∀ b o, H b = some o → R b = none → H' b = some o ∧ R' b = none) : ∀ {s : Sj52.State}, StAt A I R H dv s → StAt A I R' H' dv s
  | none, h => h
  | some _, ⟨d, e, h, w⟩ => ⟨d, e, h.move k, w⟩
theorem step_on {ok : List (List Int) → Sj52.Call → Prop} {n : Int} {raw : List (List Int)} {q : Sj52.Call} (g : Goes ok n) (h : ok raw q) (s : Sj52.State) : Sj52.step s q = (match s with
    | none => (s, Sj52.just (-7))
    | some d => (some (Sj52.on d q).1, (Sj52.on d q).2)) := by
  cases g <;> cases h <;> rfl
theorem goes_ne {ok : List (List Int) → Sj52.Call → Prop} {n : Int} (g : Goes ok n) : n ≠ 1 := by
  cases g <;> decide
def spAt (A : As) : Sp := fun vs H Q _ => ∃ (I R : Hp) (dv : V) (c : Addr) (s : Sj52.State) (n : Int) (xs : List Int) (rows : List (List Int)) (q : Sj52.Call) (ok : List (List Int) → Sj52.Call → Prop), vs = [dv, .ref c] ∧ Ctx I R H ∧ StAt A I R H dv s ∧ CallAt A I c ((n :: xs) :: rows) ∧ Goes ok n ∧ ok ((n :: xs) :: rows) q ∧
  ∀ (H' I' : Hp) (p : Addr), Ctx I' R H' → Same I I' → StAt A I' R H' dv (Sj52.step s q).1 → H' p = some (.lst (zs (tellsOf (Sj52.step s q).2))) → R p = none → Q (.ref p) H'
def spAnswers (K : PySem.W.Frag) : Sp := fun vs H Q _ => ∃ (a : Addr) (l : List Int), vs = [.ref a] ∧ SqL K H a (zs l) ∧ l.length ≤ 15600 ∧ PySj52.answers_asked l = true ∧ ∀ (H' : Hp) (p : Addr), H' p = some (.lst (zs (PySj52.answers l))) → Q (.ref p) H'
section
variable {P : Program} {w : World} {K : PySem.W.Frag} {mg : Str → Option Value} {base : Heap} {A : As}
theorem ok_answer_at {S : Addr → Sp → Prop} {f : Addr} {fd : FuncData} (F : Fun K "answer_at" "answer_at" s_answer_at f fd) (T : Txt K mg A)
    (h_answering : ∀ f sp, S f sp → ∃ (fd : FuncData) (ps : List Str), FnOk P w K mg base CX0 (6 - 1) f fd ps sp ∧ PySem.W.keepIn K (.ref f) = true ∧ Binds K fd ps [])
    (hT : ∀ ok n, Goes ok n → ∃ f, KInt K A.t_ANSWERING n (.ref f) ∧ S f (spOn A ok)) : FnOk P w K mg base CX0 6 f fd ["desk", "call"] (spAt A) := by
  refine F.ok sc_answer_at (fun vs H Q E h => ?_) (fun cdv Ar outer sh H vs Q E hr h => ?_)
  · obtain ⟨I, R, dv, c, s, n, xs, rows, q, ok, rfl, _⟩ := h
    rfl
  · obtain ⟨I, R, dv, c, s, n, xs, rows, qc, ok, rfl, cx, hst, hcall, g, hok, q⟩ := h
    refine ⟨_, (pss_cons (ps_if (pt_cmpR op_isN (pv 0) pe_non (nomark _)) (pss_one (ps_ret (pe_lst (pa_cons (pe_gi T.c_NO_DESK) pa_nil)))) pss_nil)
      (pss_cons (ps_set (i := 2) sc_answer_at.nd rfl (Or.inl rfl) (pe_ix ix_kint (pe_gr T.g_ANSWERING) (pe_fld (pv 1) rfl) (fun _ _ => rfl)))
      (pss_one (ps_ret (pe_hva (i := 2) h_answering hr (by decide) (pa_cons (pv 0) (pa_cons (pv 1) pa_nil))))))), ?_⟩
    rw [step_on g hok] at q
    cases s with
    | none =>
      have e : dv = .non := hst
      subst e
      refine ⟨_, rfl, rfl, _, rfl, ?_⟩
      show if decide (V.non = V.non) = true then _ else _
      rw [decide_eq_true rfl]
      refine iteT ⟨(by show 1 ≤ sizeLine; decide), fun p hp => ?_⟩
      have s1 := same_upd (o := .lst [.int (-7)]) hp
      exact q _ I p (cx.grow s1) (Same.refl _) rfl upd_same (cx.sR.free hp)
    | some s =>
      obtain ⟨d, rfl, hdesk, wf⟩ := hst
      obtain ⟨n2, xs2, rows2, dx, m, r, e, hc, hm, hrows⟩ := id hcall
      cases e
      obtain ⟨fa, hk, hS⟩ := hT ok n g
      refine ⟨_, rfl, rfl, _, rfl, ?_⟩
      show if decide (V.ref d = V.non) = true then _ else _
      rw [decide_eq_false (fun z => V.noConfusion z)]
      refine iteF ⟨_, rfl, c, _, dx, _, _, rfl, cx.sI _ _ hc, T.cl_Call, T.na_Call_number, lk_Call_number, _, n, _, rfl, rfl, hk, ?_⟩
      refine ⟨fa, _, hS, rfl, _, rfl, _, rfl, I, R, d, c, s, _, qc, rfl, cx, hdesk, wf, hcall, hok, fun H' I' p cx' sI hd hp hR => ?_⟩
      exact q H' I' p cx' sI ⟨d, rfl, hd, wf_on wf qc⟩ hp hR
theorem ok_answers {f : Addr} {fd : FuncData} (F : Fun K "answers" "answers" s_answers f fd) (T : Txt K mg A) (h_read_calls : Has P w K mg base 3 "read_calls" ["calls"] (spReadCalls K A)) (h_answer_at : Has P w K mg base 6 "answer_at" ["desk", "call"] (spAt A))
    (h_is_opening_as_told : Has P w K mg base 3 "is_opening_as_told" ["call"] (spOpening A)) (hc_Desk : HasC P w K mg base 3 "Desk" A.Desk ["self", "seed", "places"] (spDesk A)) :
    FnOk P w K mg base CX0 7 f fd ["calls"] (spAnswers K) := by
  refine F.ok sc_answers (fun vs H Q E h => ?_) (fun cdv Ar outer sh H vs Q E hr h => ?_)
  · obtain ⟨a, l, rfl, _⟩ := h
    rfl
  · obtain ⟨a, l, rfl, ha, hl, hask, q⟩ := h
    obtain ⟨raw, hraw, h60, hgood, hans, hshort⟩ := asked_of hask
    refine ⟨_, (pss_cons (ps_set (i := 1) sc_answers.nd rfl (Or.inl rfl) pe_non)
      (pss_cons (ps_set (i := 2) sc_answers.nd rfl (Or.inl rfl) (pe_lst pa_nil))
      (pss_cons (ps_for PassesOwn.never rfl (pi_list (pe_hca h_read_calls hr (by decide) rfl (pa_cons (pv 0) pa_nil))) (pg_name (i := 3) sc_answers.nd rfl (Or.inl rfl))
      (pss_cons (ps_if (pt_cmpR op_ne (pe_fld (pv 3) rfl) (pe_gi T.c_OPENING) (nomark _)) (pss_one (ps_set (i := 4) sc_answers.nd rfl (Or.inl rfl) (pe_hca h_answer_at hr (by decide) rfl (pa_cons (pv 1) (pa_cons (pv 3) pa_nil))))) (pss_one (ps_if (pt_val (pe_hca h_is_opening_as_told hr (by decide) rfl (pa_cons (pv 3) pa_nil))) (pss_cons (ps_set (i := 1) sc_answers.nd rfl (Or.inl rfl) (pe_hmk hc_Desk hr (by decide) rfl (pa_cons (pe_ix ix_list (pe_fld (pv 3) rfl) pe_int (fun _ _ => rfl)) (pa_cons (pe_ix ix_list (pe_fld (pv 3) rfl) pe_int (fun _ _ => rfl)) pa_nil))))
      (pss_one (ps_set (i := 4) sc_answers.nd rfl (Or.inl rfl) (pe_lst (pa_cons pe_int pa_nil))))) (pss_one (ps_set (i := 4) sc_answers.nd rfl (Or.inl rfl) (pe_lst (pa_cons (pe_gi T.c_NOT_AS_TOLD) pa_nil)))))))
      (pss_cons (ps_expr (pe_bm PySem.F.plainAttrs_list PySem.F.slot_list_append PySem.F.type_list_append mt_append (pv 2) (pa_cons (pe_callB call_len_seq (by rfl) T.len PySem.boot_len (pa_cons (pv 4) pa_nil)) pa_nil)))
      (pss_one (ps_expr (pe_bm PySem.F.plainAttrs_list PySem.F.slot_list_extend PySem.F.type_list_extend mt_extend (pv 2) (pa_cons (pv 4) pa_nil)))))))
      (pss_one (ps_ret (pv 2)))))), ?_⟩
    refine ⟨Nat.zero_le _, fun tl htl => ?_⟩
    refine ⟨_, rfl, a, l, raw, rfl, (same_upd htl).seq ha, hl, hraw, fun H1 p s1 hcalls => ?_⟩
    have htl1 : H1 tl = some (.lst []) := s1 _ _ upd_same
    have cx1 : Ctx (nw (upd H tl (.lst [])) H1) (upd (fun _ => none) tl (.lst (zs []))) H1 := by
      refine ⟨nw_same, fun b o e => ?_, fun b o e => ?_⟩
      · by_cases hb : b = tl
        · subst hb
          rw [upd_same] at e
          cases e
          exact htl1
        · rw [upd_ne hb] at e
          cases e
      · have hb : b ≠ tl := fun z => by
          have := (nw_some e).1
          rw [z, upd_same] at this
          cases this
        rw [upd_ne hb]
    generalize nw (upd H tl (.lst [])) H1 = I at hcalls cx1
    obtain ⟨qs, hp, hqs⟩ := hcalls
    have lqs := pr_len hqs
    refine ⟨p, rfl, ⟨_, SqL.of (cx1.sI _ _ hp)⟩, for_list (K := K) (a := p) (xs := qs.map V.ref) (fun i σ H' => ∃ (I' : Hp) (dv : V) (v3 v4 : Option V), σ = [some (.ref a), some dv, some (.ref tl), v3, v4] ∧ Same I I' ∧ Ctx I' (upd (fun _ => none) tl (.lst (zs (runs none (raw.take i)).2))) H' ∧
      StAt A I' (upd (fun _ => none) tl (.lst (zs (runs none (raw.take i)).2))) H' dv (runs none (raw.take i)).1) ?_ ?_ ?_ ?_⟩
    · exact ⟨I, .non, none, none, rfl, Same.refl _, cx1, rfl⟩
    · rintro i σ H2 _ ⟨I', dv, v3, v4, _, sI, cx2, _⟩
      exact SqL.of (cx2.sI _ _ (sI _ _ hp))
    · rintro i y σ H2 hi ⟨I', dv, v3, v4, rfl, sI, cx2, hst⟩
      obtain ⟨c, hci, rfl⟩ := get_ref hi
      obtain ⟨cr, hcr, hcall0⟩ := pr_get hqs hci
      have hcall := hcall0.same sI
      obtain ⟨qc, hgc, hof⟩ := hgood cr (List.mem_of_getElem? hcr)
      have hmore : runs none (raw.take (i + 1)) = ((play (runs none (raw.take i)).1 cr).1, (runs none (raw.take i)).2 ++ ((((play (runs none (raw.take i)).1 cr).2.length : Nat) : Int) :: (play (runs none (raw.take i)).1 cr).2)) := by
        rw [take_more hcr, runs_more]
      have hlen : (runs none (raw.take (i + 1))).2.length ≤ 10000000 := by
        have := runs_len raw (i + 1) none
        rw [hans] at hshort
        omega
      rw [play_of _ hof] at hmore
      generalize (runs none (raw.take i)).1 = s at hst hmore
      generalize (runs none (raw.take i)).2 = out at hst hmore cx2
      -- told.append(len(answer)); told.extend(answer)
      have fin : ∀ (H3 I3 : Hp) (r : Addr) (dv' : V), Ctx I3 (upd (fun _ => none) tl (.lst (zs out))) H3 → Same I' I3 → StAt A I3 (upd (fun _ => none) tl (.lst (zs out))) H3 dv' (Sj52.step s qc).1 → H3 r = some (.lst (zs (tellsOf (Sj52.step s qc).2))) → r ≠ tl → ∀ D : Ends,
          (∀ (H4 : Hp) (v3 v4 : Option V), Ctx I3 (upd (fun _ => none) tl (.lst (zs (runs none (raw.take (i + 1))).2))) H4 → StAt A I3 (upd (fun _ => none) tl (.lst (zs (runs none (raw.take (i + 1))).2))) H4 dv' (runs none (raw.take (i + 1))).1 → D.nx [some (.ref a), some dv', some (.ref tl), v3, v4] H4) →
          tSeq (tDrop (tBM K "list" rAppend (tVar 2) (tCons (tCB (rLenK K) (tCons (tVar 4) tNil)) tNil))) (tDrop (tBM K "list" rExtend (tVar 2) (tCons (tVar 4) tNil))) D [some (.ref a), some dv', some (.ref tl), some (.ref c), some (.ref r)] H3 := by
        intro H3 I3 r dv' cx3 sI3 hst3 hr3 nrt D hD
        have htl3 : H3 tl = some (.lst (zs out)) := cx3.sR _ _ upd_same
        have hItl : I3 tl = none := by
          cases e : I3 tl with
          | none => rfl
          | some o =>
            have := cx3.dis tl o e
            rw [upd_same] at this
            cases this
        have hl2 : out.length + (1 + (tellsOf (Sj52.step s qc).2).length) ≤ 10000000 := by
          rw [hmore] at hlen
          rw [List.length_append, List.length_cons] at hlen
          dsimp only at hlen
          omega
        refine ⟨_, rfl, .inl ⟨rfl, _, SqL.of htl3⟩, _, rfl, r, _, rfl, .inl (SqL.of hr3), tl, _, _, rfl, rfl, htl3, ?_, ?_⟩
        · rw [len_zs]
          exact Nat.lt_of_lt_of_le (show out.length < 10000000 by omega) (by decide)
        · rw [len_zs]
          refine ⟨_, rfl, .inl ⟨rfl, _, SqL.of upd_same⟩, _, rfl, tl, r, _, _, rfl, rfl, upd_same, Eq.trans (upd_ne nrt) hr3, ?_, ?_⟩
          · rw [List.length_append, len_zs, len_zs]
            exact Nat.le_trans (show out.length + 1 + (tellsOf (Sj52.step s qc).2).length ≤ 10000000 by omega) (by decide)
          · rw [upd_upd]
            have e4 : zs out ++ [V.int (((tellsOf (Sj52.step s qc).2).length : Nat) : Int)] ++ zs (tellsOf (Sj52.step s qc).2) = zs (runs none (raw.take (i + 1))).2 := by
              rw [hmore]
              show _ = List.map V.int (out ++ _)
              rw [List.map_append, List.append_assoc]
              rfl
            rw [e4]
            have kk : ∀ b o, H3 b = some o → upd (fun _ => none) tl (HO.lst (zs out)) b = none → upd H3 tl (.lst (zs (runs none (raw.take (i + 1))).2)) b = some o ∧ upd (fun _ => none) tl (HO.lst (zs (runs none (raw.take (i + 1))).2)) b = none := fun b o e hb => by
              have n := (none_upd hb).1
              rw [upd_ne n, upd_ne n]
              exact ⟨e, rfl⟩
            refine hD _ _ _ ⟨same_into cx3.sI hItl, fun b o e => ?_, fun b o e => ?_⟩ ?_
            · by_cases hb : b = tl
              · subst hb
                rw [upd_same] at e ⊢
                exact e
              · rw [upd_ne hb] at e
                cases e
            · rw [upd_ne (ne_of_none e hItl)]
            · have e5 : (runs none (raw.take (i + 1))).1 = (Sj52.step s qc).1 := by rw [hmore]
              rw [e5]
              exact hst3.move kk
      have htl2 : H2 tl = some (.lst (zs out)) := cx2.sR _ _ upd_same
      have neR : ∀ r, upd (fun _ => none) tl (HO.lst (zs out)) r = none → r ≠ tl := fun r h => (none_upd h).1
      cases hgc with
      | open_ x l2 hx len b =>
        obtain ⟨n2, xs2, rows2, dx, m, r, e, hc, hm, qr, hr1, hrs⟩ := id hcall
        cases e
        cases hrs with
        | cons hq0 tt =>
          cases tt
          rename_i al
          refine ⟨_, rfl, c, _, dx, _, _, rfl, cx2.sI _ _ hc, T.cl_Call, T.na_Call_number, lk_Call_number, rfl, _, rfl, ?_⟩
          show if (!decide (V.int 1 = V.int 1)) = true then _ else _
          rw [decide_eq_true rfl]
          refine iteF ⟨_, rfl, c, 1, x, l2, rfl, hcall.same cx2.sI, by omega, fun H3 s3 => ⟨_, rfl, ?_⟩⟩
          have ei : Sj52.isIn 0 4294967295 x = true := isIn_iff.mpr hx
          have ek : okRow 16 l2 = true := by
            unfold okRow
            rw [decide_eq_true (by omega), Bool.true_and, List.all_eq_true]
            exact fun y hy => isIn_iff.mpr (b y hy)
          rw [ei, ek]
          have cx3 := cx2.grow s3
          refine iteT ⟨_, rfl, c, _, dx, _, _, rfl, cx3.sI _ _ hc, T.cl_Call, T.na_Call_numbers, lk_Call_numbers, m, _, _, _, rfl, rfl, SqL.of (cx3.sI _ _ hm), atI_nat (j := 0) rfl, _, rfl, c, _, dx, _, _, rfl, cx3.sI _ _ hc, T.cl_Call, T.na_Call_rows, lk_Call_rows,
            r, _, _, _, rfl, rfl, SqL.of (cx3.sI _ _ hr1), atI_nat (j := 0) rfl, fun y dy ny nd nex => ⟨I', _, H3, y, dy, al, x.toNat, Sj52.nats l2, ?_, cx3, ny, nd, nex, rfl, ?_, fun H4 I4 cx4 sI4 hdesk => ⟨rfl, ?_⟩⟩⟩
          · rw [Int.toNat_of_nonneg hx.1]
          · rw [← zs_nats fun z hz => (b z hz).1]
            exact hq0
          · refine ⟨(by show 1 ≤ sizeLine; decide), fun ra hra => ?_⟩
            have es : Sj52.step s (.open_ x l2) = (some ⟨⟨Sj52.nats l2, [], x.toNat, List.replicate Sj52.ROWS [], 0, List.replicate 3 0⟩, []⟩, Sj52.just 0) := by
              show (if (!Sj52.isIn 0 (2 ^ 32 - 1) x || !Sj52.isRow l2) = true then (s, Sj52.just (-2)) else (some ⟨⟨Sj52.nats l2, [], x.toNat, List.replicate Sj52.ROWS [], 0, List.replicate 3 0⟩, []⟩, Sj52.just 0)) = _
              have e2 : Sj52.isIn 0 (2 ^ 32 - 1) x = true := ei
              rw [e2, ← okRow_row, ek]
              rfl
            have s4 := same_upd (o := .lst [.int 0]) hra
            refine fin _ I4 ra (.ref y) (cx4.grow s4) sI4 ?_ ?_ (neR _ (cx4.sR.free hra)) _ fun H5 v3 v4 cx5 hst5 => ?_
            · rw [es]
              refine ⟨y, rfl, hdesk.grow Gr.refl s4, ⟨?_, Nat.zero_le _, rfl, fun r hr => ?_⟩, Nat.zero_le _⟩
              · show (Sj52.nats l2).length = 16
                unfold Sj52.nats
                rw [List.length_map]
                exact len
              · have e3 : r = [] := List.eq_of_mem_replicate hr
                rw [e3]
                exact ⟨Nat.zero_le _, fun f hf => by simp at hf, List.nodup_nil, fun f hf => by simp at hf⟩
            · rw [es]
              exact upd_same
            · exact ⟨I4, _, v3, v4, rfl, sI.trans sI4, cx5, hst5⟩
      | on ok n xs rows q2 g hok =>
        obtain ⟨n2, xs2, rows2, dx, m, r, e, hc, hm, hrows⟩ := id hcall
        cases e
        refine ⟨_, rfl, c, _, dx, _, _, rfl, cx2.sI _ _ hc, T.cl_Call, T.na_Call_number, lk_Call_number, rfl, _, rfl, ?_⟩
        show if (!decide (V.int n = V.int 1)) = true then _ else _
        rw [decide_eq_false (fun z => goes_ne g (V.int.inj z))]
        refine iteT ⟨_, rfl, _, rfl, I', _, dv, c, s, n, xs, rows, qc, ok, rfl, cx2, hst, hcall, g, hok, fun H3 I3 ra cx3 sI3 hst3 hra hR => ?_⟩
        exact fin _ I3 ra dv cx3 sI3 hst3 hra (neR _ hR) _ fun H5 v3 v4 cx5 hst5 => ⟨I3, _, v3, v4, rfl, sI.trans sI3, cx5, hst5⟩
    · rintro σ H2 ⟨I', dv, v3, v4, rfl, sI, cx2, hst⟩
      rw [List.length_map, lqs, List.take_length, ← hans] at cx2
      exact ⟨_, rfl, q H2 tl (cx2.sR _ _ upd_same)⟩
end
end Fr

namespace Fr
open PySem PySem.Spec PyProof.Rows L2
/-! ### E. What the top has written, and the end -/
def lookI : List DictEntry → Int → Option Value
  | [], _ => none
  | e :: r, i => if Value.isInt i e.key = true then some e.val else lookI r i
theorem find_lookI : ∀ {l : List DictEntry} {i : Int} {u : Value}, lookI l i = some u → findBy Value.isInt (Array.mk l) i = some u := by
  intro l
  unfold findBy
  intro i u h
  have e : (Array.mk l).find? (fun e => Value.isInt i e.key) = l.find? fun e => Value.isInt i e.key := List.find?_toArray _ _
  rw [e]
  induction l with
  | nil => cases h
  | cons d r ih =>
    have h2 : (if Value.isInt i d.key = true then some d.val else lookI r i) = some u := h
    by_cases c : Value.isInt i d.key = true
    · rw [if_pos c] at h2
      rw [List.find?_cons_of_pos (p := fun e : DictEntry => Value.isInt i e.key) c]
      exact h2
    · rw [if_neg c] at h2
      rw [List.find?_cons_of_neg (p := fun e : DictEntry => Value.isInt i e.key) c]
      exact ih h2 (List.find?_toArray _ _)
theorem mg_int {K : PySem.W.Frag} {h : Heap} {mg : Str → Option Value} {n : Str} {i : Int} (X : K.In h) (G : h.Ns mainGlobals mg) (e : ∃ u, PySem.W.nsIn K mainGlobals n = some (some (.int i u))) : ∃ u, mg n = some (.int i u) := by
  obtain ⟨u, e⟩ := e
  exact ⟨u, PySem.W.mg_of X G e⟩
theorem shape_rows (p : Int) (n k : Nat) (h : PySj52.shape p = some (n, k)) : k ≤ 2 := by
  unfold PySj52.shape at h
  by_cases c1 : p = 1
  · rw [if_pos c1] at h
    cases h
    decide
  rw [if_neg c1] at h
  by_cases c2 : p = 2
  · rw [if_pos c2] at h
    cases h
    decide
  rw [if_neg c2] at h
  by_cases c3 : p = 3
  · rw [if_pos c3] at h
    cases h
    decide
  rw [if_neg c3] at h
  by_cases c4 : p = 4
  · rw [if_pos c4] at h
    cases h
    decide
  rw [if_neg c4] at h
  by_cases c5 : p = 5
  · rw [if_pos c5] at h
    cases h
    decide
  rw [if_neg c5] at h
  by_cases c6 : p = 6
  · rw [if_pos c6] at h
    cases h
    decide
  rw [if_neg c6] at h
  by_cases c7 : p = 7
  · rw [if_pos c7] at h
    cases h
    decide
  rw [if_neg c7] at h
  by_cases c8 : p = 8
  · rw [if_pos c8] at h
    cases h
    decide
  rw [if_neg c8] at h
  by_cases c9 : p = 9
  · rw [if_pos c9] at h
    cases h
    decide
  rw [if_neg c9] at h
  by_cases c10 : p = 10
  · rw [if_pos c10] at h
    cases h
    decide
  rw [if_neg c10] at h
  by_cases c11 : p = 11
  · rw [if_pos c11] at h
    cases h
    decide
  rw [if_neg c11] at h
  by_cases c12 : p = 12
  · rw [if_pos c12] at h
    cases h
    decide
  rw [if_neg c12] at h
  by_cases c13 : p = 13
  · rw [if_pos c13] at h
    cases h
    decide
  rw [if_neg c13] at h
  by_cases c14 : p = 14
  · rw [if_pos c14] at h
    cases h
    decide
  rw [if_neg c14] at h
  cases h
theorem all_mk {P : Program} {w : World} {K : PySem.W.Frag} {h : Heap} {mg : Str → Option Value} {fa : Addr} {w_MOST_RULES w_DEED_WITHOUT_RULE w_ROWS w_MOST_IN_ROW w_BEYOND_32_BITS w_ROW_START w_ROW_FACTOR w_WAS_THERE w_LEARNT w_LEARNT_FOR_ANOTHER w_OPENING w_KEY_SIZE w_MOST_SEED w_MOST_WORD w_MOST_WORD_VALUE w_MOST_OCTET w_MOST_FRAME w_MOST_WAITING w_MOST_TICKS w_MOST_NOW w_MOST_FLOWS w_NOT_AS_TOLD w_TOO_MANY_WAIT w_NONE_THERE w_NO_DESK w_CHANGE_FAILED y_1 y_2 y_3 y_4 y_5 y_6 y_7 y_8 y_9 y_10 y_11 y_12 y_13 y_14 z_1 z_2 z_3 z_4 z_5 z_6 z_7 z_8 z_9 z_10 z_11 z_12 z_13 z_14 : Tok} {fd_Call_init fd_read_rows fd_read_calls fd_Rule_init fd_under_mask fd_word_of fd_fits fd_deed_by_rules fd_PutChange_init fd_PutChange_can_be_made fd_PutChange_make fd_OutChange_init fd_OutChange_can_be_made fd_OutChange_make fd_SwapChange_init fd_SwapChange_can_be_made fd_SwapChange_make fd_Flow_init fd_Flow_count_frame fd_Table_init fd_Table_sort_frame fd_Table_learn fd_Table_let_old_go fd_Table_in_order fd_Table_follow_rules fd_row_number fd_flow_of fd_least_lately_seen fd_seen_lately fd_Desk_init fd_is_within fd_are_octets fd_is_place fd_is_opening_as_told fd_is_put_as_told fd_is_frame_as_told fd_are_ticks fd_key_of fd_let_wait fd_put fd_out fd_swap fd_commit fd_forget fd_sort_call fd_try_call fd_tick fd_age fd_tell_flow fd_tell_flows fd_tell_rule fd_tell_counts fd_answer_at fd_answers : FuncData} {dd_1 dd_2 dd_3 dd_4 dd_5 dd_6 dd_7 dd_8 dd_9 dd_10 dd_11 dd_12 dd_13 dd_14 : Option Addr} {sl_1 sl_2 sl_3 sl_4 sl_5 sl_6 sl_7 sl_8 sl_9 sl_10 sl_11 sl_12 sl_13 sl_14 : Array (Option Value)} {m_1 m_2 m_3 m_4 m_5 m_6 m_7 m_8 m_9 m_10 m_11 m_12 m_13 m_14 : Nat} {C_Call C_Rule C_PutChange C_OutChange C_SwapChange C_Flow C_Table C_Desk f_Call_init f_read_rows f_read_calls f_Rule_init f_under_mask f_word_of f_fits f_deed_by_rules f_PutChange_init f_PutChange_can_be_made f_PutChange_make f_OutChange_init f_OutChange_can_be_made f_OutChange_make f_SwapChange_init f_SwapChange_can_be_made f_SwapChange_make f_Flow_init f_Flow_count_frame f_Table_init f_Table_sort_frame f_Table_learn f_Table_let_old_go f_Table_in_order f_Table_follow_rules f_row_number f_flow_of f_least_lately_seen f_seen_lately f_Desk_init f_is_within f_are_octets f_is_place f_is_opening_as_told f_is_put_as_told f_is_frame_as_told f_are_ticks f_key_of f_let_wait f_put f_out f_swap f_commit f_forget f_sort_call f_try_call f_tick f_age f_tell_flow f_tell_flows f_tell_rule f_tell_counts f_answer_at f_answers t_SHAPES t_ANSWERING p_SHAPES_1 p_SHAPES_2 p_SHAPES_3 p_SHAPES_4 p_SHAPES_5 p_SHAPES_6 p_SHAPES_7 p_SHAPES_8 p_SHAPES_9 p_SHAPES_10 p_SHAPES_11 p_SHAPES_12 p_SHAPES_13 p_SHAPES_14 : Addr} {l_SHAPES_ l_ANSWERING_ : List DictEntry} {n_SHAPES_ n_ANSWERING_ : Nat} (X : K.In h) (G : h.Ns mainGlobals mg) (hfa : mg "answers" = some (.ref fa))
    (z_len : PySem.W.nsIn K mainGlobals "len" = some none)
    (z_sum : PySem.W.nsIn K mainGlobals "sum" = some none)
    (z_all : PySem.W.nsIn K mainGlobals "all" = some none)
    (z_list : PySem.W.nsIn K mainGlobals "list" = some none)
    (z_range : PySem.W.nsIn K mainGlobals "range" = some none)
    (z_zip : PySem.W.nsIn K mainGlobals "zip" = some none)
    (z_enumerate : PySem.W.nsIn K mainGlobals "enumerate" = some none)
    (i_MOST_RULES : PySem.W.nsIn K mainGlobals "MOST_RULES" = some (some (.int (32) w_MOST_RULES)))
    (i_DEED_WITHOUT_RULE : PySem.W.nsIn K mainGlobals "DEED_WITHOUT_RULE" = some (some (.int (0) w_DEED_WITHOUT_RULE)))
    (i_ROWS : PySem.W.nsIn K mainGlobals "ROWS" = some (some (.int (16) w_ROWS)))
    (i_MOST_IN_ROW : PySem.W.nsIn K mainGlobals "MOST_IN_ROW" = some (some (.int (4) w_MOST_IN_ROW)))
    (i_BEYOND_32_BITS : PySem.W.nsIn K mainGlobals "BEYOND_32_BITS" = some (some (.int (4294967296) w_BEYOND_32_BITS)))
    (i_ROW_START : PySem.W.nsIn K mainGlobals "ROW_START" = some (some (.int (2166136261) w_ROW_START)))
    (i_ROW_FACTOR : PySem.W.nsIn K mainGlobals "ROW_FACTOR" = some (some (.int (16777619) w_ROW_FACTOR)))
    (i_WAS_THERE : PySem.W.nsIn K mainGlobals "WAS_THERE" = some (some (.int (0) w_WAS_THERE)))
    (i_LEARNT : PySem.W.nsIn K mainGlobals "LEARNT" = some (some (.int (1) w_LEARNT)))
    (i_LEARNT_FOR_ANOTHER : PySem.W.nsIn K mainGlobals "LEARNT_FOR_ANOTHER" = some (some (.int (2) w_LEARNT_FOR_ANOTHER)))
    (i_OPENING : PySem.W.nsIn K mainGlobals "OPENING" = some (some (.int (1) w_OPENING)))
    (i_KEY_SIZE : PySem.W.nsIn K mainGlobals "KEY_SIZE" = some (some (.int (16) w_KEY_SIZE)))
    (i_MOST_SEED : PySem.W.nsIn K mainGlobals "MOST_SEED" = some (some (.int (4294967295) w_MOST_SEED)))
    (i_MOST_WORD : PySem.W.nsIn K mainGlobals "MOST_WORD" = some (some (.int (14) w_MOST_WORD)))
    (i_MOST_WORD_VALUE : PySem.W.nsIn K mainGlobals "MOST_WORD_VALUE" = some (some (.int (65535) w_MOST_WORD_VALUE)))
    (i_MOST_OCTET : PySem.W.nsIn K mainGlobals "MOST_OCTET" = some (some (.int (255) w_MOST_OCTET)))
    (i_MOST_FRAME : PySem.W.nsIn K mainGlobals "MOST_FRAME" = some (some (.int (256) w_MOST_FRAME)))
    (i_MOST_WAITING : PySem.W.nsIn K mainGlobals "MOST_WAITING" = some (some (.int (16) w_MOST_WAITING)))
    (i_MOST_TICKS : PySem.W.nsIn K mainGlobals "MOST_TICKS" = some (some (.int (100000) w_MOST_TICKS)))
    (i_MOST_NOW : PySem.W.nsIn K mainGlobals "MOST_NOW" = some (some (.int (1073741824) w_MOST_NOW)))
    (i_MOST_FLOWS : PySem.W.nsIn K mainGlobals "MOST_FLOWS" = some (some (.int (64) w_MOST_FLOWS)))
    (i_NOT_AS_TOLD : PySem.W.nsIn K mainGlobals "NOT_AS_TOLD" = some (some (.int (-2) w_NOT_AS_TOLD)))
    (i_TOO_MANY_WAIT : PySem.W.nsIn K mainGlobals "TOO_MANY_WAIT" = some (some (.int (-5) w_TOO_MANY_WAIT)))
    (i_NONE_THERE : PySem.W.nsIn K mainGlobals "NONE_THERE" = some (some (.int (-6) w_NONE_THERE)))
    (i_NO_DESK : PySem.W.nsIn K mainGlobals "NO_DESK" = some (some (.int (-7) w_NO_DESK)))
    (i_CHANGE_FAILED : PySem.W.nsIn K mainGlobals "CHANGE_FAILED" = some (some (.int (-100) w_CHANGE_FAILED)))
    (a_Call : PySem.W.nsIn K mainGlobals "Call" = some (some (.ref C_Call)))
    (a_Rule : PySem.W.nsIn K mainGlobals "Rule" = some (some (.ref C_Rule)))
    (a_PutChange : PySem.W.nsIn K mainGlobals "PutChange" = some (some (.ref C_PutChange)))
    (a_OutChange : PySem.W.nsIn K mainGlobals "OutChange" = some (some (.ref C_OutChange)))
    (a_SwapChange : PySem.W.nsIn K mainGlobals "SwapChange" = some (some (.ref C_SwapChange)))
    (a_Flow : PySem.W.nsIn K mainGlobals "Flow" = some (some (.ref C_Flow)))
    (a_Table : PySem.W.nsIn K mainGlobals "Table" = some (some (.ref C_Table)))
    (a_Desk : PySem.W.nsIn K mainGlobals "Desk" = some (some (.ref C_Desk)))
    (a_Call_init : PySem.W.findIn K (.ref C_Call) "__init__" = some (some (.ref f_Call_init)))
    (j_Call_init : PySem.W.isFn K (.ref f_Call_init) = true)
    (F_Call_init : Fun K "__init__" "Call.__init__" s_Call_init f_Call_init fd_Call_init)
    (a_read_rows : PySem.W.nsIn K mainGlobals "read_rows" = some (some (.ref f_read_rows)))
    (F_read_rows : Fun K "read_rows" "read_rows" s_read_rows f_read_rows fd_read_rows)
    (a_read_calls : PySem.W.nsIn K mainGlobals "read_calls" = some (some (.ref f_read_calls)))
    (F_read_calls : Fun K "read_calls" "read_calls" s_read_calls f_read_calls fd_read_calls)
    (a_Rule_init : PySem.W.findIn K (.ref C_Rule) "__init__" = some (some (.ref f_Rule_init)))
    (j_Rule_init : PySem.W.isFn K (.ref f_Rule_init) = true)
    (F_Rule_init : Fun K "__init__" "Rule.__init__" s_Rule_init f_Rule_init fd_Rule_init)
    (a_under_mask : PySem.W.nsIn K mainGlobals "under_mask" = some (some (.ref f_under_mask)))
    (F_under_mask : Fun K "under_mask" "under_mask" s_under_mask f_under_mask fd_under_mask)
    (a_word_of : PySem.W.nsIn K mainGlobals "word_of" = some (some (.ref f_word_of)))
    (F_word_of : Fun K "word_of" "word_of" s_word_of f_word_of fd_word_of)
    (a_fits : PySem.W.nsIn K mainGlobals "fits" = some (some (.ref f_fits)))
    (F_fits : Fun K "fits" "fits" s_fits f_fits fd_fits)
    (a_deed_by_rules : PySem.W.nsIn K mainGlobals "deed_by_rules" = some (some (.ref f_deed_by_rules)))
    (F_deed_by_rules : Fun K "deed_by_rules" "deed_by_rules" s_deed_by_rules f_deed_by_rules fd_deed_by_rules)
    (a_PutChange_init : PySem.W.findIn K (.ref C_PutChange) "__init__" = some (some (.ref f_PutChange_init)))
    (j_PutChange_init : PySem.W.isFn K (.ref f_PutChange_init) = true)
    (F_PutChange_init : Fun K "__init__" "PutChange.__init__" s_PutChange_init f_PutChange_init fd_PutChange_init)
    (a_PutChange_can_be_made : PySem.W.findIn K (.ref C_PutChange) "can_be_made" = some (some (.ref f_PutChange_can_be_made)))
    (j_PutChange_can_be_made : PySem.W.isFn K (.ref f_PutChange_can_be_made) = true)
    (F_PutChange_can_be_made : Fun K "can_be_made" "PutChange.can_be_made" s_PutChange_can_be_made f_PutChange_can_be_made fd_PutChange_can_be_made)
    (a_PutChange_make : PySem.W.findIn K (.ref C_PutChange) "make" = some (some (.ref f_PutChange_make)))
    (j_PutChange_make : PySem.W.isFn K (.ref f_PutChange_make) = true)
    (F_PutChange_make : Fun K "make" "PutChange.make" s_PutChange_make f_PutChange_make fd_PutChange_make)
    (a_OutChange_init : PySem.W.findIn K (.ref C_OutChange) "__init__" = some (some (.ref f_OutChange_init)))
    (j_OutChange_init : PySem.W.isFn K (.ref f_OutChange_init) = true)
    (F_OutChange_init : Fun K "__init__" "OutChange.__init__" s_OutChange_init f_OutChange_init fd_OutChange_init)
    (a_OutChange_can_be_made : PySem.W.findIn K (.ref C_OutChange) "can_be_made" = some (some (.ref f_OutChange_can_be_made)))
    (j_OutChange_can_be_made : PySem.W.isFn K (.ref f_OutChange_can_be_made) = true)
    (F_OutChange_can_be_made : Fun K "can_be_made" "OutChange.can_be_made" s_OutChange_can_be_made f_OutChange_can_be_made fd_OutChange_can_be_made)
    (a_OutChange_make : PySem.W.findIn K (.ref C_OutChange) "make" = some (some (.ref f_OutChange_make)))
    (j_OutChange_make : PySem.W.isFn K (.ref f_OutChange_make) = true)
    (F_OutChange_make : Fun K "make" "OutChange.make" s_OutChange_make f_OutChange_make fd_OutChange_make)
    (a_SwapChange_init : PySem.W.findIn K (.ref C_SwapChange) "__init__" = some (some (.ref f_SwapChange_init)))
    (j_SwapChange_init : PySem.W.isFn K (.ref f_SwapChange_init) = true)
    (F_SwapChange_init : Fun K "__init__" "SwapChange.__init__" s_SwapChange_init f_SwapChange_init fd_SwapChange_init)
    (a_SwapChange_can_be_made : PySem.W.findIn K (.ref C_SwapChange) "can_be_made" = some (some (.ref f_SwapChange_can_be_made)))
    (j_SwapChange_can_be_made : PySem.W.isFn K (.ref f_SwapChange_can_be_made) = true)
    (F_SwapChange_can_be_made : Fun K "can_be_made" "SwapChange.can_be_made" s_SwapChange_can_be_made f_SwapChange_can_be_made fd_SwapChange_can_be_made)
    (a_SwapChange_make : PySem.W.findIn K (.ref C_SwapChange) "make" = some (some (.ref f_SwapChange_make)))
    (j_SwapChange_make : PySem.W.isFn K (.ref f_SwapChange_make) = true)
    (F_SwapChange_make : Fun K "make" "SwapChange.make" s_SwapChange_make f_SwapChange_make fd_SwapChange_make)
    (a_Flow_init : PySem.W.findIn K (.ref C_Flow) "__init__" = some (some (.ref f_Flow_init)))
    (j_Flow_init : PySem.W.isFn K (.ref f_Flow_init) = true)
    (F_Flow_init : Fun K "__init__" "Flow.__init__" s_Flow_init f_Flow_init fd_Flow_init)
    (a_Flow_count_frame : PySem.W.findIn K (.ref C_Flow) "count_frame" = some (some (.ref f_Flow_count_frame)))
    (j_Flow_count_frame : PySem.W.isFn K (.ref f_Flow_count_frame) = true)
    (F_Flow_count_frame : Fun K "count_frame" "Flow.count_frame" s_Flow_count_frame f_Flow_count_frame fd_Flow_count_frame)
    (a_Table_init : PySem.W.findIn K (.ref C_Table) "__init__" = some (some (.ref f_Table_init)))
    (j_Table_init : PySem.W.isFn K (.ref f_Table_init) = true)
    (F_Table_init : Fun K "__init__" "Table.__init__" s_Table_init f_Table_init fd_Table_init)
    (a_Table_sort_frame : PySem.W.findIn K (.ref C_Table) "sort_frame" = some (some (.ref f_Table_sort_frame)))
    (j_Table_sort_frame : PySem.W.isFn K (.ref f_Table_sort_frame) = true)
    (F_Table_sort_frame : Fun K "sort_frame" "Table.sort_frame" s_Table_sort_frame f_Table_sort_frame fd_Table_sort_frame)
    (a_Table_learn : PySem.W.findIn K (.ref C_Table) "learn" = some (some (.ref f_Table_learn)))
    (j_Table_learn : PySem.W.isFn K (.ref f_Table_learn) = true)
    (F_Table_learn : Fun K "learn" "Table.learn" s_Table_learn f_Table_learn fd_Table_learn)
    (a_Table_let_old_go : PySem.W.findIn K (.ref C_Table) "let_old_go" = some (some (.ref f_Table_let_old_go)))
    (j_Table_let_old_go : PySem.W.isFn K (.ref f_Table_let_old_go) = true)
    (F_Table_let_old_go : Fun K "let_old_go" "Table.let_old_go" s_Table_let_old_go f_Table_let_old_go fd_Table_let_old_go)
    (a_Table_in_order : PySem.W.findIn K (.ref C_Table) "in_order" = some (some (.ref f_Table_in_order)))
    (j_Table_in_order : PySem.W.isFn K (.ref f_Table_in_order) = true)
    (F_Table_in_order : Fun K "in_order" "Table.in_order" s_Table_in_order f_Table_in_order fd_Table_in_order)
    (a_Table_follow_rules : PySem.W.findIn K (.ref C_Table) "follow_rules" = some (some (.ref f_Table_follow_rules)))
    (j_Table_follow_rules : PySem.W.isFn K (.ref f_Table_follow_rules) = true)
    (F_Table_follow_rules : Fun K "follow_rules" "Table.follow_rules" s_Table_follow_rules f_Table_follow_rules fd_Table_follow_rules)
    (a_row_number : PySem.W.nsIn K mainGlobals "row_number" = some (some (.ref f_row_number)))
    (F_row_number : Fun K "row_number" "row_number" s_row_number f_row_number fd_row_number)
    (a_flow_of : PySem.W.nsIn K mainGlobals "flow_of" = some (some (.ref f_flow_of)))
    (F_flow_of : Fun K "flow_of" "flow_of" s_flow_of f_flow_of fd_flow_of)
    (a_least_lately_seen : PySem.W.nsIn K mainGlobals "least_lately_seen" = some (some (.ref f_least_lately_seen)))
    (F_least_lately_seen : Fun K "least_lately_seen" "least_lately_seen" s_least_lately_seen f_least_lately_seen fd_least_lately_seen)
    (a_seen_lately : PySem.W.nsIn K mainGlobals "seen_lately" = some (some (.ref f_seen_lately)))
    (F_seen_lately : Fun K "seen_lately" "seen_lately" s_seen_lately f_seen_lately fd_seen_lately)
    (a_Desk_init : PySem.W.findIn K (.ref C_Desk) "__init__" = some (some (.ref f_Desk_init)))
    (j_Desk_init : PySem.W.isFn K (.ref f_Desk_init) = true)
    (F_Desk_init : Fun K "__init__" "Desk.__init__" s_Desk_init f_Desk_init fd_Desk_init)
    (a_is_within : PySem.W.nsIn K mainGlobals "is_within" = some (some (.ref f_is_within)))
    (F_is_within : Fun K "is_within" "is_within" s_is_within f_is_within fd_is_within)
    (a_are_octets : PySem.W.nsIn K mainGlobals "are_octets" = some (some (.ref f_are_octets)))
    (F_are_octets : Fun K "are_octets" "are_octets" s_are_octets f_are_octets fd_are_octets)
    (a_is_place : PySem.W.nsIn K mainGlobals "is_place" = some (some (.ref f_is_place)))
    (F_is_place : Fun K "is_place" "is_place" s_is_place f_is_place fd_is_place)
    (a_is_opening_as_told : PySem.W.nsIn K mainGlobals "is_opening_as_told" = some (some (.ref f_is_opening_as_told)))
    (F_is_opening_as_told : Fun K "is_opening_as_told" "is_opening_as_told" s_is_opening_as_told f_is_opening_as_told fd_is_opening_as_told)
    (a_is_put_as_told : PySem.W.nsIn K mainGlobals "is_put_as_told" = some (some (.ref f_is_put_as_told)))
    (F_is_put_as_told : Fun K "is_put_as_told" "is_put_as_told" s_is_put_as_told f_is_put_as_told fd_is_put_as_told)
    (a_is_frame_as_told : PySem.W.nsIn K mainGlobals "is_frame_as_told" = some (some (.ref f_is_frame_as_told)))
    (F_is_frame_as_told : Fun K "is_frame_as_told" "is_frame_as_told" s_is_frame_as_told f_is_frame_as_told fd_is_frame_as_told)
    (a_are_ticks : PySem.W.nsIn K mainGlobals "are_ticks" = some (some (.ref f_are_ticks)))
    (F_are_ticks : Fun K "are_ticks" "are_ticks" s_are_ticks f_are_ticks fd_are_ticks)
    (a_key_of : PySem.W.nsIn K mainGlobals "key_of" = some (some (.ref f_key_of)))
    (F_key_of : Fun K "key_of" "key_of" s_key_of f_key_of fd_key_of)
    (a_let_wait : PySem.W.nsIn K mainGlobals "let_wait" = some (some (.ref f_let_wait)))
    (F_let_wait : Fun K "let_wait" "let_wait" s_let_wait f_let_wait fd_let_wait)
    (a_put : PySem.W.nsIn K mainGlobals "put" = some (some (.ref f_put)))
    (F_put : Fun K "put" "put" s_put f_put fd_put)
    (a_out : PySem.W.nsIn K mainGlobals "out" = some (some (.ref f_out)))
    (F_out : Fun K "out" "out" s_out f_out fd_out)
    (a_swap : PySem.W.nsIn K mainGlobals "swap" = some (some (.ref f_swap)))
    (F_swap : Fun K "swap" "swap" s_swap f_swap fd_swap)
    (a_commit : PySem.W.nsIn K mainGlobals "commit" = some (some (.ref f_commit)))
    (F_commit : Fun K "commit" "commit" s_commit f_commit fd_commit)
    (a_forget : PySem.W.nsIn K mainGlobals "forget" = some (some (.ref f_forget)))
    (F_forget : Fun K "forget" "forget" s_forget f_forget fd_forget)
    (a_sort_call : PySem.W.nsIn K mainGlobals "sort_call" = some (some (.ref f_sort_call)))
    (F_sort_call : Fun K "sort_call" "sort_call" s_sort_call f_sort_call fd_sort_call)
    (a_try_call : PySem.W.nsIn K mainGlobals "try_call" = some (some (.ref f_try_call)))
    (F_try_call : Fun K "try_call" "try_call" s_try_call f_try_call fd_try_call)
    (a_tick : PySem.W.nsIn K mainGlobals "tick" = some (some (.ref f_tick)))
    (F_tick : Fun K "tick" "tick" s_tick f_tick fd_tick)
    (a_age : PySem.W.nsIn K mainGlobals "age" = some (some (.ref f_age)))
    (F_age : Fun K "age" "age" s_age f_age fd_age)
    (a_tell_flow : PySem.W.nsIn K mainGlobals "tell_flow" = some (some (.ref f_tell_flow)))
    (F_tell_flow : Fun K "tell_flow" "tell_flow" s_tell_flow f_tell_flow fd_tell_flow)
    (a_tell_flows : PySem.W.nsIn K mainGlobals "tell_flows" = some (some (.ref f_tell_flows)))
    (F_tell_flows : Fun K "tell_flows" "tell_flows" s_tell_flows f_tell_flows fd_tell_flows)
    (a_tell_rule : PySem.W.nsIn K mainGlobals "tell_rule" = some (some (.ref f_tell_rule)))
    (F_tell_rule : Fun K "tell_rule" "tell_rule" s_tell_rule f_tell_rule fd_tell_rule)
    (a_tell_counts : PySem.W.nsIn K mainGlobals "tell_counts" = some (some (.ref f_tell_counts)))
    (F_tell_counts : Fun K "tell_counts" "tell_counts" s_tell_counts f_tell_counts fd_tell_counts)
    (a_answer_at : PySem.W.nsIn K mainGlobals "answer_at" = some (some (.ref f_answer_at)))
    (F_answer_at : Fun K "answer_at" "answer_at" s_answer_at f_answer_at fd_answer_at)
    (a_answers : PySem.W.nsIn K mainGlobals "answers" = some (some (.ref f_answers)))
    (F_answers : Fun K "answers" "answers" s_answers f_answers fd_answers)
    (pg_Call : PySem.W.plainGet K C_Call Str.empty = true)
    (hd_Call : PySem.W.hasDictIn K C_Call = true)
    (po_Call : PySem.W.plainOver K C_Call = true)
    (sa_Call : PySem.W.findIn K (.ref C_Call) "__setattr__" = some (some (.builtin "object.__setattr__")))
    (mk_Call : PySem.W.makesIn K C_Call = true)
    (kc_Call : PySem.W.keepIn K (.ref C_Call) = true)
    (n_Call_number : PySem.W.findIn K (.ref C_Call) "number" = some none)
    (n_Call_numbers : PySem.W.findIn K (.ref C_Call) "numbers" = some none)
    (n_Call_rows : PySem.W.findIn K (.ref C_Call) "rows" = some none)
    (pg_Rule : PySem.W.plainGet K C_Rule Str.empty = true)
    (hd_Rule : PySem.W.hasDictIn K C_Rule = true)
    (po_Rule : PySem.W.plainOver K C_Rule = true)
    (sa_Rule : PySem.W.findIn K (.ref C_Rule) "__setattr__" = some (some (.builtin "object.__setattr__")))
    (mk_Rule : PySem.W.makesIn K C_Rule = true)
    (kc_Rule : PySem.W.keepIn K (.ref C_Rule) = true)
    (n_Rule_mask : PySem.W.findIn K (.ref C_Rule) "mask" = some none)
    (n_Rule_value : PySem.W.findIn K (.ref C_Rule) "value" = some none)
    (n_Rule_word : PySem.W.findIn K (.ref C_Rule) "word" = some none)
    (n_Rule_lo : PySem.W.findIn K (.ref C_Rule) "lo" = some none)
    (n_Rule_hi : PySem.W.findIn K (.ref C_Rule) "hi" = some none)
    (n_Rule_deed : PySem.W.findIn K (.ref C_Rule) "deed" = some none)
    (pg_PutChange : PySem.W.plainGet K C_PutChange Str.empty = true)
    (hd_PutChange : PySem.W.hasDictIn K C_PutChange = true)
    (po_PutChange : PySem.W.plainOver K C_PutChange = true)
    (sa_PutChange : PySem.W.findIn K (.ref C_PutChange) "__setattr__" = some (some (.builtin "object.__setattr__")))
    (mk_PutChange : PySem.W.makesIn K C_PutChange = true)
    (kc_PutChange : PySem.W.keepIn K (.ref C_PutChange) = true)
    (n_PutChange_place : PySem.W.findIn K (.ref C_PutChange) "place" = some none)
    (n_PutChange_rule : PySem.W.findIn K (.ref C_PutChange) "rule" = some none)
    (pg_OutChange : PySem.W.plainGet K C_OutChange Str.empty = true)
    (hd_OutChange : PySem.W.hasDictIn K C_OutChange = true)
    (po_OutChange : PySem.W.plainOver K C_OutChange = true)
    (sa_OutChange : PySem.W.findIn K (.ref C_OutChange) "__setattr__" = some (some (.builtin "object.__setattr__")))
    (mk_OutChange : PySem.W.makesIn K C_OutChange = true)
    (kc_OutChange : PySem.W.keepIn K (.ref C_OutChange) = true)
    (n_OutChange_place : PySem.W.findIn K (.ref C_OutChange) "place" = some none)
    (pg_SwapChange : PySem.W.plainGet K C_SwapChange Str.empty = true)
    (hd_SwapChange : PySem.W.hasDictIn K C_SwapChange = true)
    (po_SwapChange : PySem.W.plainOver K C_SwapChange = true)
    (sa_SwapChange : PySem.W.findIn K (.ref C_SwapChange) "__setattr__" = some (some (.builtin "object.__setattr__")))
    (mk_SwapChange : PySem.W.makesIn K C_SwapChange = true)
    (kc_SwapChange : PySem.W.keepIn K (.ref C_SwapChange) = true)
    (n_SwapChange_place : PySem.W.findIn K (.ref C_SwapChange) "place" = some none)
    (n_SwapChange_other : PySem.W.findIn K (.ref C_SwapChange) "other" = some none)
    (pg_Flow : PySem.W.plainGet K C_Flow Str.empty = true)
    (hd_Flow : PySem.W.hasDictIn K C_Flow = true)
    (po_Flow : PySem.W.plainOver K C_Flow = true)
    (sa_Flow : PySem.W.findIn K (.ref C_Flow) "__setattr__" = some (some (.builtin "object.__setattr__")))
    (mk_Flow : PySem.W.makesIn K C_Flow = true)
    (kc_Flow : PySem.W.keepIn K (.ref C_Flow) = true)
    (n_Flow_key : PySem.W.findIn K (.ref C_Flow) "key" = some none)
    (n_Flow_deed : PySem.W.findIn K (.ref C_Flow) "deed" = some none)
    (n_Flow_frames : PySem.W.findIn K (.ref C_Flow) "frames" = some none)
    (n_Flow_octets : PySem.W.findIn K (.ref C_Flow) "octets" = some none)
    (n_Flow_seen : PySem.W.findIn K (.ref C_Flow) "seen" = some none)
    (pg_Table : PySem.W.plainGet K C_Table Str.empty = true)
    (hd_Table : PySem.W.hasDictIn K C_Table = true)
    (po_Table : PySem.W.plainOver K C_Table = true)
    (sa_Table : PySem.W.findIn K (.ref C_Table) "__setattr__" = some (some (.builtin "object.__setattr__")))
    (mk_Table : PySem.W.makesIn K C_Table = true)
    (kc_Table : PySem.W.keepIn K (.ref C_Table) = true)
    (n_Table_seed : PySem.W.findIn K (.ref C_Table) "seed" = some none)
    (n_Table_rows : PySem.W.findIn K (.ref C_Table) "rows" = some none)
    (n_Table_frames_known : PySem.W.findIn K (.ref C_Table) "frames_known" = some none)
    (n_Table_frames_learnt : PySem.W.findIn K (.ref C_Table) "frames_learnt" = some none)
    (n_Table_flows_displaced : PySem.W.findIn K (.ref C_Table) "flows_displaced" = some none)
    (pg_Desk : PySem.W.plainGet K C_Desk Str.empty = true)
    (hd_Desk : PySem.W.hasDictIn K C_Desk = true)
    (po_Desk : PySem.W.plainOver K C_Desk = true)
    (sa_Desk : PySem.W.findIn K (.ref C_Desk) "__setattr__" = some (some (.builtin "object.__setattr__")))
    (mk_Desk : PySem.W.makesIn K C_Desk = true)
    (kc_Desk : PySem.W.keepIn K (.ref C_Desk) = true)
    (n_Desk_places : PySem.W.findIn K (.ref C_Desk) "places" = some none)
    (n_Desk_rules : PySem.W.findIn K (.ref C_Desk) "rules" = some none)
    (n_Desk_waiting : PySem.W.findIn K (.ref C_Desk) "waiting" = some none)
    (n_Desk_table : PySem.W.findIn K (.ref C_Desk) "table" = some none)
    (n_Desk_now : PySem.W.findIn K (.ref C_Desk) "now" = some none)
    (g_SHAPES : PySem.W.nsIn K mainGlobals "SHAPES" = some (some (.ref t_SHAPES)))
    (l_SHAPES : K.lookup t_SHAPES = some ⟨.type "dict", none, .dict (Array.mk l_SHAPES_) n_SHAPES_, #[]⟩)
    (k_SHAPES : keysInt l_SHAPES_ = true)
    (e_SHAPES_1 : lookI l_SHAPES_ 1 = some (.ref p_SHAPES_1))
    (v_SHAPES_1 : K.lookup p_SHAPES_1 = some ⟨.type "tuple", dd_1, .seq #[.int 1 y_1, .int 1 z_1] m_1, sl_1⟩)
    (e_SHAPES_2 : lookI l_SHAPES_ 2 = some (.ref p_SHAPES_2))
    (v_SHAPES_2 : K.lookup p_SHAPES_2 = some ⟨.type "tuple", dd_2, .seq #[.int 5 y_2, .int 2 z_2] m_2, sl_2⟩)
    (e_SHAPES_3 : lookI l_SHAPES_ 3 = some (.ref p_SHAPES_3))
    (v_SHAPES_3 : K.lookup p_SHAPES_3 = some ⟨.type "tuple", dd_3, .seq #[.int 1 y_3, .int 0 z_3] m_3, sl_3⟩)
    (e_SHAPES_4 : lookI l_SHAPES_ 4 = some (.ref p_SHAPES_4))
    (v_SHAPES_4 : K.lookup p_SHAPES_4 = some ⟨.type "tuple", dd_4, .seq #[.int 2 y_4, .int 0 z_4] m_4, sl_4⟩)
    (e_SHAPES_5 : lookI l_SHAPES_ 5 = some (.ref p_SHAPES_5))
    (v_SHAPES_5 : K.lookup p_SHAPES_5 = some ⟨.type "tuple", dd_5, .seq #[.int 0 y_5, .int 0 z_5] m_5, sl_5⟩)
    (e_SHAPES_6 : lookI l_SHAPES_ 6 = some (.ref p_SHAPES_6))
    (v_SHAPES_6 : K.lookup p_SHAPES_6 = some ⟨.type "tuple", dd_6, .seq #[.int 0 y_6, .int 0 z_6] m_6, sl_6⟩)
    (e_SHAPES_7 : lookI l_SHAPES_ 7 = some (.ref p_SHAPES_7))
    (v_SHAPES_7 : K.lookup p_SHAPES_7 = some ⟨.type "tuple", dd_7, .seq #[.int 1 y_7, .int 1 z_7] m_7, sl_7⟩)
    (e_SHAPES_8 : lookI l_SHAPES_ 8 = some (.ref p_SHAPES_8))
    (v_SHAPES_8 : K.lookup p_SHAPES_8 = some ⟨.type "tuple", dd_8, .seq #[.int 1 y_8, .int 1 z_8] m_8, sl_8⟩)
    (e_SHAPES_9 : lookI l_SHAPES_ 9 = some (.ref p_SHAPES_9))
    (v_SHAPES_9 : K.lookup p_SHAPES_9 = some ⟨.type "tuple", dd_9, .seq #[.int 1 y_9, .int 0 z_9] m_9, sl_9⟩)
    (e_SHAPES_10 : lookI l_SHAPES_ 10 = some (.ref p_SHAPES_10))
    (v_SHAPES_10 : K.lookup p_SHAPES_10 = some ⟨.type "tuple", dd_10, .seq #[.int 1 y_10, .int 0 z_10] m_10, sl_10⟩)
    (e_SHAPES_11 : lookI l_SHAPES_ 11 = some (.ref p_SHAPES_11))
    (v_SHAPES_11 : K.lookup p_SHAPES_11 = some ⟨.type "tuple", dd_11, .seq #[.int 1 y_11, .int 0 z_11] m_11, sl_11⟩)
    (e_SHAPES_12 : lookI l_SHAPES_ 12 = some (.ref p_SHAPES_12))
    (v_SHAPES_12 : K.lookup p_SHAPES_12 = some ⟨.type "tuple", dd_12, .seq #[.int 0 y_12, .int 0 z_12] m_12, sl_12⟩)
    (e_SHAPES_13 : lookI l_SHAPES_ 13 = some (.ref p_SHAPES_13))
    (v_SHAPES_13 : K.lookup p_SHAPES_13 = some ⟨.type "tuple", dd_13, .seq #[.int 1 y_13, .int 0 z_13] m_13, sl_13⟩)
    (e_SHAPES_14 : lookI l_SHAPES_ 14 = some (.ref p_SHAPES_14))
    (v_SHAPES_14 : K.lookup p_SHAPES_14 = some ⟨.type "tuple", dd_14, .seq #[.int 0 y_14, .int 0 z_14] m_14, sl_14⟩)
    (g_ANSWERING : PySem.W.nsIn K mainGlobals "ANSWERING" = some (some (.ref t_ANSWERING)))
    (l_ANSWERING : K.lookup t_ANSWERING = some ⟨.type "dict", none, .dict (Array.mk l_ANSWERING_) n_ANSWERING_, #[]⟩)
    (k_ANSWERING : keysInt l_ANSWERING_ = true)
    (e_ANSWERING_2 : lookI l_ANSWERING_ 2 = some (.ref f_put))
    (e_ANSWERING_3 : lookI l_ANSWERING_ 3 = some (.ref f_out))
    (e_ANSWERING_4 : lookI l_ANSWERING_ 4 = some (.ref f_swap))
    (e_ANSWERING_5 : lookI l_ANSWERING_ 5 = some (.ref f_commit))
    (e_ANSWERING_6 : lookI l_ANSWERING_ 6 = some (.ref f_forget))
    (e_ANSWERING_7 : lookI l_ANSWERING_ 7 = some (.ref f_sort_call))
    (e_ANSWERING_8 : lookI l_ANSWERING_ 8 = some (.ref f_try_call))
    (e_ANSWERING_9 : lookI l_ANSWERING_ 9 = some (.ref f_tick))
    (e_ANSWERING_10 : lookI l_ANSWERING_ 10 = some (.ref f_age))
    (e_ANSWERING_11 : lookI l_ANSWERING_ 11 = some (.ref f_tell_flow))
    (e_ANSWERING_12 : lookI l_ANSWERING_ 12 = some (.ref f_tell_flows))
    (e_ANSWERING_13 : lookI l_ANSWERING_ 13 = some (.ref f_tell_rule))
    (e_ANSWERING_14 : lookI l_ANSWERING_ 14 = some (.ref f_tell_counts)) :
    ∃ fd : FuncData, (∀ (s : Shared) (us : List Value), us.length = (["calls"] : List Str).length → BindsTo s fd ⟨us, []⟩ ((["calls"] : List Str).zip us)) ∧ ∀ base : Heap, K.In base → base.Ns mainGlobals mg → FnOk P w K mg base CX0 7 fa fd ["calls"] (spAnswers K) := by
  cases hfa.symm.trans (PySem.W.mg_of X G a_answers)
  have b_Call_init := F_Call_init.binds (ps := ["self", "number", "numbers", "rows"]) fun _ _ _ _ _ _ us hl => match us, hl with | [_, _, _, _], _ => rfl
  have b_read_rows := F_read_rows.binds (ps := ["calls", "at", "how_many"]) fun _ _ _ _ _ _ us hl => match us, hl with | [_, _, _], _ => rfl
  have b_read_calls := F_read_calls.binds (ps := ["calls"]) fun _ _ _ _ _ _ us hl => match us, hl with | [_], _ => rfl
  have b_Rule_init := F_Rule_init.binds (ps := ["self", "mask", "value", "word", "lo", "hi", "deed"]) fun _ _ _ _ _ _ us hl => match us, hl with | [_, _, _, _, _, _, _], _ => rfl
  have b_under_mask := F_under_mask.binds (ps := ["octets", "mask"]) fun _ _ _ _ _ _ us hl => match us, hl with | [_, _], _ => rfl
  have b_word_of := F_word_of.binds (ps := ["key", "word"]) fun _ _ _ _ _ _ us hl => match us, hl with | [_, _], _ => rfl
  have b_fits := F_fits.binds (ps := ["rule", "key"]) fun _ _ _ _ _ _ us hl => match us, hl with | [_, _], _ => rfl
  have b_deed_by_rules := F_deed_by_rules.binds (ps := ["rules", "key"]) fun _ _ _ _ _ _ us hl => match us, hl with | [_, _], _ => rfl
  have b_PutChange_init := F_PutChange_init.binds (ps := ["self", "place", "rule"]) fun _ _ _ _ _ _ us hl => match us, hl with | [_, _, _], _ => rfl
  have b_PutChange_can_be_made := F_PutChange_can_be_made.binds (ps := ["self", "rules"]) fun _ _ _ _ _ _ us hl => match us, hl with | [_, _], _ => rfl
  have b_PutChange_make := F_PutChange_make.binds (ps := ["self", "rules"]) fun _ _ _ _ _ _ us hl => match us, hl with | [_, _], _ => rfl
  have b_OutChange_init := F_OutChange_init.binds (ps := ["self", "place"]) fun _ _ _ _ _ _ us hl => match us, hl with | [_, _], _ => rfl
  have b_OutChange_can_be_made := F_OutChange_can_be_made.binds (ps := ["self", "rules"]) fun _ _ _ _ _ _ us hl => match us, hl with | [_, _], _ => rfl
  have b_OutChange_make := F_OutChange_make.binds (ps := ["self", "rules"]) fun _ _ _ _ _ _ us hl => match us, hl with | [_, _], _ => rfl
  have b_SwapChange_init := F_SwapChange_init.binds (ps := ["self", "place", "other"]) fun _ _ _ _ _ _ us hl => match us, hl with | [_, _, _], _ => rfl
  have b_SwapChange_can_be_made := F_SwapChange_can_be_made.binds (ps := ["self", "rules"]) fun _ _ _ _ _ _ us hl => match us, hl with | [_, _], _ => rfl
  have b_SwapChange_make := F_SwapChange_make.binds (ps := ["self", "rules"]) fun _ _ _ _ _ _ us hl => match us, hl with | [_, _], _ => rfl
  have b_Flow_init := F_Flow_init.binds (ps := ["self", "key", "deed", "size", "now"]) fun _ _ _ _ _ _ us hl => match us, hl with | [_, _, _, _, _], _ => rfl
  have b_Flow_count_frame := F_Flow_count_frame.binds (ps := ["self", "size", "now"]) fun _ _ _ _ _ _ us hl => match us, hl with | [_, _, _], _ => rfl
  have b_Table_init := F_Table_init.binds (ps := ["self", "seed"]) fun _ _ _ _ _ _ us hl => match us, hl with | [_, _], _ => rfl
  have b_Table_sort_frame := F_Table_sort_frame.binds (ps := ["self", "rules", "key", "size", "now"]) fun _ _ _ _ _ _ us hl => match us, hl with | [_, _, _, _, _], _ => rfl
  have b_Table_learn := F_Table_learn.binds (ps := ["self", "row", "flow"]) fun _ _ _ _ _ _ us hl => match us, hl with | [_, _, _], _ => rfl
  have b_Table_let_old_go := F_Table_let_old_go.binds (ps := ["self", "ticks", "now"]) fun _ _ _ _ _ _ us hl => match us, hl with | [_, _, _], _ => rfl
  have b_Table_in_order := F_Table_in_order.binds (ps := ["self"]) fun _ _ _ _ _ _ us hl => match us, hl with | [_], _ => rfl
  have b_Table_follow_rules := F_Table_follow_rules.binds (ps := ["self", "rules"]) fun _ _ _ _ _ _ us hl => match us, hl with | [_, _], _ => rfl
  have b_row_number := F_row_number.binds (ps := ["seed", "key"]) fun _ _ _ _ _ _ us hl => match us, hl with | [_, _], _ => rfl
  have b_flow_of := F_flow_of.binds (ps := ["row", "key"]) fun _ _ _ _ _ _ us hl => match us, hl with | [_, _], _ => rfl
  have b_least_lately_seen := F_least_lately_seen.binds (ps := ["row"]) fun _ _ _ _ _ _ us hl => match us, hl with | [_], _ => rfl
  have b_seen_lately := F_seen_lately.binds (ps := ["row", "ticks", "now"]) fun _ _ _ _ _ _ us hl => match us, hl with | [_, _, _], _ => rfl
  have b_Desk_init := F_Desk_init.binds (ps := ["self", "seed", "places"]) fun _ _ _ _ _ _ us hl => match us, hl with | [_, _, _], _ => rfl
  have b_is_within := F_is_within.binds (ps := ["number", "lowest", "highest"]) fun _ _ _ _ _ _ us hl => match us, hl with | [_, _, _], _ => rfl
  have b_are_octets := F_are_octets.binds (ps := ["row", "how_many"]) fun _ _ _ _ _ _ us hl => match us, hl with | [_, _], _ => rfl
  have b_is_place := F_is_place.binds (ps := ["number"]) fun _ _ _ _ _ _ us hl => match us, hl with | [_], _ => rfl
  have b_is_opening_as_told := F_is_opening_as_told.binds (ps := ["call"]) fun _ _ _ _ _ _ us hl => match us, hl with | [_], _ => rfl
  have b_is_put_as_told := F_is_put_as_told.binds (ps := ["call"]) fun _ _ _ _ _ _ us hl => match us, hl with | [_], _ => rfl
  have b_is_frame_as_told := F_is_frame_as_told.binds (ps := ["call"]) fun _ _ _ _ _ _ us hl => match us, hl with | [_], _ => rfl
  have b_are_ticks := F_are_ticks.binds (ps := ["number"]) fun _ _ _ _ _ _ us hl => match us, hl with | [_], _ => rfl
  have b_key_of := F_key_of.binds (ps := ["frame", "places"]) fun _ _ _ _ _ _ us hl => match us, hl with | [_, _], _ => rfl
  have b_let_wait := F_let_wait.binds (ps := ["desk", "change"]) fun _ _ _ _ _ _ us hl => match us, hl with | [_, _], _ => rfl
  have b_put := F_put.binds (ps := ["desk", "call"]) fun _ _ _ _ _ _ us hl => match us, hl with | [_, _], _ => rfl
  have b_out := F_out.binds (ps := ["desk", "call"]) fun _ _ _ _ _ _ us hl => match us, hl with | [_, _], _ => rfl
  have b_swap := F_swap.binds (ps := ["desk", "call"]) fun _ _ _ _ _ _ us hl => match us, hl with | [_, _], _ => rfl
  have b_commit := F_commit.binds (ps := ["desk", "call"]) fun _ _ _ _ _ _ us hl => match us, hl with | [_, _], _ => rfl
  have b_forget := F_forget.binds (ps := ["desk", "call"]) fun _ _ _ _ _ _ us hl => match us, hl with | [_, _], _ => rfl
  have b_sort_call := F_sort_call.binds (ps := ["desk", "call"]) fun _ _ _ _ _ _ us hl => match us, hl with | [_, _], _ => rfl
  have b_try_call := F_try_call.binds (ps := ["desk", "call"]) fun _ _ _ _ _ _ us hl => match us, hl with | [_, _], _ => rfl
  have b_tick := F_tick.binds (ps := ["desk", "call"]) fun _ _ _ _ _ _ us hl => match us, hl with | [_, _], _ => rfl
  have b_age := F_age.binds (ps := ["desk", "call"]) fun _ _ _ _ _ _ us hl => match us, hl with | [_, _], _ => rfl
  have b_tell_flow := F_tell_flow.binds (ps := ["desk", "call"]) fun _ _ _ _ _ _ us hl => match us, hl with | [_, _], _ => rfl
  have b_tell_flows := F_tell_flows.binds (ps := ["desk", "call"]) fun _ _ _ _ _ _ us hl => match us, hl with | [_, _], _ => rfl
  have b_tell_rule := F_tell_rule.binds (ps := ["desk", "call"]) fun _ _ _ _ _ _ us hl => match us, hl with | [_, _], _ => rfl
  have b_tell_counts := F_tell_counts.binds (ps := ["desk", "call"]) fun _ _ _ _ _ _ us hl => match us, hl with | [_, _], _ => rfl
  have b_answer_at := F_answer_at.binds (ps := ["desk", "call"]) fun _ _ _ _ _ _ us hl => match us, hl with | [_, _], _ => rfl
  have b_answers := F_answers.binds (ps := ["calls"]) fun _ _ _ _ _ _ us hl => match us, hl with | [_], _ => rfl
  have hS : ∀ (p : Int) (n k : Nat), PySj52.shape p = some (n, k) → ∃ t, KInt K t_SHAPES p (.ref t) ∧ ∀ H, SqT K H t [.int (n : Int), .int (k : Int)] := by
    intro p n k h
    unfold PySj52.shape at h
    by_cases c1 : p = 1
    · subst c1
      rw [if_pos rfl] at h
      cases h
      exact ⟨p_SHAPES_1, ⟨_, _, _, l_SHAPES, k_SHAPES, find_lookI e_SHAPES_1, rfl⟩, fun H => .inr ⟨_, _, _, v_SHAPES_1, rfl, rfl, (by show 2 ≤ sizeLine; decide), .cons ⟨_, rfl⟩ (.cons ⟨_, rfl⟩ .nil)⟩⟩
    rw [if_neg c1] at h
    by_cases c2 : p = 2
    · subst c2
      rw [if_pos rfl] at h
      cases h
      exact ⟨p_SHAPES_2, ⟨_, _, _, l_SHAPES, k_SHAPES, find_lookI e_SHAPES_2, rfl⟩, fun H => .inr ⟨_, _, _, v_SHAPES_2, rfl, rfl, (by show 2 ≤ sizeLine; decide), .cons ⟨_, rfl⟩ (.cons ⟨_, rfl⟩ .nil)⟩⟩
    rw [if_neg c2] at h
    by_cases c3 : p = 3
    · subst c3
      rw [if_pos rfl] at h
      cases h
      exact ⟨p_SHAPES_3, ⟨_, _, _, l_SHAPES, k_SHAPES, find_lookI e_SHAPES_3, rfl⟩, fun H => .inr ⟨_, _, _, v_SHAPES_3, rfl, rfl, (by show 2 ≤ sizeLine; decide), .cons ⟨_, rfl⟩ (.cons ⟨_, rfl⟩ .nil)⟩⟩
    rw [if_neg c3] at h
    by_cases c4 : p = 4
    · subst c4
      rw [if_pos rfl] at h
      cases h
      exact ⟨p_SHAPES_4, ⟨_, _, _, l_SHAPES, k_SHAPES, find_lookI e_SHAPES_4, rfl⟩, fun H => .inr ⟨_, _, _, v_SHAPES_4, rfl, rfl, (by show 2 ≤ sizeLine; decide), .cons ⟨_, rfl⟩ (.cons ⟨_, rfl⟩ .nil)⟩⟩
    rw [if_neg c4] at h
    by_cases c5 : p = 5
    · subst c5
      rw [if_pos rfl] at h
      cases h
      exact ⟨p_SHAPES_5, ⟨_, _, _, l_SHAPES, k_SHAPES, find_lookI e_SHAPES_5, rfl⟩, fun H => .inr ⟨_, _, _, v_SHAPES_5, rfl, rfl, (by show 2 ≤ sizeLine; decide), .cons ⟨_, rfl⟩ (.cons ⟨_, rfl⟩ .nil)⟩⟩
    rw [if_neg c5] at h
    by_cases c6 : p = 6
    · subst c6
      rw [if_pos rfl] at h
      cases h
      exact ⟨p_SHAPES_6, ⟨_, _, _, l_SHAPES, k_SHAPES, find_lookI e_SHAPES_6, rfl⟩, fun H => .inr ⟨_, _, _, v_SHAPES_6, rfl, rfl, (by show 2 ≤ sizeLine; decide), .cons ⟨_, rfl⟩ (.cons ⟨_, rfl⟩ .nil)⟩⟩
    rw [if_neg c6] at h
    by_cases c7 : p = 7
    · subst c7
      rw [if_pos rfl] at h
      cases h
      exact ⟨p_SHAPES_7, ⟨_, _, _, l_SHAPES, k_SHAPES, find_lookI e_SHAPES_7, rfl⟩, fun H => .inr ⟨_, _, _, v_SHAPES_7, rfl, rfl, (by show 2 ≤ sizeLine; decide), .cons ⟨_, rfl⟩ (.cons ⟨_, rfl⟩ .nil)⟩⟩
    rw [if_neg c7] at h
    by_cases c8 : p = 8
    · subst c8
      rw [if_pos rfl] at h
      cases h
      exact ⟨p_SHAPES_8, ⟨_, _, _, l_SHAPES, k_SHAPES, find_lookI e_SHAPES_8, rfl⟩, fun H => .inr ⟨_, _, _, v_SHAPES_8, rfl, rfl, (by show 2 ≤ sizeLine; decide), .cons ⟨_, rfl⟩ (.cons ⟨_, rfl⟩ .nil)⟩⟩
    rw [if_neg c8] at h
    by_cases c9 : p = 9
    · subst c9
      rw [if_pos rfl] at h
      cases h
      exact ⟨p_SHAPES_9, ⟨_, _, _, l_SHAPES, k_SHAPES, find_lookI e_SHAPES_9, rfl⟩, fun H => .inr ⟨_, _, _, v_SHAPES_9, rfl, rfl, (by show 2 ≤ sizeLine; decide), .cons ⟨_, rfl⟩ (.cons ⟨_, rfl⟩ .nil)⟩⟩
    rw [if_neg c9] at h
    by_cases c10 : p = 10
    · subst c10
      rw [if_pos rfl] at h
      cases h
      exact ⟨p_SHAPES_10, ⟨_, _, _, l_SHAPES, k_SHAPES, find_lookI e_SHAPES_10, rfl⟩, fun H => .inr ⟨_, _, _, v_SHAPES_10, rfl, rfl, (by show 2 ≤ sizeLine; decide), .cons ⟨_, rfl⟩ (.cons ⟨_, rfl⟩ .nil)⟩⟩
    rw [if_neg c10] at h
    by_cases c11 : p = 11
    · subst c11
      rw [if_pos rfl] at h
      cases h
      exact ⟨p_SHAPES_11, ⟨_, _, _, l_SHAPES, k_SHAPES, find_lookI e_SHAPES_11, rfl⟩, fun H => .inr ⟨_, _, _, v_SHAPES_11, rfl, rfl, (by show 2 ≤ sizeLine; decide), .cons ⟨_, rfl⟩ (.cons ⟨_, rfl⟩ .nil)⟩⟩
    rw [if_neg c11] at h
    by_cases c12 : p = 12
    · subst c12
      rw [if_pos rfl] at h
      cases h
      exact ⟨p_SHAPES_12, ⟨_, _, _, l_SHAPES, k_SHAPES, find_lookI e_SHAPES_12, rfl⟩, fun H => .inr ⟨_, _, _, v_SHAPES_12, rfl, rfl, (by show 2 ≤ sizeLine; decide), .cons ⟨_, rfl⟩ (.cons ⟨_, rfl⟩ .nil)⟩⟩
    rw [if_neg c12] at h
    by_cases c13 : p = 13
    · subst c13
      rw [if_pos rfl] at h
      cases h
      exact ⟨p_SHAPES_13, ⟨_, _, _, l_SHAPES, k_SHAPES, find_lookI e_SHAPES_13, rfl⟩, fun H => .inr ⟨_, _, _, v_SHAPES_13, rfl, rfl, (by show 2 ≤ sizeLine; decide), .cons ⟨_, rfl⟩ (.cons ⟨_, rfl⟩ .nil)⟩⟩
    rw [if_neg c13] at h
    by_cases c14 : p = 14
    · subst c14
      rw [if_pos rfl] at h
      cases h
      exact ⟨p_SHAPES_14, ⟨_, _, _, l_SHAPES, k_SHAPES, find_lookI e_SHAPES_14, rfl⟩, fun H => .inr ⟨_, _, _, v_SHAPES_14, rfl, rfl, (by show 2 ≤ sizeLine; decide), .cons ⟨_, rfl⟩ (.cons ⟨_, rfl⟩ .nil)⟩⟩
    rw [if_neg c14] at h
    cases h
  have hS2 := shape_rows
  have T : Txt K mg ⟨C_Call, C_Rule, C_PutChange, C_OutChange, C_SwapChange, C_Flow, C_Table, C_Desk, t_SHAPES, t_ANSWERING⟩ := ⟨PySem.W.mg_none_of X G z_len, PySem.W.mg_none_of X G z_sum, PySem.W.mg_none_of X G z_all, PySem.W.mg_none_of X G z_list, PySem.W.mg_none_of X G z_range, PySem.W.mg_none_of X G z_zip, PySem.W.mg_none_of X G z_enumerate, mg_int X G ⟨_, i_MOST_RULES⟩, mg_int X G ⟨_, i_DEED_WITHOUT_RULE⟩, mg_int X G ⟨_, i_ROWS⟩, mg_int X G ⟨_, i_MOST_IN_ROW⟩, mg_int X G ⟨_, i_BEYOND_32_BITS⟩, mg_int X G ⟨_, i_ROW_START⟩, mg_int X G ⟨_, i_ROW_FACTOR⟩, mg_int X G ⟨_, i_WAS_THERE⟩, mg_int X G ⟨_, i_LEARNT⟩, mg_int X G ⟨_, i_LEARNT_FOR_ANOTHER⟩, mg_int X G ⟨_, i_OPENING⟩, mg_int X G ⟨_, i_KEY_SIZE⟩, mg_int X G ⟨_, i_MOST_SEED⟩, mg_int X G ⟨_, i_MOST_WORD⟩, mg_int X G ⟨_, i_MOST_WORD_VALUE⟩, mg_int X G ⟨_, i_MOST_OCTET⟩, mg_int X G ⟨_, i_MOST_FRAME⟩, mg_int X G ⟨_, i_MOST_WAITING⟩, mg_int X G ⟨_, i_MOST_TICKS⟩, mg_int X G ⟨_, i_MOST_NOW⟩, mg_int X G ⟨_, i_MOST_FLOWS⟩, mg_int X G ⟨_, i_NOT_AS_TOLD⟩, mg_int X G ⟨_, i_TOO_MANY_WAIT⟩, mg_int X G ⟨_, i_NONE_THERE⟩, mg_int X G ⟨_, i_NO_DESK⟩, mg_int X G ⟨_, i_CHANGE_FAILED⟩, ⟨pg_Call, hd_Call, po_Call, sa_Call⟩, n_Call_number, n_Call_numbers, n_Call_rows, ⟨pg_Rule, hd_Rule, po_Rule, sa_Rule⟩, n_Rule_mask, n_Rule_value, n_Rule_word, n_Rule_lo, n_Rule_hi, n_Rule_deed, ⟨pg_PutChange, hd_PutChange, po_PutChange, sa_PutChange⟩, n_PutChange_place, n_PutChange_rule, ⟨pg_OutChange, hd_OutChange, po_OutChange, sa_OutChange⟩, n_OutChange_place, ⟨pg_SwapChange, hd_SwapChange, po_SwapChange, sa_SwapChange⟩, n_SwapChange_place, n_SwapChange_other, ⟨pg_Flow, hd_Flow, po_Flow, sa_Flow⟩, n_Flow_key, n_Flow_deed, n_Flow_frames, n_Flow_octets, n_Flow_seen, ⟨pg_Table, hd_Table, po_Table, sa_Table⟩, n_Table_seed, n_Table_rows, n_Table_frames_known, n_Table_frames_learnt, n_Table_flows_displaced, ⟨pg_Desk, hd_Desk, po_Desk, sa_Desk⟩, n_Desk_places, n_Desk_rules, n_Desk_waiting, n_Desk_table, n_Desk_now, PySem.W.mg_of X G g_SHAPES, PySem.W.mg_of X G g_ANSWERING⟩
  refine ⟨fd_answers, ?bind, ?main⟩
  case bind =>
    obtain ⟨oc, od, kV, doc, pm, an, cdv, ct, osl, e, lk, hcd⟩ := F_answers.ex
    subst e
    exact fun s us hu => match us, hu with | [_], _ => .of_eq rfl
  intro base _ _
  have h_read_rows : Has P w K mg base 1 "read_rows" ["calls", "at", "how_many"] (spReadRows K) := ⟨_, _, ok_read_rows F_read_rows T, PySem.W.mg_of X G a_read_rows, F_read_rows.kp, b_read_rows⟩
  have hc_Call : HasC P w K mg base 1 "Call" C_Call ["self", "number", "numbers", "rows"] (spCall ⟨C_Call, C_Rule, C_PutChange, C_OutChange, C_SwapChange, C_Flow, C_Table, C_Desk, t_SHAPES, t_ANSWERING⟩) := ⟨_, _, ok_Call_init F_Call_init T, PySem.W.mg_of X G a_Call, ⟨mk_Call, a_Call_init, j_Call_init, kc_Call⟩, b_Call_init⟩
  have h_read_calls : Has P w K mg base 3 "read_calls" ["calls"] (spReadCalls K ⟨C_Call, C_Rule, C_PutChange, C_OutChange, C_SwapChange, C_Flow, C_Table, C_Desk, t_SHAPES, t_ANSWERING⟩) := ⟨_, _, ok_read_calls F_read_calls T h_read_rows hc_Call hS hS2, PySem.W.mg_of X G a_read_calls, F_read_calls.kp, b_read_calls⟩
  have h_under_mask : Has P w K mg base 1 "under_mask" ["octets", "mask"] (spUnder K) := ⟨_, _, ok_under_mask F_under_mask T, PySem.W.mg_of X G a_under_mask, F_under_mask.kp, b_under_mask⟩
  have h_word_of : Has P w K mg base 1 "word_of" ["key", "word"] (spWord K) := ⟨_, _, ok_word_of F_word_of, PySem.W.mg_of X G a_word_of, F_word_of.kp, b_word_of⟩
  have h_fits : Has P w K mg base 2 "fits" ["rule", "key"] (spFits K ⟨C_Call, C_Rule, C_PutChange, C_OutChange, C_SwapChange, C_Flow, C_Table, C_Desk, t_SHAPES, t_ANSWERING⟩) := ⟨_, _, ok_fits F_fits T h_under_mask h_word_of, PySem.W.mg_of X G a_fits, F_fits.kp, b_fits⟩
  have h_deed_by_rules : Has P w K mg base 3 "deed_by_rules" ["rules", "key"] (spDeed K ⟨C_Call, C_Rule, C_PutChange, C_OutChange, C_SwapChange, C_Flow, C_Table, C_Desk, t_SHAPES, t_ANSWERING⟩) := ⟨_, _, ok_deed_by_rules F_deed_by_rules T h_fits, PySem.W.mg_of X G a_deed_by_rules, F_deed_by_rules.kp, b_deed_by_rules⟩
  have hc_Rule : HasC P w K mg base 2 "Rule" C_Rule ["self", "mask", "value", "word", "lo", "hi", "deed"] (spRule ⟨C_Call, C_Rule, C_PutChange, C_OutChange, C_SwapChange, C_Flow, C_Table, C_Desk, t_SHAPES, t_ANSWERING⟩) := ⟨_, _, ok_Rule_init F_Rule_init T h_under_mask, PySem.W.mg_of X G a_Rule, ⟨mk_Rule, a_Rule_init, j_Rule_init, kc_Rule⟩, b_Rule_init⟩
  have hc_PutChange : HasC P w K mg base 1 "PutChange" C_PutChange ["self", "place", "rule"] (spPutC ⟨C_Call, C_Rule, C_PutChange, C_OutChange, C_SwapChange, C_Flow, C_Table, C_Desk, t_SHAPES, t_ANSWERING⟩) := ⟨_, _, ok_PutChange_init F_PutChange_init T, PySem.W.mg_of X G a_PutChange, ⟨mk_PutChange, a_PutChange_init, j_PutChange_init, kc_PutChange⟩, b_PutChange_init⟩
  have hc_OutChange : HasC P w K mg base 1 "OutChange" C_OutChange ["self", "place"] (spOutC ⟨C_Call, C_Rule, C_PutChange, C_OutChange, C_SwapChange, C_Flow, C_Table, C_Desk, t_SHAPES, t_ANSWERING⟩) := ⟨_, _, ok_OutChange_init F_OutChange_init T, PySem.W.mg_of X G a_OutChange, ⟨mk_OutChange, a_OutChange_init, j_OutChange_init, kc_OutChange⟩, b_OutChange_init⟩
  have hc_SwapChange : HasC P w K mg base 1 "SwapChange" C_SwapChange ["self", "place", "other"] (spSwapC ⟨C_Call, C_Rule, C_PutChange, C_OutChange, C_SwapChange, C_Flow, C_Table, C_Desk, t_SHAPES, t_ANSWERING⟩) := ⟨_, _, ok_SwapChange_init F_SwapChange_init T, PySem.W.mg_of X G a_SwapChange, ⟨mk_SwapChange, a_SwapChange_init, j_SwapChange_init, kc_SwapChange⟩, b_SwapChange_init⟩
  have hm_PutChange_can_be_made : HasM P w K mg base 1 C_PutChange "can_be_made" ["self", "rules"] (spCan ⟨C_Call, C_Rule, C_PutChange, C_OutChange, C_SwapChange, C_Flow, C_Table, C_Desk, t_SHAPES, t_ANSWERING⟩ IsPut) := ⟨_, _, ok_PutChange_can F_PutChange_can_be_made T, T.cl_PutChange, ⟨a_PutChange_can_be_made, j_PutChange_can_be_made, F_PutChange_can_be_made.kp⟩, b_PutChange_can_be_made⟩
  have hm_PutChange_make : HasM P w K mg base 1 C_PutChange "make" ["self", "rules"] (spMake ⟨C_Call, C_Rule, C_PutChange, C_OutChange, C_SwapChange, C_Flow, C_Table, C_Desk, t_SHAPES, t_ANSWERING⟩ IsPut) := ⟨_, _, ok_PutChange_make F_PutChange_make T, T.cl_PutChange, ⟨a_PutChange_make, j_PutChange_make, F_PutChange_make.kp⟩, b_PutChange_make⟩
  have hm_OutChange_can_be_made : HasM P w K mg base 1 C_OutChange "can_be_made" ["self", "rules"] (spCan ⟨C_Call, C_Rule, C_PutChange, C_OutChange, C_SwapChange, C_Flow, C_Table, C_Desk, t_SHAPES, t_ANSWERING⟩ IsOut) := ⟨_, _, ok_OutChange_can F_OutChange_can_be_made T, T.cl_OutChange, ⟨a_OutChange_can_be_made, j_OutChange_can_be_made, F_OutChange_can_be_made.kp⟩, b_OutChange_can_be_made⟩
  have hm_OutChange_make : HasM P w K mg base 1 C_OutChange "make" ["self", "rules"] (spMake ⟨C_Call, C_Rule, C_PutChange, C_OutChange, C_SwapChange, C_Flow, C_Table, C_Desk, t_SHAPES, t_ANSWERING⟩ IsOut) := ⟨_, _, ok_OutChange_make F_OutChange_make T, T.cl_OutChange, ⟨a_OutChange_make, j_OutChange_make, F_OutChange_make.kp⟩, b_OutChange_make⟩
  have hm_SwapChange_can_be_made : HasM P w K mg base 1 C_SwapChange "can_be_made" ["self", "rules"] (spCan ⟨C_Call, C_Rule, C_PutChange, C_OutChange, C_SwapChange, C_Flow, C_Table, C_Desk, t_SHAPES, t_ANSWERING⟩ IsSwap) := ⟨_, _, ok_SwapChange_can F_SwapChange_can_be_made T, T.cl_SwapChange, ⟨a_SwapChange_can_be_made, j_SwapChange_can_be_made, F_SwapChange_can_be_made.kp⟩, b_SwapChange_can_be_made⟩
  have hm_SwapChange_make : HasM P w K mg base 1 C_SwapChange "make" ["self", "rules"] (spMake ⟨C_Call, C_Rule, C_PutChange, C_OutChange, C_SwapChange, C_Flow, C_Table, C_Desk, t_SHAPES, t_ANSWERING⟩ IsSwap) := ⟨_, _, ok_SwapChange_make F_SwapChange_make T, T.cl_SwapChange, ⟨a_SwapChange_make, j_SwapChange_make, F_SwapChange_make.kp⟩, b_SwapChange_make⟩
  have h_row_number : Has P w K mg base 1 "row_number" ["seed", "key"] (spRowNo K) := ⟨_, _, ok_row_number F_row_number T, PySem.W.mg_of X G a_row_number, F_row_number.kp, b_row_number⟩
  have h_flow_of : Has P w K mg base 1 "flow_of" ["row", "key"] (spFlowOf K ⟨C_Call, C_Rule, C_PutChange, C_OutChange, C_SwapChange, C_Flow, C_Table, C_Desk, t_SHAPES, t_ANSWERING⟩) := ⟨_, _, ok_flow_of F_flow_of T, PySem.W.mg_of X G a_flow_of, F_flow_of.kp, b_flow_of⟩
  have h_least_lately_seen : Has P w K mg base 1 "least_lately_seen" ["row"] (spLeast ⟨C_Call, C_Rule, C_PutChange, C_OutChange, C_SwapChange, C_Flow, C_Table, C_Desk, t_SHAPES, t_ANSWERING⟩) := ⟨_, _, ok_least F_least_lately_seen T, PySem.W.mg_of X G a_least_lately_seen, F_least_lately_seen.kp, b_least_lately_seen⟩
  have hc_Flow : HasC P w K mg base 1 "Flow" C_Flow ["self", "key", "deed", "size", "now"] (spFlow ⟨C_Call, C_Rule, C_PutChange, C_OutChange, C_SwapChange, C_Flow, C_Table, C_Desk, t_SHAPES, t_ANSWERING⟩) := ⟨_, _, ok_Flow_init F_Flow_init T, PySem.W.mg_of X G a_Flow, ⟨mk_Flow, a_Flow_init, j_Flow_init, kc_Flow⟩, b_Flow_init⟩
  have hm_Flow_count_frame : HasM P w K mg base 1 C_Flow "count_frame" ["self", "size", "now"] (spCount ⟨C_Call, C_Rule, C_PutChange, C_OutChange, C_SwapChange, C_Flow, C_Table, C_Desk, t_SHAPES, t_ANSWERING⟩) := ⟨_, _, ok_Flow_count_frame F_Flow_count_frame T, T.cl_Flow, ⟨a_Flow_count_frame, j_Flow_count_frame, F_Flow_count_frame.kp⟩, b_Flow_count_frame⟩
  have hc_Table : HasC P w K mg base 1 "Table" C_Table ["self", "seed"] (spTable ⟨C_Call, C_Rule, C_PutChange, C_OutChange, C_SwapChange, C_Flow, C_Table, C_Desk, t_SHAPES, t_ANSWERING⟩) := ⟨_, _, ok_Table_init F_Table_init T, PySem.W.mg_of X G a_Table, ⟨mk_Table, a_Table_init, j_Table_init, kc_Table⟩, b_Table_init⟩
  have hm_Table_learn : HasM P w K mg base 2 C_Table "learn" ["self", "row", "flow"] (spLearn ⟨C_Call, C_Rule, C_PutChange, C_OutChange, C_SwapChange, C_Flow, C_Table, C_Desk, t_SHAPES, t_ANSWERING⟩) := ⟨_, _, ok_learn F_Table_learn T h_least_lately_seen, T.cl_Table, ⟨a_Table_learn, j_Table_learn, F_Table_learn.kp⟩, b_Table_learn⟩
  have hm_Table_sort_frame : HasM P w K mg base 4 C_Table "sort_frame" ["self", "rules", "key", "size", "now"] (spSort ⟨C_Call, C_Rule, C_PutChange, C_OutChange, C_SwapChange, C_Flow, C_Table, C_Desk, t_SHAPES, t_ANSWERING⟩) := ⟨_, _, ok_sort_frame F_Table_sort_frame T h_row_number h_flow_of hm_Flow_count_frame h_deed_by_rules hm_Table_learn hc_Flow, T.cl_Table, ⟨a_Table_sort_frame, j_Table_sort_frame, F_Table_sort_frame.kp⟩, b_Table_sort_frame⟩
  have hm_Table_in_order : HasM P w K mg base 1 C_Table "in_order" ["self"] (spInOrder ⟨C_Call, C_Rule, C_PutChange, C_OutChange, C_SwapChange, C_Flow, C_Table, C_Desk, t_SHAPES, t_ANSWERING⟩) := ⟨_, _, ok_in_order F_Table_in_order T, T.cl_Table, ⟨a_Table_in_order, j_Table_in_order, F_Table_in_order.kp⟩, b_Table_in_order⟩
  have h_seen_lately : Has P w K mg base 1 "seen_lately" ["row", "ticks", "now"] (spSeen ⟨C_Call, C_Rule, C_PutChange, C_OutChange, C_SwapChange, C_Flow, C_Table, C_Desk, t_SHAPES, t_ANSWERING⟩) := ⟨_, _, ok_seen_lately F_seen_lately T, PySem.W.mg_of X G a_seen_lately, F_seen_lately.kp, b_seen_lately⟩
  have hm_Table_let_old_go : HasM P w K mg base 2 C_Table "let_old_go" ["self", "ticks", "now"] (spOld ⟨C_Call, C_Rule, C_PutChange, C_OutChange, C_SwapChange, C_Flow, C_Table, C_Desk, t_SHAPES, t_ANSWERING⟩) := ⟨_, _, ok_let_old_go F_Table_let_old_go T hm_Table_in_order h_seen_lately, T.cl_Table, ⟨a_Table_let_old_go, j_Table_let_old_go, F_Table_let_old_go.kp⟩, b_Table_let_old_go⟩
  have hm_Table_follow_rules : HasM P w K mg base 4 C_Table "follow_rules" ["self", "rules"] (spFollow ⟨C_Call, C_Rule, C_PutChange, C_OutChange, C_SwapChange, C_Flow, C_Table, C_Desk, t_SHAPES, t_ANSWERING⟩) := ⟨_, _, ok_follow_rules F_Table_follow_rules T h_deed_by_rules, T.cl_Table, ⟨a_Table_follow_rules, j_Table_follow_rules, F_Table_follow_rules.kp⟩, b_Table_follow_rules⟩
  have h_is_within : Has P w K mg base 1 "is_within" ["number", "lowest", "highest"] spWithin := ⟨_, _, ok_is_within F_is_within, PySem.W.mg_of X G a_is_within, F_is_within.kp, b_is_within⟩
  have h_are_octets : Has P w K mg base 2 "are_octets" ["row", "how_many"] (spOctets K) := ⟨_, _, ok_are_octets F_are_octets T h_is_within, PySem.W.mg_of X G a_are_octets, F_are_octets.kp, b_are_octets⟩
  have h_is_place : Has P w K mg base 2 "is_place" ["number"] spPlace := ⟨_, _, ok_is_place F_is_place T h_is_within, PySem.W.mg_of X G a_is_place, F_is_place.kp, b_is_place⟩
  have h_is_opening_as_told : Has P w K mg base 3 "is_opening_as_told" ["call"] (spOpening ⟨C_Call, C_Rule, C_PutChange, C_OutChange, C_SwapChange, C_Flow, C_Table, C_Desk, t_SHAPES, t_ANSWERING⟩) := ⟨_, _, ok_is_opening F_is_opening_as_told T h_is_within h_are_octets, PySem.W.mg_of X G a_is_opening_as_told, F_is_opening_as_told.kp, b_is_opening_as_told⟩
  have h_is_put_as_told : Has P w K mg base 3 "is_put_as_told" ["call"] (spPutOk ⟨C_Call, C_Rule, C_PutChange, C_OutChange, C_SwapChange, C_Flow, C_Table, C_Desk, t_SHAPES, t_ANSWERING⟩) := ⟨_, _, ok_is_put F_is_put_as_told T h_is_within h_is_place h_are_octets, PySem.W.mg_of X G a_is_put_as_told, F_is_put_as_told.kp, b_is_put_as_told⟩
  have h_is_frame_as_told : Has P w K mg base 3 "is_frame_as_told" ["call"] (spFrame ⟨C_Call, C_Rule, C_PutChange, C_OutChange, C_SwapChange, C_Flow, C_Table, C_Desk, t_SHAPES, t_ANSWERING⟩) := ⟨_, _, ok_is_frame F_is_frame_as_told T h_is_within h_are_octets, PySem.W.mg_of X G a_is_frame_as_told, F_is_frame_as_told.kp, b_is_frame_as_told⟩
  have h_key_of : Has P w K mg base 1 "key_of" ["frame", "places"] (spKey K) := ⟨_, _, ok_key_of F_key_of T, PySem.W.mg_of X G a_key_of, F_key_of.kp, b_key_of⟩
  have h_are_ticks : Has P w K mg base 2 "are_ticks" ["number"] spTicks := ⟨_, _, ok_are_ticks F_are_ticks T h_is_within, PySem.W.mg_of X G a_are_ticks, F_are_ticks.kp, b_are_ticks⟩
  have h_let_wait : Has P w K mg base 1 "let_wait" ["desk", "change"] (spWait ⟨C_Call, C_Rule, C_PutChange, C_OutChange, C_SwapChange, C_Flow, C_Table, C_Desk, t_SHAPES, t_ANSWERING⟩) := ⟨_, _, ok_let_wait F_let_wait T, PySem.W.mg_of X G a_let_wait, F_let_wait.kp, b_let_wait⟩
  have hc_Desk : HasC P w K mg base 3 "Desk" C_Desk ["self", "seed", "places"] (spDesk ⟨C_Call, C_Rule, C_PutChange, C_OutChange, C_SwapChange, C_Flow, C_Table, C_Desk, t_SHAPES, t_ANSWERING⟩) := ⟨_, _, ok_Desk_init F_Desk_init T hc_Table, PySem.W.mg_of X G a_Desk, ⟨mk_Desk, a_Desk_init, j_Desk_init, kc_Desk⟩, b_Desk_init⟩
  have hcan : ∀ C sp, CanS ⟨C_Call, C_Rule, C_PutChange, C_OutChange, C_SwapChange, C_Flow, C_Table, C_Desk, t_SHAPES, t_ANSWERING⟩ C sp → ∃ ps, HasM P w K mg base 1 C "can_be_made" ps sp := by
    intro C sp z
    cases z
    · exact ⟨_, hm_PutChange_can_be_made⟩
    · exact ⟨_, hm_OutChange_can_be_made⟩
    · exact ⟨_, hm_SwapChange_can_be_made⟩
  have hmake : ∀ C sp, MakeS ⟨C_Call, C_Rule, C_PutChange, C_OutChange, C_SwapChange, C_Flow, C_Table, C_Desk, t_SHAPES, t_ANSWERING⟩ C sp → ∃ ps, HasM P w K mg base 1 C "make" ps sp := by
    intro C sp z
    cases z
    · exact ⟨_, hm_PutChange_make⟩
    · exact ⟨_, hm_OutChange_make⟩
    · exact ⟨_, hm_SwapChange_make⟩
  have o_put : FnOk P w K mg base CX0 4 f_put fd_put ["desk", "call"] (spOn ⟨C_Call, C_Rule, C_PutChange, C_OutChange, C_SwapChange, C_Flow, C_Table, C_Desk, t_SHAPES, t_ANSWERING⟩ OkPut) := ok_put F_put T h_is_put_as_told h_let_wait hc_PutChange hc_Rule
  have o_out : FnOk P w K mg base CX0 3 f_out fd_out ["desk", "call"] (spOn ⟨C_Call, C_Rule, C_PutChange, C_OutChange, C_SwapChange, C_Flow, C_Table, C_Desk, t_SHAPES, t_ANSWERING⟩ OkOut) := ok_out F_out T h_is_place h_let_wait hc_OutChange
  have o_swap : FnOk P w K mg base CX0 3 f_swap fd_swap ["desk", "call"] (spOn ⟨C_Call, C_Rule, C_PutChange, C_OutChange, C_SwapChange, C_Flow, C_Table, C_Desk, t_SHAPES, t_ANSWERING⟩ OkSwap) := ok_swap F_swap T h_is_place h_let_wait hc_SwapChange
  have o_commit : FnOk P w K mg base CX0 5 f_commit fd_commit ["desk", "call"] (spOn ⟨C_Call, C_Rule, C_PutChange, C_OutChange, C_SwapChange, C_Flow, C_Table, C_Desk, t_SHAPES, t_ANSWERING⟩ OkCommit) := ok_commit F_commit T hcan hmake hm_Table_follow_rules
  have o_forget : FnOk P w K mg base CX0 1 f_forget fd_forget ["desk", "call"] (spOn ⟨C_Call, C_Rule, C_PutChange, C_OutChange, C_SwapChange, C_Flow, C_Table, C_Desk, t_SHAPES, t_ANSWERING⟩ OkForget) := ok_forget F_forget T
  have o_sort_call : FnOk P w K mg base CX0 5 f_sort_call fd_sort_call ["desk", "call"] (spOn ⟨C_Call, C_Rule, C_PutChange, C_OutChange, C_SwapChange, C_Flow, C_Table, C_Desk, t_SHAPES, t_ANSWERING⟩ OkSort) := ok_sort_call F_sort_call T h_is_frame_as_told h_key_of hm_Table_sort_frame
  have o_try_call : FnOk P w K mg base CX0 4 f_try_call fd_try_call ["desk", "call"] (spOn ⟨C_Call, C_Rule, C_PutChange, C_OutChange, C_SwapChange, C_Flow, C_Table, C_Desk, t_SHAPES, t_ANSWERING⟩ OkTry) := ok_try_call F_try_call T h_is_frame_as_told h_key_of h_deed_by_rules
  have o_tick : FnOk P w K mg base CX0 3 f_tick fd_tick ["desk", "call"] (spOn ⟨C_Call, C_Rule, C_PutChange, C_OutChange, C_SwapChange, C_Flow, C_Table, C_Desk, t_SHAPES, t_ANSWERING⟩ OkTick) := ok_tick F_tick T h_are_ticks
  have o_age : FnOk P w K mg base CX0 3 f_age fd_age ["desk", "call"] (spOn ⟨C_Call, C_Rule, C_PutChange, C_OutChange, C_SwapChange, C_Flow, C_Table, C_Desk, t_SHAPES, t_ANSWERING⟩ OkAge) := ok_age F_age T h_are_ticks hm_Table_let_old_go
  have o_tell_flow : FnOk P w K mg base CX0 2 f_tell_flow fd_tell_flow ["desk", "call"] (spOn ⟨C_Call, C_Rule, C_PutChange, C_OutChange, C_SwapChange, C_Flow, C_Table, C_Desk, t_SHAPES, t_ANSWERING⟩ OkFlow) := ok_tell_flow F_tell_flow T h_is_within hm_Table_in_order
  have o_tell_flows : FnOk P w K mg base CX0 1 f_tell_flows fd_tell_flows ["desk", "call"] (spOn ⟨C_Call, C_Rule, C_PutChange, C_OutChange, C_SwapChange, C_Flow, C_Table, C_Desk, t_SHAPES, t_ANSWERING⟩ OkFlows) := ok_tell_flows F_tell_flows T
  have o_tell_rule : FnOk P w K mg base CX0 3 f_tell_rule fd_tell_rule ["desk", "call"] (spOn ⟨C_Call, C_Rule, C_PutChange, C_OutChange, C_SwapChange, C_Flow, C_Table, C_Desk, t_SHAPES, t_ANSWERING⟩ OkRule) := ok_tell_rule F_tell_rule T h_is_place
  have o_tell_counts : FnOk P w K mg base CX0 1 f_tell_counts fd_tell_counts ["desk", "call"] (spOn ⟨C_Call, C_Rule, C_PutChange, C_OutChange, C_SwapChange, C_Flow, C_Table, C_Desk, t_SHAPES, t_ANSWERING⟩ OkCounts) := ok_tell_counts F_tell_counts T
  have hat : ∀ f sp, ((f = f_put ∧ sp = spOn ⟨C_Call, C_Rule, C_PutChange, C_OutChange, C_SwapChange, C_Flow, C_Table, C_Desk, t_SHAPES, t_ANSWERING⟩ OkPut) ∨ (f = f_out ∧ sp = spOn ⟨C_Call, C_Rule, C_PutChange, C_OutChange, C_SwapChange, C_Flow, C_Table, C_Desk, t_SHAPES, t_ANSWERING⟩ OkOut) ∨ (f = f_swap ∧ sp = spOn ⟨C_Call, C_Rule, C_PutChange, C_OutChange, C_SwapChange, C_Flow, C_Table, C_Desk, t_SHAPES, t_ANSWERING⟩ OkSwap) ∨ (f = f_commit ∧ sp = spOn ⟨C_Call, C_Rule, C_PutChange, C_OutChange, C_SwapChange, C_Flow, C_Table, C_Desk, t_SHAPES, t_ANSWERING⟩ OkCommit) ∨ (f = f_forget ∧ sp = spOn ⟨C_Call, C_Rule, C_PutChange, C_OutChange, C_SwapChange, C_Flow, C_Table, C_Desk, t_SHAPES, t_ANSWERING⟩ OkForget) ∨ (f = f_sort_call ∧ sp = spOn ⟨C_Call, C_Rule, C_PutChange, C_OutChange, C_SwapChange, C_Flow, C_Table, C_Desk, t_SHAPES, t_ANSWERING⟩ OkSort) ∨ (f = f_try_call ∧ sp = spOn ⟨C_Call, C_Rule, C_PutChange, C_OutChange, C_SwapChange, C_Flow, C_Table, C_Desk, t_SHAPES, t_ANSWERING⟩ OkTry) ∨ (f = f_tick ∧ sp = spOn ⟨C_Call, C_Rule, C_PutChange, C_OutChange, C_SwapChange, C_Flow, C_Table, C_Desk, t_SHAPES, t_ANSWERING⟩ OkTick) ∨ (f = f_age ∧ sp = spOn ⟨C_Call, C_Rule, C_PutChange, C_OutChange, C_SwapChange, C_Flow, C_Table, C_Desk, t_SHAPES, t_ANSWERING⟩ OkAge) ∨ (f = f_tell_flow ∧ sp = spOn ⟨C_Call, C_Rule, C_PutChange, C_OutChange, C_SwapChange, C_Flow, C_Table, C_Desk, t_SHAPES, t_ANSWERING⟩ OkFlow) ∨ (f = f_tell_flows ∧ sp = spOn ⟨C_Call, C_Rule, C_PutChange, C_OutChange, C_SwapChange, C_Flow, C_Table, C_Desk, t_SHAPES, t_ANSWERING⟩ OkFlows) ∨ (f = f_tell_rule ∧ sp = spOn ⟨C_Call, C_Rule, C_PutChange, C_OutChange, C_SwapChange, C_Flow, C_Table, C_Desk, t_SHAPES, t_ANSWERING⟩ OkRule) ∨ (f = f_tell_counts ∧ sp = spOn ⟨C_Call, C_Rule, C_PutChange, C_OutChange, C_SwapChange, C_Flow, C_Table, C_Desk, t_SHAPES, t_ANSWERING⟩ OkCounts)) → ∃ (fd : FuncData) (ps : List Str), FnOk P w K mg base CX0 (6 - 1) f fd ps sp ∧ PySem.W.keepIn K (.ref f) = true ∧ Binds K fd ps [] := by
    rintro f sp (⟨rfl, rfl⟩ | ⟨rfl, rfl⟩ | ⟨rfl, rfl⟩ | ⟨rfl, rfl⟩ | ⟨rfl, rfl⟩ | ⟨rfl, rfl⟩ | ⟨rfl, rfl⟩ | ⟨rfl, rfl⟩ | ⟨rfl, rfl⟩ | ⟨rfl, rfl⟩ | ⟨rfl, rfl⟩ | ⟨rfl, rfl⟩ | ⟨rfl, rfl⟩)
    · exact ⟨_, _, o_put.mono (by decide), F_put.kp, b_put⟩
    · exact ⟨_, _, o_out.mono (by decide), F_out.kp, b_out⟩
    · exact ⟨_, _, o_swap.mono (by decide), F_swap.kp, b_swap⟩
    · exact ⟨_, _, o_commit.mono (by decide), F_commit.kp, b_commit⟩
    · exact ⟨_, _, o_forget.mono (by decide), F_forget.kp, b_forget⟩
    · exact ⟨_, _, o_sort_call.mono (by decide), F_sort_call.kp, b_sort_call⟩
    · exact ⟨_, _, o_try_call.mono (by decide), F_try_call.kp, b_try_call⟩
    · exact ⟨_, _, o_tick.mono (by decide), F_tick.kp, b_tick⟩
    · exact ⟨_, _, o_age.mono (by decide), F_age.kp, b_age⟩
    · exact ⟨_, _, o_tell_flow.mono (by decide), F_tell_flow.kp, b_tell_flow⟩
    · exact ⟨_, _, o_tell_flows.mono (by decide), F_tell_flows.kp, b_tell_flows⟩
    · exact ⟨_, _, o_tell_rule.mono (by decide), F_tell_rule.kp, b_tell_rule⟩
    · exact ⟨_, _, o_tell_counts.mono (by decide), F_tell_counts.kp, b_tell_counts⟩
  have hT : ∀ ok n, Goes ok n → ∃ f, KInt K t_ANSWERING n (.ref f) ∧ (fun (f : Addr) (sp : Sp) => ((f = f_put ∧ sp = spOn ⟨C_Call, C_Rule, C_PutChange, C_OutChange, C_SwapChange, C_Flow, C_Table, C_Desk, t_SHAPES, t_ANSWERING⟩ OkPut) ∨ (f = f_out ∧ sp = spOn ⟨C_Call, C_Rule, C_PutChange, C_OutChange, C_SwapChange, C_Flow, C_Table, C_Desk, t_SHAPES, t_ANSWERING⟩ OkOut) ∨ (f = f_swap ∧ sp = spOn ⟨C_Call, C_Rule, C_PutChange, C_OutChange, C_SwapChange, C_Flow, C_Table, C_Desk, t_SHAPES, t_ANSWERING⟩ OkSwap) ∨ (f = f_commit ∧ sp = spOn ⟨C_Call, C_Rule, C_PutChange, C_OutChange, C_SwapChange, C_Flow, C_Table, C_Desk, t_SHAPES, t_ANSWERING⟩ OkCommit) ∨ (f = f_forget ∧ sp = spOn ⟨C_Call, C_Rule, C_PutChange, C_OutChange, C_SwapChange, C_Flow, C_Table, C_Desk, t_SHAPES, t_ANSWERING⟩ OkForget) ∨ (f = f_sort_call ∧ sp = spOn ⟨C_Call, C_Rule, C_PutChange, C_OutChange, C_SwapChange, C_Flow, C_Table, C_Desk, t_SHAPES, t_ANSWERING⟩ OkSort) ∨ (f = f_try_call ∧ sp = spOn ⟨C_Call, C_Rule, C_PutChange, C_OutChange, C_SwapChange, C_Flow, C_Table, C_Desk, t_SHAPES, t_ANSWERING⟩ OkTry) ∨ (f = f_tick ∧ sp = spOn ⟨C_Call, C_Rule, C_PutChange, C_OutChange, C_SwapChange, C_Flow, C_Table, C_Desk, t_SHAPES, t_ANSWERING⟩ OkTick) ∨ (f = f_age ∧ sp = spOn ⟨C_Call, C_Rule, C_PutChange, C_OutChange, C_SwapChange, C_Flow, C_Table, C_Desk, t_SHAPES, t_ANSWERING⟩ OkAge) ∨ (f = f_tell_flow ∧ sp = spOn ⟨C_Call, C_Rule, C_PutChange, C_OutChange, C_SwapChange, C_Flow, C_Table, C_Desk, t_SHAPES, t_ANSWERING⟩ OkFlow) ∨ (f = f_tell_flows ∧ sp = spOn ⟨C_Call, C_Rule, C_PutChange, C_OutChange, C_SwapChange, C_Flow, C_Table, C_Desk, t_SHAPES, t_ANSWERING⟩ OkFlows) ∨ (f = f_tell_rule ∧ sp = spOn ⟨C_Call, C_Rule, C_PutChange, C_OutChange, C_SwapChange, C_Flow, C_Table, C_Desk, t_SHAPES, t_ANSWERING⟩ OkRule) ∨ (f = f_tell_counts ∧ sp = spOn ⟨C_Call, C_Rule, C_PutChange, C_OutChange, C_SwapChange, C_Flow, C_Table, C_Desk, t_SHAPES, t_ANSWERING⟩ OkCounts))) f (spOn ⟨C_Call, C_Rule, C_PutChange, C_OutChange, C_SwapChange, C_Flow, C_Table, C_Desk, t_SHAPES, t_ANSWERING⟩ ok) := by
    intro ok n g
    cases g
    · exact ⟨f_put, ⟨_, _, _, l_ANSWERING, k_ANSWERING, find_lookI e_ANSWERING_2, rfl⟩, (.inl ⟨rfl, rfl⟩)⟩
    · exact ⟨f_out, ⟨_, _, _, l_ANSWERING, k_ANSWERING, find_lookI e_ANSWERING_3, rfl⟩, (.inr (.inl ⟨rfl, rfl⟩))⟩
    · exact ⟨f_swap, ⟨_, _, _, l_ANSWERING, k_ANSWERING, find_lookI e_ANSWERING_4, rfl⟩, (.inr (.inr (.inl ⟨rfl, rfl⟩)))⟩
    · exact ⟨f_commit, ⟨_, _, _, l_ANSWERING, k_ANSWERING, find_lookI e_ANSWERING_5, rfl⟩, (.inr (.inr (.inr (.inl ⟨rfl, rfl⟩))))⟩
    · exact ⟨f_forget, ⟨_, _, _, l_ANSWERING, k_ANSWERING, find_lookI e_ANSWERING_6, rfl⟩, (.inr (.inr (.inr (.inr (.inl ⟨rfl, rfl⟩)))))⟩
    · exact ⟨f_sort_call, ⟨_, _, _, l_ANSWERING, k_ANSWERING, find_lookI e_ANSWERING_7, rfl⟩, (.inr (.inr (.inr (.inr (.inr (.inl ⟨rfl, rfl⟩))))))⟩
    · exact ⟨f_try_call, ⟨_, _, _, l_ANSWERING, k_ANSWERING, find_lookI e_ANSWERING_8, rfl⟩, (.inr (.inr (.inr (.inr (.inr (.inr (.inl ⟨rfl, rfl⟩)))))))⟩
    · exact ⟨f_tick, ⟨_, _, _, l_ANSWERING, k_ANSWERING, find_lookI e_ANSWERING_9, rfl⟩, (.inr (.inr (.inr (.inr (.inr (.inr (.inr (.inl ⟨rfl, rfl⟩))))))))⟩
    · exact ⟨f_age, ⟨_, _, _, l_ANSWERING, k_ANSWERING, find_lookI e_ANSWERING_10, rfl⟩, (.inr (.inr (.inr (.inr (.inr (.inr (.inr (.inr (.inl ⟨rfl, rfl⟩)))))))))⟩
    · exact ⟨f_tell_flow, ⟨_, _, _, l_ANSWERING, k_ANSWERING, find_lookI e_ANSWERING_11, rfl⟩, (.inr (.inr (.inr (.inr (.inr (.inr (.inr (.inr (.inr (.inl ⟨rfl, rfl⟩))))))))))⟩
    · exact ⟨f_tell_flows, ⟨_, _, _, l_ANSWERING, k_ANSWERING, find_lookI e_ANSWERING_12, rfl⟩, (.inr (.inr (.inr (.inr (.inr (.inr (.inr (.inr (.inr (.inr (.inl ⟨rfl, rfl⟩)))))))))))⟩
    · exact ⟨f_tell_rule, ⟨_, _, _, l_ANSWERING, k_ANSWERING, find_lookI e_ANSWERING_13, rfl⟩, (.inr (.inr (.inr (.inr (.inr (.inr (.inr (.inr (.inr (.inr (.inr (.inl ⟨rfl, rfl⟩))))))))))))⟩
    · exact ⟨f_tell_counts, ⟨_, _, _, l_ANSWERING, k_ANSWERING, find_lookI e_ANSWERING_14, rfl⟩, (.inr (.inr (.inr (.inr (.inr (.inr (.inr (.inr (.inr (.inr (.inr (.inr ⟨rfl, rfl⟩))))))))))))⟩
  have h_answer_at : Has P w K mg base 6 "answer_at" ["desk", "call"] (spAt ⟨C_Call, C_Rule, C_PutChange, C_OutChange, C_SwapChange, C_Flow, C_Table, C_Desk, t_SHAPES, t_ANSWERING⟩) := ⟨_, _, ok_answer_at (S := fun (f : Addr) (sp : Sp) => ((f = f_put ∧ sp = spOn ⟨C_Call, C_Rule, C_PutChange, C_OutChange, C_SwapChange, C_Flow, C_Table, C_Desk, t_SHAPES, t_ANSWERING⟩ OkPut) ∨ (f = f_out ∧ sp = spOn ⟨C_Call, C_Rule, C_PutChange, C_OutChange, C_SwapChange, C_Flow, C_Table, C_Desk, t_SHAPES, t_ANSWERING⟩ OkOut) ∨ (f = f_swap ∧ sp = spOn ⟨C_Call, C_Rule, C_PutChange, C_OutChange, C_SwapChange, C_Flow, C_Table, C_Desk, t_SHAPES, t_ANSWERING⟩ OkSwap) ∨ (f = f_commit ∧ sp = spOn ⟨C_Call, C_Rule, C_PutChange, C_OutChange, C_SwapChange, C_Flow, C_Table, C_Desk, t_SHAPES, t_ANSWERING⟩ OkCommit) ∨ (f = f_forget ∧ sp = spOn ⟨C_Call, C_Rule, C_PutChange, C_OutChange, C_SwapChange, C_Flow, C_Table, C_Desk, t_SHAPES, t_ANSWERING⟩ OkForget) ∨ (f = f_sort_call ∧ sp = spOn ⟨C_Call, C_Rule, C_PutChange, C_OutChange, C_SwapChange, C_Flow, C_Table, C_Desk, t_SHAPES, t_ANSWERING⟩ OkSort) ∨ (f = f_try_call ∧ sp = spOn ⟨C_Call, C_Rule, C_PutChange, C_OutChange, C_SwapChange, C_Flow, C_Table, C_Desk, t_SHAPES, t_ANSWERING⟩ OkTry) ∨ (f = f_tick ∧ sp = spOn ⟨C_Call, C_Rule, C_PutChange, C_OutChange, C_SwapChange, C_Flow, C_Table, C_Desk, t_SHAPES, t_ANSWERING⟩ OkTick) ∨ (f = f_age ∧ sp = spOn ⟨C_Call, C_Rule, C_PutChange, C_OutChange, C_SwapChange, C_Flow, C_Table, C_Desk, t_SHAPES, t_ANSWERING⟩ OkAge) ∨ (f = f_tell_flow ∧ sp = spOn ⟨C_Call, C_Rule, C_PutChange, C_OutChange, C_SwapChange, C_Flow, C_Table, C_Desk, t_SHAPES, t_ANSWERING⟩ OkFlow) ∨ (f = f_tell_flows ∧ sp = spOn ⟨C_Call, C_Rule, C_PutChange, C_OutChange, C_SwapChange, C_Flow, C_Table, C_Desk, t_SHAPES, t_ANSWERING⟩ OkFlows) ∨ (f = f_tell_rule ∧ sp = spOn ⟨C_Call, C_Rule, C_PutChange, C_OutChange, C_SwapChange, C_Flow, C_Table, C_Desk, t_SHAPES, t_ANSWERING⟩ OkRule) ∨ (f = f_tell_counts ∧ sp = spOn ⟨C_Call, C_Rule, C_PutChange, C_OutChange, C_SwapChange, C_Flow, C_Table, C_Desk, t_SHAPES, t_ANSWERING⟩ OkCounts))) F_answer_at T hat hT, PySem.W.mg_of X G a_answer_at, F_answer_at.kp, b_answer_at⟩
  exact ok_answers F_answers T h_read_calls h_answer_at h_is_opening_as_told hc_Desk
end Fr
open PySem PySem.W PyProof.Rows
set_option maxRecDepth 100000 in
set_option maxHeartbeats 0 in
theorem PySem.Challenge.cw_flowrules_s01_answers_holds : PySem.Challenge.rw_flowrules_s01_answers.Holds := by
  w_on; k_headS; (case hw => exact ⟨[.list [.int 14]], by decide +kernel, by decide +kernel⟩)
  k_fillS
  refine L2.walk_specK (r := PySem.Challenge.rw_flowrules_s01_answers) (k := 7) (CX := L2.CX0) (ps := ["calls"]) (sp := Fr.spAnswers) (by decide +kernel) rfl rfl ⟨rfl, by decide, by decide⟩ (fun w h Y => PySem.W.kIn_of Y) ?F ?S (fun _ _ _ _ z => z)
  case F =>
    intro w mg fa h Y KX G hmg
    refine' Fr.all_mk KX G hmg ?z_len ?z_sum ?z_all ?z_list ?z_range ?z_zip ?z_enumerate ?i_MOST_RULES ?i_DEED_WITHOUT_RULE ?i_ROWS ?i_MOST_IN_ROW ?i_BEYOND_32_BITS ?i_ROW_START ?i_ROW_FACTOR ?i_WAS_THERE ?i_LEARNT ?i_LEARNT_FOR_ANOTHER ?i_OPENING ?i_KEY_SIZE ?i_MOST_SEED ?i_MOST_WORD ?i_MOST_WORD_VALUE ?i_MOST_OCTET ?i_MOST_FRAME ?i_MOST_WAITING ?i_MOST_TICKS ?i_MOST_NOW ?i_MOST_FLOWS ?i_NOT_AS_TOLD ?i_TOO_MANY_WAIT ?i_NONE_THERE ?i_NO_DESK ?i_CHANGE_FAILED ?a_Call ?a_Rule ?a_PutChange ?a_OutChange ?a_SwapChange ?a_Flow ?a_Table ?a_Desk ?a_Call_init ?j_Call_init ?F_Call_init ?a_read_rows ?F_read_rows ?a_read_calls ?F_read_calls ?a_Rule_init ?j_Rule_init ?F_Rule_init ?a_under_mask ?F_under_mask ?a_word_of ?F_word_of ?a_fits ?F_fits ?a_deed_by_rules ?F_deed_by_rules ?a_PutChange_init ?j_PutChange_init ?F_PutChange_init ?a_PutChange_can_be_made ?j_PutChange_can_be_made ?F_PutChange_can_be_made ?a_PutChange_make ?j_PutChange_make ?F_PutChange_make ?a_OutChange_init ?j_OutChange_init ?F_OutChange_init ?a_OutChange_can_be_made ?j_OutChange_can_be_made ?F_OutChange_can_be_made ?a_OutChange_make ?j_OutChange_make ?F_OutChange_make ?a_SwapChange_init ?j_SwapChange_init ?F_SwapChange_init ?a_SwapChange_can_be_made ?j_SwapChange_can_be_made ?F_SwapChange_can_be_made ?a_SwapChange_make ?j_SwapChange_make ?F_SwapChange_make ?a_Flow_init ?j_Flow_init ?F_Flow_init ?a_Flow_count_frame ?j_Flow_count_frame ?F_Flow_count_frame ?a_Table_init ?j_Table_init ?F_Table_init ?a_Table_sort_frame ?j_Table_sort_frame ?F_Table_sort_frame ?a_Table_learn ?j_Table_learn ?F_Table_learn ?a_Table_let_old_go ?j_Table_let_old_go ?F_Table_let_old_go ?a_Table_in_order ?j_Table_in_order ?F_Table_in_order ?a_Table_follow_rules ?j_Table_follow_rules ?F_Table_follow_rules ?a_row_number ?F_row_number ?a_flow_of ?F_flow_of ?a_least_lately_seen ?F_least_lately_seen ?a_seen_lately ?F_seen_lately ?a_Desk_init ?j_Desk_init ?F_Desk_init ?a_is_within ?F_is_within ?a_are_octets ?F_are_octets ?a_is_place ?F_is_place ?a_is_opening_as_told ?F_is_opening_as_told ?a_is_put_as_told ?F_is_put_as_told ?a_is_frame_as_told ?F_is_frame_as_told ?a_are_ticks ?F_are_ticks ?a_key_of ?F_key_of ?a_let_wait ?F_let_wait ?a_put ?F_put ?a_out ?F_out ?a_swap ?F_swap ?a_commit ?F_commit ?a_forget ?F_forget ?a_sort_call ?F_sort_call ?a_try_call ?F_try_call ?a_tick ?F_tick ?a_age ?F_age ?a_tell_flow ?F_tell_flow ?a_tell_flows ?F_tell_flows ?a_tell_rule ?F_tell_rule ?a_tell_counts ?F_tell_counts ?a_answer_at ?F_answer_at ?a_answers ?F_answers ?pg_Call ?hd_Call ?po_Call ?sa_Call ?mk_Call ?kc_Call ?n_Call_number ?n_Call_numbers ?n_Call_rows ?pg_Rule ?hd_Rule ?po_Rule ?sa_Rule ?mk_Rule ?kc_Rule ?n_Rule_mask ?n_Rule_value ?n_Rule_word ?n_Rule_lo ?n_Rule_hi ?n_Rule_deed ?pg_PutChange ?hd_PutChange ?po_PutChange ?sa_PutChange ?mk_PutChange ?kc_PutChange ?n_PutChange_place ?n_PutChange_rule ?pg_OutChange ?hd_OutChange ?po_OutChange ?sa_OutChange ?mk_OutChange ?kc_OutChange ?n_OutChange_place ?pg_SwapChange ?hd_SwapChange ?po_SwapChange ?sa_SwapChange ?mk_SwapChange ?kc_SwapChange ?n_SwapChange_place ?n_SwapChange_other ?pg_Flow ?hd_Flow ?po_Flow ?sa_Flow ?mk_Flow ?kc_Flow ?n_Flow_key ?n_Flow_deed ?n_Flow_frames ?n_Flow_octets ?n_Flow_seen ?pg_Table ?hd_Table ?po_Table ?sa_Table ?mk_Table ?kc_Table ?n_Table_seed ?n_Table_rows ?n_Table_frames_known ?n_Table_frames_learnt ?n_Table_flows_displaced ?pg_Desk ?hd_Desk ?po_Desk ?sa_Desk ?mk_Desk ?kc_Desk ?n_Desk_places ?n_Desk_rules ?n_Desk_waiting ?n_Desk_table ?n_Desk_now ?g_SHAPES ?l_SHAPES ?k_SHAPES ?e_SHAPES_1 ?v_SHAPES_1 ?e_SHAPES_2 ?v_SHAPES_2 ?e_SHAPES_3 ?v_SHAPES_3 ?e_SHAPES_4 ?v_SHAPES_4 ?e_SHAPES_5 ?v_SHAPES_5 ?e_SHAPES_6 ?v_SHAPES_6 ?e_SHAPES_7 ?v_SHAPES_7 ?e_SHAPES_8 ?v_SHAPES_8 ?e_SHAPES_9 ?v_SHAPES_9 ?e_SHAPES_10 ?v_SHAPES_10 ?e_SHAPES_11 ?v_SHAPES_11 ?e_SHAPES_12 ?v_SHAPES_12 ?e_SHAPES_13 ?v_SHAPES_13 ?e_SHAPES_14 ?v_SHAPES_14 ?g_ANSWERING ?l_ANSWERING ?k_ANSWERING ?e_ANSWERING_2 ?e_ANSWERING_3 ?e_ANSWERING_4 ?e_ANSWERING_5 ?e_ANSWERING_6 ?e_ANSWERING_7 ?e_ANSWERING_8 ?e_ANSWERING_9 ?e_ANSWERING_10 ?e_ANSWERING_11 ?e_ANSWERING_12 ?e_ANSWERING_13 ?e_ANSWERING_14
    (case z_len => k_is)
    (case z_sum => k_is)
    (case z_all => k_is)
    (case z_list => k_is)
    (case z_range => k_is)
    (case z_zip => k_is)
    (case z_enumerate => k_is)
    (case i_MOST_RULES => k_is)
    (case i_DEED_WITHOUT_RULE => k_is)
    (case i_ROWS => k_is)
    (case i_MOST_IN_ROW => k_is)
    (case i_BEYOND_32_BITS => k_is)
    (case i_ROW_START => k_is)
    (case i_ROW_FACTOR => k_is)
    (case i_WAS_THERE => k_is)
    (case i_LEARNT => k_is)
    (case i_LEARNT_FOR_ANOTHER => k_is)
    (case i_OPENING => k_is)
    (case i_KEY_SIZE => k_is)
    (case i_MOST_SEED => k_is)
    (case i_MOST_WORD => k_is)
    (case i_MOST_WORD_VALUE => k_is)
    (case i_MOST_OCTET => k_is)
    (case i_MOST_FRAME => k_is)
    (case i_MOST_WAITING => k_is)
    (case i_MOST_TICKS => k_is)
    (case i_MOST_NOW => k_is)
    (case i_MOST_FLOWS => k_is)
    (case i_NOT_AS_TOLD => k_is)
    (case i_TOO_MANY_WAIT => k_is)
    (case i_NONE_THERE => k_is)
    (case i_NO_DESK => k_is)
    (case i_CHANGE_FAILED => k_is)
    (case a_Call => k_is)
    (case a_Rule => k_is)
    (case a_PutChange => k_is)
    (case a_OutChange => k_is)
    (case a_SwapChange => k_is)
    (case a_Flow => k_is)
    (case a_Table => k_is)
    (case a_Desk => k_is)
    (case a_Call_init => k_is)
    (case j_Call_init => k_is)
    (case F_Call_init => (refine' L2.fun_mk (st := Fr.s_Call_init) ?l ?c ?k; (case l => k_is); (case c => k_is); (case k => k_is)))
    (case a_read_rows => k_is)
    (case F_read_rows => (refine' L2.fun_mk (st := Fr.s_read_rows) ?l ?c ?k; (case l => k_is); (case c => k_is); (case k => k_is)))
    (case a_read_calls => k_is)
    (case F_read_calls => (refine' L2.fun_mk (st := Fr.s_read_calls) ?l ?c ?k; (case l => k_is); (case c => k_is); (case k => k_is)))
    (case a_Rule_init => k_is)
    (case j_Rule_init => k_is)
    (case F_Rule_init => (refine' L2.fun_mk (st := Fr.s_Rule_init) ?l ?c ?k; (case l => k_is); (case c => k_is); (case k => k_is)))
    (case a_under_mask => k_is)
    (case F_under_mask => (refine' L2.fun_mk (st := Fr.s_under_mask) ?l ?c ?k; (case l => k_is); (case c => k_is); (case k => k_is)))
    (case a_word_of => k_is)
    (case F_word_of => (refine' L2.fun_mk (st := Fr.s_word_of) ?l ?c ?k; (case l => k_is); (case c => k_is); (case k => k_is)))
    (case a_fits => k_is)
    (case F_fits => (refine' L2.fun_mk (st := Fr.s_fits) ?l ?c ?k; (case l => k_is); (case c => k_is); (case k => k_is)))
    (case a_deed_by_rules => k_is)
    (case F_deed_by_rules => (refine' L2.fun_mk (st := Fr.s_deed_by_rules) ?l ?c ?k; (case l => k_is); (case c => k_is); (case k => k_is)))
    (case a_PutChange_init => k_is)
    (case j_PutChange_init => k_is)
    (case F_PutChange_init => (refine' L2.fun_mk (st := Fr.s_PutChange_init) ?l ?c ?k; (case l => k_is); (case c => k_is); (case k => k_is)))
    (case a_PutChange_can_be_made => k_is)
    (case j_PutChange_can_be_made => k_is)
    (case F_PutChange_can_be_made => (refine' L2.fun_mk (st := Fr.s_PutChange_can_be_made) ?l ?c ?k; (case l => k_is); (case c => k_is); (case k => k_is)))
    (case a_PutChange_make => k_is)
    (case j_PutChange_make => k_is)
    (case F_PutChange_make => (refine' L2.fun_mk (st := Fr.s_PutChange_make) ?l ?c ?k; (case l => k_is); (case c => k_is); (case k => k_is)))
    (case a_OutChange_init => k_is)
    (case j_OutChange_init => k_is)
    (case F_OutChange_init => (refine' L2.fun_mk (st := Fr.s_OutChange_init) ?l ?c ?k; (case l => k_is); (case c => k_is); (case k => k_is)))
    (case a_OutChange_can_be_made => k_is)
    (case j_OutChange_can_be_made => k_is)
    (case F_OutChange_can_be_made => (refine' L2.fun_mk (st := Fr.s_OutChange_can_be_made) ?l ?c ?k; (case l => k_is); (case c => k_is); (case k => k_is)))
    (case a_OutChange_make => k_is)
    (case j_OutChange_make => k_is)
    (case F_OutChange_make => (refine' L2.fun_mk (st := Fr.s_OutChange_make) ?l ?c ?k; (case l => k_is); (case c => k_is); (case k => k_is)))
    (case a_SwapChange_init => k_is)
    (case j_SwapChange_init => k_is)
    (case F_SwapChange_init => (refine' L2.fun_mk (st := Fr.s_SwapChange_init) ?l ?c ?k; (case l => k_is); (case c => k_is); (case k => k_is)))
    (case a_SwapChange_can_be_made => k_is)
    (case j_SwapChange_can_be_made => k_is)
    (case F_SwapChange_can_be_made => (refine' L2.fun_mk (st := Fr.s_SwapChange_can_be_made) ?l ?c ?k; (case l => k_is); (case c => k_is); (case k => k_is)))
    (case a_SwapChange_make => k_is)
    (case j_SwapChange_make => k_is)
    (case F_SwapChange_make => (refine' L2.fun_mk (st := Fr.s_SwapChange_make) ?l ?c ?k; (case l => k_is); (case c => k_is); (case k => k_is)))
    (case a_Flow_init => k_is)
    (case j_Flow_init => k_is)
    (case F_Flow_init => (refine' L2.fun_mk (st := Fr.s_Flow_init) ?l ?c ?k; (case l => k_is); (case c => k_is); (case k => k_is)))
    (case a_Flow_count_frame => k_is)
    (case j_Flow_count_frame => k_is)
    (case F_Flow_count_frame => (refine' L2.fun_mk (st := Fr.s_Flow_count_frame) ?l ?c ?k; (case l => k_is); (case c => k_is); (case k => k_is)))
    (case a_Table_init => k_is)
    (case j_Table_init => k_is)
    (case F_Table_init => (refine' L2.fun_mk (st := Fr.s_Table_init) ?l ?c ?k; (case l => k_is); (case c => k_is); (case k => k_is)))
    (case a_Table_sort_frame => k_is)
    (case j_Table_sort_frame => k_is)
    (case F_Table_sort_frame => (refine' L2.fun_mk (st := Fr.s_Table_sort_frame) ?l ?c ?k; (case l => k_is); (case c => k_is); (case k => k_is)))
    (case a_Table_learn => k_is)
    (case j_Table_learn => k_is)
    (case F_Table_learn => (refine' L2.fun_mk (st := Fr.s_Table_learn) ?l ?c ?k; (case l => k_is); (case c => k_is); (case k => k_is)))
    (case a_Table_let_old_go => k_is)
    (case j_Table_let_old_go => k_is)
    (case F_Table_let_old_go => (refine' L2.fun_mk (st := Fr.s_Table_let_old_go) ?l ?c ?k; (case l => k_is); (case c => k_is); (case k => k_is)))
    (case a_Table_in_order => k_is)
    (case j_Table_in_order => k_is)
    (case F_Table_in_order => (refine' L2.fun_mk (st := Fr.s_Table_in_order) ?l ?c ?k; (case l => k_is); (case c => k_is); (case k => k_is)))
    (case a_Table_follow_rules => k_is)
    (case j_Table_follow_rules => k_is)
    (case F_Table_follow_rules => (refine' L2.fun_mk (st := Fr.s_Table_follow_rules) ?l ?c ?k; (case l => k_is); (case c => k_is); (case k => k_is)))
    (case a_row_number => k_is)
    (case F_row_number => (refine' L2.fun_mk (st := Fr.s_row_number) ?l ?c ?k; (case l => k_is); (case c => k_is); (case k => k_is)))
    (case a_flow_of => k_is)
    (case F_flow_of => (refine' L2.fun_mk (st := Fr.s_flow_of) ?l ?c ?k; (case l => k_is); (case c => k_is); (case k => k_is)))
    (case a_least_lately_seen => k_is)
    (case F_least_lately_seen => (refine' L2.fun_mk (st := Fr.s_least_lately_seen) ?l ?c ?k; (case l => k_is); (case c => k_is); (case k => k_is)))
    (case a_seen_lately => k_is)
    (case F_seen_lately => (refine' L2.fun_mk (st := Fr.s_seen_lately) ?l ?c ?k; (case l => k_is); (case c => k_is); (case k => k_is)))
    (case a_Desk_init => k_is)
    (case j_Desk_init => k_is)
    (case F_Desk_init => (refine' L2.fun_mk (st := Fr.s_Desk_init) ?l ?c ?k; (case l => k_is); (case c => k_is); (case k => k_is)))
    (case a_is_within => k_is)
    (case F_is_within => (refine' L2.fun_mk (st := Fr.s_is_within) ?l ?c ?k; (case l => k_is); (case c => k_is); (case k => k_is)))
    (case a_are_octets => k_is)
    (case F_are_octets => (refine' L2.fun_mk (st := Fr.s_are_octets) ?l ?c ?k; (case l => k_is); (case c => k_is); (case k => k_is)))
    (case a_is_place => k_is)
    (case F_is_place => (refine' L2.fun_mk (st := Fr.s_is_place) ?l ?c ?k; (case l => k_is); (case c => k_is); (case k => k_is)))
    (case a_is_opening_as_told => k_is)
    (case F_is_opening_as_told => (refine' L2.fun_mk (st := Fr.s_is_opening_as_told) ?l ?c ?k; (case l => k_is); (case c => k_is); (case k => k_is)))
    (case a_is_put_as_told => k_is)
    (case F_is_put_as_told => (refine' L2.fun_mk (st := Fr.s_is_put_as_told) ?l ?c ?k; (case l => k_is); (case c => k_is); (case k => k_is)))
    (case a_is_frame_as_told => k_is)
    (case F_is_frame_as_told => (refine' L2.fun_mk (st := Fr.s_is_frame_as_told) ?l ?c ?k; (case l => k_is); (case c => k_is); (case k => k_is)))
    (case a_are_ticks => k_is)
    (case F_are_ticks => (refine' L2.fun_mk (st := Fr.s_are_ticks) ?l ?c ?k; (case l => k_is); (case c => k_is); (case k => k_is)))
    (case a_key_of => k_is)
    (case F_key_of => (refine' L2.fun_mk (st := Fr.s_key_of) ?l ?c ?k; (case l => k_is); (case c => k_is); (case k => k_is)))
    (case a_let_wait => k_is)
    (case F_let_wait => (refine' L2.fun_mk (st := Fr.s_let_wait) ?l ?c ?k; (case l => k_is); (case c => k_is); (case k => k_is)))
    (case a_put => k_is)
    (case F_put => (refine' L2.fun_mk (st := Fr.s_put) ?l ?c ?k; (case l => k_is); (case c => k_is); (case k => k_is)))
    (case a_out => k_is)
    (case F_out => (refine' L2.fun_mk (st := Fr.s_out) ?l ?c ?k; (case l => k_is); (case c => k_is); (case k => k_is)))
    (case a_swap => k_is)
    (case F_swap => (refine' L2.fun_mk (st := Fr.s_swap) ?l ?c ?k; (case l => k_is); (case c => k_is); (case k => k_is)))
    (case a_commit => k_is)
    (case F_commit => (refine' L2.fun_mk (st := Fr.s_commit) ?l ?c ?k; (case l => k_is); (case c => k_is); (case k => k_is)))
    (case a_forget => k_is)
    (case F_forget => (refine' L2.fun_mk (st := Fr.s_forget) ?l ?c ?k; (case l => k_is); (case c => k_is); (case k => k_is)))
    (case a_sort_call => k_is)
    (case F_sort_call => (refine' L2.fun_mk (st := Fr.s_sort_call) ?l ?c ?k; (case l => k_is); (case c => k_is); (case k => k_is)))
    (case a_try_call => k_is)
    (case F_try_call => (refine' L2.fun_mk (st := Fr.s_try_call) ?l ?c ?k; (case l => k_is); (case c => k_is); (case k => k_is)))
    (case a_tick => k_is)
    (case F_tick => (refine' L2.fun_mk (st := Fr.s_tick) ?l ?c ?k; (case l => k_is); (case c => k_is); (case k => k_is)))
    (case a_age => k_is)
    (case F_age => (refine' L2.fun_mk (st := Fr.s_age) ?l ?c ?k; (case l => k_is); (case c => k_is); (case k => k_is)))
    (case a_tell_flow => k_is)
    (case F_tell_flow => (refine' L2.fun_mk (st := Fr.s_tell_flow) ?l ?c ?k; (case l => k_is); (case c => k_is); (case k => k_is)))
    (case a_tell_flows => k_is)
    (case F_tell_flows => (refine' L2.fun_mk (st := Fr.s_tell_flows) ?l ?c ?k; (case l => k_is); (case c => k_is); (case k => k_is)))
    (case a_tell_rule => k_is)
    (case F_tell_rule => (refine' L2.fun_mk (st := Fr.s_tell_rule) ?l ?c ?k; (case l => k_is); (case c => k_is); (case k => k_is)))
    (case a_tell_counts => k_is)
    (case F_tell_counts => (refine' L2.fun_mk (st := Fr.s_tell_counts) ?l ?c ?k; (case l => k_is); (case c => k_is); (case k => k_is)))
    (case a_answer_at => k_is)
    (case F_answer_at => (refine' L2.fun_mk (st := Fr.s_answer_at) ?l ?c ?k; (case l => k_is); (case c => k_is); (case k => k_is)))
    (case a_answers => k_is)
    (case F_answers => (refine' L2.fun_mk (st := Fr.s_answers) ?l ?c ?k; (case l => k_is); (case c => k_is); (case k => k_is)))
    (case pg_Call => k_is)
    (case hd_Call => k_is)
    (case po_Call => k_is)
    (case sa_Call => k_is)
    (case mk_Call => k_is)
    (case kc_Call => k_is)
    (case n_Call_number => k_is)
    (case n_Call_numbers => k_is)
    (case n_Call_rows => k_is)
    (case pg_Rule => k_is)
    (case hd_Rule => k_is)
    (case po_Rule => k_is)
    (case sa_Rule => k_is)
    (case mk_Rule => k_is)
    (case kc_Rule => k_is)
    (case n_Rule_mask => k_is)
    (case n_Rule_value => k_is)
    (case n_Rule_word => k_is)
    (case n_Rule_lo => k_is)
    (case n_Rule_hi => k_is)
    (case n_Rule_deed => k_is)
    (case pg_PutChange => k_is)
    (case hd_PutChange => k_is)
    (case po_PutChange => k_is)
    (case sa_PutChange => k_is)
    (case mk_PutChange => k_is)
    (case kc_PutChange => k_is)
    (case n_PutChange_place => k_is)
    (case n_PutChange_rule => k_is)
    (case pg_OutChange => k_is)
    (case hd_OutChange => k_is)
    (case po_OutChange => k_is)
    (case sa_OutChange => k_is)
    (case mk_OutChange => k_is)
    (case kc_OutChange => k_is)
    (case n_OutChange_place => k_is)
    (case pg_SwapChange => k_is)
    (case hd_SwapChange => k_is)
    (case po_SwapChange => k_is)
    (case sa_SwapChange => k_is)
    (case mk_SwapChange => k_is)
    (case kc_SwapChange => k_is)
    (case n_SwapChange_place => k_is)
    (case n_SwapChange_other => k_is)
    (case pg_Flow => k_is)
    (case hd_Flow => k_is)
    (case po_Flow => k_is)
    (case sa_Flow => k_is)
    (case mk_Flow => k_is)
    (case kc_Flow => k_is)
    (case n_Flow_key => k_is)
    (case n_Flow_deed => k_is)
    (case n_Flow_frames => k_is)
    (case n_Flow_octets => k_is)
    (case n_Flow_seen => k_is)
    (case pg_Table => k_is)
    (case hd_Table => k_is)
    (case po_Table => k_is)
    (case sa_Table => k_is)
    (case mk_Table => k_is)
    (case kc_Table => k_is)
    (case n_Table_seed => k_is)
    (case n_Table_rows => k_is)
    (case n_Table_frames_known => k_is)
    (case n_Table_frames_learnt => k_is)
    (case n_Table_flows_displaced => k_is)
    (case pg_Desk => k_is)
    (case hd_Desk => k_is)
    (case po_Desk => k_is)
    (case sa_Desk => k_is)
    (case mk_Desk => k_is)
    (case kc_Desk => k_is)
    (case n_Desk_places => k_is)
    (case n_Desk_rules => k_is)
    (case n_Desk_waiting => k_is)
    (case n_Desk_table => k_is)
    (case n_Desk_now => k_is)
    (case g_SHAPES => k_is)
    (case l_SHAPES => k_is)
    (case k_SHAPES => decide +kernel)
    (case e_SHAPES_1 => rfl)
    (case v_SHAPES_1 => k_is)
    (case e_SHAPES_2 => rfl)
    (case v_SHAPES_2 => k_is)
    (case e_SHAPES_3 => rfl)
    (case v_SHAPES_3 => k_is)
    (case e_SHAPES_4 => rfl)
    (case v_SHAPES_4 => k_is)
    (case e_SHAPES_5 => rfl)
    (case v_SHAPES_5 => k_is)
    (case e_SHAPES_6 => rfl)
    (case v_SHAPES_6 => k_is)
    (case e_SHAPES_7 => rfl)
    (case v_SHAPES_7 => k_is)
    (case e_SHAPES_8 => rfl)
    (case v_SHAPES_8 => k_is)
    (case e_SHAPES_9 => rfl)
    (case v_SHAPES_9 => k_is)
    (case e_SHAPES_10 => rfl)
    (case v_SHAPES_10 => k_is)
    (case e_SHAPES_11 => rfl)
    (case v_SHAPES_11 => k_is)
    (case e_SHAPES_12 => rfl)
    (case v_SHAPES_12 => k_is)
    (case e_SHAPES_13 => rfl)
    (case v_SHAPES_13 => k_is)
    (case e_SHAPES_14 => rfl)
    (case v_SHAPES_14 => k_is)
    (case g_ANSWERING => k_is)
    (case l_ANSWERING => k_is)
    (case k_ANSWERING => decide +kernel)
    (case e_ANSWERING_2 => rfl)
    (case e_ANSWERING_3 => rfl)
    (case e_ANSWERING_4 => rfl)
    (case e_ANSWERING_5 => rfl)
    (case e_ANSWERING_6 => rfl)
    (case e_ANSWERING_7 => rfl)
    (case e_ANSWERING_8 => rfl)
    (case e_ANSWERING_9 => rfl)
    (case e_ANSWERING_10 => rfl)
    (case e_ANSWERING_11 => rfl)
    (case e_ANSWERING_12 => rfl)
    (case e_ANSWERING_13 => rfl)
    (case e_ANSWERING_14 => rfl)
  case S =>
    intro K H xs a hO hwi hask hx
    cases hx with
    | cons h1 h2 =>
      cases h2
      cases h1 with
      | lst hs ha =>
        have e := L2.ints_dw a.1 _ ha
        subst e
        have q : ((Codec.inLen 0 15600 a.1 && a.1.all (Codec.inInt (-2147483648) 4294967295)) && true) = true := hwi
        rw [Bool.and_eq_true, Bool.and_eq_true] at q
        exact ⟨_, a.1, rfl, hs, (Codec.inNat_iff.mp q.1.1).2, hask, fun H' p hp => .lst (L2.SqL.of hp) (L2.dw_ints _)⟩

