import PyProof.Rows.All
import Wide.All
import OpenK.AllK
import Wide.FinOn
import HandS.ForMost
import HandS.ForExc
import HandS.ExcCtx
import HandS.ExcInit
import HandS.ExcSuper
import HandS.FStr
import KE.KExcSuper
import KE.KExcMore
import KE.KExcIs
import HandS.IsInst
import HandS.TupAny
import HandS.Style
import KE.KRevSl
import HandS.Nested
import KE.KSuper
import KE.RegKSuper
import HandS.Dict
import HandS.More
import HandS.Small
import HandS.Lambda
import HandS.Rev
import HandS.RevRange
import HandS.Walk
import KE.DataMinMax
import HandS.SortKw
import HandS.CallLocal
import HandS.Iter
import HandS.DictComp
import HandS.EndOwn
import PySem.Challenge.RW_soonsettled_k45_conditions_are_read_and
set_option Elab.async false
set_option linter.all false
set_option maxRecDepth 100000
set_option maxHeartbeats 4000000
/-! TextError: an own error of two generations below ValueError, whose __init__ tells a text to super() and keeps two fields. Part 1: over the heap. -/
namespace TE
open PySem PySem.W PySem.Calls PyProof.Rows PySem.HandSPX
/-- "MESSAGE at PLACE" -/
def says (m : Str) (p : Int) : Str := Str.empty ++ m ++ (" at " : Str) ++ (toString p : Str)
/-! ### the text of __init__ -/
def iArgs : Arguments :=
  { posonlyargs := [], args := [{ arg := "self", annotation := none, pos := ⟨9, 17, 9, 21⟩ }, { arg := "place", annotation := none, pos := ⟨9, 23, 9, 28⟩ }, { arg := "message", annotation := none, pos := ⟨9, 30, 9, 37⟩ }],
    vararg := none, kwonlyargs := [], kw_defaults := [], kwarg := none, defaults := [] }
def iBody : List Stmt :=
  [.Expr (.Call (.Attribute (.Call (.Name "super" ⟨10, 8, 10, 13⟩) [] [] ⟨10, 8, 10, 15⟩) "__init__" ⟨10, 8, 10, 24⟩)
      [.JoinedStr [.FormattedValue (.Name "message" ⟨10, 28, 10, 35⟩) (-1) none ⟨10, 27, 10, 36⟩, .Constant (.str " at ") 0 ⟨10, 36, 10, 40⟩,
        .FormattedValue (.Name "place" ⟨10, 41, 10, 46⟩) (-1) none ⟨10, 40, 10, 47⟩] ⟨10, 25, 10, 48⟩] [] ⟨10, 8, 10, 49⟩) ⟨10, 8, 10, 49⟩,
   .Assign [.Attribute (.Name "self" ⟨11, 8, 11, 12⟩) "place" ⟨11, 8, 11, 18⟩] (.Name "place" ⟨11, 21, 11, 26⟩) ⟨11, 8, 11, 26⟩,
   .Assign [.Attribute (.Name "self" ⟨12, 8, 12, 12⟩) "message" ⟨12, 8, 12, 20⟩] (.Name "message" ⟨12, 23, 12, 30⟩) ⟨12, 8, 12, 30⟩]
def iScope : Scope :=
  { kind := .function, names := [(Str.ofString "self", .local), (Str.ofString "place", .local), (Str.ofString "message", .local), (Str.ofString "__class__", .free), (Str.ofString "super", .globalImplicit)],
    isGenerator := false, isCoroutine := false, more := [] }
/-- what the written part says of TextError, at C, and of its __init__, at fI -/
structure Txt (prog : Program) (K : Frag) (mg : Str → Option Value) (C fI : Addr) : Prop where
  gC : mg "TextError" = some (.ref C)
  cls : ∃ nm q N bs bm sn sub ab col dd k0 k1 k2 k3 k5, K.lookup C = some (excClassObj nm q C N bs bm true sn sub ab col dd k0 k1 k2 k3 k5 "ValueError.__new__") ∧ refsVE bm = true
  sup : ks_superIn K C C "__init__" = some (some (.builtin "ValueError.__init__"))
  ini : excInitIn K C [.type "ValueError", .type "Exception", .type "BaseException", .type "object"] "ValueError.__new__" = true
  subV : subIn K (.ref C) (.type "ValueError") = some true
  opq : nsIn K cStatics "thirdparty.any" = some none
  noS : nsIn K mainGlobals "super" = some none
  topS : (prog.main.scope.names.lookup ("super" : Str)).isSome = false
  sa : findIn K (.ref C) "__setattr__" = some (some (.builtin "object.__setattr__"))
  noP : findIn K (.ref C) "place" = some none
  noM : findIn K (.ref C) "message" = some none
  iC : findIn K (.ref C) "__init__" = some (some (.ref fI))
  tI : typeIn K (.ref fI) = some (.type "function")
  kC : keepIn K (.ref C) = true
  exC : subIn K (.ref C) (.type "BaseException") = some true
  tyC : typeIn K (.ref C) = some (.type "type")
  fn : ∃ (oc : Value) (od : Option Addr) (kV doc pm : Value) (an : Option Addr) (cda : Addr) (ct : Value) (cc : Addr) (osl : Array (Option Value))
      (ccl : Value) (cdd : Option Addr) (vs : Array Value) (ccs : Array (Option Value)) (file : Str) (tf : Tok) (cl : Value) (cld : Option Addr) (csl : Array (Option Value)),
    K.lookup fI = some ⟨oc, od, .func (ksFn "__init__" "TextError.__init__" iArgs iBody iScope .none kV doc pm an (.ref cda) ct cc), osl⟩ ∧
    codeIn K (.ref cda) "TextError.__init__" = true ∧ K.lookup cda = some ⟨ccl, cdd, .fields vs, ccs⟩ ∧ vs[2]? = some (.str file tf) ∧ ((prog.main.file : Str) == file) = true ∧
    K.lookup cc = some ⟨cl, cld, .cell (some (.ref C)), csl⟩
/-- what __init__ leaves of a fresh error at x -/
structure InitEnd (h h' : Heap) (x C dx t1 : Addr) (p : Int) (tp : Tok) (m : Str) (tm : Tok) : Prop where
  keep : ∀ b o, b ≠ x → h.get? b = some o → h'.get? b = some o
  obj : h'.get? x = some (excObj C t1 (some dx) .none)
  tup : ∃ tk, h'.get? t1 = some (excTup [.str (says m p) tk])
  dbig : h.objs.size ≤ dx
  dne : dx ≠ x
  tbig : h.objs.size ≤ t1
  tne : t1 ≠ x
  td : t1 ≠ dx
  ns : h'.Ns1 dx (fun y => if y = "message" then some (.str m tm) else if y = "place" then some (.int p tp) else none)
section
variable {prog : Program} {w : World} {A : Around} {R : Result → Shared → Prop} {s : Shared} {K : Frag} {mg : Str → Option Value} {base : Heap} {C fI : Addr}
theorem init (T : Txt prog K mg C fI) (Md : L2.Mod K mg base) (kb : ∀ b o, base.get? b = some o → s.heap.get? b = some o) {x t0 : Addr} {p : Int} {m : Str} {tp tm : Tok} (hx : s.heap.get? x = some (excO C t0)) (hnx : base.get? x = none)
    (hlim : s.heap.NoLimit) (hroom : A.depth < recursionLimit) (hp : p.natAbs.log2 < 1920) (hm : m.length ≤ 1000000)
    (hq : ∀ h' tk dx t1, InitEnd s.heap h' x C dx t1 p tp m tm → R (.ok (.ret .none)) { s with heap := h', toks := tk }) :
    codeAny (model prog w) A (.call (.ref fI) ⟨[.ref x, .int p tp, .str m tm], []⟩) R s := by
  obtain ⟨oc, od, kV, doc, pm, an, cda, ct, cc, osl, ccl, cdd, vs, ccs, file, tf, cl, cld, csl, ho, hcd, hcode, hvs, hfile, hcell⟩ := T.fn
  have X : K.In s.heap := Md.kin.keeps kb
  refine ks_codeAny_call_defAt (binds := [(("self" : Str), .ref x), (("place" : Str), .int p tp), (("message" : Str), .str m tm)]) hroom (X _ _ ho) rfl hlim (codeRec_of X hcd) rfl (BindsTo.of_eq (by first | rfl | with_unfolding_all rfl)) (show ∀ x ∈ iScope.names, x.2 ≠ .cell by decide) ?loc (fun h₁ hns hk => ?_) rfl rfl rfl
  case loc =>
    intro y hy
    rcases List.mem_cons.mp hy with rfl | hy
    · rfl
    rcases List.mem_cons.mp hy with rfl | hy
    · rfl
    rcases List.mem_cons.mp hy with rfl | hy
    · rfl
    cases hy
  -- super().__init__(f'{message} at {place}')
  refine ks_wpAt_execs_cons (ks_wpAt_Expr_any (ks_wpAt_MethodCall ?_))
  obtain ⟨nm, q, N, bs, bm, sn, sub, ab, col, dd, k0, k1, k2, k3, k5, hC, hbm⟩ := T.cls
  obtain ⟨mb, hbl, hbb⟩ := Md.blt
  have kb1 : ∀ b o, base.get? b = some o → h₁.get? b = some o := fun b o e => hk b o (kb b o e)
  have X₁ : K.In h₁ := X.keeps hk
  have hC₁ := X₁ _ _ hC
  have hx₁ := hk _ _ hx
  have hsuper : mg ("super" : Str) = none := mg_none_of Md.kin Md.glob T.noS
  have hboot : mb ("super" : Str) = some (.type "super") := (hbb _ (by decide)).trans (by decide +kernel)
  have hcl : clsIn K C = some { name := nm, bases := bs, mro := .ref C :: bm, ns := N, qualname := q, hasDict := true, slotNames := sn, subclasses := sub, abstract := ab, collection := col, hasDel := false } := by
    unfold clsIn
    rw [hC] <;> rfl
  refine ks_wpAt_super_base (vs := vs) rfl rfl (by decide) rfl (X₁ _ _ ho) rfl rfl rfl (X₁ _ _ hcode) rfl hvs hfile T.topS ?_
  refine ks_loadName_global rfl rfl (loadGlobal_builtin (Md.glob.keeps kb1) hsuper (hbl.keeps kb1) hboot ⟨rfl, ?_⟩)
  refine wpAny_loadName_free rfl rfl rfl ⟨_, X₁ _ _ hcell, rfl⟩ ?_
  refine wpAny_loadName_local rfl rfl hns rfl ?_
  refine ks_wpAny_isType_cls hC₁ rfl ⟨rfl, ?_⟩
  refine ks_wpAny_call_super hC₁ rfl hx₁ rfl (fun c e => by cases e) (looks_mroIn X₁ ?hmro) (fun h₂ e2 k2' => ?_)
  case hmro =>
    unfold mroIn
    rw [hcl]
    show (if (Value.ref C :: bm).isEmpty = true then none else some ((Value.ref C :: bm).contains (.ref C))) = some true
    rw [if_neg (show ¬ ((Value.ref C :: bm).isEmpty = true) from Bool.false_ne_true), List.contains_cons]
    simp
  -- from here on by the ledger, over all that stood but the error itself
  have hxL : x < s.heap.objs.size := Heap.lt_size hx
  have hg : ∀ b o, b ≠ x → s.heap.get? b = some o → (hideAll s.heap [x]).get? b = some o := fun b o hb e => hideAll_get [x] e (by simpa using hb)
  have X0 : K.In (hideAll s.heap [x]) := fun b o e => hg b o (fun z => by rw [z] at e; rw [Md.kin _ _ e] at hnx; cases hnx) (X b o e)
  have F₂ : Fr (hideAll s.heap [x]) s.heap.objs.size h₂ (fun y => [(("self" : Str), Value.ref x), (("place" : Str), Value.int p tp), (("message" : Str), Value.str m tm)].reverse.lookup y) := by
    obtain ⟨oL, es, ep, hL, r⟩ := hns
    exact ⟨⟨oL, es, ep, k2' _ _ hL, r⟩, fun b o e => k2' _ _ (hk _ _ (of_hideAll _ e)), Nat.le_of_eq (hideAll_size _ _)⟩
  have hxg : (hideAll s.heap [x]).get? x = none := hideAll_none [x] (by simp)
  have h₁L : s.heap.objs.size < h₁.objs.size := hns.lt
  have N₂ : News (hideAll s.heap [x]) s.heap.objs.size h₂ [(h₁.objs.size, ks_superObj C x C), (x, excObj C t0 none .none)] := by
    intro b hb
    rcases List.mem_cons.mp hb with rfl | hb
    · refine ⟨e2, Nat.ne_of_gt h₁L, ?_⟩
      cases z : (hideAll s.heap [x]).get? h₁.objs.size with
      | none => rfl
      | some o =>
        have z' : h₁.objs.size < s.heap.objs.size := Heap.lt_size (of_hideAll _ z)
        exact absurd (Nat.lt_trans h₁L z') (Nat.lt_irrefl _)
    · rcases List.mem_cons.mp hb with rfl | hb
      · exact ⟨k2' _ _ hx₁, Nat.ne_of_lt hxL, hxg⟩
      · cases hb
  have I₂ : W.InstAt h₂ x (excObj C t0 none .none) C none := ⟨k2' _ _ hx₁, rfl, rfl, trivial⟩
  refine kxs_method kxs_ValueError F₂ X0 N₂ List.mem_cons_self I₂ T.opq T.sup T.subV (by decide) (fun u h₃ F₃ N₃ l₃ => ?_)
  show wpAny _ _ (callWith _ (Value.ref u) [] _ []) _ _ _
  refine kxs_callWith1 N₃ List.mem_cons_self ?_
  refine spliced_cons (wpAny_JoinedStr (pos := ⟨10, 25, 10, 48⟩) ?_)
  -- the three parts
  have hm4 : (Str.empty ++ m).length ≤ 1000000 := by
    rw [Str.length_append]
    show 0 + m.length ≤ _
    omega
  have h4 : (Str.empty ++ m ++ (" at " : Str)).length ≤ 1000004 := by
    rw [Str.length_append]
    show _ + 4 ≤ _
    omega
  have hall : (says m p).length ≤ 1001925 := by
    unfold says
    rw [Str.length_append]
    have z := int_text_len_1921 hp
    omega
  refine wpAny_FormattedValue_plain (ESX.ldL (v := .str m tm) F₃.ns rfl ?_ (by first | rfl | with_unfolding_all rfl) (by first | rfl | with_unfolding_all rfl))
  have sz : ∀ {n : Nat}, n ≤ 1100000 → n ≤ sizeLine := fun h => by
    rw [sizeLine_eq]
    omega
  have neu : u ≠ x := Nat.ne_of_gt (l₃ (x, excObj C t0 none .none) (List.mem_cons_of_mem _ List.mem_cons_self))
  have nes : h₁.objs.size ≠ x := Nat.ne_of_gt (Nat.lt_trans hxL h₁L)
  have mE : ((x, excObj C t0 none .none) : Addr × Obj) ∈ [(u, kxs_mw "ValueError.__init__" x), (h₁.objs.size, ks_superObj C x C), (x, excObj C t0 none .none)] := List.mem_cons_of_mem _ (List.mem_cons_of_mem _ List.mem_cons_self)
  refine wpAny_formatField_str ?_ ?_ (sz (by omega))
  all_goals
    refine ⟨_, _, rfl, sz (by omega), ?_⟩
    refine wpAny_Constant_str ⟨_, _, rfl, sz (by omega), ?_⟩
    refine wpAny_FormattedValue_plain (ESX.ldL (v := .int p tp) F₃.ns rfl ?_ (by first | rfl | with_unfolding_all rfl) (by first | rfl | with_unfolding_all rfl))
    refine wpAny_formatField_int hp ⟨_, _, rfl, sz (Nat.le_trans hall (by decide)), ?_⟩
    refine ⟨sz (Nat.le_trans hall (by decide)), ?_⟩
    refine spliced_nil ⟨kxs_at N₃ List.mem_cons_self, ?_⟩
    refine kxs_call F₃ X0 N₃ F.excBase_ValueError T.ini List.mem_cons_self (.tail neu (.tail nes (.head fun _ h => nomatch h))) (sz (show 1 ≤ 1100000 by decide)) (fun t1 h₄ F₄ N₄ l₄ => ?_)
    -- self.place = place
    have X₄ : K.In h₄ := X0.keeps F₄.keep
    have hx₄ : h₄.get? x = some (excObj C t1 none .none) := (N₄ (x, excObj C t1 none .none) (by simp)).1
    have lx1 : x < t1 := l₄ _ mE
    have ht₄ := (N₄ (t1, _) List.mem_cons_self).1
    refine wpAt_of_wpAny (wpAny_execs_cons (plainObj_wpAny_Assign_Attribute ?_))
    refine ESX.ldL (v := .int p tp) F₄.ns rfl (ESX.ldL (v := .ref x) F₄.ns rfl ?_ (by first | rfl | with_unfolding_all rfl) (by first | rfl | with_unfolding_all rfl)) (by first | rfl | with_unfolding_all rfl) (by first | rfl | with_unfolding_all rfl)
    refine set_plain X₄ (ox := excObj C t1 none .none) (od := none) ⟨hx₄, rfl, rfl, trivial⟩ T.sa ?_
    refine exc_osa X₄ hx₄ hcl (show refsVE (.ref C :: bm) = true from hbm) rfl T.noP (fun h₅ tk₅ dx k₅ dn dne hx₅ hn₅ => ?_)
    -- self.message = message
    have X₅ : K.In h₅ := fun b o e => k₅ b o (fun z => by rw [z] at e; rw [Md.kin _ _ e] at hnx; cases hnx) (X₄ b o e)
    have ns₅ : h₅.Ns s.heap.objs.size (fun y => [(("self" : Str), Value.ref x), (("place" : Str), Value.int p tp), (("message" : Str), Value.str m tm)].reverse.lookup y) := by
      obtain ⟨oL, es, ep, hL, r⟩ := F₄.ns
      exact ⟨oL, es, ep, k₅ _ _ (Nat.ne_of_gt hxL) hL, r⟩
    obtain ⟨oD, esD, epD, hoD, rD⟩ := id hn₅
    refine wpAny_execs_cons (plainObj_wpAny_Assign_Attribute ?_)
    refine ESX.ldL (v := .str m tm) ns₅ rfl (ESX.ldL (v := .ref x) ns₅ rfl ?_ (by first | rfl | with_unfolding_all rfl) (by first | rfl | with_unfolding_all rfl)) (by first | rfl | with_unfolding_all rfl) (by first | rfl | with_unfolding_all rfl)
    refine set_plain X₅ (ox := excObj C t1 (some dx) .none) (od := some oD) ⟨hx₅, rfl, rfl, hoD⟩ T.sa ?_
    refine OEX.osa_old X₅ hx₅ hn₅ (nl := [("place" : Str)]) ?_ (by decide) hcl (show refsVE (.ref C :: bm) = true from hbm) rfl T.noM (fun h₆ tk₆ k₆ hn₆ => ?_)
    · exact Within.cons _ _ Within.nil
    · have bigT : t1 < h₄.objs.size := Heap.lt_size ht₄
      have bigL : s.heap.objs.size < h₄.objs.size := F₄.ns.lt
      have lso : h₁.objs.size < t1 := l₄ (h₁.objs.size, ks_superObj C x C) (List.mem_cons_of_mem _ List.mem_cons_self)
      have ntd : t1 ≠ dx := Nat.ne_of_lt (Nat.lt_of_lt_of_le bigT dn)
      have ntx : t1 ≠ x := Nat.ne_of_gt lx1
      refine wpAny_execs_nil (hq h₆ tk₆ dx t1 ⟨fun b o hb e => ?_, k₆ x _ dne.symm hx₅, ⟨_, k₆ t1 _ ntd (k₅ t1 _ ntx ht₄)⟩, Nat.le_of_lt (Nat.lt_of_lt_of_le bigL dn), dne, Nat.le_of_lt (Nat.lt_trans h₁L lso), ntx, ntd, hn₆⟩)
      have e4 := F₄.keep b o (hg b o hb e)
      exact k₆ b o (Nat.ne_of_lt (Nat.lt_of_lt_of_le (Heap.lt_size e4) dn)) (k₅ b o hb e4)
/-- a made TextError -/
structure Made (h h' : Heap) (e C d t1 : Addr) (p : Int) (tp : Tok) (m : Str) (tm : Tok) : Prop where
  keep : ∀ b o, h.get? b = some o → h'.get? b = some o
  new : h.objs.size ≤ e
  obj : h'.get? e = some (excObj C t1 (some d) .none)
  tup : ∃ tk, h'.get? t1 = some (excTup [.str (says m p) tk])
  dbig : h.objs.size ≤ d
  dne : d ≠ e
  tbig : h.objs.size ≤ t1
  tne : t1 ≠ e
  td : t1 ≠ d
  ns : h'.Ns1 d (fun y => if y = "message" then some (.str m tm) else if y = "place" then some (.int p tp) else none)
theorem made (T : Txt prog K mg C fI) (Md : L2.Mod K mg base) (kb : ∀ b o, base.get? b = some o → s.heap.get? b = some o) {p : Int} {m : Str} {tp tm : Tok} (hlim : s.heap.NoLimit) (hroom : A.depth + 1 < recursionLimit)
    (hp : p.natAbs.log2 < 1920) (hm : m.length ≤ 1000000) (hq : ∀ h' tk e d t1, Made s.heap h' e C d t1 p tp m tm → R (.ok (.ret (.ref e))) { s with heap := h', toks := tk }) :
    codeAny (model prog w) A (.call (.ref C) ⟨[.int p tp, .str m tm], []⟩) R s := by
  obtain ⟨nm, q, N, bs, bm, sn, sub, ab, col, dd, k0, k1, k2, k3, k5, hC, hbm⟩ := T.cls
  obtain ⟨hh, g, dr, tk, os⟩ := s
  have X : K.In hh := Md.kin.keeps kb
  have k : ∀ b o, hh.get? b = some o → ((hh.push (kdv_tup [.int p tp, .str m tm])).push (excO C hh.objs.size)).get? b = some o := fun b o e => Heap.get?_push_of_some _ (Heap.get?_push_of_some _ e)
  have hget : ((hh.push (kdv_tup [.int p tp, .str m tm])).push (excO C hh.objs.size)).get? (hh.objs.size + 1) = some (excO C hh.objs.size) := by heap_get
  have hnx : base.get? (hh.objs.size + 1) = none := by
    cases e : base.get? (hh.objs.size + 1) with
    | none => rfl
    | some o => exact absurd (Nat.lt_of_succ_lt (Heap.lt_size (kb _ _ e))) (Nat.lt_irrefl _)
  have two : ([.int p tp, .str m tm] : List Value).length ≤ sizeLine := by
    rw [sizeLine_eq]
    show 2 ≤ 16777216
    decide
  refine call_own F.excBase_ValueError (fun Y => refsVE_contains Y bm hbm) (X _ _ hC) (looks_findIn X T.iC) (fun self => bind_fn X self T.tI) two ?_
  have hs : ((hh.push (kdv_tup [.int p tp, .str m tm])).push (excO C hh.objs.size)).objs.size = hh.objs.size + 1 + 1 := by simp [Heap.size_push]
  refine init (s := ⟨(hh.push (kdv_tup [.int p tp, .str m tm])).push (excO C hh.objs.size), g, dr, tk, os⟩) T Md (fun b o e => k b o (kb b o e)) hget hnx (hlim.keeps k) ?_ hp hm fun h' tk' dx t1 Z => ?_
  · show A.depth + 1 < recursionLimit
    exact hroom
  · have zd : hh.objs.size + 1 + 1 ≤ dx := by
      rw [← hs]
      exact Z.dbig
    have zt : hh.objs.size + 1 + 1 ≤ t1 := by
      rw [← hs]
      exact Z.tbig
    exact ⟨rfl, hq h' tk' (hh.objs.size + 1) dx t1 ⟨fun b o e => Z.keep b o (Nat.ne_of_lt (Nat.lt_succ_of_lt (Heap.lt_size e))) (k b o e), Nat.le_succ _, Z.obj, Z.tup, Nat.le_of_succ_le (Nat.le_of_succ_le zd), Z.dne, Nat.le_of_succ_le (Nat.le_of_succ_le zt), Z.tne, Z.td, Z.ns⟩⟩
end
end TE
/-! TextError. Part 2: raised, let out of defs, caught; the text of the error is kept (its arguments' tuple stays tracked). -/
namespace TE
open PySem PySem.Spec PyProof.Rows L2 HandSPX
abbrev St := L2.St
/-- the error's own dict -/
def fs (m : Str) (p : Int) : List (Str × V) := [(("message" : Str), .str m), (("place" : Str), .int p)]
/-- the dict at d and the arguments at t tell one error -/
def Tells (H : Hp) (d t : Addr) : Prop := ∃ (m : Str) (p : Int), H d = some (.xd (fs m p)) ∧ H t = some (.tup [.str (says m p)])
/-- what is kept of the error's object -/
def Ze (cls : Value) (d t : Addr) (o : Obj) : Prop := o.cls = cls ∧ o.dict = some d ∧ ∀ vs, o.data = .fields vs → vs[0]? = some (.ref t)
theorem Ze.steady {cls : Value} {d t : Addr} : PXN.Steady1 (Ze cls d t) := by
  rintro ⟨c, dd, dt, sl⟩ v ⟨h1, h2, h3⟩
  cases dt with
  | fields vs0 =>
    refine ⟨h1, h2, fun vs e => ?_⟩
    cases (show Data.fields (vs0.setIfInBounds 1 v) = Data.fields vs from e)
    rw [Array.getElem?_setIfInBounds_ne (by decide)]
    exact h3 vs0 rfl
  | _ => exact ⟨h1, h2, h3⟩
/-- an error in the air of X, above the ground B; sI is the state without it -/
structure Air (X : Cx) (a : Addr) (s' : Shared) (B : Heap) (sI : Shared) (pins : List (Addr × Obj)) (σ : St) (H : Hp) (cls : Value) (d t : Addr) : Prop where
  inv : Inv X pins σ H sI
  gnd : ∀ b o, sI.heap.get? b = some o → b ∉ frs X.stack → B.get? b = some o
  up : sI.heap.UpToSlots s'.heap
  sky : Sky B X.stack a (Ze cls d t) X.env.locals s'.heap
  na : H a = none
  os : s'.os = sI.os
  bare : AllBare s'.gens
  tells : Tells H d t
def XE (X : Cx) (W : WX) (u : Value) (s' : Shared) : Prop := ∃ a B sI pins σ H cls d t, u = .ref a ∧ Air X a s' B sI pins σ H cls d t ∧ W cls (some d) σ H
def Takes (X : Cx) (W : WX) : Prop := ∀ u s', XE X W u s' → X.xe u s'
/-- an error that a call let out -/
structure Out (P : Program) (w : World) (outer : List Env) (H : Hp) (s : Shared) (a : Addr) (s' : Shared) (B : Heap) (H' : Hp) (cls : Value) (d t : Addr) : Prop where
  fl : FlyingZ B outer a (Ze cls d t) s'.heap
  hok : HOk P w H' B
  ub : UB (frs outer) H H' s.heap B s'.heap
  na : H' a = none
  os : s'.os = s.os
  bare : AllBare s'.gens
  tells : Tells H' d t
def CX (P : Program) (w : World) : CXT := fun outer H s E u s' => ∃ a B H' cls d t, u = .ref a ∧ Out P w outer H s a s' B H' cls d t ∧ E cls (some d) H'
section
variable {X : Cx} {pins : List (Addr × Obj)} {σ : St} {H : Hp} {sI s s' : Shared} {B : Heap} {W : WX} {E : XK}
/-- out of a call into our air -/
theorem XE.called (I : Inv X pins σ H s) (hW : ∀ cls d H', E cls d H' → W cls d σ H') {u : Value} (c : CX X.prog X.w X.stack H s E u s') : XE X W u s' := by
  obtain ⟨a, B, H', cls, d, t, rfl, ⟨fl, hok, ub, na, os, ag, te⟩, hE⟩ := c
  obtain ⟨G, gIn, gOut⟩ := restrict s'.heap (fun b => decide (b ∈ frs X.stack) || (B.get? b).isSome)
  have toG : ∀ {b o}, B.get? b = some o → G.get? b = some o := fun {b o} e => (gIn b (by simp [e])).trans (fl.1 b o e)
  have frG : ∀ {b}, b ∈ frs X.stack → G.get? b = s'.heap.get? b := fun {b} hb => gIn b (by simp [hb])
  have ofG : ∀ {b o}, G.get? b = some o → s'.heap.get? b = some o ∧ (b ∈ frs X.stack ∨ (B.get? b).isSome = true) := fun {b o} e => by
    by_cases q : (decide (b ∈ frs X.stack) || (B.get? b).isSome) = true
    · rw [gIn b q] at e
      exact ⟨e, by simpa using q⟩
    · rw [gOut b (by simpa using q)] at e
      cases e
  have J : Inv X pins σ H' { s with heap := G, gens := s'.gens, drawn := s'.drawn, toks := s'.toks } := by
    refine I.call (ch := []) ⟨?_, ?_, ?_, ?_, ub.tups, ub.frzs, ub.tbls⟩ (hok.kept fun b o e => toG e) ag (fun _ z => nomatch z)
    · exact fun b o e n hb _ => toG (ub.keep b o e n hb)
    · intro b o e n hb _
      obtain ⟨sl, q⟩ := ub.slot b o e hb
      exact ⟨sl, (frG hb).trans q⟩
    · exact fun b o e n _ => ub.free b o e n
    · intro b o e _
      by_cases hb : b ∈ frs X.stack
      · obtain ⟨sl, q⟩ := ub.slot b o e hb
        exact ⟨_, (frG hb).trans q⟩
      · obtain ⟨o', q⟩ := ub.there b o e hb
        exact ⟨o', toG q⟩
  refine ⟨a, B, _, pins, σ, H', cls, d, t, rfl, ⟨J, ?_, Heap.UpToSlots.of_keeps fun b o e => (ofG e).1, .inr (.inl fl), na, os, ag, te⟩, hW _ _ _ hE⟩
  intro b o e hb
  obtain ⟨e1, q | q⟩ := ofG e
  · exact absurd q hb
  · obtain ⟨o', q'⟩ := Option.isSome_iff_exists.mp q
    have e2 := fl.1 b o' q'
    rw [e1] at e2
    cases e2
    exact q'
/-- a new one in our air -/
theorem XE.fresh {a : Addr} {oe : Obj} {vs : Array Value} {cls : Value} {d t : Addr} (I : Inv X pins σ H sI) (k : ∀ b o, sI.heap.get? b = some o → s'.heap.get? b = some o) (hne : sI.heap.get? a = none) (he : s'.heap.get? a = some oe)
    (hz : Ze cls d t oe) (hd : oe.data = .fields vs) (h1 : vs[1]? = some .none) (na : H a = none) (os : s'.os = sI.os) (ag : AllBare s'.gens) (te : Tells H d t) (hw : W cls (some d) σ H) : XE X W (.ref a) s' := by
  have hide : ∀ {b o}, (PySem.W.hideAll sI.heap (frs X.stack)).get? b = some o → sI.heap.get? b = some o := fun {b o} e => PySem.W.of_hideAll _ e
  have no : (PySem.W.hideAll sI.heap (frs X.stack)).get? a = none := by
    cases q : (PySem.W.hideAll sI.heap (frs X.stack)).get? a with
    | none => rfl
    | some o =>
      rw [hide q] at hne
      cases hne
  have ff : s'.heap.FunFrames (PySem.W.hideAll sI.heap (frs X.stack)) X.stack := Heap.FunFrames.of_keeps (fun b o e _ => ⟨o, k b o e, rfl⟩) (funFrames_none I.stack fun b hb => PySem.W.hideAll_none _ hb)
  exact ⟨a, _, sI, pins, σ, H, cls, d, t, rfl, ⟨I, fun b o e hb => PySem.W.hideAll_get _ e hb, Heap.UpToSlots.of_keeps k, .inl ⟨fun b o e => k b o (hide e), no, ff, oe, vs, he, hz, hd, h1⟩, na, os, ag, te⟩, hw⟩
/-- it leaves the def -/
theorem XE.leave (hs : X.stack = X.env :: X.outer) (hf : X.env.frame = some X.env.locals) (hex : X.ex = []) {E₁ : Value → Shared → Prop} {u : Value} (x : XE X (fun cls d _ H => E cls d H) u s') :
    wpAny (model X.prog X.w) X.A (leaving X.env u) (fun _ s'' => CX X.prog X.w X.outer X.H_0 X.s_0 E u s'') E₁ s' := by
  obtain ⟨a, B, sI, pins, σ, H, cls, d, t, rfl, ⟨I, gnd, up, sky, na, os, ag, te⟩, hw⟩ := x
  have hfr : X.A.frames = some (X.env :: X.outer) := I.ok.frames.trans (congrArg some hs)
  have nex : ∀ b, b ∉ X.ex := fun b hb => by
    rw [hex] at hb
    cases hb
  have apart : ∀ {b o}, X.s_0.heap.get? b = some o → b ∉ X.fs → b ∉ frs X.stack := fun {b o} e hb hm => by
    rcases List.mem_cons.mp (I.stkSub b hm) with rfl | z
    · exact absurd (Nat.lt_of_lt_of_le (Heap.lt_size e) I.ok.above) (Nat.lt_irrefl _)
    · exact hb z
  have done : ∀ h', FlyingZ B X.outer a (Ze cls d t) h' → s'.heap.UpToSlots h' → CX X.prog X.w X.outer X.H_0 X.s_0 E (.ref a) { s' with heap := h' } := fun h' fl up' => by
    refine ⟨a, B, H, cls, d, t, rfl, ⟨fl, I.inGround gnd, ⟨?_, ?_, ?_, ?_, I.base.tups, I.base.frzs, I.base.tbls⟩, na, os.trans I.os, ag, te⟩, hw⟩
    · exact fun b o e n hb => gnd b o (I.base.keep b o e n hb (nex b)) (apart e hb)
    · intro b o e hb
      obtain ⟨_, o₀, e₀, nf⟩ := I.ok.funs.mem hb
      rw [e] at e₀
      cases e₀
      obtain ⟨sl1, e1⟩ := I.base.slot b o e (I.ok.frf b hb) hb (nex b)
      obtain ⟨sl2, e2⟩ := up b _ e1 nf
      obtain ⟨sl3, e3⟩ := up' b _ e2 nf
      exact ⟨sl3, e3⟩
    · exact fun b o e n => I.base.free b o e n (nex b)
    · intro b o e hb
      obtain ⟨o', e1⟩ := I.base.there b o e (nex b)
      exact ⟨o', gnd b o' e1 (apart e hb)⟩
  rw [hs] at sky
  rcases sky with ⟨c1, c2, c3, oe, vs, c4, c5, c6, c7⟩ | fl | hh
  · exact PXN.leaving_firstZ Ze.steady hfr c3 hf c4 c1 c2 c6 c7 c5 done
  · exact PXN.leaves_onZ Ze.steady hfr hf fl done
  · exact leaves_heldZ hf hh done
theorem takes_of (hs : X.stack = X.env :: X.outer) (hf : X.env.frame = some X.env.locals) (hex : X.ex = []) {E₁ : Value → Shared → Prop}
    (hx : X.xe = fun e s' => wpAny (model X.prog X.w) X.A (leaving X.env e) (fun _ s'' => CX X.prog X.w X.outer X.H_0 X.s_0 E e s'') E₁ s') : Takes X (fun cls d _ H => E cls d H) := by
  intro u s' x
  rw [hx]
  exact x.leave hs hf hex
theorem passes (tk : Takes X (fun cls d _ H => E cls d H)) : Passes (CX X.prog X.w) X E := fun _ _ _ _ e s' I c => tk e s' (XE.called I (fun _ _ _ h => h) c)
theorem passesAt (tk : Takes X W) (σ : St) : PassesAt (CX X.prog X.w) X σ (WE W σ) := fun _ _ _ e s' I c => tk e s' (XE.called I (fun _ _ _ h => h) c)
end
/-! ### made, raised -/
def MkP (X : Cx) (pins : List (Addr × Obj)) (σ : St) (Q : XK) (u : Value) (s' : Shared) : Prop :=
  ∃ (a : Addr) (oe : Obj) (vs : Array Value) (sI : Shared) (H' : Hp) (cls : Value) (d t : Addr), u = .ref a ∧ Inv X pins σ H' sI ∧ (∀ b o, sI.heap.get? b = some o → s'.heap.get? b = some o) ∧ sI.heap.get? a = none ∧ s'.heap.get? a = some oe ∧
    Ze cls d t oe ∧ oe.data = .fields vs ∧ vs[1]? = some .none ∧ H' a = none ∧ s'.os = sI.os ∧ AllBare s'.gens ∧ Raises X cls ∧ Tells H' d t ∧ Q cls (some d) H'
def PMk (X : Cx) (e : Expr) (t : St → Hp → XK → Prop) : Prop :=
  ∀ (pins : List (Addr × Obj)) (s : Shared) (σ : St) (H : Hp) (Q : XK), Inv X pins σ H s → t σ H Q → wpAny (model X.prog X.w) X.A (eval e X.env) (MkP X pins σ Q) X.xe s
def tRaise (W : WX) (t : St → Hp → XK → Prop) : TS := fun _ σ H => t σ H fun cls d H' => W cls d σ H'
theorem ps_raise {X : Cx} {W : WX} {e : Expr} {t : St → Hp → XK → Prop} {pos : Pos} (hc : X.calm = true) (tk : Takes X W) (he : PMk X e t) : PS X (.Raise (some e) none pos) (tRaise W t) := by
  constructor
  intro pins s σ H D I h
  show wpAny _ _ (standAt pos >>= fun _ => raiseStmt X.env (some (eval e X.env >>= fun v => standAt pos >>= fun _ => pure v)) none) _ _ _
  refine wpAny_bind (wpAny_standAt (raise_made (I.ok.hd hc) (wpAny_bind (wpAny_mono (he pins s σ H _ I h) ?_ fun _ _ z => z))))
  rintro u s1 ⟨a, oe, vs, sI, H', cls, d, t', rfl, J, k, hne, ha, hz, hd, h1, na, os, ag, r, te, q⟩
  have R := r (model X.prog X.w) s1.heap (J.kIn.keeps k)
  exact wpAny_bind (wpAny_standAt (wpAny_pure ⟨a, oe, vs, cls, rfl, ha, hz.1, hd, h1, R.1, R.2, tk _ _ (XE.fresh J k hne ha hz hd h1 na os ag te q)⟩))
end TE
/-! TextError. Part 3: made, raised, caught as a name; its fields, its text, its class asked. -/
namespace TE
open PySem PySem.Spec PyProof.Rows L2 HandSPX
/-- two new objects are tracked at once -/
theorem laid2 {X : Cx} {pins : List (Addr × Obj)} {σ : St} {H : Hp} {hp G : Heap} {g : Array GenState} {dr : Drawn} {tk tk' : Nat} {os : OsState} {t d : Addr} {ot od : HO} (I : L2.Inv X pins σ H ⟨hp, g, dr, tk, os⟩)
    (k : ∀ b u, hp.get? b = some u → G.get? b = some u) (ht : hp.objs.size ≤ t) (hd : hp.objs.size ≤ d) (ntd : t ≠ d) (et : ObjOk X.prog X.w (upd (upd H t ot) d od) G t ot) (ed : ObjOk X.prog X.w (upd (upd H t ot) d od) G d od) :
    L2.Inv X pins σ (upd (upd H t ot) d od) ⟨G, g, dr, tk', os⟩ := by
  have nt := I.hok.fresh ht
  have nd := I.hok.fresh hd
  have old : ∀ {b u}, H b = some u → upd (upd H t ot) d od b = some u := fun {b u} e => by
    rw [upd_ne (ne_of_none e nd), upd_ne (ne_of_none e nt)]
    exact e
  have free : ∀ {b u}, hp.get? b = some u → H b = none → upd (upd H t ot) d od b = none := fun {b u} e n => by
    have z := Heap.lt_size e
    rw [upd_ne (Nat.ne_of_lt (Nat.lt_of_lt_of_le z hd)), upd_ne (Nat.ne_of_lt (Nat.lt_of_lt_of_le z ht))]
    exact n
  refine I.call' (ch := []) rfl ⟨fun b u e _ _ _ => k b u e, fun b u e _ _ _ => ⟨u.slots, k b u e⟩, fun b u e n _ => free e n, fun b u e _ => ⟨u, k b u e⟩, fun b xs e => old e, fun b u xs e => old e, fun b ps e => ⟨#[], by simpa using old e⟩⟩ ?_ I.bare (fun b z => absurd z (by simp))
  intro b o e
  by_cases h1 : b = d
  · subst h1
    rw [upd_same] at e
    cases e
    exact ed
  · rw [upd_ne h1] at e
    by_cases h2 : b = t
    · subst h2
      rw [upd_same] at e
      cases e
      exact et
    · rw [upd_ne h2] at e
      exact (I.hok b o e).stay (fun c u _ q => k c u q) (fun c q => old q) fun c xs q => old q
theorem rel_fs {m : Str} {p : Int} {tm tp : Tok} (f : Str) : RelO ((fs m p).lookup f) (if f = "message" then some (Value.str m tm) else if f = "place" then some (Value.int p tp) else none) := by
  unfold fs
  rw [lookup_put, lookup_put]
  by_cases h1 : f = "message"
  · rw [if_pos h1, if_pos h1]
    exact ⟨tm, rfl⟩
  · rw [if_neg h1, if_neg h1]
    by_cases h2 : f = "place"
    · rw [if_pos h2, if_pos h2]
      exact ⟨tp, rfl⟩
    · rw [if_neg h2, if_neg h2]
      trivial
section
variable {X : Cx} {C fI : Addr}
/-- TextError(place, message) -/
def tMk (C : Addr) (ta : TA) : St → Hp → XK → Prop := fun σ H Q => ta σ H fun vs H1 => ∃ (p : Int) (m : Str), vs = [.int p, .str m] ∧ p.natAbs.log2 < 1920 ∧ m.length ≤ 1000000 ∧
  ∀ d t, H1 d = none → H1 t = none → t ≠ d → Q (.ref C) (some d) (upd (upd H1 t (.tup [.str (says m p)])) d (.xd (fs m p)))
theorem pmk {a b : Expr} {ta : TA} {p0 pos : Pos} {k : Nat} (T : Txt X.prog X.K X.mg C fI) (hr : Room k X.A) (ha : PA X [a, b] ta) (hg : Gl X "TextError" := by rfl)
    (he : starEach (a :: [b]) X.env = (false, eval a X.env) :: starEach [b] X.env := by rfl) (hpl : (backTo pos (starEach [b] X.env)).any (·.1) = false := by rfl) :
    PMk X (.Call (.Name "TextError" p0) [a, b] [] pos) (tMk C ta) := by
  intro pins s σ H Q I h
  refine wpAny_Call_Name_kw (ld_glob I hg T.gC ?_)
  refine PySem.W.callWith_K (h₀ := X.base) I.ok.mod.kin T.kC (thn (ha.run pos pins s σ H _ I h) ?_) he hpl
  rintro us s1 ⟨vs, H1, I1, r1, p, m, rfl, hp, hm, q⟩
  refine ⟨I1.kIn, ?_⟩
  cases r1 with
  | cons rp r1 =>
    cases r1 with
    | cons rm r1 =>
      cases r1
      obtain ⟨tp, rfl⟩ := rp
      obtain ⟨tm, rfl⟩ := rm
      have hlim := I1.nolimit
      have kb := I1.bs
      obtain ⟨hh, g, dr, tk, os⟩ := s1
      refine wpAny_call (made T I1.ok.mod (fun b o e => (kb b o e).1) hlim (by have := hr.dp; omega) hp hm fun h' tk' e d t M => ?_)
      show MkP X pins σ Q (.ref e) ⟨h', g, dr, tk', os⟩
      obtain ⟨G, gIn, gOut⟩ := restrict h' fun b => decide (b ≠ e)
      have gk : ∀ {b}, b ≠ e → G.get? b = h'.get? b := fun {b} hb => gIn b (decide_eq_true hb)
      have ge : G.get? e = none := gOut e (by simp)
      obtain ⟨tk1, ht⟩ := M.tup
      have hz : (1 : Nat) ≤ sizeLine := by
        rw [sizeLine_eq]
        decide
      have J := laid2 (tk' := tk') (t := t) (d := d) (ot := .tup [.str (says m p)]) (od := .xd (fs m p)) I1 (fun b o z => (gk (Nat.ne_of_lt (Nat.lt_of_lt_of_le (Heap.lt_size z) M.new))).trans (M.keep b o z)) M.tbig M.dbig M.td
        ⟨hz, [.str (says m p) tk1], .cons ⟨tk1, rfl⟩ .nil, _, (gk M.tne).trans ht, rfl, 0, rfl⟩ ⟨_, M.ns.at (fun o z => (gk M.dne).trans z), rel_fs⟩
      have ne := I1.hok.fresh M.new
      refine ⟨e, _, _, ⟨G, g, dr, tk', os⟩, _, .ref C, d, t, rfl, J, fun b o z => ?_, ge, M.obj, ⟨rfl, rfl, fun vs z => by cases z; rfl⟩, rfl, rfl, ?_, rfl, I1.bare, raises_own T.exC T.tyC, ⟨m, p, upd_same, ?_⟩, q d t (I1.hok.fresh M.dbig) (I1.hok.fresh M.tbig) M.td⟩
      · by_cases hb : b = e
        · subst hb
          rw [show (⟨G, g, dr, tk', os⟩ : Shared).heap.get? b = none from ge] at z
          cases z
        · exact (gk hb).symm.trans z
      · rw [upd_ne (Ne.symm M.dne), upd_ne (Ne.symm M.tne)]
        exact ne
      · rw [upd_ne M.td, upd_same]
/-- raise TextError(place, message) -/
theorem ps_raiseTE {a b : Expr} {ta : TA} {W : WX} {p0 pos pos2 : Pos} {k : Nat} (hc : X.calm = true) (T : Txt X.prog X.K X.mg C fI) (hr : Room k X.A) (tk : Takes X W) (ha : PA X [a, b] ta) (hg : Gl X "TextError" := by rfl)
    (he : starEach (a :: [b]) X.env = (false, eval a X.env) :: starEach [b] X.env := by rfl) (hpl : (backTo pos (starEach [b] X.env)).any (·.1) = false := by rfl) :
    PS X (.Raise (some (.Call (.Name "TextError" p0) [a, b] [] pos)) none pos2) (tRaise W (tMk C ta)) := ps_raise hc tk (pmk T hr ha hg he hpl)
end
end TE
/-! TextError. Part 4: try .. except TextError as n, and what the suite asks of n. -/
namespace TE
open PySem PySem.Spec PyProof.Rows L2 HandSPX
/-- the suite's ends: its name goes behind each of them -/
def suiteEnds (i : Nat) (D : Ends) : Ends := { nx := fun σ H => D.nx (σ.set i none) H, rt := D.rt, bk := fun σ H => D.bk (σ.set i none) H, ct := fun σ H => D.ct (σ.set i none) H }
/-- what the clause wishes of an error of the body -/
def wAs (K : PySem.W.Frag) (c : Value) (i : Nat) (ts : Addr → Value → Addr → Addr → TS) (D : Ends) : WX := fun cls d σ H =>
  PySem.W.exmOne K cls c = some true ∧ ∀ a dd t, d = some dd → H a = none → Tells H dd t → ts a cls dd t (suiteEnds i D) (σ.set i (some (.ref a))) H
section
variable {X : Cx} {x n : Str} {c : Value} {i : Nat} {body suite : List Stmt} {b₀ : Stmt} {np pos pos' : Pos} {tb : WX → TS} {ts : Addr → Value → Addr → Addr → TS}
theorem ps_try_as (hs : X.stack = X.env :: X.outer) (hf : X.env.frame = some X.env.locals) (hN : X.N.Nodup) (hi : X.N[i]? = some n) (hln : X.env.kindOf n = some .local) (hc : Names X x c)
    (hb : ∀ (W : WX) (pn : List (Addr × Obj)) (xe : Value → Shared → Prop), Takes (X.tr pn xe) W → PassesOwn (model X.prog X.w) X.A X.env xe → PSs (X.tr pn xe) body (tb W))
    (hsu : ∀ (a : Addr) (oe : Obj) (cls : Value) (d t : Addr) (pn : List (Addr × Obj)), Ze cls d t oe → (∃ vs, oe.data = .fields vs) → PSs (X.suite a ((a, oe) :: pn)) (b₀ :: suite) (ts a cls d t)) :
    PS X (.Try body [.ExceptHandler (some (.Name x np)) (some n) (b₀ :: suite) pos'] [] [] pos) (fun D σ H => tb (wAs X.K c i ts D) D σ H) := by
  constructor
  intro pins s σ H D I h
  have ok := I.ok
  have hfr : X.A.frames = some (X.env :: X.outer) := ok.frames.trans (congrArg some hs)
  refine wpAny_Try_except ?_
  have caught : Takes (X.tr (X.pn ++ pins) fun e s₁ => wpAny (model X.prog X.w) X.A (noteFrame e X.env) (fun _ s₂ => wpAny (model X.prog X.w) X.A (setFlight e none)
      (fun _ s₃ => wpAny (model X.prog X.w) X.A (handleBy e X.env [.ExceptHandler (some (.Name x np)) (some n) (b₀ :: suite) pos']) (SP X pins D) X.xe s₃) X.xe s₂) X.xe s₁) (wAs X.K c i ts D) := by
    rintro u s' ⟨a, B, sI, pins', σ', H', cls, d, t, rfl, Z, hm, hyes⟩
    have J : L2.Inv X pins σ' H' sI := Z.inv.ofTry ok
    have sky : Sky B (X.env :: X.outer) a (Ze cls d t) X.env.locals s'.heap := by
      rw [← hs]
      exact Z.sky
    show wpAny (model X.prog X.w) X.A (noteFrame (.ref a) X.env) _ _ _
    refine L2N.Sky.land Ze.steady hfr hf sky fun h3 fl3 up3 => ?_
    have J3 : L2.Inv X pins σ' H' { s' with heap := h3 } := J.landed Z.gnd fl3.1 (Z.up.trans up3) Z.os Z.bare
    obtain ⟨oe3, vs3, e3, z3, d3⟩ := fl3.there
    have apart : a ∉ frs (X.env :: X.outer) := fun hm => by
      obtain ⟨_, o, e, nf⟩ := fl3.2.2.1.mem hm
      rw [e3] at e
      cases e
      exact nf _ d3
    have nL : a ≠ X.env.locals := fun z => apart (List.mem_filterMap.mpr ⟨X.env, List.mem_cons_self, hf.trans (congrArg some z.symm)⟩)
    have nF : a ∉ X.fs := fun hm => by
      obtain ⟨v, hv, q⟩ := List.mem_filterMap.mp hm
      exact apart (List.mem_filterMap.mpr ⟨v, List.mem_cons_of_mem _ hv, q⟩)
    have S3 := J3.suite e3 d3 Z.na nL nF
    have asked : ∀ {Q : Value → Shared → Prop} {E : Value → Shared → Prop}, Q c { s' with heap := h3 } → wpAny (model X.prog X.w) (X.A.mark (some (.ref a))) (eval (.Name x np) X.env) Q E { s' with heap := h3 } := fun {Q E} q => by
      obtain ⟨hg, hdb, hm | ⟨hm, hv, hn⟩⟩ := hc
      · exact ld_glob S3 hg hm q hdb
      · exact ld_blt S3 hg hm hv q hn hdb
    have LT : PySem.W.Looks (model X.prog X.w) h3 (typeOf (.ref a)) cls := fun A Q E s k q => wpAny_typeOf_ref (k _ _ e3) (by rw [z3.1]; exact q)
    refine wpAny_handleBy_cons (codeAny_handlers_test (asked ((PySem.W.exm_one (M := model X.prog X.w) J3.kIn LT hm).here ?_))) (by intro q; cases q)
    refine codeAny_handlers_suite_as (lands_againZ fl3 fun h4 fl4 up4 => ?_)
    have J4 : L2.Inv X pins σ' H' { s' with heap := h4 } := J.landed Z.gnd fl4.1 ((Z.up.trans up3).trans up4) Z.os Z.bare
    obtain ⟨oe4, vs4, e4, z4, d4⟩ := fl4.there
    refine store_ok (X := X.suite a ((a, oe4) :: (X.pn ++ pins))) (v := .ref a) (J4.suite e4 d4 Z.na nL nF) hN hi (.inl hln) rfl (fun s5 S5 => ?_) (.inr hln)
    refine wpAny_mono ((hsu a oe4 cls d t (X.pn ++ pins) z4 ⟨_, d4⟩).run [] s5 _ H' _ S5 (hyes a d t rfl Z.na Z.tells)) ?_ (fun _ _ z => False.elim z)
    intro f s6 hsp
    cases f with
    | next =>
      obtain ⟨σ6, H6, S6, q6⟩ := hsp
      exact gone_ok (S6.unsuite ok) hN hi hln fun s7 J7 => ⟨_, _, J7, q6⟩
    | brk =>
      obtain ⟨σ6, H6, S6, q6⟩ := hsp
      exact gone_ok (S6.unsuite ok) hN hi hln fun s7 J7 => ⟨_, _, J7, q6⟩
    | cont =>
      obtain ⟨σ6, H6, S6, q6⟩ := hsp
      exact gone_ok (S6.unsuite ok) hN hi hln fun s7 J7 => ⟨_, _, J7, q6⟩
    | ret u =>
      obtain ⟨v6, σ6, H6, S6, r6, q6⟩ := hsp
      exact gone_ok (S6.unsuite ok) hN hi hln fun s7 J7 => ⟨_, _, _, J7, r6, q6⟩
  refine wpAny_mono ((hb (wAs X.K c i ts D) (X.pn ++ pins) _ caught PassesOwn.looking).run [] s σ H D (I.toTry _) h) ?_ (fun e s1 he => he)
  intro f s1 hsp
  cases f with
  | next =>
    obtain ⟨σ', H', J', q⟩ := hsp
    exact wpAny_execs_nil ⟨σ', H', J'.ofTry ok, q⟩
  | brk =>
    obtain ⟨σ', H', J', q⟩ := hsp
    exact ⟨σ', H', J'.ofTry ok, q⟩
  | cont =>
    obtain ⟨σ', H', J', q⟩ := hsp
    exact ⟨σ', H', J'.ofTry ok, q⟩
  | ret u =>
    obtain ⟨v, σ', H', J', r, q⟩ := hsp
    exact ⟨v, σ', H', J'.ofTry ok, r, q⟩
end
/-- what is asked of the caught error beside Txt -/
structure Ask (K : PySem.W.Frag) (C : Addr) : Prop where
  ga : PySem.W.findIn K (.ref C) "__getattribute__" = some (some (.builtin "BaseException.__getattribute__"))
  gg : PySem.W.findIn K (.ref C) "__getattr__" = some none
  hd : PySem.W.hasDictIn K C = true
  cl : PySem.W.findIn K (.ref C) "__class__" = some (some (.builtin "object.__class__"))
  gs : PySem.W.specialIn K (.builtin "object.__class__") "__get__" = some (some (.builtin "getset_descriptor.__get__"))
  tk : PySem.W.takesIn K (.builtin "object.__class__") = some true
  mo : PySem.W.mroIn K C (.type "object") = some true
  st : PySem.W.findIn K (.ref C) "__str__" = some (some (.builtin "BaseException.__str__"))
section
variable {X : Cx} {C fI a d t : Addr} {oe : Obj} {cls : Value} {pn : List (Addr × Obj)}
/-- the error's own dict, read in the suite -/
theorem inst {pins : List (Addr × Obj)} {σ : St} {H : Hp} {s : Shared} {f : Str} {l : List (Str × V)} {v : V} (I : L2.Inv (X.suite a ((a, oe) :: pn)) pins σ H s) (hz : Ze (.ref C) d t oe) (hf : ∃ vs, oe.data = .fields vs) (hd : H d = some (.xd l)) (hl : l.lookup f = some v) :
    ∃ od u, PySem.W.InstAt s.heap a oe C (some od) ∧ PySem.W.lookIn f od = some (some u) ∧ RelV v u := by
  obtain ⟨ha, _⟩ := I.pin (a, oe) (List.mem_append_left _ List.mem_cons_self)
  obtain ⟨vs, hv⟩ := hf
  have hx : ObjOk X.prog X.w H s.heap d (.xd l) := I.hok d _ hd
  obtain ⟨mA, hns, hr⟩ := hx
  obtain ⟨od, ho, hlk⟩ := lookIn_ns hns
  have r := hr f
  rw [hl] at r
  cases em : mA f with
  | none =>
    rw [em] at r
    exact r.elim
  | some u =>
    rw [em] at r
    refine ⟨od, u, ⟨ha, hz.1, by unfold PySem.W.notCls; rw [hv] <;> rfl, by rw [hz.2.1]; exact ho⟩, ?_, r⟩
    rw [hlk, em]
/-- n.f, n the error that the suite holds -/
def tByF (C a : Addr) (cls : Value) (d : Addr) (f : Str) (te : TE) : TE := fun σ H Q => te σ H fun x H1 => x = .ref a ∧ cls = .ref C ∧ ∃ l v, H1 d = some (.xd l) ∧ l.lookup f = some v ∧ Q v H1
theorem pe_byF {e : Expr} {te : TE} {pos : Pos} {f : Str} (T : Txt X.prog X.K X.mg C fI) (G : Ask X.K C) (hno : PySem.W.findIn X.K (.ref C) f = some none) (hz : Ze cls d t oe) (hf : ∃ vs, oe.data = .fields vs) (he : PE (X.suite a ((a, oe) :: pn)) e te)
    (hb : attributeBase e f X.env (eval e X.env) = eval e X.env := by rfl) : PE (X.suite a ((a, oe) :: pn)) (.Attribute e f pos) (tByF C a cls d f te) := by
  constructor
  intro pins s σ H Q I h
  refine attr_of hb (thn (he.run pins s σ H _ I h) ?_)
  rintro u s1 ⟨x, H1, I1, rx, rfl, rfl, l, v, hd, hl, q⟩
  obtain rfl : u = Value.ref a := rx
  obtain ⟨od, w, J, hlk, rw'⟩ := inst (C := C) I1 hz hf hd hl
  exact exc_get I1.kIn J G.ga G.gg T.exC (PySem.W.findObj_own G.hd hno rfl hlk) (handed_of rw') ⟨v, H1, I1.tok _, rw', q⟩
/-- str(n) -/
def rStr (C a : Addr) (cls : Value) (t : Addr) : List V → Hp → VK → Prop := fun xs H Q => xs = [.ref a] ∧ cls = .ref C ∧ ∃ y, H t = some (.tup [.str y]) ∧ Q (.str y) H
theorem call_str (T : Txt X.prog X.K X.mg C fI) (G : Ask X.K C) (hr : X.A.units + 2 < cLine) (hz : Ze cls d t oe) (hf : ∃ vs, oe.data = .fields vs) : CallR (X.suite a ((a, oe) :: pn)) (.type "str") (rStr C a cls t) := by
  intro pins s σ H xs us Q I r h
  obtain ⟨rfl, rfl, y, hy, q⟩ := h
  obtain ⟨u, rfl, ru⟩ := vals1 r
  obtain rfl : u = Value.ref a := ru
  obtain ⟨ha, _⟩ := I.pin (a, oe) (List.mem_append_left _ List.mem_cons_self)
  obtain ⟨vs, hv⟩ := hf
  have ht : ObjOk X.prog X.w H s.heap t (.tup [.str y]) := I.hok t _ hy
  obtain ⟨_, its, ri, o, ho, hc, n, hdt⟩ := ht
  cases ri with
  | cons ry ri =>
    cases ri
    obtain ⟨tk, rfl⟩ := ry
    refine PySem.P.str_of_C_one (prog := X.prog) (w := X.w) (A := X.A.mark (some (.ref a))) (K := X.K) (C := C) (e := a) (t0 := t) (s := s) (m := y) (tk := tk) (show (X.A.mark (some (.ref a))).units + 2 < cLine from hr) (show PySem.ExcC X.K C a t s.heap from ⟨I.kIn, oe, vs, ha, hz.1, hv, hz.2.2 vs hv⟩) (show s.heap.TupAt t [.str y tk] from ⟨o, n, ho, hc, hdt⟩) G.st T.exC ?_
    exact ⟨.str y, H, I, ⟨_, rfl⟩, q⟩
/-- isinstance(n, c), c an own class -/
def rIsi (K : PySem.W.Frag) (C a : Addr) (cls : Value) : List V → Hp → VK → Prop := fun xs H Q => ∃ (D : Addr) (b : Bool), xs = [.ref a, .ref D] ∧ cls = .ref C ∧ PySem.W.kitOne K (.ref C) (.ref D) = some b ∧ Q (.bl b) H
theorem call_isi (T : Txt X.prog X.K X.mg C fI) (G : Ask X.K C) (hz : Ze cls d t oe) (hf : ∃ vs, oe.data = .fields vs) :
    CallR (X.suite a ((a, oe) :: pn)) (.builtin "isinstance") (fun xs H Q => (∃ l, H d = some (.xd l)) ∧ rIsi X.K C a cls xs H Q) := by
  intro pins s σ H xs us Q I r h
  obtain ⟨⟨l, hd⟩, D, b, rfl, rfl, e, q⟩ := h
  cases r with
  | cons rx r =>
    cases r with
    | cons ry r =>
      cases r
      cases rx
      cases ry
      obtain ⟨ha, _⟩ := I.pin (a, oe) (List.mem_append_left _ List.mem_cons_self)
      obtain ⟨vs, hv⟩ := hf
      have hx : ObjOk X.prog X.w H s.heap d (.xd l) := I.hok d _ hd
      obtain ⟨mA, ⟨od, es, ep, ho, _⟩, _⟩ := hx
      have J : PySem.W.InstAt s.heap a oe C (some od) := ⟨ha, hz.1, by unfold PySem.W.notCls; rw [hv] <;> rfl, by rw [hz.2.1]; exact ho⟩
      have hcl : (PySem.W.clsIn X.K C).isSome = true := by
        obtain ⟨cd, hc, _⟩ := PySem.W.any_some G.hd
        rw [hc]
        rfl
      exact PySem.W.kia_one (PySem.W.kitx_exc hcl G.ga G.gg T.exC G.cl G.gs G.tk G.mo) I.kIn J e (fun z => nomatch z) fun tk => ⟨.bl b, H, I.kept (t' := tk) fun _ _ z => z, rfl, q⟩
end
end TE
/-! Texts of beginnings: their tokens, their reading, and the law's own look at the same tokens. Plain Lean. -/
namespace SS
abbrev Tx := List Nat
/-- a letter from a to z -/
def isLow (c : Nat) : Bool := decide (97 ≤ c ∧ c ≤ 122)
/-- the tokens of a text from place i on, or the place of the first character that belongs to none -/
inductive Lex (sg : List Nat) : Tx → Nat → List (Tx × Nat) → Option Nat → Prop
  | done {i : Nat} : Lex sg [] i [([], i)] none
  | word {w s : Tx} {i : Nat} {l : List (Tx × Nat)} {e : Option Nat} (h0 : w ≠ []) (h1 : ∀ c ∈ w, isLow c = true) (h2 : ∀ c, s.head? = some c → isLow c = false) (r : Lex sg s (i + w.length) l e) : Lex sg (w ++ s) i ((w, i) :: l) e
  | sign {c : Nat} {s : Tx} {i : Nat} {l : List (Tx × Nat)} {e : Option Nat} (h1 : isLow c = false) (h2 : c ∈ sg) (r : Lex sg s (i + 1) l e) : Lex sg (c :: s) i (([c], i) :: l) e
  | space {c : Nat} {s : Tx} {i : Nat} {l : List (Tx × Nat)} {e : Option Nat} (h1 : isLow c = false) (h2 : c ∉ sg) (h3 : c = 32 ∨ c = 10) (r : Lex sg s (i + 1) l e) : Lex sg (c :: s) i l e
  | bad {c : Nat} {s : Tx} {i : Nat} (h1 : isLow c = false) (h2 : c ∉ sg) (h3 : ¬ (c = 32 ∨ c = 10)) : Lex sg (c :: s) i [] (some i)
/-- a word that may stand as a name -/
def okName (t : Tx) : Bool := !t.isEmpty && t.all isLow && decide (t.length ≤ 8)
/-- reading a beginning: the events, or the place of the error and whether it is that of the end -/
def rd : List (Tx × Nat) → Nat → Bool → List Tx × Option (Nat × Bool)
  | [], _, _ => ([], none)
  | (t, p) :: r, d, b =>
    if t = [] then ([], none)
    else if b = true ∧ d = 0 then ([], some (p, false))
    else if t = [41] ∧ 0 < d then ([41] :: (rd r (d - 1) true).1, (rd r (d - 1) true).2)
    else if okName t = true then
      match r with
      | [] => ([], none)
      | (t2, p2) :: r2 => if t2 = [40] then (t :: (rd r2 (d + 1) true).1, (rd r2 (d + 1) true).2) else ([], some (p2, decide (t2 = [])))
    else ([], some (p, false))
theorem rd_eq (t : Tx) (p : Nat) (r : List (Tx × Nat)) (d : Nat) (b : Bool) : rd ((t, p) :: r) d b =
    if t = [] then ([], none)
    else if b = true ∧ d = 0 then ([], some (p, false))
    else if t = [41] ∧ 0 < d then ([41] :: (rd r (d - 1) true).1, (rd r (d - 1) true).2)
    else if okName t = true then
      match r with
      | [] => ([], none)
      | (t2, p2) :: r2 => if t2 = [40] then (t :: (rd r2 (d + 1) true).1, (rd r2 (d + 1) true).2) else ([], some (p2, decide (t2 = [])))
    else ([], some (p, false)) := by
  cases r with
  | nil => first | rfl | (conv => lhs; unfold rd)
  | cons q r2 =>
    obtain ⟨t2, p2⟩ := q
    rw [rd]
/-- the law's own look: the index of the first token that is wrong -/
def fw : List Tx → Nat → Bool → Bool → Option Nat
  | [], _, _, _ => none
  | t :: r, v, op, nm =>
    if nm = true then (if t ≠ [40] then some 0 else (fw r (v + 1) true false).map (· + 1))
    else if t = [41] then (if v = 0 then some 0 else (fw r (v - 1) op false).map (· + 1))
    else if t = [40] ∨ (op = true ∧ v = 0) ∨ 8 < t.length then some 0
    else (fw r v op true).map (· + 1)
/-- the tokens that the law draws, the wrong signs left out -/
def Fine (t : Tx) : Prop := t = [40] ∨ t = [41] ∨ (t ≠ [] ∧ t.all isLow = true)
theorem fine_ne {t : Tx} (h : Fine t) : t ≠ [] := by
  rcases h with h | h | h
  · rw [h]; exact List.cons_ne_nil _ _
  · rw [h]; exact List.cons_ne_nil _ _
  · exact h.1
def lastName (ts : List Tx) : Bool :=
  match ts.getLast? with
  | some t => decide (t ≠ [40]) && decide (t ≠ [41])
  | none => false
def toks (ts : List Tx) (ps : List Nat) (n : Nat) : List (Tx × Nat) := ts.zip ps ++ [([], n)]
theorem low_not {t : Tx} (h : t ≠ [] ∧ t.all isLow = true) : t ≠ [40] ∧ t ≠ [41] := by
  constructor
  · intro e
    rw [e] at h
    exact absurd h.2 (by decide)
  · intro e
    rw [e] at h
    exact absurd h.2 (by decide)
theorem last_cons {t t2 : Tx} {r : List Tx} : lastName (t :: t2 :: r) = lastName (t2 :: r) := by
  unfold lastName
  rw [List.getLast?_cons_cons]
theorem last_paren {t : Tx} {r : List Tx} (h : t = [40] ∨ t = [41]) : lastName (t :: r) = lastName r := by
  cases r with
  | nil => rcases h with h | h <;> subst h <;> rfl
  | cons t2 r => exact last_cons
theorem ok_of {t : Tx} (h : t ≠ [] ∧ t.all isLow = true) (h8 : ¬ 8 < t.length) : okName t = true := by
  have e : t.isEmpty = false := by
    cases t with
    | nil => exact absurd rfl h.1
    | cons a b => rfl
  simp [okName, e, h.2]
  omega
theorem ok_not {t : Tx} (h8 : 8 < t.length) : okName t = false := by
  have z : decide (t.length ≤ 8) = false := decide_eq_false (by omega)
  simp [okName, z]
/-- what reading gives, by the law's own look -/
def Agree (ts : List Tx) (ps : List Nat) (n v : Nat) (op : Bool) : Prop :=
  match fw ts v op false with
  | some k => (rd (toks ts ps n) v op).2 = some (ps.getD k 0, false)
  | none => if lastName ts = true then (rd (toks ts ps n) v op).2 = some (n, true) else rd (toks ts ps n) v op = (ts.filter (fun t => decide (t ≠ [40])), none)
theorem agree_map {o : Option Nat} {A : Nat → Prop} {B : Prop} (h : match o with | some k => A (k + 1) | none => B) : match o.map (· + 1) with | some k => A k | none => B := by
  cases o with
  | none => exact h
  | some k => exact h
theorem agree (n : Nat) : ∀ (m : Nat) (ts : List Tx) (ps : List Nat) (v : Nat) (op : Bool), ts.length ≤ m → ts.length = ps.length → (∀ t ∈ ts, Fine t) → (0 < v → op = true) → Agree ts ps n v op := by
  intro m
  induction m with
  | zero =>
    intro ts ps v op hm hl hf hv
    have e : ts = [] := List.length_eq_zero_iff.mp (by omega)
    subst e
    rfl
  | succ m ih =>
    intro ts ps v op hm hl hf hv
    cases ts with
    | nil => rfl
    | cons t r =>
      cases ps with
      | nil => simp at hl
      | cons p ps =>
        have hr : r.length ≤ m := by simp at hm; omega
        have hl' : r.length = ps.length := by simpa using hl
        have hfr : ∀ x ∈ r, Fine x := fun x hx => hf x (List.mem_cons_of_mem _ hx)
        have ht := hf t List.mem_cons_self
        have htn := fine_ne ht
        have et : toks (t :: r) (p :: ps) n = (t, p) :: toks r ps n := rfl
        by_cases hb : op = true ∧ v = 0
        · -- behind the end
          have e1 : fw (t :: r) v op false = some 0 := by
            by_cases h41 : t = [41]
            · simp [fw, h41, hb.2]
            · simp [fw, h41, hb]
          unfold Agree
          rw [e1, et]
          simp only [rd_eq, if_neg htn, if_pos hb]
          rfl
        · by_cases h41 : t = [41]
          · by_cases hv0 : v = 0
            · have e1 : fw (t :: r) v op false = some 0 := by simp [fw, h41, hv0]
              have no : ¬ (t = [41] ∧ 0 < v) := fun z => by omega
              have nk : ¬ okName t = true := by rw [h41]; decide
              unfold Agree
              rw [e1, et]
              simp only [rd_eq, if_neg htn, if_neg hb, if_neg no, if_neg nk]
              rfl
            · have hop := hv (by omega)
              have yes : t = [41] ∧ 0 < v := ⟨h41, by omega⟩
              have e1 : fw (t :: r) v op false = (fw r (v - 1) true false).map (· + 1) := by
                simp [fw, h41, hv0, hop]
              have A := ih r ps (v - 1) true hr hl' hfr (fun _ => rfl)
              have e2 : rd (toks (t :: r) (p :: ps) n) v op = ([41] :: (rd (toks r ps n) (v - 1) true).1, (rd (toks r ps n) (v - 1) true).2) := by
                rw [et]
                simp only [rd_eq, if_neg htn, if_neg hb, if_pos yes]
              unfold Agree
              rw [e1, e2, last_paren (.inr h41)]
              refine agree_map (A := fun k => (rd (toks r ps n) (v - 1) true).2 = some ((p :: ps).getD k 0, false)) ?_
              unfold Agree at A
              cases q : fw r (v - 1) true false with
              | some k =>
                rw [q] at A
                exact A
              | none =>
                rw [q] at A
                dsimp only at A ⊢
                by_cases hn : lastName r = true
                · rw [if_pos hn] at A ⊢
                  exact A
                · rw [if_neg hn] at A ⊢
                  rw [A, List.filter_cons, h41]
                  rfl
          · by_cases h40 : t = [40]
            · have e1 : fw (t :: r) v op false = some 0 := by simp [fw, h40]
              have no : ¬ (t = [41] ∧ 0 < v) := fun z => h41 z.1
              have nk : ¬ okName t = true := by rw [h40]; decide
              unfold Agree
              rw [e1, et]
              simp only [rd_eq, if_neg htn, if_neg hb, if_neg no, if_neg nk]
              rfl
            · have hw : t ≠ [] ∧ t.all isLow = true := by
                rcases ht with z | z | z
                · exact absurd z h40
                · exact absurd z h41
                · exact z
              have no : ¬ (t = [41] ∧ 0 < v) := fun z => h41 z.1
              by_cases h8 : 8 < t.length
              · have e1 : fw (t :: r) v op false = some 0 := by simp [fw, h41, h8]
                have nk : ¬ okName t = true := by rw [ok_not h8]; decide
                unfold Agree
                rw [e1, et]
                simp only [rd_eq, if_neg htn, if_neg hb, if_neg no, if_neg nk]
                rfl
              · have hk := ok_of hw h8
                have e1 : fw (t :: r) v op false = (fw r v op true).map (· + 1) := by
                  simp only [fw, if_neg h41]
                  have z : ¬ (t = [40] ∨ (op = true ∧ v = 0) ∨ 8 < t.length) := fun z => by
                    rcases z with z | z | z
                    · exact h40 z
                    · exact hb z
                    · exact h8 z
                  simp only [if_neg z]
                  rfl
                cases r with
                | nil =>
                  cases ps with
                  | cons _ _ => simp at hl'
                  | nil =>
                    have hn : lastName [t] = true := by simp [lastName, h40, h41]
                    unfold Agree
                    rw [e1, et]
                    simp only [fw, Option.map_none, if_pos hn]
                    show (rd [(t, p), ([], n)] v op).2 = _
                    simp only [rd_eq, if_neg htn, if_neg hb, if_neg no, if_pos hk]
                    rfl
                | cons t2 r2 =>
                  cases ps with
                  | nil => simp at hl'
                  | cons p2 ps2 =>
                    have ht2 := fine_ne (hfr t2 List.mem_cons_self)
                    have et2 : toks (t2 :: r2) (p2 :: ps2) n = (t2, p2) :: toks r2 ps2 n := rfl
                    by_cases h2 : t2 = [40]
                    · have e3 : fw (t2 :: r2) v op true = (fw r2 (v + 1) true false).map (· + 1) := by
                        simp [fw, h2]
                      have A := ih r2 ps2 (v + 1) true (by simp at hr; omega) (by simpa using hl') (fun x hx => hfr x (List.mem_cons_of_mem _ hx)) (fun _ => rfl)
                      have e4 : rd (toks (t :: t2 :: r2) (p :: p2 :: ps2) n) v op = (t :: (rd (toks r2 ps2 n) (v + 1) true).1, (rd (toks r2 ps2 n) (v + 1) true).2) := by
                        rw [et, et2]
                        simp only [rd_eq, if_neg htn, if_neg hb, if_neg no, if_pos hk, if_pos h2]
                      unfold Agree
                      rw [e1, e3, e4, last_cons, last_paren (.inl h2)]
                      refine agree_map (A := fun k => (rd (toks r2 ps2 n) (v + 1) true).2 = some ((p :: p2 :: ps2).getD k 0, false)) ?_
                      refine agree_map (A := fun k => (rd (toks r2 ps2 n) (v + 1) true).2 = some ((p :: p2 :: ps2).getD (k + 1) 0, false)) ?_
                      unfold Agree at A
                      cases q : fw r2 (v + 1) true false with
                      | some k =>
                        rw [q] at A
                        exact A
                      | none =>
                        rw [q] at A
                        dsimp only at A ⊢
                        by_cases hn : lastName r2 = true
                        · rw [if_pos hn] at A ⊢
                          exact A
                        · rw [if_neg hn] at A ⊢
                          rw [A, List.filter_cons, List.filter_cons, h2, if_pos (decide_eq_true h40)]
                          rfl
                    · have e3 : fw (t2 :: r2) v op true = some 0 := by simp [fw, h2]
                      unfold Agree
                      rw [e1, e3, et, et2]
                      simp only [rd_eq, if_neg htn, if_neg hb, if_neg no, if_pos hk, if_neg h2, decide_eq_false ht2]
                      rfl
/-! ### texts glued of tokens and blanks -/
def glue : List (Tx × Tx) → Tx
  | [] => []
  | x :: r => x.1 ++ (x.2 ++ glue r)
def spots : Nat → List (Tx × Tx) → List Nat
  | _, [] => []
  | n, x :: r => n :: spots (n + x.1.length + x.2.length) r
def Blank (s : Tx) : Prop := ∀ c ∈ s, c = 32 ∨ c = 10
theorem glue_snoc (t s : Tx) : ∀ z : List (Tx × Tx), glue (z ++ [(t, s)]) = glue z ++ (t ++ s)
  | [] => by simp [glue]
  | x :: r => by
    show x.1 ++ (x.2 ++ glue (r ++ [(t, s)])) = _
    rw [glue_snoc t s r]
    simp [glue]
theorem spots_snoc (t s : Tx) : ∀ (z : List (Tx × Tx)) (n : Nat), spots n (z ++ [(t, s)]) = spots n z ++ [n + (glue z).length]
  | [], n => by simp [spots, glue]
  | x :: r, n => by
    show n :: spots _ (r ++ [(t, s)]) = _
    rw [spots_snoc t s r]
    simp [spots, glue]
    omega
theorem spots_len : ∀ (z : List (Tx × Tx)) (n : Nat), (spots n z).length = z.length
  | [], _ => rfl
  | x :: r, n => by
    show (spots _ r).length + 1 = r.length + 1
    rw [spots_len r]
theorem lex_blank {sg : List Nat} (hs : 32 ∉ sg ∧ 10 ∉ sg) {x : Tx} {l : List (Tx × Nat)} {e : Option Nat} : ∀ {s : Tx} {i : Nat}, Blank s → Lex sg x (i + s.length) l e → Lex sg (s ++ x) i l e
  | [], i, _, h => h
  | c :: s, i, hb, h => by
    have hc := hb c List.mem_cons_self
    have h' : Lex sg x (i + 1 + s.length) l e := by
      have e1 : i + (c :: s).length = i + 1 + s.length := by simp; omega
      rw [e1] at h
      exact h
    have r := lex_blank hs (s := s) (i := i + 1) (fun c h => hb c (List.mem_cons_of_mem _ h)) h'
    rcases hc with rfl | rfl
    · exact .space (by decide) hs.1 (.inl rfl) r
    · exact .space (by decide) hs.2 (.inr rfl) r
/-- the wrong signs that the law draws -/
def bad (t : Tx) : Bool := t == [45] || t == [61] || t == [65] || t == [55]
def firstBad : List Tx → Option Nat
  | [] => none
  | t :: r => if bad t = true then some 0 else (firstBad r).map (· + 1)
theorem lex_glue : ∀ (z : List (Tx × Tx)) (i : Nat), (∀ x ∈ z, Blank x.2 ∧ x.2 ≠ [] ∧ (Fine x.1 ∨ bad x.1 = true)) →
    match firstBad (z.map (·.1)) with
    | some k => ∃ l, Lex [40, 41] (glue z) i l (some ((spots i z).getD k 0))
    | none => Lex [40, 41] (glue z) i (toks (z.map (·.1)) (spots i z) (i + (glue z).length)) none
  | [], i, _ => .done
  | x :: r, i, h => by
    obtain ⟨hb, hn, ht⟩ := h x List.mem_cons_self
    have ih := lex_glue r (i + x.1.length + x.2.length) fun y hy => h y (List.mem_cons_of_mem _ hy)
    have hs : (32 : Nat) ∉ [40, 41] ∧ (10 : Nat) ∉ [40, 41] := by decide
    by_cases hbad : bad x.1 = true
    · have e1 : firstBad ((x :: r).map (·.1)) = some 0 := by simp [firstBad, hbad]
      rw [e1]
      refine ⟨[], ?_⟩
      have e2 : ∃ c, x.1 = [c] ∧ (c = 45 ∨ c = 61 ∨ c = 65 ∨ c = 55) := by
        simp only [bad, Bool.or_eq_true, beq_iff_eq] at hbad
        rcases hbad with ((h | h) | h) | h
        · exact ⟨45, h, .inl rfl⟩
        · exact ⟨61, h, .inr (.inl rfl)⟩
        · exact ⟨65, h, .inr (.inr (.inl rfl))⟩
        · exact ⟨55, h, .inr (.inr (.inr rfl))⟩
      obtain ⟨c, e3, hc⟩ := e2
      show Lex [40, 41] (x.1 ++ (x.2 ++ glue r)) i [] (some i)
      rw [e3]
      rcases hc with rfl | rfl | rfl | rfl
      · exact .bad (by decide) (by decide) (by decide)
      · exact .bad (by decide) (by decide) (by decide)
      · exact .bad (by decide) (by decide) (by decide)
      · exact .bad (by decide) (by decide) (by decide)
    · have hf : Fine x.1 := ht.resolve_right hbad
      have e1 : firstBad ((x :: r).map (·.1)) = (firstBad (r.map (·.1))).map (· + 1) := by simp [firstBad, hbad]
      -- the token in front of what is read
      have step : ∀ {l : List (Tx × Nat)} {e : Option Nat}, Lex [40, 41] (glue r) (i + x.1.length + x.2.length) l e → Lex [40, 41] (x.1 ++ (x.2 ++ glue r)) i ((x.1, i) :: l) e := by
        intro l e h0
        have h1 := lex_blank hs hb h0
        rcases hf with hf | hf | hf
        · rw [hf] at h1 ⊢
          exact .sign (by decide) (by decide) h1
        · rw [hf] at h1 ⊢
          exact .sign (by decide) (by decide) h1
        · refine .word hf.1 (fun c hc => List.all_eq_true.mp hf.2 c hc) (fun c hc => ?_) h1
          cases e2 : x.2 with
          | nil => exact absurd e2 hn
          | cons a b =>
            rw [e2] at hc
            cases hc
            have := hb c (by rw [e2]; exact List.mem_cons_self)
            rcases this with rfl | rfl <;> decide
      rw [e1]
      cases q : firstBad (r.map (·.1)) with
      | some k =>
        rw [q] at ih
        obtain ⟨l, hl⟩ := ih
        exact ⟨_, step hl⟩
      | none =>
        rw [q] at ih
        have e4 : i + (glue (x :: r)).length = i + x.1.length + x.2.length + (glue r).length := by
          show i + (x.1 ++ (x.2 ++ glue r)).length = _
          simp
          omega
        rw [e4]
        exact step ih
end SS
/-! Rules of one's own beside the layer's: a field as a target, defs that let TextErrors out, texts as lists of codes. -/
namespace SX
open PySem PySem.Spec PyProof.Rows L2
abbrev St := L2.St
/-- o.f as a target -/
def gFld (K : PySem.W.Frag) (to : TE) (f : Str) : TG := fun v σ H Q => to σ H fun x H1 => ∃ a C dx fs, x = .ref a ∧ H1 a = some (.ins C dx fs) ∧ Cls K C ∧ NoAttr K C f ∧ fs.length < 1000 ∧ Q σ (upd H1 a (.ins C dx (putF f v fs)))
theorem pg_fld {X : Cx} {o : Expr} {f : Str} {pos : Pos} {to : TE} (ho : PE X o to) : PG X (.Attribute o f pos) (gFld X.K to f) := by
  constructor
  intro pins s σ H v u Q I r h
  rw [assign_Attribute]
  refine wpAny_bind (wpAny_holding (wpAny_mono (ho.run pins s σ H _ I h) ?_ fun _ _ z => z))
  rintro ov s1 ⟨x, H1, I1, rx, a, C, dx, fs, rfl, ea, c, n, l, q⟩
  obtain rfl : ov = Value.ref a := rx
  refine wpAny_bind (wpAny_standAt (wpAny_bind (wpAny_holding (setattr_ok I1 ea c n l r fun s2 I2 => ?_))))
  exact wpAny_release ⟨σ, _, I2, q⟩
section
variable {P : Program} {w : World} {K : PySem.W.Frag} {mg : Str → Option Value} {base : Heap}
/-- a def that lets TextErrors out -/
theorem okT {x qual : Str} {st : Stmt} {f : Addr} {fd : FuncData} {N ps : List Str} {k : Nat} {sp : Sp} (F : Fun K x qual st f fd) (S : FnScope N ps (defScope st)) (len : ∀ vs H Q E, sp vs H Q E → vs.length = ps.length)
    (hbody : ∀ (cdv : Value) (A : Around) (outer : List Env) (s : Shared) (H : Hp) (vs : List V) (Q : VK) (E : XK), Room k (A.deeper (envOfC qual (defScope st) s.heap.objs.size f cdv)) → sp vs H Q E →
      ∃ t, PSs (cxOf (TE.CX P w) P w K mg base N qual (defScope st) f cdv A outer s H E) (defBody st) t ∧ t { nx := fun _ H' => Q .non H', rt := Q } (start N vs) H) : FnOk P w K mg base (TE.CX P w) (k + 1) f fd ps sp := by
  obtain ⟨oc, od, kV, doc, pm, an, cdv, ct, osl, rfl, lk, hcd⟩ := F.ex
  exact fn_of lk hcd S len fun A outer s H vs Q E hr hsp => hbody cdv A outer s H vs Q E hr hsp
end
theorem iT {c : Bool} {A B : Prop} (hc : c = true) (h : A) : if c = true then A else B := by
  rw [if_pos hc]
  exact h
theorem iF {c : Bool} {A B : Prop} (hc : c = false) (h : B) : if c = true then A else B := by
  rw [if_neg (by rw [hc]; exact Bool.false_ne_true)]
  exact h
theorem same_upd {H : Hp} {p : Addr} {o : HO} (h : H p = none) : Same H (upd H p o) := fun b u e => by
  rw [upd_ne (ne_of_none e h)]
  exact e
theorem log_small {n : Nat} (h : n ≤ 1100000) : ((n : Int)).natAbs.log2 < 1920 := by
  have e : ((n : Int)).natAbs = n := rfl
  rw [e]
  by_cases h0 : n = 0
  · subst h0
    decide
  · exact (Nat.log2_lt h0).mpr (Nat.lt_of_le_of_lt h (Nat.lt_of_lt_of_le (show 1100000 < 2 ^ 21 by decide) (Nat.pow_le_pow_right (by decide) (by decide))))
/-! ### texts and their codes -/
abbrev cd (z : Str) : List Nat := z.cps.toList
theorem len_cd (z : Str) : z.length = (cd z).length := by
  show z.cps.size = z.cps.toList.length
  simp
theorem cd_inj {a b : Str} (h : cd a = cd b) : a = b := by
  obtain ⟨a⟩ := a
  obtain ⟨b⟩ := b
  have : a = b := by simpa using h
  rw [this]
theorem cd_append (a b : Str) : cd (a ++ b) = cd a ++ cd b := by
  obtain ⟨a⟩ := a
  obtain ⟨b⟩ := b
  show (a ++ b).toList = _
  simp
theorem cd_mk (l : List Nat) : cd ⟨l.toArray⟩ = l := by simp [cd]
theorem len_mk (l : List Nat) : (⟨l.toArray⟩ : Str).length = l.length := by rw [len_cd, cd_mk]
theorem wEnd_le (l : List Nat) (i : Nat) (h : i ≤ l.length) : i + ((l.drop i).takeWhile SS.isLow).length ≤ l.length := by
  have e : ((l.drop i).takeWhile SS.isLow).length ≤ (l.drop i).length := (List.takeWhile_sublist _).length_le
  rw [List.length_drop] at e
  omega
theorem letters_in : ∀ c, (c ∈ cd ("abcdefghijklmnopqrstuvwxyz" : Str)) ↔ SS.isLow c = true := by
  intro c
  have e : cd ("abcdefghijklmnopqrstuvwxyz" : Str) = (List.range 26).map (· + 97) := by decide +kernel
  rw [e]
  simp only [List.mem_map, List.mem_range, SS.isLow, decide_eq_true_eq]
  constructor
  · rintro ⟨a, h, rfl⟩
    omega
  · intro h
    exact ⟨c - 97, by omega, by omega⟩
end SX
namespace SX
open PySem PySem.Spec PyProof.Rows L2 HT
open PySem.AutoSeq1 (wpAny_loadPart')
section
variable {prog : Program} {w : World} {A : Around} {E : Value → Shared → Prop} {s : Shared}
theorem sliceApplied_rev {sl : Addr} {vs : Value} {n : Nat} {Q : Int × Int × Nat → Shared → Prop} (hs : s.heap.IsSliceOf sl .none .none vs) (ps : IsPart vs (some (-1)))
    (h : Q ((n : Int) - 1, -1, n) s) : wpAny (model prog w) A (Builtin.Slice.sliceApplied (.ref sl) (pure (n : Int))) Q E s := by
  obtain ⟨os, hos, hcs, hds⟩ := id hs
  unfold Builtin.Slice.sliceApplied Builtin.Slice.sliceFields
  refine wpAny_bind (wpAny_bind (wpAny_field hos hds (x := .none) rfl (wpAny_bind (wpAny_field hos hds (x := .none) rfl (wpAny_bind (wpAny_field hos hds (x := vs) rfl (wpAny_pure ?_)))))))
  refine wpAny_bind (slicePart_ ps ?_)
  show wpAny _ _ (if ((-1 : Int) == 0) = true then _ else _) _ _ s
  rw [if_neg (by decide)]
  refine wpAny_bind (slicePart_ .none (wpAny_bind (slicePart_ .none (wpAny_bind (wpAny_pure ?_)))))
  show wpAny _ _ (match Builtin.Slice.sliceAdjust none none (-1) (n : Int) with | (lo, hi) => pure (lo, (-1 : Int), Builtin.Slice.slicePlaces lo hi (-1))) _ _ s
  have e1 : Builtin.Slice.sliceAdjust none none (-1) (n : Int) = ((n : Int) - 1, -1) := by
    unfold Builtin.Slice.sliceAdjust
    simp
  rw [e1]
  have e2 : Builtin.Slice.slicePlaces ((n : Int) - 1) (-1) (-1) = n := by
    unfold Builtin.Slice.slicePlaces
    have h1 : ¬ ((-1 : Int) > 0) := by omega
    simp only [h1, if_false, show (- -1 : Int) = 1 by decide, Int.ediv_one]
    split <;> omega
  show wpAny _ _ (pure ((n : Int) - 1, (-1 : Int), Builtin.Slice.slicePlaces ((n : Int) - 1) (-1) (-1))) _ _ s
  rw [e2]
  exact wpAny_pure h
theorem pick_rev (xs : Array Value) : ((List.range xs.size).filterMap fun (m : Nat) => xs[(((xs.size : Int) - 1) + (m : Int) * (-1)).toNat]?).toArray = xs.toList.reverse.toArray := by
  congr 1
  have h : ∀ k : Nat, k ≤ xs.size → ((List.range k).filterMap fun (m : Nat) => xs[(((xs.size : Int) - 1) + (m : Int) * (-1)).toNat]?) = xs.toList.reverse.take k := by
    intro k
    induction k with
    | zero => intro _; simp
    | succ k ih =>
      intro hk
      rw [List.range_succ, List.filterMap_append, ih (by omega), List.take_add_one]
      congr 1
      have e : (((xs.size : Int) - 1) + (k : Int) * (-1)).toNat = xs.size - 1 - k := by omega
      have hl : xs.size - 1 - k < xs.size := by omega
      have hr : xs.toList.reverse[k]? = some xs[xs.size - 1 - k] := by
        rw [List.getElem?_reverse (by rw [Array.length_toList]; omega)]
        simp only [Array.length_toList, Array.getElem?_toList]
        exact Array.getElem?_eq_getElem hl
      rw [hr]
      simp only [List.filterMap_cons, List.filterMap_nil, e, Array.getElem?_eq_getElem hl, Option.toList]
  rw [h _ (Nat.le_refl _)]
  exact List.take_of_length_le (by simp)
theorem getItem_tuple_rev {t sl : Addr} {items : Array Value} {vs : Value} {Q : Value → Shared → Prop} (ht : IsTup s.heap t items) (hs : s.heap.IsSliceOf sl .none .none vs) (ps : IsPart vs (some (-1)))
    (h : Q (.ref s.heap.objs.size) { s with heap := s.heap.push { cls := .type "tuple", data := .seq items.toList.reverse.toArray } })
    (hsz : items.size ≤ sizeLine) : wpAny (model prog w) A (getItem (.ref t) (.ref sl)) Q E s := by
  have htake : sizeOk (.seq items.toList.reverse.toArray) := by
    show items.toList.reverse.toArray.size ≤ sizeLine
    rw [List.size_toArray, List.length_reverse, Array.length_toList]
    exact hsz
  obtain ⟨os, hos, hcs, hds⟩ := id hs
  have hTs : s.TypeIs (.ref sl) "slice" := ⟨os, hos, hcs⟩
  unfold getItem
  try with_reducible refine wpAny_holding ?_
  first | refine wpAny_bind (wpAny_pure ?_) | skip
  refine wpAny_bind (wpAny_sequenceKey ht.typeIs (by decide) ?_)
  refine wpAny_bind (wpAny_callSpecial?_slot (name := Str.ofString "__getitem__") ht.typeIs PyProof.Rows.slot_tuple_getitem
    (wpAny_call_entry PyProof.Rows.slot_tuple_getitem ht.typeIs entry_tuple_getitem ?_ (args_tuple_getitem _ _)))
  show wpAny _ _ (Builtin.Tuple.tupleItemsOf (.ref t) >>= _) _ _ s
  refine wpAny_bind (tupleItemsOf_ ht ?_)
  refine wpAny_bind (wpAny_typeOf hTs ?_)
  rw [if_pos (by decide)]
  refine wpAny_bind (sliceApplied_rev hs ps ?_)
  have hno : ¬ ((((items.size : Int) - 1) == 0 && (-1 : Int) == 1 && items.size == items.size) = true) := by
    intro q
    rw [Bool.and_eq_true, Bool.and_eq_true] at q
    exact absurd q.1.2 (by decide)
  show wpAny _ _ (if (((items.size : Int) - 1) == 0 && (-1 : Int) == 1 && items.size == items.size) = true then _ else _) _ _ s
  rw [if_neg hno, pick_rev]
  first
    | exact wpAny_bind (m := Builtin.Tuple.tupleExact _) (wpAny_newObj_type (wpAny_pure ⟨_, rfl, wpAny_pure h⟩) htake)
    | exact wpAny_bind (m := Builtin.Tuple.tupleExact _) (wpAny_newObj_type (wpAny_bind (wpAny_pure (wpAny_pure ⟨_, rfl, wpAny_pure h⟩))) htake)
    | exact wpAny_bind (wpAny_bind (m := Builtin.Tuple.tupleExact _) (wpAny_newObj_type (wpAny_pure (wpAny_pure ⟨_, rfl, wpAny_pure h⟩)) htake))
    | exact wpAny_bind (wpAny_bind (m := Builtin.Tuple.tupleExact _) (wpAny_newObj_type (wpAny_pure ⟨_, rfl, wpAny_pure h⟩) htake))
theorem list_extend_tuple (l : Addr) (items : Array Value) (n : Nat) (b : Addr) (items2 : Array Value) (n2 : Nat) (dd : Option Addr) (sl : Array (Option Value)) (hs0 : ¬(!items.isEmpty && Builtin.List.listTooLong (items.size + items2.size)) = true) (hs1 : items.size ≤ sizeLine) (hs2 : items.size + items2.size ≤ sizeLine + 1) :
    Meets (Builtin.«list.extend» ⟨[.ref l, .ref b], []⟩) (fun _ R s => s.heap.get? l = some { cls := .type "list", dict := none, data := .seq items n, slots := #[] } ∧ s.heap.get? b = some { cls := .type "tuple", dict := dd, data := .seq items2 n2, slots := sl } ∧ R (.ok (.ret Value.none)) { s with heap := s.heap.update l (Obj.mapSeq fun x => x ++ items2), toks := s.toks }) :=
  .of_wp fun prog w A R s h => by
    obtain ⟨hp, g, d, tk, os⟩ := s; obtain ⟨hl, hb, h⟩ := h; have f1 := AutoSeq1.idx_int; have f2 := AutoSeq1.sub_tuple_tuple; have f3 := AutoSeq1.sub_list_list; have f4 := AutoSeq1.sub_tuple_list; have f5 := AutoSeq1.sub_list_tuple;
    have hz' : (items ++ items2).size ≤ sizeLine + 1 := by rw [Array.size_append]; exact hs2
    wp_walk using (wpAny_updateSeq hl rfl (hz := hs1) (_hz' := hz')), wpAny_loadPart' hl, wpAny_loadPart' hb; exact ⟨_, rfl, h⟩
end
section
variable {X : Cx}
/-- t[::-1], a tuple -/
def tRevT (K : PySem.W.Frag) (te : TE) : TE := fun σ H Q => te σ H fun x H1 => ∃ a xs, x = .ref a ∧ SqT K H1 a xs ∧ ∀ p, H1 p = none → Q (.ref p) (upd H1 p (.tup xs.reverse))
theorem pe_revT {e : Expr} {te : TE} {k : Nat} {p1 p2 p3 pos : Pos} (he : PE X e te) : PE X (.Subscript e (.Slice none none (some (.UnaryOp .USub (.Constant (.int 1) k p1) p2)) p3) pos) (tRevT X.K te) := by
  refine ⟨fun pins s σ H Q I h => ?_⟩
  refine Subscript_ (thn (he.run pins s σ H _ I h) fun v s1 ⟨x, H1, I1, r1, q1⟩ => ?_)
  obtain ⟨a, xs, ex, hx, q⟩ := q1
  subst ex
  cases r1
  have hst : PO X (some (.UnaryOp .USub (.Constant (.int 1) k p1) p2)) (tPart (tUn (rU fun i => .int (-i)) (tC (.int 1)))) := po_some (pe_un un_neg pe_int)
  refine wpAny_Slice (thn (po_none.run pins s1 σ H1 (fun o H2 => o = none ∧ H2 = H1) I1 ⟨rfl, rfl⟩) fun vl s2 ⟨l, H2, I2, pl, el, e2⟩ => ?_)
  subst el e2
  refine thn (po_none.run pins s2 σ H2 (fun o H3 => o = none ∧ H3 = H2) I2 ⟨rfl, rfl⟩) fun vu s3 ⟨u, H3, I3, pu, eu, e3⟩ => ?_
  subst eu e3
  refine thn (hst.run pins s3 σ H3 (fun o H4 => o = some (-1) ∧ H4 = H3) I3 ⟨1, rfl, -1, rfl, rfl, rfl⟩) fun vs s4 ⟨o, H4, I4, ps, eo, e4⟩ => ?_
  subst eo e4
  have I5 : Inv X pins σ H4 { s4 with heap := s4.heap.push { cls := .type "slice", data := .fields #[vl, vu, vs] } } := I4.kept (t' := s4.toks) fun b ob q => Heap.get?_push_of_some _ q
  obtain ⟨its, r, ht, hz⟩ := I5.tuple hx
  have hlen := r.length
  cases pl
  cases pu
  show wpAny (model X.prog X.w) X.A (subscriptTail e (.Slice none none (some (.UnaryOp .USub (.Constant (.int 1) k p1) p2)) p3) (.ref a) (.ref s4.heap.objs.size)) (EP X pins σ Q) X.xe { s4 with heap := s4.heap.push { cls := .type "slice", data := .fields #[.none, .none, vs] } }
  refine tail_any (ops := [.ref a, .ref s4.heap.objs.size]) ht.typeIs (PyProof.Rows.slot_tuple_getitem.lookup) ?_ (by with_unfolding_all rfl)
  refine getItem_tuple_rev ht (Heap.IsSliceOf.new _ .none .none vs) ps ?_ (by rw [List.size_toArray]; omega)
  refine ⟨.ref _, _, I5.laid (t' := s4.toks) (o := .tup xs.reverse) (fun b ob q => Heap.get?_push_of_some _ q) (Nat.le_refl _) ?_, rfl, q _ (I5.hok.fresh (Nat.le_refl _))⟩
  exact ⟨by rw [List.length_reverse]; exact hz, its.reverse, r.reverse, IsTup.new _ _⟩

/-- l.extend(t), a tuple -/
def rExtendT (K : PySem.W.Frag) : V → List V → Hp → VK → Prop := fun x vs H Q => ∃ l b xs zs, x = .ref l ∧ vs = [.ref b] ∧ H l = some (.lst xs) ∧ SqT K H b zs ∧ xs.length + zs.length ≤ sizeLine ∧ Q .non (upd H l (.lst (xs ++ zs)))
theorem mt_extendT : MtM X "list.extend" (rExtendT X.K) := by
  intro pins s σ H x vs v us Q I rx rv h
  obtain ⟨l, b, xs, zs, rfl, rfl, hH, hB, hz, q⟩ := h
  cases rx
  obtain ⟨u, rfl, ru⟩ := rv.one
  cases ru
  obtain ⟨z, its, n, r, hl, e⟩ := I.lstM hH
  obtain ⟨its2, r2, ht, hz2⟩ := I.tuple hB
  have hl2 := r2.length
  have hl1 := r.length
  obtain ⟨⟨cls2, dd2, data2, sl2⟩, ho2, hc2, n2, hd2⟩ := id ht
  simp only at hc2 hd2
  subst hc2 hd2
  have hsz : its.toArray.size + its2.toArray.size ≤ sizeLine := by rw [List.size_toArray, List.size_toArray]; omega
  have hlong : ¬ (!its.toArray.isEmpty && Builtin.List.listTooLong (its.toArray.size + its2.toArray.size)) = true := by
    rw [notLongL hsz, Bool.and_false]
    exact Bool.false_ne_true
  refine call_meets F.slot_list_extend ⟨_, e, rfl⟩ F.entry_list_extend (F.args_list_extend_2 _ _)
    (list_extend_tuple l its.toArray n b its2.toArray n2 dd2 sl2 hlong (by rw [List.size_toArray]; omega) (by omega)) ⟨e, ho2, ?_⟩
  refine ⟨.non, _, I.lset (its' := its ++ its2) hH e (by simp) (r.append r2) ?_, rfl, q⟩
  rw [List.length_append]
  omega
/-- a call that lets no error out here, of a def that may let TextErrors out -/
theorem passN : Passes (TE.CX X.prog X.w) X (fun _ _ _ => False) := fun _ _ _ _ _ _ _ ⟨_, _, _, _, _, _, _, _, h⟩ => h.elim
end
end SX
/-! A method whose first row is super().__init__(..), the __init__ above being one of the program's own. -/
namespace SU
open PySem PySem.W PySem.Calls PyProof.Rows L2 NdefX
/-- what the written part says of the class at D, of its __init__ at f, and of the __init__ above, at f2 -/
structure Txt (prog : Program) (K : Frag) (D f f2 cda cc : Addr) (qual : Str) (params : Arguments) (body : List Stmt) (scope : Scope) (fd : FuncData) : Prop where
  cls : ∃ cd, clsIn K D = some cd
  mro : mroIn K D (.ref D) = some true
  sup : ks_superIn K D D "__init__" = some (some (.ref f2))
  ty2 : typeIn K (.ref f2) = some (.type "function")
  fn2 : fnIn K f2 = true
  opq : nsIn K cStatics "thirdparty.any" = some none
  noS : nsIn K mainGlobals "super" = some none
  topS : (prog.main.scope.names.lookup ("super" : Str)).isSome = false
  fn : ∃ (oc : Value) (od : Option Addr) (kV doc pm : Value) (an : Option Addr) (ct : Value) (osl : Array (Option Value)) (ccl : Value) (cdd : Option Addr) (vs : Array Value) (ccs : Array (Option Value)) (file : Str) (tf : Tok) (cl : Value) (cld : Option Addr) (csl : Array (Option Value)),
    fd = ksFn "__init__" qual params body scope .none kV doc pm an (.ref cda) ct cc ∧
    K.lookup f = some ⟨oc, od, .func fd, osl⟩ ∧
    codeIn K (.ref cda) qual = true ∧ K.lookup cda = some ⟨ccl, cdd, .fields vs, ccs⟩ ∧ vs[2]? = some (.str file tf) ∧ ((prog.main.file : Str) == file) = true ∧
    K.lookup cc = some ⟨cl, cld, .cell (some (.ref D)), csl⟩
abbrev sb (p0 p1 p2 p3 p4 : Pos) (e : Expr) (es : List Expr) (rest : List Stmt) : List Stmt := .Expr (.Call (.Attribute (.Call (.Name "super" p0) [] [] p1) "__init__" p2) (e :: es) [] p3) p4 :: rest
abbrev nf (qual : Str) (params : Arguments) (body : List Stmt) (scope : Scope) (cda cc : Addr) : NF := ⟨"__init__", qual, params, body, scope, [("__class__", cc)], cda⟩
section
variable {CX CX2 : CXT} {P : Program} {w : World} {K : Frag} {mg : Str → Option Value} {base : Heap} {k k2 : Nat} {D f f2 cda cc : Addr} {qual : Str} {params : Arguments} {scope : Scope} {fd fd2 : FuncData} {N ps ps2 : List Str} {sp sp2 : Sp}
  {p0 p1 p2 p3 p4 : Pos} {e : Expr} {es : List Expr} {rest : List Stmt} {ar : Arg}
theorem init_of (T : Txt P K D f f2 cda cc qual params (sb p0 p1 p2 p3 p4 e es rest) scope fd)
    (S : NScope N ps ["__class__"] scope) (hks : scope.names.lookup ("super" : Str) = some .globalImplicit) (hp : (params.posonlyargs ++ params.args).head? = some ar) (hps : ps.head? = some ar.arg)
    (F2 : FnOk P w K mg base CX2 k2 f2 fd2 ps2 sp2) (hk : k2 ≤ k) (hb2 : Binds K fd2 ps2 [])
    (len : ∀ vs H Q E, sp vs H Q E → vs.length = ps.length)
    (hbody : ∀ (A : Around) (outer : List Env) (s : Shared) (H : Hp) (vs : List V) (Q : VK) (E : XK), Room k (A.deeper (envF (nf qual params (sb p0 p1 p2 p3 p4 e es rest) scope cda cc) f s.heap.objs.size)) → sp vs H Q E →
      ∃ (x : Addr) (dx : Addr) (fs : List (Str × V)) (ws : List V) (E2 : XK) (t : TA) (tr : TS), vs = .ref x :: ws ∧ H x = some (.ins D dx fs) ∧
        PA (ncx CX P w K mg base N (nf qual params (sb p0 p1 p2 p3 p4 e es rest) scope cda cc) f A outer s H E) (e :: es) t ∧
        PSs (ncx CX P w K mg base N (nf qual params (sb p0 p1 p2 p3 p4 e es rest) scope cda cc) f A outer s H E) rest tr ∧
        Passes CX2 (ncx CX P w K mg base N (nf qual params (sb p0 p1 p2 p3 p4 e es rest) scope cda cc) f A outer s H E) E2 ∧
        t (startF N vs [none]) H fun us H1 => sp2 (.ref x :: us) H1 (fun _ H2 => tr { nx := fun _ H' => Q .non H', rt := Q } (startF N vs [none]) H2) E2)
    {pl : Env → Sem Bool} (he : ∀ env, eval (.Call (.Attribute (.Call (.Name "super" p0) [] [] p1) "__init__" p2) (e :: es) [] p3) env = (do
      let ov ← attributeBase (.Call (.Name "super" p0) [] [] p1) "__init__" env (eval (.Call (.Name "super" p0) [] [] p1) env)
      standAt p2.atName
      let (f, first) ← holding [ov] (getMethod ov "__init__" (pl env))
      callWith p3 f first (backTo p3 (starEach (e :: es) env)) []))
    (hst : ∀ env, starEach (e :: es) env = (false, eval e env) :: starEach es env) (hpl : ∀ env, (backTo p3 (starEach es env)).any (·.1) = false) :
    FnOk P w K mg base CX (k + 1) f fd ps sp := by
  obtain ⟨oc, od, kV, doc, pm, an, ct, osl, ccl, cdd, vs, ccs, file, tf, cl, cld, csl, hfd, lk, hcd, hcode, hvs, hfile, hcell⟩ := T.fn
  subst hfd
  refine ⟨len, fun A outer s H args us vv Q E hr e0 hb r hsp => ?_⟩
  have hl := len _ _ _ _ hsp
  have kb : ∀ b o, base.get? b = some o → s.heap.get? b = some o := fun b o e => (e0.bs b o e).1
  have KX : K.In s.heap := e0.mod.kin.keeps kb
  have lim : s.heap.NoLimit := e0.mod.nolimit.keeps kb
  obtain ⟨x, dx, fs, ws, E2, t, tr, rfl, hx, hA, hR, hE2, hq⟩ := hbody A outer s H vv Q E (hr.deeper _) hsp
  refine ks_codeAny_call_defAt (binds := ps.zip us) hr.depth (KX _ _ lk) rfl lim (codeRec_of KX hcd) rfl hb S.nocell (fun y hy => S.par y.1 (List.of_mem_zip (show (y.1, y.2) ∈ ps.zip us from hy)).1) (fun h₁ hns hk₁ => ?_) S.co S.gen S.kind
  let F : NF := nf qual params (sb p0 p1 p2 p3 p4 e es rest) scope cda cc
  have hccb : base.get? cc = some ⟨cl, cld, .cell (some (.ref D)), csl⟩ := e0.mod.kin _ _ hcell
  have one : ∀ {y : Str} {c : Addr}, List.lookup y [(("__class__" : Str), cc)] = some c → y = "__class__" ∧ c = cc := fun {y c} h => by
    have := PySem.mem_of_lookup h
    rcases List.mem_cons.mp this with h' | h'
    · exact ⟨congrArg Prod.fst h', congrArg Prod.snd h'⟩
    · cases h'
  have C : CellsAt F.cl ["__class__"] [none] s.heap H := by
    refine ⟨rfl, fun y c h => ?_, fun y z c h1 h2 => (one h1).1.trans (one h2).1.symm, fun i y h => ?_⟩
    · obtain ⟨rfl, rfl⟩ := one h
      exact ⟨(e0.bs _ _ hccb).2, _, _, kb _ _ hccb, rfl⟩
    · match i, h with
      | 0, h =>
        cases h
        exact ⟨cc, rfl, fun v h => by cases h⟩
  have I : Inv (ncx CX P w K mg base N F f A outer s H E) [] (startF N (.ref x :: ws) [none]) H { s with heap := h₁, toks := s.toks + (ps.zip us).length } := inv_startN S hr.hd e0 hl r C hns hk₁
  have hint : ∀ (q : Str) (L a : Addr) (cd : Value) (cl : List (Str × Addr)), interactive (envX q scope L a cd cl) = false := fun _ _ _ _ _ => by
    show (scope.kind == .module && _) = false
    rw [S.kind]
    rfl
  refine ks_wpAt_execs_cons (ks_wpAt_Expr_any (ks_wpAt_MethodCall ?_ (he _)) (hint _ _ _ _ _))
  have KX1 : K.In h₁ := KX.keeps hk₁
  obtain ⟨cdD, hD⟩ := T.cls
  obtain ⟨oD, hD1, hD2⟩ : ∃ oD, h₁.get? D = some oD ∧ oD.data = .cls cdD := by
    unfold clsIn at hD
    split at hD
    · rename_i c d cd' sl ho
      cases hD
      exact ⟨_, KX1 _ _ ho, rfl⟩
    · cases hD
  obtain ⟨mb, hbl, hbb⟩ := e0.mod.blt
  have kb1 : ∀ b o, base.get? b = some o → h₁.get? b = some o := fun b o e => hk₁ b o (kb b o e)
  have hsuper : mg ("super" : Str) = none := mg_none_of e0.mod.kin e0.mod.glob T.noS
  have hboot : mb ("super" : Str) = some (.type "super") := (hbb _ (by decide)).trans (by decide +kernel)
  have hkc : scope.names.lookup ("__class__" : Str) = some .free := S.frk _ List.mem_cons_self
  refine ks_wpAt_super_base (vs := vs) (ar := ar) hks hkc (by decide) rfl (KX1 _ _ lk) rfl hp rfl (KX1 _ _ hcode) rfl hvs hfile T.topS ?_
  refine ks_loadName_global S.kind hks (loadGlobal_builtin (e0.mod.glob.keeps kb1) hsuper (hbl.keeps kb1) hboot ⟨rfl, ?_⟩)
  refine wpAny_loadName_free S.kind hkc rfl ⟨_, KX1 _ _ hcell, rfl⟩ ?_
  have hpar : ps[0]? = some ar.arg := by rw [← hps]; cases ps <;> rfl
  have hu0 : us[0]? = some (.ref x) := by
    cases r with
    | cons a b =>
      cases a
      rfl
  have hndp : ps.Nodup := by
    have q := S.nd.sublist (List.take_sublist (ps.length + 1) N)
    have e : N.take (ps.length + 1) = ps ++ [("__class__" : Str)] := S.pre
    rw [e] at q
    exact (List.nodup_append.mp q).1
  refine wpAny_loadName_local S.kind (S.par _ (List.mem_of_getElem? hpar)) hns (zip_look hndp hpar hu0) ?_
  refine ks_wpAny_isType_cls hD1 hD2 ⟨rfl, ?_⟩
  obtain ⟨hown, hfs, hdx, hxo, mA, hns1, hrel, hwi⟩ := (show ObjOk P w H h₁ x (.ins D dx fs) from I.hok x _ hx)
  refine ks_wpAny_call_super hD1 hD2 hxo rfl (fun c e => by cases e) (looks_mroIn KX1 T.mro) (fun h₂ e2 k2' => ?_)
  have KX2 : K.In h₂ := KX1.keeps k2'
  have hnxD : x ≠ D := fun z => by
    rw [z, hD1] at hxo
    rw [Option.some.inj hxo] at hD2
    cases hD2
  have hsup : alongIn K "__init__" ((cdD.mro.dropWhile (· != .ref D)).drop 1) = some (some (.ref f2)) := by
    have := T.sup
    unfold ks_superIn at this
    rw [hD] at this
    exact this
  obtain ⟨of, hof, hofc⟩ : ∃ of, h₂.get? f2 = some of ∧ of.cls = .type "function" := by
    have ht' : (K.lookup f2).map (·.cls) = some (.type "function") := T.ty2
    cases z : K.lookup f2 with
    | none => rw [z] at ht'; cases ht'
    | some of => rw [z] at ht'; exact ⟨of, KX2 _ _ z, Option.some.inj ht'⟩
  refine ks_wpAny_getMethod_super e2 (looks_opaque KX2 T.opq) (l₀ := cdD.mro) (fun A Q E s k q => wpAny_bind ((looks_clsIn KX2 hD) A _ E s k (wpAny_pure q))) rfl KX2 hsup hof hofc hnxD (by decide) ?_
  -- the arguments, the method object pinned
  have kq : ∀ b o, h₁.get? b = some o → (h₂.push { cls := .type "method", data := .fields #[.ref f2, .ref x] }).get? b = some o := fun b o e => Heap.get?_push_of_some _ (k2' _ _ e)
  have I2 := I.kept (h' := h₂.push { cls := .type "method", data := .fields #[.ref f2, .ref x] }) (t' := s.toks + (ps.zip us).length + 1) kq
  have hl2 : h₁.objs.size ≤ h₂.objs.size := Nat.le_of_lt (Heap.lt_size e2)
  have I3 : Inv (ncx CX P w K mg base N F f A outer s H E) [(h₂.objs.size, methodObj (.ref f2) (.ref x))] (startF N (.ref x :: ws) [none]) H { s with heap := h₂.push { cls := .type "method", data := .fields #[.ref f2, .ref x] }, toks := s.toks + (ps.zip us).length + 1 } := by
    refine I2.pins_of fun p hp => ?_
    rcases List.mem_cons.mp hp with rfl | hp
    · refine ⟨Heap.get?_push_at rfl rfl, I.hok.fresh hl2, fun z => ?_, I.nofs hl2, fun v z => by cases z⟩
      have := I.lt
      have z : h₂.objs.size = (ncx CX P w K mg base N F f A outer s H E).env.locals := z
      rw [← z] at this
      exact absurd this (Nat.not_lt.mpr hl2)
    · cases hp
  show wpAny _ _ (callWith p3 (.ref h₂.objs.size) [] (backTo p3 (starEach (e :: es) (envF F f s.heap.objs.size))) []) _ _ _
  have hA' := hA.run p3 _ _ _ _ _ I3 hq
  have hst' := hst (envF F f s.heap.objs.size)
  have hpl' := hpl (envF F f s.heap.objs.size)
  rw [hst']
  refine callWith_of (P := MethP K h₂.objs.size f2 (.ref x)) (by
    show ((false || (backTo p3 (starEach es (envF F f s.heap.objs.size))).any (·.1)) || false) = false
    rw [hpl'] <;> rfl) (keeps_M T.fn2) (evalArgs_plain ?_)
  have hA2 : wpAny (model P w) (A.deeper (envF F f s.heap.objs.size)) (spliced (backTo p3 (starEach (e :: es) (envF F f s.heap.objs.size)))) _ _ _ := hA'
  rw [hst'] at hA2
  refine wpAny_mono hA2 (fun us2 s4 hs4 => ?_) fun _ _ z => z
  obtain ⟨vs2, H4, I4, r4, q4⟩ := hs4
  have hpin := I4.pin _ (List.mem_append_right _ List.mem_cons_self)
  refine ⟨⟨hpin.1, I4.kIn⟩, ?_⟩
  have hl4 : (Value.ref x :: us2 ++ []).length = ps2.length := by
    have := F2.len _ _ _ _ q4
    rw [List.append_nil, ← this, List.length_cons, List.length_cons, r4.length]
  refine wpAny_call (ks_codeAny_call_bound hpin.1 (codeAny_mono (F2.run _ _ s4 H4 ⟨.ref x :: us2, []⟩ (.ref x :: us2) (.ref x :: vs2) _ E2 ((hr.deeper _).mono hk) I4.env0 (by have := hb2 s4 (.ref x :: us2) I4.kIn hl4; rwa [List.append_nil] at this) (.cons rfl r4) q4) fun r s5 hq5 => ?_))
  cases r with
  | error e => exact hE2 _ _ _ _ e s5 I4 hq5
  | ok fl =>
    cases fl with
    | next => exact False.elim hq5
    | brk => exact False.elim hq5
    | cont => exact False.elim hq5
    | ret u =>
      obtain ⟨v5, H5, I5, rv5, q5⟩ := I4.after hq5
      have I6 := I5.pins_of (pins' := []) fun p hp => by cases hp
      refine wpAt_of_wpAny (wpAny_mono (hR.run [] s5 _ H5 _ I6 q5) (fun fl s' hs => ?_) fun e s' hs => hs)
      have fin : ∀ {σ' : L2.St} {H' : Hp} {v : V} {u : Value}, Inv (ncx CX P w K mg base N F f A outer s H E) [] σ' H' s' → L2.RelV v u → Q v H' → CE outer P w H s Q u s' :=
        fun {σ' H' v u} J rv q => ⟨v, H', J.os, J.bare, J.base, J.hok, rv, q⟩
      cases fl with
      | ret u =>
        obtain ⟨v, σ', H', J, rv, q⟩ := hs
        exact fin J rv q
      | next =>
        obtain ⟨σ', H', J, q⟩ := hs
        exact fin (v := V.non) (u := Value.none) J rfl q
      | brk =>
        obtain ⟨_, _, _, q⟩ := hs
        exact False.elim q
      | cont =>
        obtain ⟨_, _, _, q⟩ := hs
        exact False.elim q
end
end SU
/-! Written dicts of the module by any text key; dicts made in the call: in, not in, [..]; l == [[]] of lists of lists. -/
namespace SX
open PySem PySem.Spec PyProof.Rows L2
/-- at d a written dict of these text keys -/
structure WD (K : PySem.W.Frag) (w : World) (d : Addr) (kvs : List (Str × V)) : Prop where
  ex : ∃ es n, KDict K w d es n ∧ ∀ z : Str, ∃ r, PySem.W.nsIn K d z = some r ∧ RelO (kvs.lookup z) r
/-- the entries are these -/
def Ents : List DictEntry → List (Str × V) → Prop
  | [], [] => True
  | e :: es, kv :: kvs => (∃ t, e.key = .str kv.1 t) ∧ RelV kv.2 e.val ∧ Ents es kvs
  | _, _ => False
theorem ents_find {z : Str} : ∀ {es : List DictEntry} {kvs : List (Str × V)}, Ents es kvs → RelO (kvs.lookup z) ((es.find? (·.key.isStr z)).map (·.val)) ∧ es.any (·.refKey) = false
  | [], [], _ => ⟨True.intro, rfl⟩
  | [], _ :: _, h => (show False from h).elim
  | _ :: _, [], h => (show False from h).elim
  | e :: es, kv :: kvs, h => by
    obtain ⟨⟨t, hk⟩, hv, hr⟩ := h
    obtain ⟨k, v⟩ := kv
    obtain ⟨ih1, ih2⟩ := ents_find (z := z) hr
    have hs : e.key.isStr z = (k == z) := by
      rw [hk, PySem.W.isStr_of]
      rfl
    have hrf : e.refKey = false := by
      unfold DictEntry.refKey
      rw [hk]
    refine ⟨?_, by rw [List.any_cons, hrf, ih2]; rfl⟩
    rw [List.find?_cons, hs, List.lookup_cons]
    by_cases hkz : k = z
    · subst hkz
      rw [show (k == k) = true from beq_self_eq_true k]
      exact hv
    · have e1 : (k == z) = false := beq_eq_false_iff_ne.mpr hkz
      have e2 : (z == k) = false := beq_eq_false_iff_ne.mpr (Ne.symm hkz)
      rw [e1, e2]
      exact ih1
theorem wd_of {K : PySem.W.Frag} {w : World} {d : Addr} {es : Array DictEntry} {n : Nat} {kvs : List (Str × V)} (hl : K.lookup d = some ⟨.type "dict", none, .dict es n, #[]⟩) (lit : PySem.W.KeysLit w.params es.toList) (low : (d == sysModules) = false) (h : Ents es.toList kvs) : WD K w d kvs := by
  refine ⟨es, n, ⟨hl, lit, low⟩, fun z => ?_⟩
  obtain ⟨h1, h2⟩ := ents_find (z := z) h
  refine ⟨_, ?_, h1⟩
  unfold PySem.W.nsIn
  rw [hl]
  dsimp only
  cases e : es.toList.find? (·.key.isStr z) with
  | some en => rfl
  | none =>
    dsimp only
    rw [h2]
    rfl
section
variable {X : Cx} {d : Addr} {kvs : List (Str × V)}
theorem relO_some {o : Option V} {r : Option Value} (h : RelO o r) : r.isSome = o.isSome := by
  cases o <;> cases r <;> first | rfl | exact (show False from h).elim
theorem op_in_wd (D : WD X.K X.w d kvs) : OpR X (compareOp .In) (fun x y H Q => ∃ z : Str, x = .str z ∧ y = .ref d ∧ Q (.bl (kvs.lookup z).isSome) H) := by
  intro pins s σ H x y v u Q I rx ry h
  obtain ⟨z, rfl, rfl, q⟩ := h
  obtain ⟨es, n, D', f⟩ := D.ex
  obtain ⟨r, e, rel⟩ := f z
  exact op_in_kd D' pins s σ H _ _ v u Q I rx ry ⟨z, r, rfl, rfl, e, by rw [relO_some rel]; exact q⟩
theorem op_notIn_wd (D : WD X.K X.w d kvs) : OpR X (compareOp .NotIn) (fun x y H Q => ∃ z : Str, x = .str z ∧ y = .ref d ∧ Q (.bl (!(kvs.lookup z).isSome)) H) := by
  intro pins s σ H x y v u Q I rx ry h
  obtain ⟨z, rfl, rfl, q⟩ := h
  obtain ⟨es, n, D', f⟩ := D.ex
  obtain ⟨r, e, rel⟩ := f z
  exact op_notIn_kd D' pins s σ H _ _ v u Q I rx ry ⟨z, r, rfl, rfl, e, by rw [relO_some rel]; exact q⟩
theorem ix_wd (D : WD X.K X.w d kvs) : IxR X (fun x y H Q => ∃ (z : Str) (v : V), x = .ref d ∧ y = .str z ∧ kvs.lookup z = some v ∧ Q v H) := by
  intro value slice pins s σ H x y v u Q I rx ry h hs
  obtain ⟨z, r, rfl, rfl, el, q⟩ := h
  obtain ⟨es, n, D', f⟩ := D.ex
  obtain ⟨o, e, rel⟩ := f z
  rw [el] at rel
  cases o with
  | none => exact (show False from rel).elim
  | some u0 => exact ix_kdict value slice pins s σ H _ _ v u Q I rx ry ⟨d, z, r, rfl, rfl, ⟨es, n, u0, D'.at_, D'.lit, e, rel⟩, q⟩ hs
theorem u1 {k : Nat} {A : Around} (r : Room k A) : A.units + 1 < cLine := by
  have := r.units
  omega
/-- k in a dict made in the call -/
theorem op_in_dK (hu : X.A.units + 1 < cLine) : OpR X (compareOp .In) (fun x y H Q => ∃ (z : Str) (a : Addr) (ks : List (Key × V)), x = .str z ∧ y = .ref a ∧ H a = some (.dK ks) ∧ Q (.bl (valV ks (.inr z)).isSome) H) := by
  intro pins s σ H x y v u Q I rx ry h
  obtain ⟨z, a, ks, rfl, rfl, e, q⟩ := h
  cases ry
  exact d_in hu I (DGet.k (k := .inr z) e) rx fun s' I' => ⟨.bl _, H, I', rfl, q⟩
theorem op_notIn_dK (hu : X.A.units + 1 < cLine) : OpR X (compareOp .NotIn) (fun x y H Q => ∃ (z : Str) (a : Addr) (ks : List (Key × V)), x = .str z ∧ y = .ref a ∧ H a = some (.dK ks) ∧ Q (.bl (!(valV ks (.inr z)).isSome)) H) := by
  intro pins s σ H x y v u Q I rx ry h
  obtain ⟨z, a, ks, rfl, rfl, e, q⟩ := h
  cases ry
  exact d_notIn hu I (DGet.k (k := .inr z) e) rx fun s' I' => ⟨.bl _, H, I', rfl, q⟩
end
end SX
namespace SX
open PySem PySem.Spec PyProof.Rows L2
/-! l == [[]], l a list of lists -/
/-- the lists at ls hold xss -/
def LsAt (H : Hp) : List Addr → List (List V) → Prop
  | [], [] => True
  | r :: ls, xs :: xss => H r = some (.lst xs) ∧ LsAt H ls xss
  | _, _ => False
theorem LsAt.len {H : Hp} : ∀ {ls : List Addr} {xss : List (List V)}, LsAt H ls xss → ls.length = xss.length
  | [], [], _ => rfl
  | [], _ :: _, h => (show False from h).elim
  | _ :: _, [], h => (show False from h).elim
  | _ :: _, _ :: _, h => congrArg (· + 1) (LsAt.len h.2)
section
variable {X : Cx}
def rEqNest : R2 := fun x y H Q => ∃ (a b c : Addr) (ls : List Addr) (xss : List (List V)), x = .ref a ∧ y = .ref b ∧ H a = some (.lst (ls.map V.ref)) ∧ LsAt H ls xss ∧ H b = some (.lst [.ref c]) ∧ H c = some (.lst []) ∧ Q (.bl (decide (xss = [[]]))) H
theorem op_eqNest (hu : X.A.units + 64 < cLine) : OpR X (compareOp .Eq) rEqNest := by
  intro pins s σ H x y v u Q I rx ry h
  obtain ⟨a, b, c, ls, xss, rfl, rfl, ha, hls, hb, hc, q⟩ := h
  cases (show v = Value.ref a from rx)
  cases (show u = Value.ref b from ry)
  obtain ⟨us, r1, p1, _⟩ := I.list (SqL.of ha)
  obtain ⟨ws, r2, p2, _⟩ := I.list (SqL.of hb)
  have l1 : us.length = ls.length := by rw [← r1.length, List.length_map]
  have l2 : ws.length = 1 := by rw [← r2.length]; rfl
  have hl := hls.len
  by_cases h1 : ls.length = 1
  · match ls, xss, hls, h1, r1, l1, hl with
    | [r], [xs], hls, _, r1, l1, _ =>
      obtain ⟨hr, _⟩ := hls
      obtain ⟨u0, rfl, ra⟩ := r1.one
      obtain ⟨w0, rfl, rb⟩ := r2.one
      cases (show u0 = Value.ref r from ra)
      cases (show w0 = Value.ref c from rb)
      have he : SeqAt.EqAt X.A.in1 s (.ref r) (.ref c) (decide (xs = [])) := by
        by_cases e : r = c
        · subst e
          rw [hc] at hr
          cases hr
          rw [decide_eq_true rfl]
          exact SeqAt.EqAt.same _
        · obtain ⟨us2, r3, p3, _⟩ := I.list (SqL.of hr)
          obtain ⟨ws2, r4, p4, _⟩ := I.list (SqL.of hc)
          cases r4
          by_cases hx : xs = []
          · subst hx
            cases r3
            rw [decide_eq_true rfl]
            exact SeqAt.EqAt.of_refs e (SeqAt.RcAt.lists (e := fun _ => true) p3.isList p4.isList rfl (by show X.A.units + 1 < cLine; omega) fun j h1 h2 => absurd h1 (Nat.not_lt_zero _))
          · have : us2.toArray.size ≠ 0 := by
              rw [List.size_toArray, ← r3.length]
              exact fun h => hx (List.length_eq_zero_iff.mp h)
            rw [decide_eq_false hx]
            exact SeqAt.EqAt.of_refs e (SeqAt.RcAt.lists_lengths p3.isList p4.isList (by simpa using this) (by show X.A.units + 1 < cLine; omega))
      have fin := SeqAt.RcAt.lists (e := fun _ => decide (xs = [])) p1.isList p2.isList rfl (show X.A.units < cLine by omega) fun j h1 h2 => by
        have : j = 0 := by simpa using h1
        subst this
        exact he
      refine fin _ _ _ _ ⟨.bl (decide ([xs] = [[]])), H, I, ?_, q⟩
      show Value.bool _ = Value.bool _
      congr 1
      simp
  · have ne : (us.toArray.size != ws.toArray.size) = true := by
      rw [List.size_toArray, List.size_toArray, l1, l2]
      simpa using h1
    refine SeqAt.RcAt.lists_lengths p1.isList p2.isList ne (by omega) _ _ _ _ ⟨.bl false, H, I, rfl, ?_⟩
    have : decide (xss = [[]]) = false := decide_eq_false fun h => h1 (by rw [hl, h]; rfl)
    rw [this] at q
    exact q
end
end SX
/-! A layer over the readings: data without the heap. Part 1: data, how values hold them, what stands in the slots. -/
namespace DL
open PySem PySem.Spec PyProof.Rows L2
abbrev St := L2.St
/-- data: what is never changed any more -/
inductive D where
  | non | bl (b : Bool) | int (i : Int) | str (x : Str) | ty (n : String) | fn (a : Addr) | scr (ns : List Int)
  | tup (l : List D) | lst (l : List D) | dct (l : List (Key × D)) | obj (C : Addr) (fs : List (Str × D))
/-- the part F of the heap is kept for good; v holds d in it -/
inductive Dr (K : PySem.W.Frag) (F : Hp) : V → D → Prop
  | non : Dr K F .non .non
  | bl (b : Bool) : Dr K F (.bl b) (.bl b)
  | int (i : Int) : Dr K F (.int i) (.int i)
  | str (x : Str) : Dr K F (.str x) (.str x)
  | ty (n : String) : Dr K F (.ty n) (.ty n)
  | fn (a : Addr) : Dr K F (.ref a) (.fn a)
  | scr {a : Addr} {ns : List Int} (e : SqL K F a (ns.map V.int)) : Dr K F (.ref a) (.scr ns)
  | tup {a : Addr} {xs : List V} {ds : List D} (e : SqT K F a xs) (hl : xs.length = ds.length) (h : ∀ (i : Nat) (v : V) (d : D), xs[i]? = some v → ds[i]? = some d → Dr K F v d) : Dr K F (.ref a) (.tup ds)
  | lst {a : Addr} {xs : List V} {ds : List D} (e : F a = some (.lst xs)) (hl : xs.length = ds.length) (h : ∀ (i : Nat) (v : V) (d : D), xs[i]? = some v → ds[i]? = some d → Dr K F v d) : Dr K F (.ref a) (.lst ds)
  | dct {a : Addr} {xs : List (Key × V)} {ds : List (Key × D)} (e : F a = some (.dK xs)) (hk : xs.map (·.1) = ds.map (·.1)) (h : ∀ (i : Nat) (v : Key × V) (d : Key × D), xs[i]? = some v → ds[i]? = some d → Dr K F v.2 d.2) : Dr K F (.ref a) (.dct ds)
  | obj {a C dx : Addr} {xs : List (Str × V)} {ds : List (Str × D)} (e : F a = some (.ins C dx xs)) (hk : xs.map (·.1) = ds.map (·.1)) (h : ∀ (i : Nat) (v : Str × V) (d : Str × D), xs[i]? = some v → ds[i]? = some d → Dr K F v.2 d.2) : Dr K F (.ref a) (.obj C ds)
/-- the values hold the data -/
def DA (K : PySem.W.Frag) (F : Hp) (xs : List V) (ds : List D) : Prop := xs.length = ds.length ∧ ∀ (i : Nat) (v : V) (d : D), xs[i]? = some v → ds[i]? = some d → Dr K F v d
/-- the pairs of a dict hold .. -/
def DM {κ : Type} (K : PySem.W.Frag) (F : Hp) (xs : List (κ × V)) (ds : List (κ × D)) : Prop := xs.map (·.1) = ds.map (·.1) ∧ ∀ (i : Nat) (v : κ × V) (d : κ × D), xs[i]? = some v → ds[i]? = some d → Dr K F v.2 d.2
section
variable {K : PySem.W.Frag} {F F' : Hp}
theorem sqT_same {a : Addr} {xs : List V} (s : Same F F') (h : SqT K F a xs) : SqT K F' a xs := by
  rcases h with (h | ⟨o, h⟩) | h
  · exact .inl (.inl (s _ _ h))
  · exact .inl (.inr ⟨o, s _ _ h⟩)
  · exact .inr h
theorem sqL_same {a : Addr} {xs : List V} (s : Same F F') (h : SqL K F a xs) : SqL K F' a xs := Same.seq s h
theorem Dr.up (s : Same F F') {v : V} {d : D} (h : Dr K F v d) : Dr K F' v d := by
  induction h with
  | non => exact .non
  | bl b => exact .bl b
  | int i => exact .int i
  | str x => exact .str x
  | ty n => exact .ty n
  | fn a => exact .fn a
  | scr e => exact .scr (sqL_same s e)
  | tup e hl _ ih => exact .tup (sqT_same s e) hl ih
  | lst e hl _ ih => exact .lst (s _ _ e) hl ih
  | dct e hk _ ih => exact .dct (s _ _ e) hk ih
  | obj e hk _ ih => exact .obj (s _ _ e) hk ih
theorem DA.up (s : Same F F') {xs : List V} {ds : List D} (h : DA K F xs ds) : DA K F' xs ds := ⟨h.1, fun i v d a b => (h.2 i v d a b).up s⟩
theorem DM.up {κ : Type} (s : Same F F') {xs : List (κ × V)} {ds : List (κ × D)} (h : DM K F xs ds) : DM K F' xs ds := ⟨h.1, fun i v d a b => (h.2 i v d a b).up s⟩
theorem DA.nil : DA K F [] [] := ⟨rfl, fun i v d h => (nomatch h)⟩
theorem DA.cons {v : V} {d : D} {xs : List V} {ds : List D} (h : Dr K F v d) (t : DA K F xs ds) : DA K F (v :: xs) (d :: ds) :=
  ⟨congrArg Nat.succ t.1, fun i u e a b => match i, a, b with
    | 0, a, b => by cases a; cases b; exact h
    | i + 1, a, b => t.2 i u e a b⟩
theorem DA.one {v : V} {d : D} (h : Dr K F v d) : DA K F [v] [d] := .cons h .nil
theorem DA.inv_nil {xs : List V} (h : DA K F xs []) : xs = [] := List.length_eq_zero_iff.mp h.1
theorem DA.inv {d : D} {xs : List V} {ds : List D} (h : DA K F xs (d :: ds)) : ∃ v r, xs = v :: r ∧ Dr K F v d ∧ DA K F r ds := by
  cases xs with
  | nil => cases h.1
  | cons v r => exact ⟨v, r, rfl, h.2 0 v d rfl rfl, Nat.succ.inj h.1, fun i u e a b => h.2 (i + 1) u e a b⟩
theorem DA.app {xs ys : List V} {ds es : List D} (h : DA K F xs ds) (t : DA K F ys es) : DA K F (xs ++ ys) (ds ++ es) := by
  refine ⟨by rw [List.length_append, List.length_append, h.1, t.1], fun i u e a b => ?_⟩
  by_cases hi : i < xs.length
  · rw [List.getElem?_append_left hi] at a
    rw [List.getElem?_append_left (by have := h.1; omega)] at b
    exact h.2 i u e a b
  · rw [List.getElem?_append_right (by omega)] at a
    rw [List.getElem?_append_right (by have := h.1; omega), ← h.1] at b
    exact t.2 _ u e a b
theorem DA.get {xs : List V} {ds : List D} (h : DA K F xs ds) {i : Nat} {d : D} (e : ds[i]? = some d) : ∃ v, xs[i]? = some v ∧ Dr K F v d := by
  have hi : i < ds.length := (List.getElem?_eq_some_iff.mp e).1
  have g := List.getElem?_eq_getElem (show i < xs.length by rw [h.1]; exact hi)
  exact ⟨_, g, h.2 i _ d g e⟩
theorem DA.getV {xs : List V} {ds : List D} (h : DA K F xs ds) {i : Nat} {v : V} (e : xs[i]? = some v) : ∃ d, ds[i]? = some d ∧ Dr K F v d := by
  have hi : i < xs.length := (List.getElem?_eq_some_iff.mp e).1
  have g := List.getElem?_eq_getElem (show i < ds.length by rw [← h.1]; exact hi)
  exact ⟨_, g, h.2 i v _ e g⟩
theorem DA.atI {xs : List V} {ds : List D} (h : DA K F xs ds) {i : Int} {d : D} (e : L2.atI ds i = some d) : ∃ v, L2.atI xs i = some v ∧ Dr K F v d := by
  unfold L2.atI at e ⊢
  rw [h.1]
  cases q : ixN ds.length i with
  | none => rw [q] at e; cases e
  | some j =>
    rw [q] at e
    obtain ⟨v, h1, h2⟩ := h.get (show ds[j]? = some d from e)
    exact ⟨v, h1, h2⟩
theorem DA.take {xs : List V} {ds : List D} (h : DA K F xs ds) (n : Nat) : DA K F (xs.take n) (ds.take n) := by
  refine ⟨by rw [List.length_take, List.length_take, h.1], fun i u e a b => ?_⟩
  rw [List.getElem?_take] at a b
  split at a
  · rename_i hi
    rw [if_pos hi] at b
    exact h.2 i u e a b
  · cases a
theorem DA.drop {xs : List V} {ds : List D} (h : DA K F xs ds) (n : Nat) : DA K F (xs.drop n) (ds.drop n) := by
  refine ⟨by rw [List.length_drop, List.length_drop, h.1], fun i u e a b => ?_⟩
  rw [List.getElem?_drop] at a b
  exact h.2 _ u e a b
theorem DA.set {xs : List V} {ds : List D} (h : DA K F xs ds) {n : Nat} {v : V} {d : D} (hd : Dr K F v d) : DA K F (xs.set n v) (ds.set n d) := by
  refine ⟨by rw [List.length_set, List.length_set, h.1], fun i u e a b => ?_⟩
  by_cases hi : n = i
  · subst hi
    have hl : n < xs.length := by
      rcases Nat.lt_or_ge n xs.length with z | z
      · exact z
      · rw [List.getElem?_eq_none (by rw [List.length_set]; exact z)] at a
        cases a
    rw [List.getElem?_set_self hl] at a
    rw [List.getElem?_set_self (by rw [← h.1]; exact hl)] at b
    cases a
    cases b
    exact hd
  · rw [List.getElem?_set_ne hi] at a b
    exact h.2 i u e a b
theorem DA.rev {xs : List V} {ds : List D} (h : DA K F xs ds) : DA K F xs.reverse ds.reverse := by
  refine ⟨by rw [List.length_reverse, List.length_reverse, h.1], fun i u e a b => ?_⟩
  have hi : i < xs.length := by
    have := (List.getElem?_eq_some_iff.mp a).1
    rwa [List.length_reverse] at this
  rw [List.getElem?_reverse hi] at a
  rw [List.getElem?_reverse (by rw [← h.1]; exact hi), ← h.1] at b
  exact h.2 _ u e a b
theorem DA.dropLast {xs : List V} {ds : List D} (h : DA K F xs ds) : DA K F xs.dropLast ds.dropLast := by
  rw [List.dropLast_eq_take, List.dropLast_eq_take, h.1]
  exact h.take _
theorem Dr.inv_tup {v : V} {ds : List D} (h : Dr K F v (.tup ds)) : ∃ a xs, v = .ref a ∧ SqT K F a xs ∧ DA K F xs ds := by
  cases h with | tup e hl h => exact ⟨_, _, rfl, e, hl, h⟩
theorem Dr.inv_lst {v : V} {ds : List D} (h : Dr K F v (.lst ds)) : ∃ a xs, v = .ref a ∧ F a = some (.lst xs) ∧ DA K F xs ds := by
  cases h with | lst e hl h => exact ⟨_, _, rfl, e, hl, h⟩
theorem Dr.inv_dct {v : V} {ds : List (Key × D)} (h : Dr K F v (.dct ds)) : ∃ a xs, v = .ref a ∧ F a = some (.dK xs) ∧ DM K F xs ds := by
  cases h with | dct e hk h => exact ⟨_, _, rfl, e, hk, h⟩
theorem Dr.inv_obj {v : V} {C : Addr} {ds : List (Str × D)} (h : Dr K F v (.obj C ds)) : ∃ a dx xs, v = .ref a ∧ F a = some (.ins C dx xs) ∧ DM K F xs ds := by
  cases h with | obj e hk h => exact ⟨_, _, _, rfl, e, hk, h⟩
theorem Dr.inv_scr {v : V} {ns : List Int} (h : Dr K F v (.scr ns)) : ∃ a, v = .ref a ∧ SqL K F a (ns.map V.int) := by
  cases h with | scr e => exact ⟨_, rfl, e⟩
theorem Dr.inv_int {v : V} {i : Int} (h : Dr K F v (.int i)) : v = .int i := by cases h; rfl
theorem Dr.inv_bl {v : V} {i : Bool} (h : Dr K F v (.bl i)) : v = .bl i := by cases h; rfl
theorem Dr.inv_str {v : V} {i : Str} (h : Dr K F v (.str i)) : v = .str i := by cases h; rfl
theorem Dr.inv_non {v : V} (h : Dr K F v .non) : v = .non := by cases h; rfl
theorem Dr.inv_ty {v : V} {n : String} (h : Dr K F v (.ty n)) : v = .ty n := by cases h; rfl
theorem Dr.inv_fn {v : V} {a : Addr} (h : Dr K F v (.fn a)) : v = .ref a := by cases h; rfl
/-! ### dicts -/
def valD {κ : Type} [DecidableEq κ] (kvs : List (κ × D)) (k : κ) : Option D := (kvs.find? fun kv => decide (kv.1 = k)).map (·.2)
def putD {κ : Type} [DecidableEq κ] (kvs : List (κ × D)) (k : κ) (v : D) : List (κ × D) :=
  if (kvs.any fun kv => decide (kv.1 = k)) = true then kvs.map (fun kv => if kv.1 = k then (kv.1, v) else kv) else kvs ++ [(k, v)]
theorem DM.nil {κ : Type} : DM K F ([] : List (κ × V)) [] := ⟨rfl, fun i v d h => (nomatch h)⟩
theorem DM.cons {κ : Type} {k : κ} {v : V} {d : D} {xs : List (κ × V)} {ds : List (κ × D)} (h : Dr K F v d) (t : DM K F xs ds) : DM K F ((k, v) :: xs) ((k, d) :: ds) :=
  ⟨by rw [List.map_cons, List.map_cons, t.1], fun i u e a b => match i, a, b with
    | 0, a, b => by cases a; cases b; exact h
    | i + 1, a, b => t.2 i u e a b⟩
theorem DM.len {κ : Type} {xs : List (κ × V)} {ds : List (κ × D)} (h : DM K F xs ds) : xs.length = ds.length := by
  have := congrArg List.length h.1
  rwa [List.length_map, List.length_map] at this
theorem DM.inv {κ : Type} {p : κ × D} {xs : List (κ × V)} {ds : List (κ × D)} (h : DM K F xs (p :: ds)) : ∃ v r, xs = (p.1, v) :: r ∧ Dr K F v p.2 ∧ DM K F r ds := by
  cases xs with
  | nil => have := h.1; cases this
  | cons v r =>
    obtain ⟨k, v⟩ := v
    have h1 := h.1
    rw [List.map_cons, List.map_cons] at h1
    injection h1 with h1 h2
    have h1' : k = p.1 := h1
    subst h1'
    exact ⟨v, r, rfl, h.2 0 _ p rfl rfl, h2, fun i u e a b => h.2 (i + 1) u e a b⟩
theorem DM.val {κ : Type} [DecidableEq κ] {k : κ} : ∀ {xs : List (κ × V)} {ds : List (κ × D)}, DM K F xs ds → match valD ds k with
    | none => valV xs k = none
    | some d => ∃ v, valV xs k = some v ∧ Dr K F v d
  | xs, [], h => by
    have e : xs = [] := by have := h.len; exact List.length_eq_zero_iff.mp this
    rw [e]
    rfl
  | xs, p :: ds, h => by
    obtain ⟨v, r, rfl, hd, t⟩ := h.inv
    by_cases e : p.1 = k
    · have e1 : valD (p :: ds) k = some p.2 := by simp [valD, List.find?_cons, e]
      rw [e1]
      exact ⟨v, valV_pos e, hd⟩
    · have e1 : valD (p :: ds) k = valD ds k := by simp [valD, List.find?_cons, e]
      rw [e1, valV_neg (p := (p.1, v)) e]
      exact DM.val t
theorem DM.app {κ : Type} {xs ys : List (κ × V)} {ds es : List (κ × D)} (h : DM K F xs ds) (t : DM K F ys es) : DM K F (xs ++ ys) (ds ++ es) := by
  refine ⟨by rw [List.map_append, List.map_append, h.1, t.1], fun i u e a b => ?_⟩
  have hl := h.len
  by_cases hi : i < xs.length
  · rw [List.getElem?_append_left hi] at a
    rw [List.getElem?_append_left (by omega)] at b
    exact h.2 i u e a b
  · rw [List.getElem?_append_right (by omega)] at a
    rw [List.getElem?_append_right (by omega), ← hl] at b
    exact t.2 _ u e a b
theorem any_key {κ : Type} [DecidableEq κ] {α β : Type} {k : κ} : ∀ {xs : List (κ × α)} {ds : List (κ × β)}, xs.map (·.1) = ds.map (·.1) → (xs.any fun kv => decide (kv.1 = k)) = (ds.any fun kv => decide (kv.1 = k))
  | [], [], _ => rfl
  | [], _ :: _, h => by cases h
  | _ :: _, [], h => by cases h
  | x :: xs, d :: ds, h => by
    rw [List.map_cons, List.map_cons] at h
    injection h with h1 h2
    have h1' : x.1 = d.1 := h1
    rw [List.any_cons, List.any_cons, any_key h2, h1']
theorem DM.put {κ : Type} [DecidableEq κ] {k : κ} {v : V} {d : D} {xs : List (κ × V)} {ds : List (κ × D)} (h : DM K F xs ds) (hd : Dr K F v d) : DM K F (putK xs k v) (putD ds k d) := by
  unfold putK putD
  rw [any_key h.1]
  split
  · refine ⟨?_, fun i u e a b => ?_⟩
    · rw [List.map_map, List.map_map]
      have e1 : ((fun x : κ × V => x.1) ∘ fun kv : κ × V => if kv.1 = k then (kv.1, v) else kv) = fun x => x.1 := by
        funext x
        show (if x.1 = k then (x.1, v) else x).1 = x.1
        split <;> rfl
      have e2 : ((fun x : κ × D => x.1) ∘ fun kv : κ × D => if kv.1 = k then (kv.1, d) else kv) = fun x => x.1 := by
        funext x
        show (if x.1 = k then (x.1, d) else x).1 = x.1
        split <;> rfl
      rw [e1, e2]
      exact h.1
    · rw [List.getElem?_map] at a b
      obtain ⟨x, hx, rfl⟩ := Option.map_eq_some_iff.mp a
      obtain ⟨y, hy, rfl⟩ := Option.map_eq_some_iff.mp b
      have hk : x.1 = y.1 := by
        have := congrArg (fun l => l[i]?) h.1
        simp only [List.getElem?_map, hx, hy, Option.map_some] at this
        exact Option.some.inj this
      by_cases e : y.1 = k
      · rw [if_pos (hk.trans e), if_pos e]
        exact hd
      · rw [if_neg (by rw [hk]; exact e), if_neg e]
        exact h.2 i x y hx hy
  · exact h.app (.cons hd .nil)
theorem putD_len {κ : Type} [DecidableEq κ] (ds : List (κ × D)) (k : κ) (d : D) : (putD ds k d).length ≤ ds.length + 1 := by
  unfold putD
  split
  · rw [List.length_map]; omega
  · rw [List.length_append]; exact Nat.le_refl _
end
end DL
/-! Part 2: the slots' contents, what a reading comes to over them. -/
namespace DL
open PySem PySem.Spec PyProof.Rows L2
/-- what a slot holds: data, or a thing of one's own that may change: a list, a dict, a draw -/
inductive OV where
  | d (x : D) | l (ds : List D) | m (ks : List (Key × D)) | draw
def OV.own : OV → Bool
  | .d _ => false
  | _ => true
abbrev Env := List (Option OV)
/-- the def's entry: the heap, its kept part, the arguments, which addresses are handed in to be changed -/
structure Bs where
  H0 : Hp
  F0 : Hp
  vs : List V
  O : Addr → Prop
def DrawIn (F H : Hp) (p : Addr) : Prop := ∃ (sc : Addr) (ns : List Int) (i : Nat) (b s : Int), H p = some (.lst [.ref sc, .int (i : Nat), .int b, .int s]) ∧ F sc = some (.lst (ns.map V.int)) ∧ ns.length ≤ 63 ∧ 0 ≤ b ∧ 0 ≤ s ∧ s < 2147483648
/-- the own thing o stands at p -/
def At (K : PySem.W.Frag) (F H : Hp) (p : Addr) : OV → Prop
  | .d _ => False
  | .l ds => ∃ xs, H p = some (.lst xs) ∧ DA K F xs ds
  | .m ks => ∃ xs, H p = some (.dK xs) ∧ DM K F xs ks
  | .draw => DrawIn F H p
def Ok (K : PySem.W.Frag) (b : Bs) (F H : Hp) (v : V) (o : OV) : Prop :=
  match o with
  | .d x => Dr K F v x
  | o => ∃ p, v = .ref p ∧ F p = none ∧ (b.H0 p = none ∨ b.O p) ∧ At K F H p o
/-- no table of code objects -/
def NT (o : HO) : Prop := ∀ t, o ≠ .tbl t
/-- the tables of code objects that may grow -/
class Tbs where
  T : List (Addr × Str)
  /-- what stays for good -/
  B : Hp
/-- the kept part has grown from these two -/
structure Gr [Tbs] (A F : Hp) : Prop where
  a : Same A F
  b : Same Tbs.B F
theorem Gr.trans [Tbs] {A F F' : Hp} (g : Gr A F) (s : Same F F') : Gr A F' := ⟨g.a.trans s, g.b.trans s⟩
theorem tabs_but {T : List (Addr × Str)} {H H' : Hp} {p : Addr} {u : HO} (t : LamX.Tabs T H) (e : H p = some u) (n1 : NT u) (n2 : ∀ c q, u ≠ LamX.CodeO c q) (hs : ∀ a u, a ≠ p → H a = some u → H' a = some u) : LamX.Tabs T H' := by
  intro x hx
  obtain ⟨ps, h1, h2, h3⟩ := t x hx
  refine ⟨ps, hs _ _ (fun z => ?_) h1, h2, fun pos cv hc => ?_⟩
  · rw [z, e] at h1
    exact n1 _ (Option.some.inj h1)
  · obtain ⟨c, e1, e2⟩ := h3 pos cv hc
    refine ⟨c, e1, hs _ _ (fun z => ?_) e2⟩
    rw [z, e] at e2
    exact n2 _ _ (Option.some.inj e2)
theorem lst_nc (xs : List V) (c : Addr) (q : Str) : (HO.lst xs) ≠ LamX.CodeO c q := fun z => by
  unfold LamX.CodeO at z
  cases z
theorem dK_nc (xs : List (Key × V)) (c : Addr) (q : Str) : (HO.dK xs) ≠ LamX.CodeO c q := fun z => by
  unfold LamX.CodeO at z
  cases z
structure Rep [Tbs] (K : PySem.W.Frag) (ps : List Nat) (b : Bs) (σ : St) (H F : Hp) (ρ : Env) : Prop where
  sub : ∀ a o, F a = some o → H a = some o
  grow : Gr b.F0 F
  keep : ∀ a o, b.H0 a = some o → ¬ b.O a → NT o → H a = some o
  there : ∀ a, b.O a → ∃ o, H a = some o
  new : ∀ a o, F a = some o → b.F0 a = some o ∨ b.H0 a = none ∨ b.O a
  slot : ∀ (i : Nat) o, ρ[i]? = some (some o) → ∃ v, σ[i]? = some (some v) ∧ Ok K b F H v o
  apart : ∀ (i j : Nat) o u v, i ≠ j → ρ[i]? = some (some o) → o.own = true → ρ[j]? = some (some u) → u.own = true → σ[i]? = some (some v) → σ[j]? ≠ some (some v)
  len : ρ.length = σ.length
  pin : ∀ i ∈ ps, ∃ v, σ[i]? = some (some v) ∧ b.vs[i]? = some v
  nt : ∀ a o, F a = some o → NT o
  dom : ∀ a o, b.H0 a = some o → ∃ o', H a = some o'
  tabs : LamX.Tabs Tbs.T H
section
variable [Tbs] {K : PySem.W.Frag} {ps : List Nat} {b : Bs} {σ : St} {H F : Hp} {ρ : Env}
theorem At.kind {p : Addr} {o : OV} (h : At K F H p o) : ∃ u, H p = some u ∧ NT u ∧ ∀ c q, u ≠ LamX.CodeO c q := by
  cases o with
  | d _ => exact h.elim
  | l ds => obtain ⟨xs, e, _⟩ := h; exact ⟨_, e, (fun t z => by cases z), lst_nc _⟩
  | m ks => obtain ⟨xs, e, _⟩ := h; exact ⟨_, e, (fun t z => by cases z), dK_nc _⟩
  | draw => obtain ⟨_, _, _, _, _, e, _⟩ := h; exact ⟨_, e, (fun t z => by cases z), lst_nc _⟩
theorem At.ex {p : Addr} {o : OV} (h : At K F H p o) : ∃ u, H p = some u := by
  cases o with
  | d _ => exact h.elim
  | l ds => obtain ⟨xs, e, _⟩ := h; exact ⟨_, e⟩
  | m ks => obtain ⟨xs, e, _⟩ := h; exact ⟨_, e⟩
  | draw => obtain ⟨_, _, _, _, _, e, _⟩ := h; exact ⟨_, e⟩
theorem At.up {F' H' : Hp} {p : Addr} {o : OV} (h : At K F H p o) (s : Same F F') (e : H' p = H p) : At K F' H' p o := by
  cases o with
  | d _ => exact h.elim
  | l ds => obtain ⟨xs, h1, h2⟩ := h; exact ⟨xs, e.trans h1, h2.up s⟩
  | m ks => obtain ⟨xs, h1, h2⟩ := h; exact ⟨xs, e.trans h1, h2.up s⟩
  | draw => obtain ⟨sc, ns, i, x, y, h1, h2, h3⟩ := h; exact ⟨sc, ns, i, x, y, e.trans h1, s _ _ h2, h3⟩
theorem Ok.mk {v : V} {o : OV} {p : Addr} (hv : v = .ref p) (ho : o.own = true) (hF : F p = none) (hb : b.H0 p = none ∨ b.O p) (h : At K F H p o) : Ok K b F H v o := by
  cases o with
  | d _ => cases ho
  | l ds => exact ⟨p, hv, hF, hb, h⟩
  | m ks => exact ⟨p, hv, hF, hb, h⟩
  | draw => exact ⟨p, hv, hF, hb, h⟩
theorem Ok.inv {v : V} {o : OV} (h : Ok K b F H v o) (ho : o.own = true) : ∃ p, v = .ref p ∧ F p = none ∧ (b.H0 p = none ∨ b.O p) ∧ At K F H p o := by
  cases o with
  | d _ => cases ho
  | l ds => exact h
  | m ks => exact h
  | draw => exact h
/-- the heap has grown, also in its kept part; the own things are as they were -/
theorem Ok.up {F' H' : Hp} {v : V} {o : OV} (h : Ok K b F H v o) (s : Same F F') (e : ∀ p, v = .ref p → o.own = true → F' p = none ∧ H' p = H p) : Ok K b F' H' v o := by
  by_cases ho : o.own = true
  · obtain ⟨p, hv, hF, hb, ha⟩ := h.inv ho
    obtain ⟨e1, e2⟩ := e p hv ho
    exact .mk hv ho e1 hb (ha.up s e2)
  · cases o with
    | d x => exact Dr.up s h
    | _ => exact absurd rfl ho
theorem nt_upd {F : Hp} {p : Addr} {u : HO} (h : ∀ a o, F a = some o → NT o) (hu : NT u) : ∀ a o, upd F p u a = some o → NT o := fun a o e => by
  by_cases ha : a = p
  · subst ha
    rw [upd_same] at e
    cases e
    exact hu
  · rw [upd_ne ha] at e
    exact h a o e
theorem Rep.fresh (R : Rep K ps b σ H F ρ) {p : Addr} (h : H p = none) : F p = none ∧ b.H0 p = none ∧ ¬ b.O p := by
  have n1 : ¬ b.O p := fun z => by
    obtain ⟨o, e⟩ := R.there p z
    rw [h] at e
    cases e
  refine ⟨?_, ?_, n1⟩
  · cases e : F p with
    | none => rfl
    | some o => rw [R.sub _ _ e] at h; cases h
  · cases e : b.H0 p with
    | none => rfl
    | some o =>
      obtain ⟨o', e'⟩ := R.dom _ _ e
      rw [e'] at h
      cases h
/-- the heap has grown; the kept part may have grown by new things -/
theorem Rep.grown {H' F' : Hp} (R : Rep K ps b σ H F ρ) (hs : Same H H') (fs : Same F F') (sub : ∀ a o, F' a = some o → H' a = some o) (new : ∀ a o, F' a = some o → F a = some o ∨ H a = none) (nn : ∀ a o, F' a = some o → F a = some o ∨ NT o) : Rep K ps b σ H' F' ρ where
  nt := fun a o e => (nn a o e).elim (R.nt a o) id
  dom := fun a o e => by
    obtain ⟨o', e'⟩ := R.dom a o e
    exact ⟨o', hs _ _ e'⟩
  tabs := R.tabs.ext hs
  sub := sub
  grow := R.grow.trans fs
  keep := fun a o e n z => hs _ _ (R.keep a o e n z)
  there := fun a h => by
    obtain ⟨o, e⟩ := R.there a h
    exact ⟨o, hs _ _ e⟩
  new := fun a o e => by
    rcases new a o e with h | h
    · exact R.new a o h
    · exact .inr (.inl (R.fresh h).2.1)
  slot := fun i o e => by
    obtain ⟨v, h1, h2⟩ := R.slot i o e
    refine ⟨v, h1, h2.up fs fun p hv ho => ?_⟩
    obtain ⟨q, hq, hF, _, ha⟩ := h2.inv ho
    rw [hv] at hq
    cases hq
    obtain ⟨u, eu⟩ := ha.ex
    refine ⟨?_, (hs _ _ eu).trans eu.symm⟩
    cases e' : F' p with
    | none => rfl
    | some o' =>
      rcases new p o' e' with h | h
      · rw [hF] at h; cases h
      · rw [eu] at h; cases h
  apart := R.apart
  len := R.len
  pin := R.pin
/-- .. also the tables -/
theorem Rep.grownT {H' F' : Hp} (R : Rep K ps b σ H F ρ) (hs : ∀ a o, H a = some o → NT o → H' a = some o) (th : ∀ a o, H a = some o → ∃ o', H' a = some o') (fs : Same F F') (sub : ∀ a o, F' a = some o → H' a = some o) (new : ∀ a o, F' a = some o → F a = some o ∨ H a = none) (nn : ∀ a o, F' a = some o → NT o) (tb : LamX.Tabs Tbs.T H') : Rep K ps b σ H' F' ρ where
  nt := nn
  dom := fun a o e => by
    obtain ⟨o', e'⟩ := R.dom a o e
    exact th _ _ e'
  tabs := tb
  sub := sub
  grow := R.grow.trans fs
  keep := fun a o e n z => hs _ _ (R.keep a o e n z) z
  there := fun a h => by
    obtain ⟨o, e⟩ := R.there a h
    exact th _ _ e
  new := fun a o e => by
    rcases new a o e with h | h
    · exact R.new a o h
    · exact .inr (.inl (R.fresh h).2.1)
  slot := fun i o e => by
    obtain ⟨v, h1, h2⟩ := R.slot i o e
    refine ⟨v, h1, h2.up fs fun p hv ho => ?_⟩
    obtain ⟨q, hq, hF, _, ha⟩ := h2.inv ho
    rw [hv] at hq
    cases hq
    obtain ⟨u, eu, nu, _⟩ := ha.kind
    refine ⟨?_, (hs _ _ eu nu).trans eu.symm⟩
    cases e' : F' p with
    | none => rfl
    | some o' =>
      rcases new p o' e' with h | h
      · rw [hF] at h; cases h
      · rw [eu] at h; cases h
  apart := R.apart
  len := R.len
  pin := R.pin
/-- a new kept thing -/
theorem Rep.alloc (R : Rep K ps b σ H F ρ) {p : Addr} {o : HO} (h : H p = none) (hn : NT o := by intro t z; cases z) : Rep K ps b σ (upd H p o) (upd F p o) ρ := by
  obtain ⟨hF, _, _⟩ := R.fresh h
  refine R.grown (SX.same_upd h) (SX.same_upd hF) (fun a u e => ?_) (fun a u e => ?_) fun a u e => ?_
  · by_cases ha : a = p
    · subst ha
      rw [upd_same] at e ⊢
      exact e
    · rw [upd_ne ha] at e ⊢
      exact R.sub _ _ e
  · by_cases ha : a = p
    · subst ha
      exact .inr h
    · rw [upd_ne ha] at e
      exact .inl e
  · by_cases ha : a = p
    · subst ha
      rw [upd_same] at e
      cases e
      exact .inr hn
    · rw [upd_ne ha] at e
      exact .inl e
/-- a new thing that may change -/
theorem Rep.put (R : Rep K ps b σ H F ρ) {p : Addr} {o : HO} (h : H p = none) : Rep K ps b σ (upd H p o) F ρ := by
  obtain ⟨hF, _, _⟩ := R.fresh h
  refine R.grown (SX.same_upd h) (Same.refl F) (fun a u e => ?_) (fun a u e => .inl e) fun a u e => .inl e
  have ha : a ≠ p := fun z => by rw [z, hF] at e; cases e
  rw [upd_ne ha]
  exact R.sub _ _ e
/-- fewer slots told -/
theorem Rep.weak {ρ' : Env} (R : Rep K ps b σ H F ρ) (hl : ρ'.length = ρ.length) (h : ∀ (i : Nat) o, ρ'[i]? = some (some o) → ρ[i]? = some (some o)) : Rep K ps b σ H F ρ' :=
  ⟨R.sub, R.grow, R.keep, R.there, R.new, fun i o e => R.slot i o (h i o e), fun i j o u v n e1 o1 e2 o2 => R.apart i j o u v n (h i o e1) o1 (h j u e2) o2, hl.trans R.len, R.pin, R.nt, R.dom, R.tabs⟩
/-- p is none of the own things of the slots -/
def Loose (b : Bs) (σ : St) (F : Hp) (ρ : Env) (p : Addr) : Prop := F p = none ∧ b.H0 p = none ∧ ∀ (i : Nat) o, ρ[i]? = some (some o) → o.own = true → σ[i]? ≠ some (some (.ref p))
theorem Rep.loose (R : Rep K ps b σ H F ρ) {p : Addr} (h : H p = none) : Loose b σ F ρ p := by
  obtain ⟨hF, h0, _⟩ := R.fresh h
  refine ⟨hF, h0, fun i o e ho z => ?_⟩
  obtain ⟨v, h1, h2⟩ := R.slot i o e
  obtain ⟨q, hq, _, _, ha⟩ := h2.inv ho
  rw [h1] at z
  cases z
  cases hq
  obtain ⟨u, eu⟩ := ha.ex
  rw [h] at eu
  cases eu
theorem set_some {α : Type} {l : List (Option α)} {i j : Nat} {x : Option α} {y : α} (h : (l.set i x)[j]? = some (some y)) : (j = i ∧ x = some y) ∨ (j ≠ i ∧ l[j]? = some (some y)) := by
  by_cases hj : i = j
  · subst hj
    have hl : i < l.length := by
      rcases Nat.lt_or_ge i l.length with z | z
      · exact z
      · rw [List.getElem?_eq_none (by rw [List.length_set]; exact z)] at h
        cases h
    rw [List.getElem?_set_self hl] at h
    exact .inl ⟨rfl, Option.some.inj h⟩
  · rw [List.getElem?_set_ne hj] at h
    exact .inr ⟨fun z => hj z.symm, h⟩
/-- data into a slot -/
theorem Rep.setD (R : Rep K ps b σ H F ρ) {i : Nat} {v : V} {d : D} (hi : i ∉ ps) (h : Dr K F v d) : Rep K ps b (σ.set i (some v)) H F (ρ.set i (some (.d d))) where
  sub := R.sub
  grow := R.grow
  nt := R.nt
  dom := R.dom
  tabs := R.tabs
  keep := R.keep
  there := R.there
  new := R.new
  slot := fun j o e => by
    rcases set_some e with ⟨rfl, q1⟩ | ⟨n, q1⟩
    · cases q1
      have hl : j < σ.length := by
        have := (List.getElem?_eq_some_iff.mp e).1
        rw [List.length_set, R.len] at this
        exact this
      exact ⟨v, List.getElem?_set_self hl, h⟩
    · rw [List.getElem?_set_ne (Ne.symm n)]
      exact R.slot j o q1
  apart := fun j k o u w n e1 o1 e2 o2 s1 => by
    rcases set_some e1 with ⟨rfl, q1⟩ | ⟨n1, q1⟩
    · cases q1; cases o1
    · rcases set_some e2 with ⟨rfl, q2⟩ | ⟨n2, q2⟩
      · cases q2; cases o2
      · rw [List.getElem?_set_ne (Ne.symm n1)] at s1
        rw [List.getElem?_set_ne (Ne.symm n2)]
        exact R.apart j k o u w n q1 o1 q2 o2 s1
  len := by rw [List.length_set, List.length_set, R.len]
  pin := fun j hj => by
    rw [List.getElem?_set_ne (fun z => hi (by rw [z]; exact hj))]
    exact R.pin j hj
/-- a loose thing into a slot -/
theorem Rep.setO (R : Rep K ps b σ H F ρ) {i : Nat} {p : Addr} {o : OV} (hi : i ∉ ps) (ho : o.own = true) (hp : Loose b σ F ρ p) (h : At K F H p o) : Rep K ps b (σ.set i (some (.ref p))) H F (ρ.set i (some o)) where
  sub := R.sub
  grow := R.grow
  nt := R.nt
  dom := R.dom
  tabs := R.tabs
  keep := R.keep
  there := R.there
  new := R.new
  slot := fun j u e => by
    rcases set_some e with ⟨rfl, q1⟩ | ⟨n, q1⟩
    · cases q1
      have hl : j < σ.length := by
        have := (List.getElem?_eq_some_iff.mp e).1
        rw [List.length_set, R.len] at this
        exact this
      exact ⟨_, List.getElem?_set_self hl, .mk rfl ho hp.1 (.inl hp.2.1) h⟩
    · rw [List.getElem?_set_ne (Ne.symm n)]
      exact R.slot j u q1
  apart := fun j k u w z n e1 o1 e2 o2 s1 => by
    rcases set_some e1 with ⟨rfl, q1⟩ | ⟨n1, q1⟩
    · rcases set_some e2 with ⟨rfl, q2⟩ | ⟨n2, q2⟩
      · exact absurd rfl n
      · have hl : j < σ.length := by
          rcases Nat.lt_or_ge j σ.length with q | q
          · exact q
          · rw [List.getElem?_eq_none (by rw [List.length_set]; exact q)] at s1
            cases s1
        rw [List.getElem?_set_self hl] at s1
        cases s1
        rw [List.getElem?_set_ne (Ne.symm n2)]
        exact hp.2.2 k w q2 o2
    · rcases set_some e2 with ⟨rfl, q2⟩ | ⟨n2, q2⟩
      · rw [List.getElem?_set_ne (Ne.symm n1)] at s1
        intro q
        have hl : k < σ.length := by
          rcases Nat.lt_or_ge k σ.length with q' | q'
          · exact q'
          · rw [List.getElem?_eq_none (by rw [List.length_set]; exact q')] at q
            cases q
        rw [List.getElem?_set_self hl] at q
        cases q
        exact hp.2.2 j u q1 o1 s1
      · rw [List.getElem?_set_ne (Ne.symm n1)] at s1
        rw [List.getElem?_set_ne (Ne.symm n2)]
        exact R.apart j k u w z n q1 o1 q2 o2 s1
  len := by rw [List.length_set, List.length_set, R.len]
  pin := fun j hj => by
    rw [List.getElem?_set_ne (fun z => hi (by rw [z]; exact hj))]
    exact R.pin j hj
/-- an own thing, found -/
theorem Rep.own (R : Rep K ps b σ H F ρ) {i : Nat} {o : OV} (e : ρ[i]? = some (some o)) (ho : o.own = true) : ∃ p, σ[i]? = some (some (.ref p)) ∧ F p = none ∧ (b.H0 p = none ∨ b.O p) ∧ At K F H p o := by
  obtain ⟨v, h1, h2⟩ := R.slot i o e
  obtain ⟨p, rfl, h3⟩ := h2.inv ho
  exact ⟨p, h1, h3⟩
/-- .. changed; the heap elsewhere as it was or grown -/
theorem Rep.write {H' F' : Hp} (R : Rep K ps b σ H F ρ) {i : Nat} {p : Addr} {o o' : OV} (e : ρ[i]? = some (some o)) (ho : o.own = true) (ho' : o'.own = true) (hp : σ[i]? = some (some (.ref p)))
    (hs : ∀ a u, a ≠ p → H a = some u → H' a = some u) (fs : Same F F') (sub : ∀ a o, F' a = some o → H' a = some o) (new : ∀ a o, F' a = some o → F a = some o ∨ H a = none) (nn : ∀ a o, F' a = some o → F a = some o ∨ NT o) (h : At K F' H' p o') : Rep K ps b σ H' F' (ρ.set i (some o')) := by
  obtain ⟨q, h1, hF, hb, ha⟩ := R.own e ho
  rw [hp] at h1
  cases h1
  obtain ⟨u0, eu0⟩ := ha.ex
  obtain ⟨u1, eu1⟩ := h.ex
  have hFp : F' p = none := by
    cases e' : F' p with
    | none => rfl
    | some o'' =>
      rcases new p o'' e' with z | z
      · rw [hF] at z; cases z
      · rw [eu0] at z; cases z
  refine ⟨sub, R.grow.trans fs, fun a u e1 n tz => ?_, fun a z => ?_, fun a u e1 => ?_, fun j u e1 => ?_, fun j k u w z n e1 o1 e2 o2 s1 => ?_, by rw [List.length_set, R.len], R.pin, fun a o e => (nn a o e).elim (R.nt a o) id, fun a o0 e0 => ?_, ?_⟩
  · have na : a ≠ p := fun z => by
      rcases hb with z' | z'
      · rw [z, z'] at e1; cases e1
      · exact n (by rw [z]; exact z')
    exact hs _ _ na (R.keep a u e1 n tz)
  · by_cases ha' : a = p
    · subst ha'
      exact ⟨_, eu1⟩
    · obtain ⟨u, eu⟩ := R.there a z
      exact ⟨u, hs _ _ ha' eu⟩
  · rcases new a u e1 with z | z
    · exact R.new a u z
    · exact .inr (.inl (R.fresh z).2.1)
  · rcases set_some e1 with ⟨rfl, q1⟩ | ⟨n, q1⟩
    · cases q1
      exact ⟨_, hp, .mk rfl ho' hFp hb h⟩
    · obtain ⟨v, g1, g2⟩ := R.slot j u q1
      refine ⟨v, g1, g2.up fs fun q hv hu => ?_⟩
      obtain ⟨q', hq', hFq, _, haq⟩ := g2.inv hu
      rw [hv] at hq'
      cases hq'
      obtain ⟨uq, euq⟩ := haq.ex
      have nq : q ≠ p := fun z => by
        subst z
        rw [hv] at g1
        exact R.apart j i u o _ n q1 hu e ho g1 hp
      refine ⟨?_, (hs _ _ nq euq).trans euq.symm⟩
      cases e' : F' q with
      | none => rfl
      | some o'' =>
        rcases new q o'' e' with z | z
        · rw [hFq] at z; cases z
        · rw [euq] at z; cases z
  · have z1 : ∃ u', ρ[j]? = some (some u') ∧ u'.own = true := by
      rcases set_some e1 with ⟨rfl, _⟩ | ⟨_, q1⟩
      · exact ⟨o, e, ho⟩
      · exact ⟨u, q1, o1⟩
    have z2 : ∃ u', ρ[k]? = some (some u') ∧ u'.own = true := by
      rcases set_some e2 with ⟨rfl, _⟩ | ⟨_, q2⟩
      · exact ⟨o, e, ho⟩
      · exact ⟨w, q2, o2⟩
    obtain ⟨u1, a1, a2⟩ := z1
    obtain ⟨u2, c1, c2⟩ := z2
    exact R.apart j k u1 u2 z n a1 a2 c1 c2 s1
  · by_cases ha' : a = p
    · subst ha'
      exact ⟨_, eu1⟩
    · obtain ⟨u, eu⟩ := R.dom a o0 e0
      exact ⟨u, hs _ _ ha' eu⟩
  · obtain ⟨u, g1, g2, g3⟩ := ha.kind
    exact tabs_but R.tabs g1 g2 g3 hs
/-- a list of one's own is kept for good from now on -/
theorem Rep.frzL (R : Rep K ps b σ H F ρ) {i : Nat} {ds : List D} (e : ρ[i]? = some (some (.l ds))) : ∃ p xs, σ[i]? = some (some (.ref p)) ∧ H p = some (.lst xs) ∧ F p = none ∧ Same F (upd F p (.lst xs)) ∧ Dr K (upd F p (.lst xs)) (.ref p) (.lst ds) ∧ Rep K ps b σ H (upd F p (.lst xs)) (ρ.set i (some (.d (.lst ds)))) := by
  obtain ⟨p, h1, hF, hb, xs, hx, hda⟩ := R.own e rfl
  have sF : Same F (upd F p (.lst xs)) := SX.same_upd hF
  have hd : Dr K (upd F p (.lst xs)) (.ref p) (.lst ds) := .lst upd_same hda.1 fun j v d a c => (hda.2 j v d a c).up sF
  refine ⟨p, xs, h1, hx, hF, sF, hd, ⟨fun a u e1 => ?_, R.grow.trans sF, R.keep, R.there, fun a u e1 => ?_, fun j u e1 => ?_, fun j k u w z n e1 o1 e2 o2 s1 => ?_, by rw [List.length_set, R.len], R.pin, nt_upd R.nt (fun t z => by cases z), R.dom, R.tabs⟩⟩
  · by_cases ha : a = p
    · subst ha
      rw [upd_same] at e1
      cases e1
      exact hx
    · rw [upd_ne ha] at e1
      exact R.sub _ _ e1
  · by_cases ha : a = p
    · subst ha
      rcases hb with z | z
      · exact .inr (.inl z)
      · exact .inr (.inr z)
    · rw [upd_ne ha] at e1
      exact R.new _ _ e1
  · rcases set_some e1 with ⟨rfl, q1⟩ | ⟨n, q1⟩
    · cases q1
      exact ⟨_, h1, hd⟩
    · obtain ⟨v, g1, g2⟩ := R.slot j u q1
      refine ⟨v, g1, g2.up sF fun q hv hu => ⟨?_, rfl⟩⟩
      obtain ⟨q', hq', hFq, _, haq⟩ := g2.inv hu
      rw [hv] at hq'
      cases hq'
      have nq : q ≠ p := fun z => by
        subst z
        rw [hv] at g1
        exact R.apart j i u _ _ n q1 hu e rfl g1 h1
      rw [upd_ne nq]
      exact hFq
  · rcases set_some e1 with ⟨rfl, q1⟩ | ⟨n1, q1⟩
    · cases q1; cases o1
    · rcases set_some e2 with ⟨rfl, q2⟩ | ⟨n2, q2⟩
      · cases q2; cases o2
      · exact R.apart j k u w z n q1 o1 q2 o2 s1
theorem Rep.frzM (R : Rep K ps b σ H F ρ) {i : Nat} {ds : List (Key × D)} (e : ρ[i]? = some (some (.m ds))) : ∃ p xs, σ[i]? = some (some (.ref p)) ∧ H p = some (.dK xs) ∧ F p = none ∧ Same F (upd F p (.dK xs)) ∧ Dr K (upd F p (.dK xs)) (.ref p) (.dct ds) ∧ Rep K ps b σ H (upd F p (.dK xs)) (ρ.set i (some (.d (.dct ds)))) := by
  obtain ⟨p, h1, hF, hb, xs, hx, hda⟩ := R.own e rfl
  have sF : Same F (upd F p (.dK xs)) := SX.same_upd hF
  have hd : Dr K (upd F p (.dK xs)) (.ref p) (.dct ds) := .dct upd_same hda.1 fun j v d a c => (hda.2 j v d a c).up sF
  refine ⟨p, xs, h1, hx, hF, sF, hd, ⟨fun a u e1 => ?_, R.grow.trans sF, R.keep, R.there, fun a u e1 => ?_, fun j u e1 => ?_, fun j k u w z n e1 o1 e2 o2 s1 => ?_, by rw [List.length_set, R.len], R.pin, nt_upd R.nt (fun t z => by cases z), R.dom, R.tabs⟩⟩
  · by_cases ha : a = p
    · subst ha
      rw [upd_same] at e1
      cases e1
      exact hx
    · rw [upd_ne ha] at e1
      exact R.sub _ _ e1
  · by_cases ha : a = p
    · subst ha
      rcases hb with z | z
      · exact .inr (.inl z)
      · exact .inr (.inr z)
    · rw [upd_ne ha] at e1
      exact R.new _ _ e1
  · rcases set_some e1 with ⟨rfl, q1⟩ | ⟨n, q1⟩
    · cases q1
      exact ⟨_, h1, hd⟩
    · obtain ⟨v, g1, g2⟩ := R.slot j u q1
      refine ⟨v, g1, g2.up sF fun q hv hu => ⟨?_, rfl⟩⟩
      obtain ⟨q', hq', hFq, _, haq⟩ := g2.inv hu
      rw [hv] at hq'
      cases hq'
      have nq : q ≠ p := fun z => by
        subst z
        rw [hv] at g1
        exact R.apart j i u _ _ n q1 hu e rfl g1 h1
      rw [upd_ne nq]
      exact hFq
  · rcases set_some e1 with ⟨rfl, q1⟩ | ⟨n1, q1⟩
    · cases q1; cases o1
    · rcases set_some e2 with ⟨rfl, q2⟩ | ⟨n2, q2⟩
      · cases q2; cases o2
      · exact R.apart j k u w z n q1 o1 q2 o2 s1
/-- a loose list is kept for good -/
theorem Rep.frzLoose (R : Rep K ps b σ H F ρ) {p : Addr} {u : HO} (hp : Loose b σ F ρ p) (hx : H p = some u) (hn : NT u := by intro t z; cases z) : Same F (upd F p u) ∧ Rep K ps b σ H (upd F p u) ρ := by
  have sF : Same F (upd F p u) := SX.same_upd hp.1
  refine ⟨sF, ⟨fun a w e1 => ?_, R.grow.trans sF, R.keep, R.there, fun a w e1 => ?_, fun j w e1 => ?_, R.apart, R.len, R.pin, nt_upd R.nt hn, R.dom, R.tabs⟩⟩
  · by_cases ha : a = p
    · subst ha
      rw [upd_same] at e1
      cases e1
      exact hx
    · rw [upd_ne ha] at e1
      exact R.sub _ _ e1
  · by_cases ha : a = p
    · subst ha
      exact .inr (.inl hp.2.1)
    · rw [upd_ne ha] at e1
      exact R.new _ _ e1
  · obtain ⟨v, g1, g2⟩ := R.slot j w e1
    refine ⟨v, g1, g2.up sF fun q hv hu => ⟨?_, rfl⟩⟩
    obtain ⟨q', hq', hFq, _, haq⟩ := g2.inv hu
    rw [hv] at hq'
    cases hq'
    have nq : q ≠ p := fun z => by
      subst z
      rw [hv] at g1
      exact hp.2.2 j w e1 hu g1
    rw [upd_ne nq]
    exact hFq
end
end DL
/-! Part 3: what expressions come to. -/
namespace DL
variable [Tbs]
open PySem PySem.Spec PyProof.Rows L2
abbrev DE := Env → (D → Env → Prop) → Prop
abbrev DLs := Env → (List D → Env → Prop) → Prop
abbrev DDs := Env → (List (Key × D) → Env → Prop) → Prop
abbrev DT := Env → (Bool → Env → Prop) → Prop
/-- an argument: data, or the own thing in a slot -/
inductive AV where
  | v (d : D) | s (i : Nat)
abbrev DAs := Env → (List AV → Env → Prop) → Prop
def RE (K : PySem.W.Frag) (ps : List Nat) (t : TE) (T : DE) : Prop := ∀ (b : Bs) (σ : St) (H F : Hp) (ρ : Env) (Φ : D → Env → Prop) (Q : VK), Rep K ps b σ H F ρ → T ρ Φ →
  (∀ v H' F' ρ' d, Same F F' → Rep K ps b σ H' F' ρ' → Dr K F' v d → Φ d ρ' → Q v H') → t σ H Q
/-- a new list -/
def RL (K : PySem.W.Frag) (ps : List Nat) (t : TE) (T : DLs) : Prop := ∀ (b : Bs) (σ : St) (H F : Hp) (ρ : Env) (Φ : List D → Env → Prop) (Q : VK), Rep K ps b σ H F ρ → T ρ Φ →
  (∀ p xs H' F' ρ' ds, Same F F' → Rep K ps b σ H' F' ρ' → Loose b σ F' ρ' p → H' p = some (.lst xs) → DA K F' xs ds → Φ ds ρ' → Q (.ref p) H') → t σ H Q
/-- a new dict -/
def RD (K : PySem.W.Frag) (ps : List Nat) (t : TE) (T : DDs) : Prop := ∀ (b : Bs) (σ : St) (H F : Hp) (ρ : Env) (Φ : List (Key × D) → Env → Prop) (Q : VK), Rep K ps b σ H F ρ → T ρ Φ →
  (∀ p xs H' F' ρ' ds, Same F F' → Rep K ps b σ H' F' ρ' → Loose b σ F' ρ' p → H' p = some (.dK xs) → DM K F' xs ds → Φ ds ρ' → Q (.ref p) H') → t σ H Q
def RT (K : PySem.W.Frag) (ps : List Nat) (t : TT) (T : DT) : Prop := ∀ (b : Bs) (σ : St) (H F : Hp) (ρ : Env) (Φ : Bool → Env → Prop) (Q : Bool → Hp → Prop), Rep K ps b σ H F ρ → T ρ Φ →
  (∀ c H' F' ρ', Same F F' → Rep K ps b σ H' F' ρ' → Φ c ρ' → Q c H') → t σ H Q
inductive ArgRel (K : PySem.W.Frag) (σ : St) (F : Hp) : List V → List AV → Prop
  | nil : ArgRel K σ F [] []
  | v {x : V} {d : D} {xs : List V} {as : List AV} (h : Dr K F x d) (t : ArgRel K σ F xs as) : ArgRel K σ F (x :: xs) (.v d :: as)
  | s {x : V} {i : Nat} {xs : List V} {as : List AV} (h : σ[i]? = some (some x)) (t : ArgRel K σ F xs as) : ArgRel K σ F (x :: xs) (.s i :: as)
def RA (K : PySem.W.Frag) (ps : List Nat) (t : TA) (T : DAs) : Prop := ∀ (b : Bs) (σ : St) (H F : Hp) (ρ : Env) (Φ : List AV → Env → Prop) (Q : List V → Hp → Prop), Rep K ps b σ H F ρ → T ρ Φ →
  (∀ vs H' F' ρ' as, Same F F' → Rep K ps b σ H' F' ρ' → ArgRel K σ F' vs as → Φ as ρ' → Q vs H') → t σ H Q
/-- arguments that are all data -/
def RV (K : PySem.W.Frag) (ps : List Nat) (t : TA) (T : DLs) : Prop := ∀ (b : Bs) (σ : St) (H F : Hp) (ρ : Env) (Φ : List D → Env → Prop) (Q : List V → Hp → Prop), Rep K ps b σ H F ρ → T ρ Φ →
  (∀ vs H' F' ρ' ds, Same F F' → Rep K ps b σ H' F' ρ' → DA K F' vs ds → Φ ds ρ' → Q vs H') → t σ H Q
section
variable {K : PySem.W.Frag} {ps : List Nat}
/-! ### names, constants -/
def dVarG (o : Option (Option OV)) (i : Nat) (ρ : Env) (Φ : D → Env → Prop) : Prop := match o with
  | some (some (.d d)) => Φ d ρ
  | some (some (.l ds)) => Φ (.lst ds) (ρ.set i (some (.d (.lst ds))))
  | some (some (.m ks)) => Φ (.dct ks) (ρ.set i (some (.d (.dct ks))))
  | _ => False
def dVar (i : Nat) : DE := fun ρ Φ => dVarG ρ[i]? i ρ Φ
theorem re_var (i : Nat) : RE K ps (tVar i) (dVar i) := by
  intro b σ H F ρ Φ Q R h k
  unfold dVar dVarG at h
  split at h
  · rename_i d e
    obtain ⟨v, h1, h2⟩ := R.slot i _ e
    exact ⟨v, h1, k v H F ρ d (Same.refl F) R h2 h⟩
  · rename_i ds e
    obtain ⟨p, xs, h1, hx, hF, sF, hd, R'⟩ := R.frzL e
    exact ⟨_, h1, k _ H _ _ _ sF R' hd h⟩
  · rename_i ks e
    obtain ⟨p, xs, h1, hx, hF, sF, hd, R'⟩ := R.frzM e
    exact ⟨_, h1, k _ H _ _ _ sF R' hd h⟩
  · exact h.elim
def dC (d : D) : DE := fun ρ Φ => Φ d ρ
theorem re_c {v : V} {d : D} (h : ∀ F, Dr K F v d) : RE K ps (tC v) (dC d) := fun b σ H F ρ Φ Q R hT k => k v H F ρ d (Same.refl F) R (h F) hT
theorem re_int {i : Int} : RE K ps (tC (.int i)) (dC (.int i)) := re_c fun _ => .int i
theorem re_str {x : Str} : RE K ps (tC (.str x)) (dC (.str x)) := re_c fun _ => .str x
theorem re_bl {x : Bool} : RE K ps (tC (.bl x)) (dC (.bl x)) := re_c fun _ => .bl x
theorem re_non : RE K ps (tC .non) (dC .non) := re_c fun _ => .non
theorem re_fn {a : Addr} : RE K ps (tC (.ref a)) (dC (.fn a)) := re_c fun _ => .fn a
theorem re_ty {n : String} : RE K ps (tC (.ty n)) (dC (.ty n)) := re_c fun _ => .ty n
/-- a new list is kept -/
def dK (T : DLs) : DE := fun ρ Φ => T ρ fun ds ρ' => Φ (.lst ds) ρ'
theorem RL.re {t : TE} {T : DLs} (h : RL K ps t T) : RE K ps t (dK T) := by
  intro b σ H F ρ Φ Q R hT k
  refine h b σ H F ρ _ Q R hT fun p xs H' F' ρ' ds s R' lo hx hd hΦ => ?_
  obtain ⟨sF, R2⟩ := R'.frzLoose lo hx
  exact k _ H' _ ρ' (.lst ds) (s.trans sF) R2 (.lst upd_same hd.1 fun j v d a c => (hd.2 j v d a c).up sF) hΦ
def dKd (T : DDs) : DE := fun ρ Φ => T ρ fun ds ρ' => Φ (.dct ds) ρ'
theorem RD.re {t : TE} {T : DDs} (h : RD K ps t T) : RE K ps t (dKd T) := by
  intro b σ H F ρ Φ Q R hT k
  refine h b σ H F ρ _ Q R hT fun p xs H' F' ρ' ds s R' lo hx hd hΦ => ?_
  obtain ⟨sF, R2⟩ := R'.frzLoose lo hx
  exact k _ H' _ ρ' (.dct ds) (s.trans sF) R2 (.dct upd_same hd.1 fun j v d a c => (hd.2 j v d a c).up sF) hΦ
/-! ### operators -/
abbrev DO := D → D → (D → Prop) → Prop
/-- an operation on two values, by data -/
def RO (K : PySem.W.Frag) (ps : List Nat) (r : R2) (R : DO) : Prop := ∀ (b : Bs) (σ : St) (H F : Hp) (ρ : Env) (x y : V) (d e : D) (Φ : D → Prop) (Q : VK), Rep K ps b σ H F ρ → Dr K F x d → Dr K F y e → R d e Φ →
  (∀ v H' F' z, Same F F' → Rep K ps b σ H' F' ρ → Dr K F' v z → Φ z → Q v H') → r x y H Q
def dOp (R : DO) (Ta Tb : DE) : DE := fun ρ Φ => Ta ρ fun x ρ1 => Tb ρ1 fun y ρ2 => R x y fun z => Φ z ρ2
theorem re_op {r : R2} {R : DO} {ta tb : TE} {Ta Tb : DE} (ho : RO K ps r R) (ha : RE K ps ta Ta) (hb : RE K ps tb Tb) : RE K ps (tOp r ta tb) (dOp R Ta Tb) := by
  intro b σ H F ρ Φ Q R0 hT k
  refine ha b σ H F ρ _ _ R0 hT fun x H1 F1 ρ1 d s1 R1 h1 hT => ?_
  refine hb b σ H1 F1 ρ1 _ _ R1 hT fun y H2 F2 ρ2 e s2 R2 h2 hT => ?_
  exact ho b σ H2 F2 ρ2 x y d e _ Q R2 (h1.up s2) h2 hT fun v H3 F3 z s3 R3 h3 hz => k v H3 F3 ρ2 z ((s1.trans s2).trans s3) R3 h3 hz
/-- .. that makes a list -/
def ROL (K : PySem.W.Frag) (ps : List Nat) (r : R2) (R : D → D → (List D → Prop) → Prop) : Prop := ∀ (b : Bs) (σ : St) (H F : Hp) (ρ : Env) (x y : V) (d e : D) (Φ : List D → Prop) (Q : VK), Rep K ps b σ H F ρ → Dr K F x d → Dr K F y e → R d e Φ →
  (∀ p xs H' F' ds, Same F F' → Rep K ps b σ H' F' ρ → Loose b σ F' ρ p → H' p = some (.lst xs) → DA K F' xs ds → Φ ds → Q (.ref p) H') → r x y H Q
def dOpL (R : D → D → (List D → Prop) → Prop) (Ta Tb : DE) : DLs := fun ρ Φ => Ta ρ fun x ρ1 => Tb ρ1 fun y ρ2 => R x y fun z => Φ z ρ2
theorem rl_op {r : R2} {R : D → D → (List D → Prop) → Prop} {ta tb : TE} {Ta Tb : DE} (ho : ROL K ps r R) (ha : RE K ps ta Ta) (hb : RE K ps tb Tb) : RL K ps (tOp r ta tb) (dOpL R Ta Tb) := by
  intro b σ H F ρ Φ Q R0 hT k
  refine ha b σ H F ρ _ _ R0 hT fun x H1 F1 ρ1 d s1 R1 h1 hT => ?_
  refine hb b σ H1 F1 ρ1 _ _ R1 hT fun y H2 F2 ρ2 e s2 R2 h2 hT => ?_
  exact ho b σ H2 F2 ρ2 x y d e _ Q R2 (h1.up s2) h2 hT fun p xs H3 F3 ds s3 R3 lo hx hd hz => k p xs H3 F3 ρ2 ds ((s1.trans s2).trans s3) R3 lo hx hd hz
def oI (C : Int → Int → Prop) (g : Int → Int → D) : DO := fun d e Φ => match d, e with
  | .int i, .int j => C i j ∧ Φ (g i j)
  | _, _ => False
theorem ro_I {C : Int → Int → Prop} {g : Int → Int → Int} : RO K ps (rI C fun i j => .int (g i j)) (oI C fun i j => .int (g i j)) := by
  intro b σ H F ρ x y d e Φ Q R h1 h2 hT k
  cases d <;> try exact hT.elim
  cases e <;> try exact hT.elim
  exact ⟨_, _, h1.inv_int, h2.inv_int, hT.1, k _ H F _ (Same.refl F) R (.int _) hT.2⟩
def oI0 (g : Int → Int → D) : DO := fun d e Φ => match d, e with
  | .int i, .int j => Φ (g i j)
  | _, _ => False
theorem ro_I0 {g : Int → Int → Int} : RO K ps (rI0 fun i j => .int (g i j)) (oI0 fun i j => .int (g i j)) := by
  intro b σ H F ρ x y d e Φ Q R h1 h2 hT k
  cases d <;> try exact hT.elim
  cases e <;> try exact hT.elim
  exact ⟨_, _, h1.inv_int, h2.inv_int, k _ H F _ (Same.refl F) R (.int _) hT⟩
theorem ro_B0 {g : Int → Int → Bool} : RO K ps (rI0 fun i j => .bl (g i j)) (oI0 fun i j => .bl (g i j)) := by
  intro b σ H F ρ x y d e Φ Q R h1 h2 hT k
  cases d <;> try exact hT.elim
  cases e <;> try exact hT.elim
  exact ⟨_, _, h1.inv_int, h2.inv_int, k _ H F _ (Same.refl F) R (.bl _) hT⟩
/-- == of small data -/
def eqS : D → D → Option Bool
  | .non, .non => some true | .non, .int _ => some false | .int _, .non => some false | .non, .bl _ => some false | .bl _, .non => some false | .non, .str _ => some false | .str _, .non => some false
  | .int i, .int j => some (decide (i = j)) | .bl i, .bl j => some (decide (i = j)) | .str i, .str j => some (decide (i = j))
  | .int _, .str _ => some false | .str _, .int _ => some false | .bl _, .str _ => some false | .str _, .bl _ => some false
  | _, _ => none
def oEqG (o : Option Bool) (Φ : D → Prop) : Prop := match o with
  | some c => Φ (.bl c)
  | none => False
def oNeG (o : Option Bool) (Φ : D → Prop) : Prop := match o with
  | some c => Φ (.bl (!c))
  | none => False
def oEq : DO := fun d e Φ => oEqG (eqS d e) Φ
def oNe : DO := fun d e Φ => oNeG (eqS d e) Φ
theorem eqS_ok {F : Hp} {x y : V} {d e : D} {c : Bool} (h1 : Dr K F x d) (h2 : Dr K F y e) (h : eqS d e = some c) : scal x y = true ∧ decide (x = y) = c := by
  cases d <;> cases e <;> first
    | (cases h; done)
    | (first | cases h1.inv_non | cases h1.inv_int | cases h1.inv_bl | cases h1.inv_str
       first | cases h2.inv_non | cases h2.inv_int | cases h2.inv_bl | cases h2.inv_str
       first
         | exact ⟨rfl, Option.some.inj h⟩
         | (refine ⟨rfl, ?_⟩
            have h3 := Option.some.inj h
            rw [← h3]
            simp))
theorem ro_eq : RO K ps rEq oEq := by
  intro b σ H F ρ x y d e Φ Q R h1 h2 hT k
  unfold oEq oEqG at hT
  split at hT
  · rename_i c hc
    obtain ⟨a1, a2⟩ := eqS_ok h1 h2 hc
    refine ⟨a1, ?_⟩
    rw [a2]
    exact k _ H F _ (Same.refl F) R (.bl c) hT
  · exact hT.elim
theorem ro_ne : RO K ps rNe oNe := by
  intro b σ H F ρ x y d e Φ Q R h1 h2 hT k
  unfold oNe oNeG at hT
  split at hT
  · rename_i c hc
    obtain ⟨a1, a2⟩ := eqS_ok h1 h2 hc
    refine ⟨a1, ?_⟩
    rw [a2]
    exact k _ H F _ (Same.refl F) R (.bl (!c)) hT
  · exact hT.elim
def isNon : D → Bool
  | .non => true
  | _ => false
theorem isNon_ok {F : Hp} {x : V} {d : D} (h : Dr K F x d) : decide (x = .non) = isNon d := by
  cases h <;> rfl
def oIsN : DO := fun d e Φ => isNon e = true ∧ Φ (.bl (isNon d))
def oNotN : DO := fun d e Φ => isNon e = true ∧ Φ (.bl (!isNon d))
theorem ro_isN : RO K ps (fun x y H Q => y = .non ∧ Q (.bl (decide (x = .non))) H) oIsN := by
  intro b σ H F ρ x y d e Φ Q R h1 h2 hT k
  obtain ⟨he, hT⟩ := hT
  have h3 := isNon_ok h2
  rw [he] at h3
  refine ⟨of_decide_eq_true h3, ?_⟩
  rw [isNon_ok h1]
  exact k _ H F _ (Same.refl F) R (.bl _) hT
theorem ro_notN : RO K ps (fun x y H Q => y = .non ∧ Q (.bl (!decide (x = .non))) H) oNotN := by
  intro b σ H F ρ x y d e Φ Q R h1 h2 hT k
  obtain ⟨he, hT⟩ := hT
  have h3 := isNon_ok h2
  rw [he] at h3
  refine ⟨of_decide_eq_true h3, ?_⟩
  rw [isNon_ok h1]
  exact k _ H F _ (Same.refl F) R (.bl _) hT
/-- texts put together -/
def oCatS : DO := fun d e Φ => match d, e with
  | .str i, .str j => i.length + j.length ≤ sizeLine ∧ Φ (.str (i ++ j))
  | _, _ => False
theorem ro_catS : RO K ps (fun x y H Q => ∃ i j, x = .str i ∧ y = .str j ∧ i.length + j.length ≤ sizeLine ∧ Q (.str (i ++ j)) H) oCatS := by
  intro b σ H F ρ x y d e Φ Q R h1 h2 hT k
  cases d <;> try exact hT.elim
  cases e <;> try exact hT.elim
  exact ⟨_, _, h1.inv_str, h2.inv_str, hT.1, k _ H F _ (Same.refl F) R (.str _) hT.2⟩
/-- lists put together -/
def oCat : D → D → (List D → Prop) → Prop := fun d e Φ => match d, e with
  | .lst i, .lst j => i.length + j.length ≤ sizeLine ∧ Φ (i ++ j)
  | _, _ => False
theorem rol_cat : ROL K ps rCat oCat := by
  intro b σ H F ρ x y d e Φ Q R h1 h2 hT k
  cases d <;> try exact hT.elim
  cases e <;> try exact hT.elim
  obtain ⟨a, xs, rfl, ea, ha⟩ := h1.inv_lst
  obtain ⟨c, ys, rfl, ec, hc⟩ := h2.inv_lst
  refine ⟨a, c, xs, ys, rfl, rfl, R.sub _ _ ea, R.sub _ _ ec, by rw [ha.1, hc.1]; exact hT.1, fun p hp => ?_⟩
  exact k p _ _ F _ (Same.refl F) (R.put hp) (R.loose hp) upd_same (ha.app hc) hT.2
end
end DL
/-! Part 4: more of what expressions come to. -/
namespace DL
variable [Tbs]
open PySem PySem.Spec PyProof.Rows L2
section
variable {X : Cx}
/-- k in d, any key -/
def rInDK : R2 := fun x y H Q => ∃ a o, y = .ref a ∧ DGet H a x o ∧ Q (.bl o.isSome) H
def rNotInDK : R2 := fun x y H Q => ∃ a o, y = .ref a ∧ DGet H a x o ∧ Q (.bl (!o.isSome)) H
theorem op_inDK (hu : X.A.units + 1 < cLine) : OpR X (compareOp .In) rInDK := by
  intro pins s σ H x y v u Q I rx ry h
  obtain ⟨a, o, rfl, e, q⟩ := h
  cases ry
  exact d_in hu I e rx fun s' I' => ⟨.bl _, H, I', rfl, q⟩
theorem op_notInDK (hu : X.A.units + 1 < cLine) : OpR X (compareOp .NotIn) rNotInDK := by
  intro pins s σ H x y v u Q I rx ry h
  obtain ⟨a, o, rfl, e, q⟩ := h
  cases ry
  exact d_notIn hu I e rx fun s' I' => ⟨.bl _, H, I', rfl, q⟩
end
section
variable {K : PySem.W.Frag} {ps : List Nat}
/-! ### tuples put together -/
def oCatT : DO := fun d e Φ => match d, e with
  | .tup i, .tup j => i.length + j.length ≤ sizeLine ∧ Φ (.tup (i ++ j))
  | _, _ => False
theorem ro_catT : RO K ps (rCatA K) oCatT := by
  intro b σ H F ρ x y d e Φ Q R h1 h2 hT k
  cases d <;> try exact hT.elim
  cases e <;> try exact hT.elim
  rename_i i j
  obtain ⟨a, xs, rfl, ea, ha⟩ := h1.inv_tup
  obtain ⟨c, ys, rfl, ec, hc⟩ := h2.inv_tup
  have up : ∀ {q : Addr} {zs : List V}, SqT K F q zs → SqT K H q zs := fun h => sqT_same R.sub h
  refine ⟨a, c, xs, ys, rfl, rfl, up ea, up ec, by rw [ha.1, hc.1]; exact hT.1, fun hx => ?_, fun _ hy => ?_, fun _ _ p hp => ?_⟩
  · subst hx
    have hi : i = [] := List.length_eq_zero_iff.mp ha.1.symm
    subst hi
    exact k _ H F _ (Same.refl F) R h2 hT.2
  · subst hy
    have hj : j = [] := List.length_eq_zero_iff.mp hc.1.symm
    subst hj
    refine k _ H F (.tup i) (Same.refl F) R h1 ?_
    have := hT.2
    rwa [List.append_nil] at this
  · obtain ⟨hF, _⟩ := R.fresh hp
    have sF : Same F (upd F p (.tup (xs ++ ys))) := SX.same_upd hF
    exact k _ _ _ _ sF (R.alloc hp) (.tup (SqT.of upd_same) (ha.app hc).1 fun j v d a c' => ((ha.app hc).2 j v d a c').up sF) hT.2
/-! ### arguments -/
def dNil : DLs := fun ρ Φ => Φ [] ρ
theorem rv_nil : RV K ps tNil dNil := fun b σ H F ρ Φ Q R hT k => k [] H F ρ [] (Same.refl F) R .nil hT
def dCons (Ta : DE) (Tr : DLs) : DLs := fun ρ Φ => Ta ρ fun x ρ1 => Tr ρ1 fun xs ρ2 => Φ (x :: xs) ρ2
theorem rv_cons {ta : TE} {tr : TA} {Ta : DE} {Tr : DLs} (ha : RE K ps ta Ta) (hr : RV K ps tr Tr) : RV K ps (tCons ta tr) (dCons Ta Tr) := by
  intro b σ H F ρ Φ Q R0 hT k
  refine ha b σ H F ρ _ _ R0 hT fun x H1 F1 ρ1 d s1 R1 h1 hT => ?_
  exact hr b σ H1 F1 ρ1 _ _ R1 hT fun xs H2 F2 ρ2 ds s2 R2 h2 hT => k _ H2 F2 ρ2 _ (s1.trans s2) R2 (.cons (h1.up s2) h2) hT
def dANil : DAs := fun ρ Φ => Φ [] ρ
theorem ra_nil : RA K ps tNil dANil := fun b σ H F ρ Φ Q R hT k => k [] H F ρ [] (Same.refl F) R .nil hT
theorem ArgRel.up {σ : St} {F F' : Hp} (s : Same F F') {vs : List V} {as : List AV} (h : ArgRel K σ F vs as) : ArgRel K σ F' vs as := by
  induction h with
  | nil => exact .nil
  | v h _ ih => exact .v (h.up s) ih
  | s h _ ih => exact .s h ih
def dACons (Ta : DE) (Tr : DAs) : DAs := fun ρ Φ => Ta ρ fun x ρ1 => Tr ρ1 fun xs ρ2 => Φ (.v x :: xs) ρ2
theorem ra_cons {ta : TE} {tr : TA} {Ta : DE} {Tr : DAs} (ha : RE K ps ta Ta) (hr : RA K ps tr Tr) : RA K ps (tCons ta tr) (dACons Ta Tr) := by
  intro b σ H F ρ Φ Q R0 hT k
  refine ha b σ H F ρ _ _ R0 hT fun x H1 F1 ρ1 d s1 R1 h1 hT => ?_
  exact hr b σ H1 F1 ρ1 _ _ R1 hT fun xs H2 F2 ρ2 ds s2 R2 h2 hT => k _ H2 F2 ρ2 _ (s1.trans s2) R2 (.v (h1.up s2) h2) hT
/-- the own thing in slot i -/
def dASlot (i : Nat) (Tr : DAs) : DAs := fun ρ Φ => (ρ[i]?.join).isSome = true ∧ Tr ρ fun xs ρ2 => Φ (.s i :: xs) ρ2
theorem slot_some {b : Bs} {σ : St} {H F : Hp} {ρ : Env} (R : Rep K ps b σ H F ρ) {i : Nat} (h : (ρ[i]?.join).isSome = true) : ∃ v, σ[i]? = some (some v) := by
  cases e : ρ[i]? with
  | none => rw [e] at h; cases h
  | some o =>
    cases o with
    | none => rw [e] at h; cases h
    | some o =>
      obtain ⟨v, h1, _⟩ := R.slot i o e
      exact ⟨v, h1⟩
theorem ra_slot {i : Nat} {tr : TA} {Tr : DAs} (hr : RA K ps tr Tr) : RA K ps (tCons (tVar i) tr) (dASlot i Tr) := by
  intro b σ H F ρ Φ Q R0 hT k
  obtain ⟨v, hv⟩ := slot_some R0 hT.1
  exact ⟨v, hv, hr b σ H F ρ _ _ R0 hT.2 fun xs H2 F2 ρ2 as s2 R2 h2 hT => k _ H2 F2 ρ2 _ s2 R2 (.s hv h2) hT⟩
/-! ### displays -/
def dTup (T : DLs) : DE := fun ρ Φ => T ρ fun ds ρ' => ds.length ≤ sizeLine ∧ Φ (.tup ds) ρ'
theorem re_tup {t : TA} {T : DLs} (h : RV K ps t T) : RE K ps (tTup t) (dTup T) := by
  intro b σ H F ρ Φ Q R0 hT k
  refine h b σ H F ρ _ _ R0 hT fun xs H1 F1 ρ1 ds s1 R1 h1 hT => ⟨by rw [h1.1]; exact hT.1, fun p hp => ?_⟩
  obtain ⟨hF, _⟩ := R1.fresh hp
  have sF : Same F1 (upd F1 p (.tup xs)) := SX.same_upd hF
  exact k _ _ _ ρ1 _ (s1.trans sF) (R1.alloc hp) (.tup (SqT.of upd_same) h1.1 fun j v d a c => (h1.2 j v d a c).up sF) hT.2
def dLst (T : DLs) : DLs := fun ρ Φ => T ρ fun ds ρ' => ds.length ≤ sizeLine ∧ Φ ds ρ'
theorem rl_lst {t : TA} {T : DLs} (h : RV K ps t T) : RL K ps (tLst t) (dLst T) := by
  intro b σ H F ρ Φ Q R0 hT k
  refine h b σ H F ρ _ _ R0 hT fun xs H1 F1 ρ1 ds s1 R1 h1 hT => ⟨by rw [h1.1]; exact hT.1, fun p hp => ?_⟩
  exact k p xs _ F1 ρ1 ds s1 (R1.put hp) (R1.loose hp) upd_same h1 hT.2
def dNewD : DDs := fun ρ Φ => Φ [] ρ
theorem rd_new : RD K ps tDNewK dNewD := by
  intro b σ H F ρ Φ Q R0 hT k
  exact fun p hp => k p [] _ F ρ [] (Same.refl F) (R0.put hp) (R0.loose hp) upd_same .nil hT
/-! ### places -/
def oIx : DO := fun d e Φ => match d, e with
  | .tup ds, .int i => ∃ x, atI ds i = some x ∧ Φ x
  | .lst ds, .int i => ∃ x, atI ds i = some x ∧ Φ x
  | _, _ => False
def oIxT : DO := fun d e Φ => match d, e with
  | .tup ds, .int i => ∃ x, atI ds i = some x ∧ Φ x
  | _, _ => False
theorem ro_ixT : RO K ps (rIxT K) oIxT := by
  intro b σ H F ρ x y d e Φ Q R h1 h2 hT k
  cases d <;> try exact hT.elim
  cases e <;> try exact hT.elim
  obtain ⟨z, hz, hT⟩ := hT
  obtain ⟨a, xs, rfl, ea, ha⟩ := h1.inv_tup
  obtain ⟨v, hv, hd⟩ := ha.atI hz
  exact ⟨a, xs, _, v, rfl, h2.inv_int, sqT_same R.sub ea, hv, k v H F z (Same.refl F) R hd hT⟩
def oIxL : DO := fun d e Φ => match d, e with
  | .lst ds, .int i => ∃ x, atI ds i = some x ∧ Φ x
  | _, _ => False
theorem ro_ixL : RO K ps (rIxL K) oIxL := by
  intro b σ H F ρ x y d e Φ Q R h1 h2 hT k
  cases d <;> try exact hT.elim
  cases e <;> try exact hT.elim
  obtain ⟨z, hz, hT⟩ := hT
  obtain ⟨a, xs, rfl, ea, ha⟩ := h1.inv_lst
  obtain ⟨v, hv, hd⟩ := ha.atI hz
  exact ⟨a, xs, _, v, rfl, h2.inv_int, SqL.of (R.sub _ _ ea), hv, k v H F z (Same.refl F) R hd hT⟩
theorem ro_ix : RO K ps (rIx K) oIx := by
  intro b σ H F ρ x y d e Φ Q R h1 h2 hT k
  cases d <;> try exact hT.elim
  · cases e <;> try exact hT.elim
    exact .inr (.inl (ro_ixT b σ H F ρ x y _ _ Φ Q R h1 h2 hT k))
  · cases e <;> try exact hT.elim
    exact .inl (ro_ixL b σ H F ρ x y _ _ Φ Q R h1 h2 hT k)
/-- what stands in slot i, as it is now -/
def peekG (o : Option (Option OV)) : Option D := match o with
  | some (some (.d d)) => some d
  | some (some (.l ds)) => some (.lst ds)
  | some (some (.m ks)) => some (.dct ks)
  | _ => none
def peek (ρ : Env) (i : Nat) : Option D := peekG ρ[i]?
/-- the list in slot i, not kept -/
theorem peek_lst {b : Bs} {σ : St} {H F : Hp} {ρ : Env} (R : Rep K ps b σ H F ρ) {i : Nat} {ds : List D} (h : peek ρ i = some (.lst ds)) {v : V} (hv : σ[i]? = some (some v)) : ∃ a xs, v = .ref a ∧ H a = some (.lst xs) ∧ DA K F xs ds := by
  unfold peek peekG at h
  split at h
  · rename_i d e
    cases h
    obtain ⟨w, h1, h2⟩ := R.slot i _ e
    rw [hv] at h1
    cases h1
    obtain ⟨a, xs, rfl, e1, e2⟩ := Dr.inv_lst h2
    exact ⟨a, xs, rfl, R.sub _ _ e1, e2⟩
  · rename_i ds' e
    cases h
    obtain ⟨p, h1, _, _, xs, e1, e2⟩ := R.own e rfl
    rw [hv] at h1
    cases h1
    exact ⟨p, xs, rfl, e1, e2⟩
  · cases h
  · cases h
theorem peek_dct {b : Bs} {σ : St} {H F : Hp} {ρ : Env} (R : Rep K ps b σ H F ρ) {i : Nat} {ds : List (Key × D)} (h : peek ρ i = some (.dct ds)) {v : V} (hv : σ[i]? = some (some v)) : ∃ a xs, v = .ref a ∧ H a = some (.dK xs) ∧ DM K F xs ds := by
  unfold peek peekG at h
  split at h
  · rename_i d e
    cases h
    obtain ⟨w, h1, h2⟩ := R.slot i _ e
    rw [hv] at h1
    cases h1
    obtain ⟨a, xs, rfl, e1, e2⟩ := Dr.inv_dct h2
    exact ⟨a, xs, rfl, R.sub _ _ e1, e2⟩
  · cases h
  · rename_i ds' e
    cases h
    obtain ⟨p, h1, _, _, xs, e1, e2⟩ := R.own e rfl
    rw [hv] at h1
    cases h1
    exact ⟨p, xs, rfl, e1, e2⟩
  · cases h
/-- x[e], x the slot's list -/
def dIxS (i : Nat) (Tb : DE) : DE := fun ρ Φ => (ρ[i]?.join).isSome = true ∧ Tb ρ fun y ρ2 => ∃ ds j x, peek ρ2 i = some (.lst ds) ∧ y = .int j ∧ atI ds j = some x ∧ Φ x ρ2
theorem re_ixS {i : Nat} {tb : TE} {Tb : DE} (hb : RE K ps tb Tb) : RE K ps (tOp (rIxL K) (tVar i) tb) (dIxS i Tb) := by
  intro b σ H F ρ Φ Q R0 hT k
  obtain ⟨v, hv⟩ := slot_some R0 hT.1
  refine ⟨v, hv, hb b σ H F ρ _ _ R0 hT.2 fun y H2 F2 ρ2 e s2 R2 h2 hT => ?_⟩
  obtain ⟨ds, j, x, hp, rfl, hx, hT⟩ := hT
  obtain ⟨a, xs, rfl, ea, ha⟩ := peek_lst R2 hp hv
  obtain ⟨w, hw, hd⟩ := ha.atI hx
  exact ⟨a, xs, j, w, rfl, h2.inv_int, SqL.of ea, hw, k w H2 F2 ρ2 x s2 R2 hd hT⟩
theorem re_ixS' {i : Nat} {tb : TE} {Tb : DE} (hb : RE K ps tb Tb) : RE K ps (tOp (rIx K) (tVar i) tb) (dIxS i Tb) := by
  intro b σ H F ρ Φ Q R0 hT k
  obtain ⟨v, hv⟩ := slot_some R0 hT.1
  refine ⟨v, hv, hb b σ H F ρ _ _ R0 hT.2 fun y H2 F2 ρ2 e s2 R2 h2 hT => ?_⟩
  obtain ⟨ds, j, x, hp, rfl, hx, hT⟩ := hT
  obtain ⟨a, xs, rfl, ea, ha⟩ := peek_lst R2 hp hv
  obtain ⟨w, hw, hd⟩ := ha.atI hx
  exact .inl ⟨a, xs, j, w, rfl, h2.inv_int, SqL.of ea, hw, k w H2 F2 ρ2 x s2 R2 hd hT⟩
/-! ### in -/
def flatD : D → Bool
  | .non | .bl _ | .int _ | .str _ => true
  | _ => false
def eqD : D → D → Bool
  | .non, .non => true
  | .bl a, .bl b => a == b
  | .bl a, .int b => (if a then 1 else 0) == b
  | .int a, .bl b => a == (if b then 1 else 0)
  | .int a, .int b => a == b
  | .str a, .str b => a == b
  | _, _ => false
def inD (x : D) (xs : List D) : Bool := xs.any fun y => eqD y x
theorem flat_ok {F : Hp} {v : V} {d : D} (h : Dr K F v d) (f : flatD d = true) : flatV v = true := by
  cases h <;> first | rfl | cases f
theorem eqD_ok {F : Hp} {v w : V} {d e : D} (h : Dr K F v d) (h2 : Dr K F w e) (f : flatD d = true) (f2 : flatD e = true) : eqV v w = eqD d e := by
  cases h <;> first | (cases f; done) | (cases h2 <;> first | rfl | cases f2)
theorem inD_ok {F : Hp} {v : V} {d : D} (h : Dr K F v d) (f : flatD d = true) : ∀ {ds : List D} {xs : List V}, DA K F xs ds → ds.all flatD = true → xs.all flatV = true ∧ inV v xs = inD d ds
  | [], xs, hd, _ => by
    rw [hd.inv_nil]
    exact ⟨rfl, rfl⟩
  | e :: ds, xs, hd, ha => by
    obtain ⟨w, r, rfl, h1, h2⟩ := hd.inv
    rw [List.all_cons, Bool.and_eq_true] at ha
    obtain ⟨i1, i2⟩ := inD_ok h f h2 ha.2
    refine ⟨by rw [List.all_cons, flat_ok h1 ha.1, i1]; rfl, ?_⟩
    show (eqV w v || inV v r) = (eqD e d || inD d ds)
    rw [eqD_ok h1 h ha.1 f, i2]
def seqD : D → Option (List D)
  | .tup ds => some ds
  | .lst ds => some ds
  | _ => none
def oIn (neg : Bool) : DO := fun d e Φ => ∃ ds, seqD e = some ds ∧ flatD d = true ∧ ds.all flatD = true ∧ Φ (.bl (if neg then !inD d ds else inD d ds))
theorem ro_in {neg : Bool} : RO K ps (rIn K neg) (oIn neg) := by
  intro b σ H F ρ x y d e Φ Q R h1 h2 hT k
  obtain ⟨ds, hs, fd, fs, hT⟩ := hT
  cases e <;> try (cases hs; done)
  · cases hs
    obtain ⟨a, xs, rfl, ea, ha⟩ := h2.inv_tup
    obtain ⟨i1, i2⟩ := inD_ok h1 fd ha fs
    refine ⟨a, xs, rfl, .inr (sqT_same R.sub ea), flat_ok h1 fd, i1, ?_⟩
    rw [i2]
    exact k _ H F _ (Same.refl F) R (.bl _) hT
  · cases hs
    obtain ⟨a, xs, rfl, ea, ha⟩ := h2.inv_lst
    obtain ⟨i1, i2⟩ := inD_ok h1 fd ha fs
    refine ⟨a, xs, rfl, .inl (SqL.of (R.sub _ _ ea)), flat_ok h1 fd, i1, ?_⟩
    rw [i2]
    exact k _ H F _ (Same.refl F) R (.bl _) hT
/-! ### dicts -/
def keyD : D → Option Key
  | .int i => some (.inl i)
  | .str x => some (.inr x)
  | _ => none
theorem keyD_ok {F : Hp} {v : V} {d : D} {k : Key} (h : Dr K F v d) (e : keyD d = some k) : v = kV k := by
  cases h <;> first | (cases e; done) | (cases e; rfl)
theorem dget_ok {F H : Hp} {a : Addr} {v : V} {d : D} {k : Key} {xs : List (Key × V)} {ds : List (Key × D)} (h : Dr K F v d) (e : keyD d = some k) (hd : DM K F xs ds) (ha : H a = some (.dK xs)) : match valD ds k with
    | none => DGet H a v none
    | some z => ∃ w, DGet H a v (some w) ∧ Dr K F w z := by
  have m := hd.val (k := k)
  rw [keyD_ok h e]
  have g := DGet.k (k := k) ha
  cases e1 : valD ds k with
  | none =>
    rw [e1] at m
    rw [show valV xs k = none from m] at g
    exact g
  | some z =>
    rw [e1] at m
    obtain ⟨w, h1, h2⟩ := (show ∃ v, valV xs k = some v ∧ Dr K F v z from m)
    rw [h1] at g
    exact ⟨w, g, h2⟩
/-- k in x, x the slot's dict -/
def dInS (neg : Bool) (Ta : DE) (i : Nat) : DE := fun ρ Φ => Ta ρ fun x ρ1 => ∃ ds k, peek ρ1 i = some (.dct ds) ∧ keyD x = some k ∧ Φ (.bl (if neg then !(valD ds k).isSome else (valD ds k).isSome)) ρ1
theorem peek_some {ρ : Env} {i : Nat} {d : D} (h : peek ρ i = some d) : (ρ[i]?.join).isSome = true := by
  unfold peek peekG at h
  split at h <;> first | (rename_i e; rw [e]; rfl) | cases h
theorem re_inS {i : Nat} {ta : TE} {Ta : DE} (ha : RE K ps ta Ta) : RE K ps (tOp rInDK ta (tVar i)) (dInS false Ta i) := by
  intro b σ H F ρ Φ Q R0 hT k
  refine ha b σ H F ρ _ _ R0 hT fun x H1 F1 ρ1 d s1 R1 h1 hT => ?_
  obtain ⟨ds, key, hp, hk, hT⟩ := hT
  obtain ⟨v, hv⟩ := slot_some R1 (peek_some hp)
  obtain ⟨a, xs, rfl, ea, hm⟩ := peek_dct R1 hp hv
  have g := dget_ok h1 hk hm ea
  cases e : valD ds key with
  | none =>
    rw [e] at g hT
    exact ⟨_, hv, a, none, rfl, g, k _ H1 F1 ρ1 _ s1 R1 (.bl _) hT⟩
  | some z =>
    rw [e] at g hT
    obtain ⟨w, g, _⟩ := g
    exact ⟨_, hv, a, some w, rfl, g, k _ H1 F1 ρ1 _ s1 R1 (.bl _) hT⟩
theorem re_notInS {i : Nat} {ta : TE} {Ta : DE} (ha : RE K ps ta Ta) : RE K ps (tOp rNotInDK ta (tVar i)) (dInS true Ta i) := by
  intro b σ H F ρ Φ Q R0 hT k
  refine ha b σ H F ρ _ _ R0 hT fun x H1 F1 ρ1 d s1 R1 h1 hT => ?_
  obtain ⟨ds, key, hp, hk, hT⟩ := hT
  obtain ⟨v, hv⟩ := slot_some R1 (peek_some hp)
  obtain ⟨a, xs, rfl, ea, hm⟩ := peek_dct R1 hp hv
  have g := dget_ok h1 hk hm ea
  cases e : valD ds key with
  | none =>
    rw [e] at g hT
    exact ⟨_, hv, a, none, rfl, g, k _ H1 F1 ρ1 _ s1 R1 (.bl _) hT⟩
  | some z =>
    rw [e] at g hT
    obtain ⟨w, g, _⟩ := g
    exact ⟨_, hv, a, some w, rfl, g, k _ H1 F1 ρ1 _ s1 R1 (.bl _) hT⟩
def oInD (neg : Bool) : DO := fun d e Φ => match e with
  | .dct ds => ∃ k, keyD d = some k ∧ Φ (.bl (if neg then !(valD ds k).isSome else (valD ds k).isSome))
  | _ => False
theorem ro_inD : RO K ps rInDK (oInD false) := by
  intro b σ H F ρ x y d e Φ Q R h1 h2 hT k
  cases e <;> try exact hT.elim
  obtain ⟨key, hk, hT⟩ := hT
  obtain ⟨a, xs, rfl, ea, hm⟩ := h2.inv_dct
  have g := dget_ok h1 hk hm (R.sub _ _ ea)
  rename_i ds
  cases e : valD ds key with
  | none =>
    rw [e] at g hT
    exact ⟨a, none, rfl, g, k _ H F _ (Same.refl F) R (.bl _) hT⟩
  | some z =>
    rw [e] at g hT
    obtain ⟨w, g, _⟩ := g
    exact ⟨a, some w, rfl, g, k _ H F _ (Same.refl F) R (.bl _) hT⟩
theorem ro_notInD : RO K ps rNotInDK (oInD true) := by
  intro b σ H F ρ x y d e Φ Q R h1 h2 hT k
  cases e <;> try exact hT.elim
  obtain ⟨key, hk, hT⟩ := hT
  obtain ⟨a, xs, rfl, ea, hm⟩ := h2.inv_dct
  have g := dget_ok h1 hk hm (R.sub _ _ ea)
  rename_i ds
  cases e : valD ds key with
  | none =>
    rw [e] at g hT
    exact ⟨a, none, rfl, g, k _ H F _ (Same.refl F) R (.bl _) hT⟩
  | some z =>
    rw [e] at g hT
    obtain ⟨w, g, _⟩ := g
    exact ⟨a, some w, rfl, g, k _ H F _ (Same.refl F) R (.bl _) hT⟩
/-- x[k], a dict -/
def dDGet (Td Ty : DE) : DE := fun ρ Φ => Td ρ fun x ρ1 => Ty ρ1 fun y ρ2 => ∃ ds k z, x = .dct ds ∧ keyD y = some k ∧ valD ds k = some z ∧ Φ z ρ2
theorem re_dget {td ty : TE} {Td Ty : DE} (hd : RE K ps td Td) (hy : RE K ps ty Ty) : RE K ps (tDGet td ty) (dDGet Td Ty) := by
  intro b σ H F ρ Φ Q R0 hT k
  refine hd b σ H F ρ _ _ R0 hT fun x H1 F1 ρ1 d s1 R1 h1 hT => ?_
  refine hy b σ H1 F1 ρ1 _ _ R1 hT fun y H2 F2 ρ2 e s2 R2 h2 hT => ?_
  obtain ⟨ds, key, z, rfl, hk, hz, hT⟩ := hT
  obtain ⟨a, xs, rfl, ea, hm⟩ := (h1.up s2).inv_dct
  have g := dget_ok h2 hk hm (R2.sub _ _ ea)
  rw [hz] at g
  obtain ⟨w, g, hw⟩ := g
  exact ⟨a, w, rfl, g, k w H2 F2 ρ2 z (s1.trans s2) R2 hw hT⟩
def dDGetS (i : Nat) (Ty : DE) : DE := fun ρ Φ => (ρ[i]?.join).isSome = true ∧ Ty ρ fun y ρ2 => ∃ ds k z, peek ρ2 i = some (.dct ds) ∧ keyD y = some k ∧ valD ds k = some z ∧ Φ z ρ2
theorem re_dgetS {i : Nat} {ty : TE} {Ty : DE} (hy : RE K ps ty Ty) : RE K ps (tDGet (tVar i) ty) (dDGetS i Ty) := by
  intro b σ H F ρ Φ Q R0 hT k
  obtain ⟨v, hv⟩ := slot_some R0 hT.1
  refine ⟨v, hv, hy b σ H F ρ _ _ R0 hT.2 fun y H2 F2 ρ2 e s2 R2 h2 hT => ?_⟩
  obtain ⟨ds, key, z, hp, hk, hz, hT⟩ := hT
  obtain ⟨a, xs, rfl, ea, hm⟩ := peek_dct R2 hp hv
  have g := dget_ok h2 hk hm ea
  rw [hz] at g
  obtain ⟨w, g, hw⟩ := g
  exact ⟨a, w, rfl, g, k w H2 F2 ρ2 z s2 R2 hw hT⟩
/-- x.get(k), x.get(k, z): the slot's dict -/
def dGet1S (i : Nat) (Ty : DE) : DE := fun ρ Φ => (∃ ds, peek ρ i = some (.dct ds)) ∧ Ty ρ fun y ρ2 => ∃ ds k, peek ρ2 i = some (.dct ds) ∧ keyD y = some k ∧ Φ ((valD ds k).getD .non) ρ2
theorem re_get1S {i : Nat} {ty : TE} {Ty : DE} (hy : RE K ps ty Ty) : RE K ps (tDGet1 (tVar i) ty) (dGet1S i Ty) := by
  intro b σ H F ρ Φ Q R0 hT k
  obtain ⟨⟨ds0, hp0⟩, hT⟩ := hT
  obtain ⟨v, hv⟩ := slot_some R0 (peek_some hp0)
  obtain ⟨a, xs0, rfl, ea0, _⟩ := peek_dct R0 hp0 hv
  refine ⟨_, hv, a, rfl, .inl ⟨xs0, .inl ea0⟩, hy b σ H F ρ _ _ R0 hT fun y H2 F2 ρ2 e s2 R2 h2 hT => ?_⟩
  obtain ⟨ds, key, hp, hk, hT⟩ := hT
  obtain ⟨a', xs, ea', ea, hm⟩ := peek_dct R2 hp hv
  cases ea'
  have g := dget_ok h2 hk hm ea
  cases e : valD ds key with
  | none =>
    rw [e] at g hT
    exact ⟨none, g, k _ H2 F2 ρ2 _ s2 R2 .non hT⟩
  | some z =>
    rw [e] at g hT
    obtain ⟨w, g, hw⟩ := g
    exact ⟨some w, g, k _ H2 F2 ρ2 _ s2 R2 hw hT⟩
def dGet2S (i : Nat) (Ty Tz : DE) : DE := fun ρ Φ => (∃ ds, peek ρ i = some (.dct ds)) ∧ Ty ρ fun y ρ1 => Tz ρ1 fun z ρ2 => ∃ ds k, peek ρ2 i = some (.dct ds) ∧ keyD y = some k ∧ Φ ((valD ds k).getD z) ρ2
theorem re_get2S {i : Nat} {ty tz : TE} {Ty Tz : DE} (hy : RE K ps ty Ty) (hz : RE K ps tz Tz) : RE K ps (tDGet2 (tVar i) ty tz) (dGet2S i Ty Tz) := by
  intro b σ H F ρ Φ Q R0 hT k
  obtain ⟨⟨ds0, hp0⟩, hT⟩ := hT
  obtain ⟨v, hv⟩ := slot_some R0 (peek_some hp0)
  obtain ⟨a, xs0, rfl, ea0, _⟩ := peek_dct R0 hp0 hv
  refine ⟨_, hv, a, rfl, .inl ⟨xs0, .inl ea0⟩, hy b σ H F ρ _ _ R0 hT fun y H1 F1 ρ1 e s1 R1 h1 hT => ?_⟩
  refine hz b σ H1 F1 ρ1 _ _ R1 hT fun z H2 F2 ρ2 f s2 R2 h2 hT => ?_
  obtain ⟨ds, key, hp, hk, hT⟩ := hT
  obtain ⟨a', xs, ea', ea, hm⟩ := peek_dct R2 hp hv
  cases ea'
  have g := dget_ok (h1.up s2) hk hm ea
  cases e : valD ds key with
  | none =>
    rw [e] at g hT
    exact ⟨none, g, k _ H2 F2 ρ2 _ (s1.trans s2) R2 h2 hT⟩
  | some z =>
    rw [e] at g hT
    obtain ⟨w, g, hw⟩ := g
    exact ⟨some w, g, k _ H2 F2 ρ2 _ (s1.trans s2) R2 hw hT⟩
def dGet1 (Td Ty : DE) : DE := fun ρ Φ => Td ρ fun x ρ1 => ∃ ds, x = .dct ds ∧ Ty ρ1 fun y ρ2 => ∃ k, keyD y = some k ∧ Φ ((valD ds k).getD .non) ρ2
theorem re_get1 {td ty : TE} {Td Ty : DE} (hd : RE K ps td Td) (hy : RE K ps ty Ty) : RE K ps (tDGet1 td ty) (dGet1 Td Ty) := by
  intro b σ H F ρ Φ Q R0 hT k
  refine hd b σ H F ρ _ _ R0 hT fun x H1 F1 ρ1 d s1 R1 h1 hT => ?_
  obtain ⟨ds, rfl, hT⟩ := hT
  obtain ⟨a, xs, rfl, ea, hm⟩ := h1.inv_dct
  refine ⟨a, rfl, .inl ⟨xs, .inl (R1.sub _ _ ea)⟩, hy b σ H1 F1 ρ1 _ _ R1 hT fun y H2 F2 ρ2 e s2 R2 h2 hT => ?_⟩
  obtain ⟨key, hk, hT⟩ := hT
  have g := dget_ok h2 hk (hm.up s2) (R2.sub _ _ (s2 _ _ ea))
  cases e : valD ds key with
  | none =>
    rw [e] at g hT
    exact ⟨none, g, k _ H2 F2 ρ2 _ (s1.trans s2) R2 .non hT⟩
  | some z =>
    rw [e] at g hT
    obtain ⟨w, g, hw⟩ := g
    exact ⟨some w, g, k _ H2 F2 ρ2 _ (s1.trans s2) R2 hw hT⟩
def dGet2 (Td Ty Tz : DE) : DE := fun ρ Φ => Td ρ fun x ρ1 => ∃ ds, x = .dct ds ∧ Ty ρ1 fun y ρ2 => Tz ρ2 fun z ρ3 => ∃ k, keyD y = some k ∧ Φ ((valD ds k).getD z) ρ3
theorem re_get2 {td ty tz : TE} {Td Ty Tz : DE} (hd : RE K ps td Td) (hy : RE K ps ty Ty) (hz : RE K ps tz Tz) : RE K ps (tDGet2 td ty tz) (dGet2 Td Ty Tz) := by
  intro b σ H F ρ Φ Q R0 hT k
  refine hd b σ H F ρ _ _ R0 hT fun x H1 F1 ρ1 d s1 R1 h1 hT => ?_
  obtain ⟨ds, rfl, hT⟩ := hT
  obtain ⟨a, xs, rfl, ea, hm⟩ := h1.inv_dct
  refine ⟨a, rfl, .inl ⟨xs, .inl (R1.sub _ _ ea)⟩, hy b σ H1 F1 ρ1 _ _ R1 hT fun y H2 F2 ρ2 e s2 R2 h2 hT => ?_⟩
  refine hz b σ H2 F2 ρ2 _ _ R2 hT fun z H3 F3 ρ3 f s3 R3 h3 hT => ?_
  obtain ⟨key, hk, hT⟩ := hT
  have s23 := s2.trans s3
  have g := dget_ok (h2.up s3) hk (hm.up s23) (R3.sub _ _ (s23 _ _ ea))
  cases e : valD ds key with
  | none =>
    rw [e] at g hT
    exact ⟨none, g, k _ H3 F3 ρ3 _ (s1.trans s23) R3 h3 hT⟩
  | some z =>
    rw [e] at g hT
    obtain ⟨w, g, hw⟩ := g
    exact ⟨some w, g, k _ H3 F3 ρ3 _ (s1.trans s23) R3 hw hT⟩
/-! ### tests, and, or, not, if -/
def blG (d : D) (Φ : Bool → Prop) : Prop := match d with
  | .bl c => Φ c
  | _ => False
theorem blG_ok {d : D} {Φ : Bool → Prop} (h : blG d Φ) : ∃ c, d = .bl c ∧ Φ c := by
  cases d <;> first | exact ⟨_, rfl, h⟩ | exact h.elim
def obG (o : Option Bool) (Φ : Bool → Prop) : Prop := match o with
  | some c => Φ c
  | none => False
theorem obG_ok {o : Option Bool} {Φ : Bool → Prop} (h : obG o Φ) : ∃ c, o = some c ∧ Φ c := by
  cases o <;> first | exact ⟨_, rfl, h⟩ | exact h.elim
def dTest (T : DE) : DT := fun ρ Φ => T ρ fun x ρ' => blG x fun c => Φ c ρ'
theorem rt_test {t : TE} {T : DE} (h : RE K ps t T) : RT K ps (tTest t) (dTest T) := by
  intro b σ H F ρ Φ Q R0 hT k
  refine h b σ H F ρ _ _ R0 hT fun x H1 F1 ρ1 d s1 R1 h1 hT => ?_
  obtain ⟨c, rfl, hT⟩ := blG_ok hT
  exact ⟨c, h1.inv_bl, k c H1 F1 ρ1 s1 R1 hT⟩
theorem rt_B {t : TE} {T : DE} (h : RE K ps t T) : RT K ps (tB t) (dTest T) := rt_test h
def truD : D → Option Bool
  | .non => some false
  | .bl b => some b
  | .int i => some (i != 0)
  | .tup l => some !l.isEmpty
  | .lst l => some !l.isEmpty
  | .dct l => some !l.isEmpty
  | _ => none
theorem isEmpty_len {α β : Type} {xs : List α} {ds : List β} (h : xs.length = ds.length) : xs.isEmpty = ds.isEmpty := by
  cases xs <;> cases ds <;> first | rfl | cases h
theorem truD_ok {F H : Hp} (s : ∀ a o, F a = some o → H a = some o) {x : V} {d : D} {c : Bool} (h : Dr K F x d) (e : truD d = some c) : TruV K x H c := by
  cases h with
  | non => cases e; rfl
  | bl b => cases e; rfl
  | int i => cases e; rfl
  | tup h1 hl _ => cases e; exact .inr (.inl ⟨_, sqT_same s h1, by rw [isEmpty_len hl]⟩)
  | lst h1 hl _ => cases e; exact .inl ⟨_, SqL.of (s _ _ h1), by rw [isEmpty_len hl]⟩
  | dct h1 hk _ =>
    cases e
    refine .inr (.inr ⟨_, s _ _ h1, ?_⟩)
    have := congrArg List.length hk
    rw [List.length_map, List.length_map] at this
    rw [isEmpty_len this]
  | _ => cases e
def dTruth (T : DE) : DT := fun ρ Φ => T ρ fun x ρ' => obG (truD x) fun c => Φ c ρ'
theorem rt_truth {t : TE} {T : DE} (h : RE K ps t T) : RT K ps (fun σ H Q => t σ H fun x H' => ∃ k, TruV K x H' k ∧ Q k H') (dTruth T) := by
  intro b σ H F ρ Φ Q R0 hT k
  refine h b σ H F ρ _ _ R0 hT fun x H1 F1 ρ1 d s1 R1 h1 hT => ?_
  obtain ⟨c, hc, hT⟩ := obG_ok hT
  exact ⟨c, truD_ok R1.sub h1 hc, k c H1 F1 ρ1 s1 R1 hT⟩
/-- the truth of the slot's list -/
def dTruthS (i : Nat) : DT := fun ρ Φ => ∃ d, peek ρ i = some d ∧ obG (truD d) fun c => Φ c ρ
theorem rt_truthS {i : Nat} : RT K ps (fun σ H Q => tVar i σ H fun x H' => ∃ k, TruV K x H' k ∧ Q k H') (dTruthS i) := by
  intro b σ H F ρ Φ Q R0 hT k
  obtain ⟨d, hp, hT⟩ := hT
  obtain ⟨c, hc, hT⟩ := obG_ok hT
  obtain ⟨v, hv⟩ := slot_some R0 (peek_some hp)
  have fin : TruV K v H c → tVar i σ H fun x H' => ∃ k, TruV K x H' k ∧ Q k H' := fun h => ⟨v, hv, c, h, k c H F ρ (Same.refl F) R0 hT⟩
  have hp' := hp
  unfold peek peekG at hp'
  split at hp'
  · rename_i d' e
    cases hp'
    obtain ⟨w, h1, h2⟩ := R0.slot i _ e
    rw [hv] at h1
    cases h1
    exact fin (truD_ok R0.sub h2 hc)
  · cases hp'
    cases hc
    obtain ⟨a, xs, rfl, ea, ha⟩ := peek_lst R0 hp hv
    exact fin (.inl ⟨_, SqL.of ea, by rw [isEmpty_len ha.1]⟩)
  · cases hp'
    cases hc
    obtain ⟨a, xs, rfl, ea, ha⟩ := peek_dct R0 hp hv
    exact fin (.inr (.inr ⟨_, ea, by rw [isEmpty_len ha.len]⟩))
  · cases hp'
def dAnd (T U : DT) : DT := fun ρ Φ => T ρ fun c ρ1 => if c = true then U ρ1 Φ else Φ false ρ1
theorem rt_and {t u : TT} {T U : DT} (h : RT K ps t T) (h2 : RT K ps u U) : RT K ps (tAnd t u) (dAnd T U) := by
  intro b σ H F ρ Φ Q R0 hT k
  refine h b σ H F ρ _ _ R0 hT fun c H1 F1 ρ1 s1 R1 hT => ?_
  cases c with
  | true => exact h2 b σ H1 F1 ρ1 _ _ R1 hT fun c H2 F2 ρ2 s2 R2 hT => k c H2 F2 ρ2 (s1.trans s2) R2 hT
  | false => exact k false H1 F1 ρ1 s1 R1 hT
def dOr (T U : DT) : DT := fun ρ Φ => T ρ fun c ρ1 => if c = true then Φ true ρ1 else U ρ1 Φ
theorem rt_or {t u : TT} {T U : DT} (h : RT K ps t T) (h2 : RT K ps u U) : RT K ps (tOr t u) (dOr T U) := by
  intro b σ H F ρ Φ Q R0 hT k
  refine h b σ H F ρ _ _ R0 hT fun c H1 F1 ρ1 s1 R1 hT => ?_
  cases c with
  | false => exact h2 b σ H1 F1 ρ1 _ _ R1 hT fun c H2 F2 ρ2 s2 R2 hT => k c H2 F2 ρ2 (s1.trans s2) R2 hT
  | true => exact k true H1 F1 ρ1 s1 R1 hT
def dNot (T : DT) : DT := fun ρ Φ => T ρ fun c ρ1 => Φ (!c) ρ1
theorem rt_not {t : TT} {T : DT} (h : RT K ps t T) : RT K ps (tNot t) (dNot T) := by
  intro b σ H F ρ Φ Q R0 hT k
  exact h b σ H F ρ _ _ R0 hT fun c H1 F1 ρ1 s1 R1 hT => k _ H1 F1 ρ1 s1 R1 hT
def dAndV (T U : DE) : DE := fun ρ Φ => T ρ fun x ρ1 => blG x fun c => if c = true then U ρ1 Φ else Φ (.bl false) ρ1
theorem re_and {t u : TE} {T U : DE} (h : RE K ps t T) (h2 : RE K ps u U) : RE K ps (tAndV t u) (dAndV T U) := by
  intro b σ H F ρ Φ Q R0 hT k
  refine h b σ H F ρ _ _ R0 hT fun x H1 F1 ρ1 d s1 R1 h1 hT => ?_
  obtain ⟨c, rfl, hT⟩ := blG_ok hT
  refine ⟨c, h1.inv_bl, ?_⟩
  cases c with
  | true => exact h2 b σ H1 F1 ρ1 _ _ R1 hT fun c H2 F2 ρ2 d s2 R2 hd hT => k c H2 F2 ρ2 d (s1.trans s2) R2 hd hT
  | false => exact k _ H1 F1 ρ1 _ s1 R1 (.bl false) hT
def dOrV (T U : DE) : DE := fun ρ Φ => T ρ fun x ρ1 => blG x fun c => if c = true then Φ (.bl true) ρ1 else U ρ1 Φ
theorem re_or {t u : TE} {T U : DE} (h : RE K ps t T) (h2 : RE K ps u U) : RE K ps (tOrV t u) (dOrV T U) := by
  intro b σ H F ρ Φ Q R0 hT k
  refine h b σ H F ρ _ _ R0 hT fun x H1 F1 ρ1 d s1 R1 h1 hT => ?_
  obtain ⟨c, rfl, hT⟩ := blG_ok hT
  refine ⟨c, h1.inv_bl, ?_⟩
  cases c with
  | false => exact h2 b σ H1 F1 ρ1 _ _ R1 hT fun c H2 F2 ρ2 d s2 R2 hd hT => k c H2 F2 ρ2 d (s1.trans s2) R2 hd hT
  | true => exact k _ H1 F1 ρ1 _ s1 R1 (.bl true) hT
def dNotV (T : DE) : DE := fun ρ Φ => T ρ fun x ρ1 => blG x fun c => Φ (.bl (!c)) ρ1
theorem re_not {t : TE} {T : DE} (h : RE K ps t T) : RE K ps (tNotV t) (dNotV T) := by
  intro b σ H F ρ Φ Q R0 hT k
  refine h b σ H F ρ _ _ R0 hT fun x H1 F1 ρ1 d s1 R1 h1 hT => ?_
  obtain ⟨c, rfl, hT⟩ := blG_ok hT
  exact ⟨c, h1.inv_bl, k _ H1 F1 ρ1 _ s1 R1 (.bl _) hT⟩
def dIf (T : DT) (U W : DE) : DE := fun ρ Φ => T ρ fun c ρ1 => if c = true then U ρ1 Φ else W ρ1 Φ
theorem re_if {t : TT} {u w : TE} {T : DT} {U W : DE} (h : RT K ps t T) (h2 : RE K ps u U) (h3 : RE K ps w W) : RE K ps (tIf t u w) (dIf T U W) := by
  intro b σ H F ρ Φ Q R0 hT k
  refine h b σ H F ρ _ _ R0 hT fun c H1 F1 ρ1 s1 R1 hT => ?_
  cases c with
  | true => exact h2 b σ H1 F1 ρ1 _ _ R1 hT fun c H2 F2 ρ2 d s2 R2 hd hT => k c H2 F2 ρ2 d (s1.trans s2) R2 hd hT
  | false => exact h3 b σ H1 F1 ρ1 _ _ R1 hT fun c H2 F2 ρ2 d s2 R2 hd hT => k c H2 F2 ρ2 d (s1.trans s2) R2 hd hT
/-- .. where both give a new list -/
def dIfL (T : DT) (U W : DLs) : DLs := fun ρ Φ => T ρ fun c ρ1 => if c = true then U ρ1 Φ else W ρ1 Φ
theorem rl_if {t : TT} {u w : TE} {T : DT} {U W : DLs} (h : RT K ps t T) (h2 : RL K ps u U) (h3 : RL K ps w W) : RL K ps (tIf t u w) (dIfL T U W) := by
  intro b σ H F ρ Φ Q R0 hT k
  refine h b σ H F ρ _ _ R0 hT fun c H1 F1 ρ1 s1 R1 hT => ?_
  cases c with
  | true => exact h2 b σ H1 F1 ρ1 _ _ R1 hT fun p xs H2 F2 ρ2 ds s2 R2 lo hx hd hT => k p xs H2 F2 ρ2 ds (s1.trans s2) R2 lo hx hd hT
  | false => exact h3 b σ H1 F1 ρ1 _ _ R1 hT fun p xs H2 F2 ρ2 ds s2 R2 lo hx hd hT => k p xs H2 F2 ρ2 ds (s1.trans s2) R2 lo hx hd hT
/-- -x -/
def dNeg (T : DE) : DE := fun ρ Φ => T ρ fun x ρ1 => ∃ i, x = .int i ∧ Φ (.int (-i)) ρ1
theorem re_neg {t : TE} {T : DE} (h : RE K ps t T) : RE K ps (tUn (rU fun i => .int (-i)) t) (dNeg T) := by
  intro b σ H F ρ Φ Q R0 hT k
  refine h b σ H F ρ _ _ R0 hT fun x H1 F1 ρ1 d s1 R1 h1 hT => ?_
  obtain ⟨i, rfl, hT⟩ := hT
  exact ⟨i, h1.inv_int, k _ H1 F1 ρ1 _ s1 R1 (.int _) hT⟩
end
end DL
/-! Part 5: frames, built-ins, what is walked, comprehensions. -/
namespace DL
variable [Tbs]
open PySem PySem.Spec PyProof.Rows L2
def Owned (σ : St) (ρ : Env) (a : Addr) : Prop := ∃ (i : Nat) (o : OV), ρ[i]? = some (some o) ∧ o.own = true ∧ σ[i]? = some (some (.ref a))
/-- what a piece of code leaves alone -/
structure Fr (σ : St) (ρ : Env) (H F H' F' : Hp) : Prop where
  keep : ∀ a o, H a = some o → ¬ Owned σ ρ a → NT o → H' a = some o
  there : ∀ a o, H a = some o → ∃ o', H' a = some o'
  new : ∀ a o, F' a = some o → F a = some o ∨ H a = none ∨ Owned σ ρ a
section
variable {K : PySem.W.Frag} {ps : List Nat} {b : Bs} {σ : St} {H F : Hp} {ρ : Env}
def here (b : Bs) (σ : St) (H F : Hp) (ρ : Env) : Bs := ⟨H, F, b.vs, Owned σ ρ⟩
theorem Rep.here (R : Rep K ps b σ H F ρ) : Rep K ps (here b σ H F ρ) σ H F ρ where
  sub := R.sub
  grow := ⟨Same.refl F, R.grow.b⟩
  nt := R.nt
  dom := fun a o e => ⟨o, e⟩
  tabs := R.tabs
  keep := fun a o e _ _ => e
  there := fun a ⟨i, o, e1, e2, e3⟩ => by
    obtain ⟨p, h1, _, _, h2⟩ := R.own e1 e2
    rw [e3] at h1
    cases h1
    exact h2.ex
  new := fun a o e => .inl e
  slot := fun i o e => by
    obtain ⟨v, h1, h2⟩ := R.slot i o e
    refine ⟨v, h1, ?_⟩
    by_cases ho : o.own = true
    · obtain ⟨p, rfl, h3, _, h4⟩ := h2.inv ho
      exact .mk rfl ho h3 (.inr ⟨i, o, e, ho, h1⟩) h4
    · cases o with
      | d x => exact h2
      | _ => exact absurd rfl ho
  apart := R.apart
  len := R.len
  pin := R.pin
theorem Rep.owned (R : Rep K ps b σ H F ρ) {a : Addr} (h : Owned σ ρ a) : F a = none ∧ (b.H0 a = none ∨ b.O a) ∧ ∃ o, H a = some o := by
  obtain ⟨i, o, e1, e2, e3⟩ := h
  obtain ⟨p, h1, h2, h3, h4⟩ := R.own e1 e2
  rw [e3] at h1
  cases h1
  exact ⟨h2, h3, h4.ex⟩
/-- from the words about what has happened since here -/
theorem Rep.back {σ' : St} {H' F' : Hp} {ρ' : Env} (R : Rep K ps b σ H F ρ) (R' : Rep K ps (DL.here b σ H F ρ) σ' H' F' ρ') : Rep K ps b σ' H' F' ρ' where
  sub := R'.sub
  grow := R.grow.trans R'.grow.a
  nt := R'.nt
  dom := fun a o e => by
    obtain ⟨o1, e1⟩ := R.dom a o e
    exact R'.dom a o1 e1
  tabs := R'.tabs
  keep := fun a o e n nz => by
    refine R'.keep a o (R.keep a o e n nz) (fun z => ?_) nz
    rcases (R.owned z).2.1 with h | h
    · rw [h] at e; cases e
    · exact n h
  there := fun a h => by
    obtain ⟨o, e⟩ := R.there a h
    by_cases z : Owned σ ρ a
    · exact R'.there a z
    · exact R'.dom a o e
  new := fun a o e => by
    rcases R'.new a o e with h | h | h
    · exact R.new a o h
    · exact .inr (.inl (R.fresh h).2.1)
    · rcases (R.owned h).2.1 with h | h
      · exact .inr (.inl h)
      · exact .inr (.inr h)
  slot := fun i o e => by
    obtain ⟨v, h1, h2⟩ := R'.slot i o e
    refine ⟨v, h1, ?_⟩
    by_cases ho : o.own = true
    · obtain ⟨p, rfl, h3, h4, h5⟩ := h2.inv ho
      refine .mk rfl ho h3 ?_ h5
      rcases h4 with h | h
      · exact .inl (R.fresh h).2.1
      · exact (R.owned h).2.1
    · cases o with
      | d x => exact h2
      | _ => exact absurd rfl ho
  apart := R'.apart
  len := R'.len
  pin := R'.pin
theorem Rep.fr {σ' : St} {H' F' : Hp} {ρ' : Env} (R : Rep K ps b σ H F ρ) (R' : Rep K ps (DL.here b σ H F ρ) σ' H' F' ρ') : Fr σ ρ H F H' F' where
  keep := R'.keep
  there := fun a o e => by
    by_cases z : Owned σ ρ a
    · exact R'.there a z
    · exact R'.dom a o e
  new := R'.new
theorem loose_back {p : Addr} {σ' : St} {F' : Hp} {ρ' : Env} (R : Rep K ps b σ H F ρ) (h : Loose (DL.here b σ H F ρ) σ' F' ρ' p) : Loose b σ' F' ρ' p := ⟨h.1, (R.fresh h.2.1).2.1, h.2.2⟩
theorem Fr.refl (R : Rep K ps b σ H F ρ) : Fr σ ρ H F H F := ⟨fun _ _ e _ _ => e, fun _ o e => ⟨o, e⟩, fun _ _ e => .inl e⟩
/-- a loose thing stays as it was -/
theorem Fr.loose {H' F' : Hp} (f : Fr σ ρ H F H' F') (R : Rep K ps b σ H F ρ) {p : Addr} {o : HO} (e : H p = some o) (hF : F p = none) (hn : ¬ Owned σ ρ p) (hz : NT o := by intro t z; cases z) : H' p = some o ∧ F' p = none := by
  refine ⟨f.keep p o e hn hz, ?_⟩
  cases q : F' p with
  | none => rfl
  | some u =>
    rcases f.new p u q with h | h | h
    · rw [hF] at h; cases h
    · rw [e] at h; cases h
    · exact absurd h hn
theorem RE.fr {t : TE} {T : DE} (h : RE K ps t T) (R : Rep K ps b σ H F ρ) {Φ : D → Env → Prop} {Q : VK} (hT : T ρ Φ)
    (k : ∀ v H' F' ρ' d, Same F F' → Fr σ ρ H F H' F' → Rep K ps b σ H' F' ρ' → (∀ a, Owned σ ρ' a → Owned σ ρ a ∨ H a = none) → Dr K F' v d → Φ d ρ' → Q v H') : t σ H Q :=
  h (DL.here b σ H F ρ) σ H F ρ Φ Q R.here hT fun v H' F' ρ' d s R' hd hΦ => k v H' F' ρ' d s (R.fr R') (R.back R') (fun a z => (R'.owned z).2.1.symm) hd hΦ
theorem RT.fr {t : TT} {T : DT} (h : RT K ps t T) (R : Rep K ps b σ H F ρ) {Φ : Bool → Env → Prop} {Q : Bool → Hp → Prop} (hT : T ρ Φ)
    (k : ∀ c H' F' ρ', Same F F' → Fr σ ρ H F H' F' → Rep K ps b σ H' F' ρ' → (∀ a, Owned σ ρ' a → Owned σ ρ a ∨ H a = none) → Φ c ρ' → Q c H') : t σ H Q :=
  h (DL.here b σ H F ρ) σ H F ρ Φ Q R.here hT fun c H' F' ρ' s R' hΦ => k c H' F' ρ' s (R.fr R') (R.back R') (fun a z => (R'.owned z).2.1.symm) hΦ
/-! ### built-ins -/
def RC (K : PySem.W.Frag) (ps : List Nat) (r : List V → Hp → VK → Prop) (R : List D → (D → Prop) → Prop) : Prop := ∀ (b : Bs) (σ : St) (H F : Hp) (ρ : Env) (xs : List V) (ds : List D) (Φ : D → Prop) (Q : VK), Rep K ps b σ H F ρ → DA K F xs ds → R ds Φ →
  (∀ v H' F' z, Same F F' → Rep K ps b σ H' F' ρ → Dr K F' v z → Φ z → Q v H') → r xs H Q
def dCB (R : List D → (D → Prop) → Prop) (T : DLs) : DE := fun ρ Φ => T ρ fun ds ρ' => R ds fun z => Φ z ρ'
theorem re_cb {r : List V → Hp → VK → Prop} {R : List D → (D → Prop) → Prop} {t : TA} {T : DLs} (hr : RC K ps r R) (h : RV K ps t T) : RE K ps (tCB r t) (dCB R T) := by
  intro b σ H F ρ Φ Q R0 hT k
  refine h b σ H F ρ _ _ R0 hT fun xs H1 F1 ρ1 ds s1 R1 h1 hT => ?_
  exact hr b σ H1 F1 ρ1 xs ds _ Q R1 h1 hT fun v H2 F2 z s2 R2 hd hΦ => k v H2 F2 ρ1 z (s1.trans s2) R2 hd hΦ
def RCL (K : PySem.W.Frag) (ps : List Nat) (r : List V → Hp → VK → Prop) (R : List D → (List D → Prop) → Prop) : Prop := ∀ (b : Bs) (σ : St) (H F : Hp) (ρ : Env) (xs : List V) (ds : List D) (Φ : List D → Prop) (Q : VK), Rep K ps b σ H F ρ → DA K F xs ds → R ds Φ →
  (∀ p ys H' F' zs, Same F F' → Rep K ps b σ H' F' ρ → Loose b σ F' ρ p → H' p = some (.lst ys) → DA K F' ys zs → Φ zs → Q (.ref p) H') → r xs H Q
def dCBL (R : List D → (List D → Prop) → Prop) (T : DLs) : DLs := fun ρ Φ => T ρ fun ds ρ' => R ds fun z => Φ z ρ'
theorem rl_cb {r : List V → Hp → VK → Prop} {R : List D → (List D → Prop) → Prop} {t : TA} {T : DLs} (hr : RCL K ps r R) (h : RV K ps t T) : RL K ps (tCB r t) (dCBL R T) := by
  intro b σ H F ρ Φ Q R0 hT k
  refine h b σ H F ρ _ _ R0 hT fun xs H1 F1 ρ1 ds s1 R1 h1 hT => ?_
  exact hr b σ H1 F1 ρ1 xs ds _ Q R1 h1 hT fun p ys H2 F2 z s2 R2 lo hx hd hΦ => k p ys H2 F2 ρ1 z (s1.trans s2) R2 lo hx hd hΦ
def oLen (ds : List D) (Φ : D → Prop) : Prop := match ds with
  | [.str x] => x.length ≤ sizeLine ∧ Φ (.int x.length)
  | [.tup l] => Φ (.int l.length)
  | [.lst l] => Φ (.int l.length)
  | _ => False
theorem rc_len : RC K ps (fun xs H Q => ∃ x n, xs = [x] ∧ LenV K x H n ∧ Q (.int n) H) oLen := by
  intro b σ H F ρ xs ds Φ Q R h hT k
  match ds, hT with
  | [.str x], hT =>
    obtain ⟨v, r, rfl, h1, h2⟩ := h.inv
    rw [h2.inv_nil, h1.inv_str]
    exact ⟨_, x.length, rfl, ⟨hT.1, rfl⟩, k _ H F _ (Same.refl F) R (.int _) hT.2⟩
  | [.tup l], hT =>
    obtain ⟨v, r, rfl, h1, h2⟩ := h.inv
    rw [h2.inv_nil]
    obtain ⟨a, ys, rfl, ea, ha⟩ := h1.inv_tup
    exact ⟨_, l.length, rfl, .inr ⟨ys, sqT_same R.sub ea, ha.1.symm⟩, k _ H F _ (Same.refl F) R (.int _) hT⟩
  | [.lst l], hT =>
    obtain ⟨v, r, rfl, h1, h2⟩ := h.inv
    rw [h2.inv_nil]
    obtain ⟨a, ys, rfl, ea, ha⟩ := h1.inv_lst
    exact ⟨_, l.length, rfl, .inl ⟨ys, SqL.of (R.sub _ _ ea), ha.1.symm⟩, k _ H F _ (Same.refl F) R (.int _) hT⟩
/-- len of the slot's list -/
def dLenS (i : Nat) : DE := fun ρ Φ => ∃ l, peek ρ i = some (.lst l) ∧ Φ (.int l.length) ρ
theorem re_lenS {i : Nat} : RE K ps (tCB (fun xs H Q => ∃ x n, xs = [x] ∧ LenV K x H n ∧ Q (.int n) H) (tCons (tVar i) tNil)) (dLenS i) := by
  intro b σ H F ρ Φ Q R0 hT k
  obtain ⟨l, hp, hT⟩ := hT
  obtain ⟨v, hv⟩ := slot_some R0 (peek_some hp)
  obtain ⟨a, xs, rfl, ea, ha⟩ := peek_lst R0 hp hv
  exact ⟨_, hv, _, l.length, rfl, .inl ⟨xs, SqL.of ea, ha.1.symm⟩, k _ H F ρ _ (Same.refl F) R0 (.int _) hT⟩
def oListOf (ds : List D) (Φ : List D → Prop) : Prop := match ds with
  | [.tup l] => Φ l
  | [.lst l] => Φ l
  | _ => False
theorem rcl_list : RCL K ps (fun xs H Q => ∃ p ys, xs = [.ref p] ∧ (SqL K H p ys ∨ SqT K H p ys) ∧ ∀ l, H l = none → Q (.ref l) (upd H l (.lst ys))) oListOf := by
  intro b σ H F ρ xs ds Φ Q R h hT k
  match ds, hT with
  | [.tup l], hT =>
    obtain ⟨v, r, rfl, h1, h2⟩ := h.inv
    rw [h2.inv_nil]
    obtain ⟨a, ys, rfl, ea, ha⟩ := h1.inv_tup
    exact ⟨a, ys, rfl, .inr (sqT_same R.sub ea), fun q hq => k q ys _ F l (Same.refl F) (R.put hq) (R.loose hq) upd_same ha hT⟩
  | [.lst l], hT =>
    obtain ⟨v, r, rfl, h1, h2⟩ := h.inv
    rw [h2.inv_nil]
    obtain ⟨a, ys, rfl, ea, ha⟩ := h1.inv_lst
    exact ⟨a, ys, rfl, .inl (SqL.of (R.sub _ _ ea)), fun q hq => k q ys _ F l (Same.refl F) (R.put hq) (R.loose hq) upd_same ha hT⟩
def oTupOf (ds : List D) (Φ : D → Prop) : Prop := match ds with
  | [.tup l] => Φ (.tup l)
  | [.lst l] => Φ (.tup l)
  | _ => False
theorem rc_tuple : RC K ps (fun xs H Q => ∃ p ys, xs = [.ref p] ∧ ((SqL K H p ys ∧ ∀ l, H l = none → Q (.ref l) (upd H l (.tup ys))) ∨ (SqT K H p ys ∧ Q (.ref p) H))) oTupOf := by
  intro b σ H F ρ xs ds Φ Q R h hT k
  match ds, hT with
  | [.tup l], hT =>
    obtain ⟨v, r, rfl, h1, h2⟩ := h.inv
    rw [h2.inv_nil]
    obtain ⟨a, ys, rfl, ea, ha⟩ := h1.inv_tup
    exact ⟨a, ys, rfl, .inr ⟨sqT_same R.sub ea, k _ H F _ (Same.refl F) R h1 hT⟩⟩
  | [.lst l], hT =>
    obtain ⟨v, r, rfl, h1, h2⟩ := h.inv
    rw [h2.inv_nil]
    obtain ⟨a, ys, rfl, ea, ha⟩ := h1.inv_lst
    refine ⟨a, ys, rfl, .inl ⟨SqL.of (R.sub _ _ ea), fun q hq => ?_⟩⟩
    obtain ⟨hF, _⟩ := R.fresh hq
    have sF : Same F (upd F q (.tup ys)) := SX.same_upd hF
    exact k _ _ _ _ sF (R.alloc hq) (.tup (SqT.of upd_same) ha.1 fun j v d a c => (ha.2 j v d a c).up sF) hT
/-- ints out of data -/
def intsD : List D → Option (List Int)
  | [] => some []
  | .int i :: r => (intsD r).map (i :: ·)
  | _ => none
theorem intsD_ok {F : Hp} : ∀ {ds : List D} {xs : List V} {ns : List Int}, DA K F xs ds → intsD ds = some ns → xs = ns.map V.int
  | [], xs, ns, h, e => by
    cases e
    rw [h.inv_nil]
    rfl
  | .int i :: r, xs, ns, h, e => by
    obtain ⟨v, t, rfl, h1, h2⟩ := h.inv
    unfold intsD at e
    obtain ⟨ms, hm, rfl⟩ := Option.map_eq_some_iff.mp e
    rw [h1.inv_int, intsD_ok h2 hm]
    rfl
  | .non :: r, xs, ns, h, e => by cases e
  | .bl _ :: r, xs, ns, h, e => by cases e
  | .str _ :: r, xs, ns, h, e => by cases e
  | .ty _ :: r, xs, ns, h, e => by cases e
  | .fn _ :: r, xs, ns, h, e => by cases e
  | .scr _ :: r, xs, ns, h, e => by cases e
  | .tup _ :: r, xs, ns, h, e => by cases e
  | .lst _ :: r, xs, ns, h, e => by cases e
  | .dct _ :: r, xs, ns, h, e => by cases e
  | .obj _ _ :: r, xs, ns, h, e => by cases e
theorem intsD_map (ns : List Int) : intsD (ns.map .int) = some ns := by
  induction ns with
  | nil => rfl
  | cons n ns ih =>
    show (intsD (ns.map .int)).map (n :: ·) = _
    rw [ih]
    rfl
def oAbs (ds : List D) (Φ : D → Prop) : Prop := match ds with
  | [.int i] => Φ (.int (if i < 0 then -i else i))
  | _ => False
theorem rc_abs : RC K ps (fun xs H Q => ∃ i, xs = [.int i] ∧ Q (.int (if i < 0 then -i else i)) H) oAbs := by
  intro b σ H F ρ xs ds Φ Q R h hT k
  match ds, hT with
  | [.int i], hT =>
    obtain ⟨v, r, rfl, h1, h2⟩ := h.inv
    rw [h2.inv_nil, h1.inv_int]
    exact ⟨i, rfl, k _ H F _ (Same.refl F) R (.int _) hT⟩
def oInt (ds : List D) (Φ : D → Prop) : Prop := match ds with
  | [.int i] => Φ (.int i)
  | _ => False
theorem rc_int : RC K ps (fun xs H Q => (∃ i, xs = [.int i] ∧ Q (.int i) H) ∨ ∃ k, xs = [.bl k] ∧ Q (.int (if k then 1 else 0)) H) oInt := by
  intro b σ H F ρ xs ds Φ Q R h hT k
  match ds, hT with
  | [.int i], hT =>
    obtain ⟨v, r, rfl, h1, h2⟩ := h.inv
    rw [h2.inv_nil, h1.inv_int]
    exact .inl ⟨i, rfl, k _ H F _ (Same.refl F) R (.int _) hT⟩
def oSum (ds : List D) (Φ : D → Prop) : Prop := ∃ l ns, ds = [.lst l] ∧ intsD l = some ns ∧ Φ (.int ns.sum)
theorem rc_sum : RC K ps (rSum K) oSum := by
  intro b σ H F ρ xs ds Φ Q R h hT k
  obtain ⟨l, ns, rfl, hn, hT⟩ := hT
  obtain ⟨v, r, rfl, h1, h2⟩ := h.inv
  rw [h2.inv_nil]
  obtain ⟨a, ys, rfl, ea, ha⟩ := h1.inv_lst
  rw [intsD_ok ha hn] at ea
  exact ⟨a, ns, rfl, SqL.of (R.sub _ _ ea), k _ H F _ (Same.refl F) R (.int _) hT⟩
def oMin (ds : List D) (Φ : D → Prop) : Prop := ∃ l ns, ds = [.lst l] ∧ intsD l = some ns ∧ 0 < ns.length ∧ ∀ m, m ∈ ns → (∀ y, y ∈ ns → m ≤ y) → Φ (.int m)
theorem rc_min : RC K ps (rMin K) oMin := by
  intro b σ H F ρ xs ds Φ Q R h hT k
  obtain ⟨l, ns, rfl, hn, h0, hT⟩ := hT
  obtain ⟨v, r, rfl, h1, h2⟩ := h.inv
  rw [h2.inv_nil]
  obtain ⟨a, ys, rfl, ea, ha⟩ := h1.inv_lst
  rw [intsD_ok ha hn] at ea
  exact ⟨a, ns, rfl, SqL.of (R.sub _ _ ea), h0, fun m h3 h4 => k _ H F _ (Same.refl F) R (.int _) (hT m h3 h4)⟩
def blsD : List D → Option (List Bool)
  | [] => some []
  | .bl i :: r => (blsD r).map (i :: ·)
  | _ => none
theorem blsD_ok {F : Hp} : ∀ {ds : List D} {xs : List V} {ns : List Bool}, DA K F xs ds → blsD ds = some ns → xs = ns.map V.bl
  | [], xs, ns, h, e => by
    cases e
    rw [h.inv_nil]
    rfl
  | .bl i :: r, xs, ns, h, e => by
    obtain ⟨v, t, rfl, h1, h2⟩ := h.inv
    unfold blsD at e
    obtain ⟨ms, hm, rfl⟩ := Option.map_eq_some_iff.mp e
    rw [h1.inv_bl, blsD_ok h2 hm]
    rfl
  | .non :: r, xs, ns, h, e => by cases e
  | .int _ :: r, xs, ns, h, e => by cases e
  | .str _ :: r, xs, ns, h, e => by cases e
  | .ty _ :: r, xs, ns, h, e => by cases e
  | .fn _ :: r, xs, ns, h, e => by cases e
  | .scr _ :: r, xs, ns, h, e => by cases e
  | .tup _ :: r, xs, ns, h, e => by cases e
  | .lst _ :: r, xs, ns, h, e => by cases e
  | .dct _ :: r, xs, ns, h, e => by cases e
  | .obj _ _ :: r, xs, ns, h, e => by cases e
theorem blsD_map (ns : List Bool) : blsD (ns.map .bl) = some ns := by
  induction ns with
  | nil => rfl
  | cons n ns ih =>
    show (blsD (ns.map .bl)).map (n :: ·) = _
    rw [ih]
    rfl
def oAll (ds : List D) (Φ : D → Prop) : Prop := ∃ l ns, ds = [.lst l] ∧ blsD l = some ns ∧ Φ (.bl (ns.all id))
theorem rc_all : RC K ps (rAll K) oAll := by
  intro b σ H F ρ xs ds Φ Q R h hT k
  obtain ⟨l, ns, rfl, hn, hT⟩ := hT
  obtain ⟨v, r, rfl, h1, h2⟩ := h.inv
  rw [h2.inv_nil]
  obtain ⟨a, ys, rfl, ea, ha⟩ := h1.inv_lst
  rw [blsD_ok ha hn] at ea
  exact ⟨a, ns, rfl, SqL.of (R.sub _ _ ea), k _ H F _ (Same.refl F) R (.bl _) hT⟩
def oAny (ds : List D) (Φ : D → Prop) : Prop := ∃ l ns, ds = [.lst l] ∧ blsD l = some ns ∧ Φ (.bl (ns.any id))
theorem rc_any : RC K ps (rAny K) oAny := by
  intro b σ H F ρ xs ds Φ Q R h hT k
  obtain ⟨l, ns, rfl, hn, hT⟩ := hT
  obtain ⟨v, r, rfl, h1, h2⟩ := h.inv
  rw [h2.inv_nil]
  obtain ⟨a, ys, rfl, ea, ha⟩ := h1.inv_lst
  rw [blsD_ok ha hn] at ea
  exact ⟨a, ns, rfl, SqL.of (R.sub _ _ ea), k _ H F _ (Same.refl F) R (.bl _) hT⟩
/-- isinstance -/
def tyN : D → Option String
  | .non => some "NoneType"
  | .bl _ => some "bool"
  | .int _ => some "int"
  | .str _ => some "str"
  | .lst _ => some "list"
  | .tup _ => some "tuple"
  | .dct _ => some "dict"
  | _ => none
theorem tyN_ok {x : V} {d : D} {n : String} (hs : ∀ a o, F a = some o → H a = some o) (h : Dr K F x d) (e : tyN d = some n) : TyX K H x (.type n) := by
  cases h with
  | non => cases e; exact .base .non
  | bl b => cases e; exact .base (.bl b)
  | int i => cases e; exact .base (.int i)
  | str x => cases e; exact .base (.str x)
  | tup h1 _ _ =>
    cases e
    rcases h1 with (h1 | ⟨o, h1⟩) | ⟨o, its, m, h1, h2, _⟩
    · exact .base (.tup (hs _ _ h1))
    · exact .fTuple (hs _ _ h1)
    · exact .kTuple h1 h2
  | lst h1 _ _ => cases e; exact .base (.lst (hs _ _ h1))
  | dct h1 _ _ => cases e; exact .base (.dK (hs _ _ h1))
  | _ => cases e
def isT : List (String × String × Bool) :=
  (["NoneType", "bool", "int", "str", "list", "tuple", "dict"].flatMap fun m => ["list", "tuple", "bool", "str", "int"].map fun n => (m, n, m == n || (m == "bool" && n == "int")))
def isN (m n : String) : Option Bool := (isT.find? fun p => p.1 == m && p.2.1 == n).map fun p => p.2.2
theorem isT_ok : (isT.all fun p => decide (kitB p.1 p.2.1 = some p.2.2)) = true := by decide +kernel
theorem isN_ok {m n : String} {c : Bool} (h : isN m n = some c) : PySem.W.kitOne K (.type m) (.type n) = some c := by
  unfold isN at h
  obtain ⟨p, hp, rfl⟩ := Option.map_eq_some_iff.mp h
  have h1 := List.find?_some hp
  have h2 := List.all_eq_true.mp isT_ok p (List.mem_of_find?_eq_some hp)
  rw [Bool.and_eq_true, beq_iff_eq, beq_iff_eq] at h1
  have h3 : kitB p.1 p.2.1 = some p.2.2 := of_decide_eq_true h2
  rw [h1.1, h1.2] at h3
  exact kit_ty h3
/-- which of these a thing is, by data -/
def isD (d : D) (n : String) : Option Bool := (tyN d).bind fun m => isN m n
def oIsi (ds : List D) (Φ : D → Prop) : Prop := match ds with
  | [x, .ty n] => obG (isD x n) fun c => Φ (.bl c)
  | _ => False
theorem rc_isi : RC K ps (rIsi K) oIsi := by
  intro b σ H F ρ xs ds Φ Q R h hT k
  match ds, hT with
  | [x, .ty n], hT =>
  obtain ⟨c, hc, hT⟩ := obG_ok hT
  obtain ⟨v, r, rfl, h1, h2⟩ := h.inv
  obtain ⟨w, r2, rfl, h3, h4⟩ := h2.inv
  rw [h4.inv_nil, h3.inv_ty]
  unfold isD at hc
  obtain ⟨m, hm, hc⟩ := Option.bind_eq_some_iff.mp hc
  exact ⟨v, _, _, _, c, rfl, .ty n, tyN_ok R.sub h1 hm, isN_ok hc, k _ H F _ (Same.refl F) R (.bl c) hT⟩
def dIsi2 (Ta : DE) (m n : String) : DE := fun ρ Φ => Ta ρ fun x ρ1 => obG (isD x m) fun c => obG (isD x n) fun e => Φ (.bl (c || e)) ρ1
theorem re_isi2 {ta : TE} {Ta : DE} {m n : String} (h : RE K ps ta Ta) : RE K ps (tCB (rIsiT K) (tCons ta (tCons (tTup (tCons (tC (.ty m)) (tCons (tC (.ty n)) tNil))) tNil))) (dIsi2 Ta m n) := by
  intro b σ H F ρ Φ Q R0 hT k
  refine h b σ H F ρ _ _ R0 hT fun x H1 F1 ρ1 d s1 R1 h1 hT => ?_
  obtain ⟨c, hc, hT⟩ := obG_ok hT
  obtain ⟨e, he, hT⟩ := obG_ok hT
  refine ⟨by show 2 ≤ sizeLine; decide, fun p hp => ?_⟩
  unfold isD at hc he
  obtain ⟨q, hm, hc⟩ := Option.bind_eq_some_iff.mp hc
  rw [hm] at he
  have R2 := R1.put (o := .tup [V.ty m, V.ty n]) hp
  have ka : PySem.W.kitAny K (.type q) [.type m, .type n] = some (c || e) := by
    refine kitAny_cons (isN_ok hc) (fun hcf => ?_) (fun hct => by rw [hct]; rfl)
    refine kitAny_cons (isN_ok he) (fun hef => ?_) (fun het => by rw [het, Bool.or_true])
    rw [hcf, hef]
    rfl
  exact ⟨x, p, _, _, _, c || e, rfl, upd_same, .cons (.ty m) (.cons (.ty n) .nil), tyN_ok R2.sub h1 hm, ka, k _ _ F1 ρ1 _ s1 R2 (.bl _) hT⟩
end
end DL
/-! Part 6: what is walked, comprehensions, statements. -/
namespace DL
variable [Tbs]
open PySem PySem.Spec PyProof.Rows L2
abbrev Sub (F H : Hp) : Prop := ∀ a o, F a = some o → H a = some o
/-- walking gives these data in a row -/
def Wk (K : PySem.W.Frag) (F : Hp) (J : It) (ds : List D) : Prop := ∃ (G : Hp → Prop) (Y : Nat → Hp → V → Hp → Prop), Walk J ds.length G Y ∧ (∀ H F', Same F F' → Sub F' H → G H) ∧
  ∀ i H x H', Y i H x H' → i < ds.length → ∀ F', Same F F' → Sub F' H → ∃ d F2, ds[i]? = some d ∧ Dr K F2 x d ∧ ((F2 = F' ∧ H' = H) ∨ ∃ p o, H p = none ∧ NT o ∧ F2 = upd F' p o ∧ H' = upd H p o)
def RI (K : PySem.W.Frag) (ps : List Nat) (wi : TI) (T : DLs) : Prop := ∀ (b : Bs) (σ : St) (H F : Hp) (ρ : Env) (Φ : List D → Env → Prop) (R : It → Hp → Prop), Rep K ps b σ H F ρ → T ρ Φ →
  (∀ J H' F' ρ' ds, Same F F' → Rep K ps b σ H' F' ρ' → Wk K F' J ds → Φ ds ρ' → R J H') → wi σ H R
abbrev DG := D → Env → (Env → Prop) → Prop
/-- a target; js: the slots that it stores into -/
def RG (K : PySem.W.Frag) (ps js : List Nat) (g : TG) (G : DG) : Prop := ∀ (b : Bs) (σ : St) (H F : Hp) (ρ : Env) (v : V) (d : D) (Φ : Env → Prop) (Q : St → Hp → Prop), Rep K ps b σ H F ρ → Dr K F v d → G d ρ Φ →
  (∀ σ' H' F' ρ', Same F F' → Rep K ps b σ' H' F' ρ' → (∀ ws, (∀ j ∈ js, j ∈ ws) → wipe σ' ws = wipe σ ws) → Φ ρ' → Q σ' H') → g v σ H Q
section
variable {K : PySem.W.Frag} {ps : List Nat}
theorem wk_list {F : Hp} {a : Addr} {xs : List V} {ds : List D} (e : F a = some (.lst xs)) (h : DA K F xs ds) : Wk K F (Itl K a) ds := by
  refine ⟨fun H => SqL K H a xs, YAt xs, by rw [← h.1]; exact walk_list, fun H F' s sub => SqL.of (sub _ _ (s _ _ e)), ?_⟩
  rintro i H x H' ⟨rfl, hx⟩ hi F' s sub
  obtain ⟨d, h1, h2⟩ := h.getV hx
  exact ⟨d, F', h1, h2.up s, .inl ⟨rfl, rfl⟩⟩
theorem wk_tup {F : Hp} {a : Addr} {xs : List V} {ds : List D} (e : SqT K F a xs) (h : DA K F xs ds) : Wk K F (Itt K a) ds := by
  refine ⟨fun H => SqT K H a xs, YAt xs, by rw [← h.1]; exact walk_tup, fun H F' s sub => sqT_same sub (sqT_same s e), ?_⟩
  rintro i H x H' ⟨rfl, hx⟩ hi F' s sub
  obtain ⟨d, h1, h2⟩ := h.getV hx
  exact ⟨d, F', h1, h2.up s, .inl ⟨rfl, rfl⟩⟩
def rngD (lo : Int) (n : Nat) : List D := (List.range n).map fun i => .int (lo + (i : Nat))
theorem rngD_len (lo : Int) (n : Nat) : (rngD lo n).length = n := by simp [rngD]
theorem rngD_get {lo : Int} {n i : Nat} (h : i < n) : (rngD lo n)[i]? = some (.int (lo + (i : Nat))) := by
  unfold rngD
  rw [List.getElem?_map, List.getElem?_range h]
  rfl
theorem wk_range {F : Hp} {lo : Int} {n : Nat} : Wk K F (Itr lo n) (rngD lo n) := by
  refine ⟨fun _ => True, YFn fun i => .int (lo + i), by rw [rngD_len]; exact walk_range, fun H F' s sub => trivial, ?_⟩
  rintro i H x H' ⟨rfl, rfl⟩ hi F' s sub
  rw [rngD_len] at hi
  exact ⟨_, F', rngD_get hi, .int _, .inl ⟨rfl, rfl⟩⟩
def dIL (T : DE) : DLs := fun ρ Φ => T ρ fun x ρ' => ∃ ds, x = .lst ds ∧ Φ ds ρ'
theorem ri_list {t : TE} {T : DE} (h : RE K ps t T) : RI K ps (iList K t) (dIL T) := by
  intro b σ H F ρ Φ R R0 hT k
  refine h b σ H F ρ _ _ R0 hT fun x H1 F1 ρ1 d s1 R1 h1 hT => ?_
  obtain ⟨ds, rfl, hT⟩ := hT
  obtain ⟨a, xs, rfl, ea, ha⟩ := h1.inv_lst
  exact ⟨a, rfl, ⟨xs, SqL.of (R1.sub _ _ ea)⟩, k _ H1 F1 ρ1 ds s1 R1 (wk_list ea ha) hT⟩
def dIT (T : DE) : DLs := fun ρ Φ => T ρ fun x ρ' => ∃ ds, x = .tup ds ∧ Φ ds ρ'
theorem ri_tup {t : TE} {T : DE} (h : RE K ps t T) : RI K ps (iTup K t) (dIT T) := by
  intro b σ H F ρ Φ R R0 hT k
  refine h b σ H F ρ _ _ R0 hT fun x H1 F1 ρ1 d s1 R1 h1 hT => ?_
  obtain ⟨ds, rfl, hT⟩ := hT
  obtain ⟨a, xs, rfl, ea, ha⟩ := h1.inv_tup
  exact ⟨a, rfl, ⟨xs, sqT_same R1.sub ea⟩, k _ H1 F1 ρ1 ds s1 R1 (wk_tup ea ha) hT⟩
def dIR1 (T : DLs) : DLs := fun ρ Φ => T ρ fun xs ρ' => ∃ j : Int, xs = [.int j] ∧ -(2 ^ 62) ≤ j ∧ j < 2 ^ 62 ∧ Φ (rngD 0 j.toNat) ρ'
theorem ri_range1 {t : TA} {T : DLs} (h : RV K ps t T) : RI K ps (iRng1 t) (dIR1 T) := by
  intro b σ H F ρ Φ R R0 hT k
  refine h b σ H F ρ _ _ R0 hT fun xs H1 F1 ρ1 ds s1 R1 h1 hT => ?_
  obtain ⟨j, rfl, b1, b2, hT⟩ := hT
  obtain ⟨v, r, rfl, h2, h3⟩ := h1.inv
  rw [h3.inv_nil, h2.inv_int]
  exact ⟨j, rfl, b1, b2, k _ H1 F1 ρ1 _ s1 R1 wk_range hT⟩
def dIR2 (T : DLs) : DLs := fun ρ Φ => T ρ fun xs ρ' => ∃ i j : Int, xs = [.int i, .int j] ∧ (-(2 ^ 62) ≤ i ∧ i < 2 ^ 62 ∧ -(2 ^ 62) ≤ j ∧ j < 2 ^ 62) ∧ Φ (rngD i (j - i).toNat) ρ'
theorem ri_range2 {t : TA} {T : DLs} (h : RV K ps t T) : RI K ps (iRng2 t) (dIR2 T) := by
  intro b σ H F ρ Φ R R0 hT k
  refine h b σ H F ρ _ _ R0 hT fun xs H1 F1 ρ1 ds s1 R1 h1 hT => ?_
  obtain ⟨i, j, rfl, bb, hT⟩ := hT
  obtain ⟨v, r, rfl, h2, h3⟩ := h1.inv
  obtain ⟨w, r2, rfl, h4, h5⟩ := h3.inv
  rw [h5.inv_nil, h2.inv_int, h4.inv_int]
  exact ⟨i, j, rfl, bb, k _ H1 F1 ρ1 _ s1 R1 wk_range hT⟩
/-! ### targets -/
theorem wipe_set {x : Option V} {j : Nat} : ∀ {ws : List Nat} {σ : St}, j ∈ ws → wipe (σ.set j x) ws = wipe σ ws
  | [], _, h => nomatch h
  | w :: ws, σ, h => by
    have key : ∀ (σ : St), (wipe (σ.set j x) ws).set j none = (wipe σ ws).set j none := by
      clear h
      induction ws with
      | nil => intro σ; show (σ.set j x).set j none = σ.set j none; rw [List.set_set]
      | cons u us ih =>
        intro σ
        show ((wipe (σ.set j x) us).set u none).set j none = ((wipe σ us).set u none).set j none
        by_cases hu : u = j
        · subst hu
          rw [List.set_set, List.set_set, ih]
        · rw [List.set_comm _ _ hu, ih, ← List.set_comm _ _ hu]
    show (wipe (σ.set j x) ws).set w none = (wipe σ ws).set w none
    rcases List.mem_cons.mp h with rfl | h
    · exact key σ
    · rw [wipe_set h]
def dName (j : Nat) : DG := fun d ρ Φ => Φ (ρ.set j (some (.d d)))
theorem rg_name {j : Nat} (hj : j ∉ ps := by decide) : RG K ps [j] (gName j) (dName j) := by
  intro b σ H F ρ v d Φ Q R hd hT k
  exact k _ H F _ (Same.refl F) (R.setD hj hd) (fun ws hw => wipe_set (hw j (List.mem_singleton.mpr rfl))) hT
abbrev DGs := List D → Env → (Env → Prop) → Prop
def RGs (K : PySem.W.Frag) (ps js : List Nat) (g : TGs) (G : DGs) : Prop := ∀ (b : Bs) (σ : St) (H F : Hp) (ρ : Env) (vs : List V) (ds : List D) (Φ : Env → Prop) (Q : St → Hp → Prop), Rep K ps b σ H F ρ → DA K F vs ds → G ds ρ Φ →
  (∀ σ' H' F' ρ', Same F F' → Rep K ps b σ' H' F' ρ' → (∀ ws, (∀ j ∈ js, j ∈ ws) → wipe σ' ws = wipe σ ws) → Φ ρ' → Q σ' H') → g vs σ H Q
def dGNil : DGs := fun ds ρ Φ => ds = [] ∧ Φ ρ
theorem rgs_nil : RGs K ps [] gNil dGNil := by
  intro b σ H F ρ vs ds Φ Q R hd hT k
  obtain ⟨rfl, hT⟩ := hT
  exact ⟨hd.inv_nil, k σ H F ρ (Same.refl F) R (fun _ _ => rfl) hT⟩
def dGCons (G : DG) (Gs : DGs) : DGs := fun ds ρ Φ => ∃ d r, ds = d :: r ∧ G d ρ fun ρ1 => Gs r ρ1 Φ
theorem rgs_cons {js js' : List Nat} {g : TG} {gs : TGs} {G : DG} {Gs : DGs} (h : RG K ps js g G) (hs : RGs K ps js' gs Gs) : RGs K ps (js ++ js') (gCons g gs) (dGCons G Gs) := by
  intro b σ H F ρ vs ds Φ Q R hd hT k
  obtain ⟨d, r, rfl, hT⟩ := hT
  obtain ⟨v, t, rfl, h1, h2⟩ := hd.inv
  refine ⟨v, t, rfl, h b σ H F ρ v d _ _ R h1 hT fun σ1 H1 F1 ρ1 s1 R1 w1 hT => ?_⟩
  refine hs b σ1 H1 F1 ρ1 t r _ _ R1 (h2.up s1) hT fun σ2 H2 F2 ρ2 s2 R2 w2 hT => k σ2 H2 F2 ρ2 (s1.trans s2) R2 (fun ws hw => ?_) hT
  rw [w2 ws fun j hj => hw j (List.mem_append_right _ hj), w1 ws fun j hj => hw j (List.mem_append_left _ hj)]
def dGTup (n : Nat) (Gs : DGs) : DG := fun d ρ Φ => ∃ ds, d = .tup ds ∧ ds.length = n ∧ Gs ds ρ Φ
theorem rg_tup {n : Nat} {js : List Nat} {gs : TGs} {Gs : DGs} (hs : RGs K ps js gs Gs) : RG K ps js (gTup K n gs) (dGTup n Gs) := by
  intro b σ H F ρ v d Φ Q R hd hT k
  obtain ⟨ds, rfl, hn, hT⟩ := hT
  obtain ⟨a, xs, rfl, ea, ha⟩ := hd.inv_tup
  exact ⟨a, xs, rfl, sqT_same R.sub ea, by rw [ha.1, hn], hs b σ H F ρ xs ds Φ Q R ha hT k⟩
/-! ### comprehensions -/
def wipeD (ρ : Env) : List Nat → Env
  | [] => ρ
  | v :: vs => (wipeD ρ vs).set v none
theorem wipeD_len (ρ : Env) : ∀ vs, (wipeD ρ vs).length = ρ.length
  | [] => rfl
  | v :: vs => by unfold wipeD; rw [List.length_set, wipeD_len ρ vs]
theorem wipeD_some {ρ : Env} {i : Nat} {o : OV} : ∀ {vs : List Nat}, (wipeD ρ vs)[i]? = some (some o) → ρ[i]? = some (some o) ∧ i ∉ vs
  | [], h => ⟨h, by simp⟩
  | v :: vs, h => by
    rcases set_some (show ((wipeD ρ vs).set v none)[i]? = some (some o) from h) with ⟨_, q⟩ | ⟨n, q⟩
    · cases q
    · obtain ⟨h1, h2⟩ := wipeD_some q
      exact ⟨h1, fun hm => (List.mem_cons.mp hm).elim n h2⟩
theorem wipe_get {σ : St} {i : Nat} : ∀ {vs : List Nat}, i ∉ vs → (wipe σ vs)[i]? = σ[i]?
  | [], _ => rfl
  | v :: vs, h => by
    show ((wipe σ vs).set v none)[i]? = _
    rw [List.getElem?_set_ne (fun z => h (by rw [z]; exact List.mem_cons_self))]
    exact wipe_get fun z => h (List.mem_cons_of_mem _ z)
theorem wipe_wipe {σ : St} {vs : List Nat} : wipe (wipe σ vs) vs = wipe σ vs := by
  have key : ∀ (us : List Nat) (σ : St), (∀ u ∈ us, u ∈ vs) → wipe (wipe σ us) vs = wipe σ vs := by
    intro us
    induction us with
    | nil => intro σ _; rfl
    | cons u us ih =>
      intro σ h
      show wipe ((wipe σ us).set u none) vs = _
      rw [wipe_set (h u List.mem_cons_self)]
      exact ih σ fun x hx => h x (List.mem_cons_of_mem _ hx)
  exact key vs σ fun _ h => h
/-- the block's slots -/
theorem Rep.block {b : Bs} {σ : St} {H F : Hp} {ρ : Env} (R : Rep K ps b σ H F ρ) {vs : List Nat} (hv : ∀ v ∈ vs, v ∉ ps) : Rep K ps b (wipe σ vs) H F (wipeD ρ vs) where
  sub := R.sub
  grow := R.grow
  nt := R.nt
  dom := R.dom
  tabs := R.tabs
  keep := R.keep
  there := R.there
  new := R.new
  slot := fun i o e => by
    obtain ⟨h1, h2⟩ := wipeD_some e
    rw [wipe_get h2]
    exact R.slot i o h1
  apart := fun i j o u v n e1 o1 e2 o2 s1 => by
    obtain ⟨h1, h2⟩ := wipeD_some e1
    obtain ⟨h3, h4⟩ := wipeD_some e2
    rw [wipe_get h2] at s1
    rw [wipe_get h4]
    exact R.apart i j o u v n h1 o1 h3 o2 s1
  len := by rw [wipeD_len, wipe_length]; exact R.len
  pin := fun i hi => by
    rw [wipe_get fun z => hv i z hi]
    exact R.pin i hi
/-- a slot of ρ0 that holds data -/
def keepD (o : Option (Option OV)) : Option OV := match o with
  | some (some (.d d)) => some (.d d)
  | _ => none
def restore (ρ ρ0 : Env) : List Nat → Env
  | [] => ρ
  | v :: vs => (restore ρ ρ0 vs).set v (keepD ρ0[v]?)
theorem restore_len (ρ ρ0 : Env) : ∀ vs, (restore ρ ρ0 vs).length = ρ.length
  | [] => rfl
  | v :: vs => by unfold restore; rw [List.length_set, restore_len ρ ρ0 vs]
theorem restore_some {ρ ρ0 : Env} {i : Nat} {o : OV} : ∀ {vs : List Nat}, (restore ρ ρ0 vs)[i]? = some (some o) → (i ∈ vs ∧ ∃ d, o = .d d ∧ ρ0[i]? = some (some (.d d))) ∨ (i ∉ vs ∧ ρ[i]? = some (some o))
  | [], h => .inr ⟨by simp, h⟩
  | v :: vs, h => by
    rcases set_some (show ((restore ρ ρ0 vs).set v (keepD ρ0[v]?))[i]? = some (some o) from h) with ⟨rfl, q⟩ | ⟨n, q⟩
    · refine .inl ⟨List.mem_cons_self, ?_⟩
      unfold keepD at q
      split at q
      · rename_i d e
        exact ⟨d, (Option.some.inj q).symm, e⟩
      · cases q
    · rcases restore_some q with ⟨h1, h2⟩ | ⟨h1, h2⟩
      · exact .inl ⟨List.mem_cons_of_mem _ h1, h2⟩
      · exact .inr ⟨fun hm => (List.mem_cons.mp hm).elim n h1, h2⟩
theorem Rep.unblock {b : Bs} {σ : St} {H F H0 F0 : Hp} {ρ ρ0 : Env} {vs : List Nat} (R0 : Rep K ps b σ H0 F0 ρ0) (s : Same F0 F) (R : Rep K ps b (wipe σ vs) H F ρ) (hv : ∀ v ∈ vs, v ∉ ps) : Rep K ps b σ H F (restore ρ ρ0 vs) where
  sub := R.sub
  grow := R.grow
  nt := R.nt
  dom := R.dom
  tabs := R.tabs
  keep := R.keep
  there := R.there
  new := R.new
  slot := fun i o e => by
    rcases restore_some e with ⟨_, d, rfl, h⟩ | ⟨h1, h2⟩
    · obtain ⟨v, g1, g2⟩ := R0.slot i _ h
      exact ⟨v, g1, Dr.up s g2⟩
    · obtain ⟨v, g1, g2⟩ := R.slot i o h2
      rw [wipe_get h1] at g1
      exact ⟨v, g1, g2⟩
  apart := fun i j o u v n e1 o1 e2 o2 s1 => by
    rcases restore_some e1 with ⟨_, d, rfl, h⟩ | ⟨h1, h2⟩
    · cases o1
    · rcases restore_some e2 with ⟨_, d, rfl, h⟩ | ⟨h3, h4⟩
      · cases o2
      · have := R.apart i j o u v n h2 o1 h4 o2 (by rw [wipe_get h1]; exact s1)
        rwa [wipe_get h3] at this
  len := by rw [restore_len, R.len, wipe_length]
  pin := fun i hi => by
    obtain ⟨v, g1, g2⟩ := R.pin i hi
    rw [wipe_get fun z => hv i z hi] at g1
    exact ⟨v, g1, g2⟩
def dYes : DT := fun ρ Φ => Φ true ρ
theorem rt_yes : RT K ps tYes dYes := fun b σ H F ρ Φ Q R hT k => k true H F ρ (Same.refl F) R hT
def dLc (Ti : DLs) (G : DG) (Tt : DT) (Te : DE) (vs : List Nat) : DLs := fun ρ Φ => Ti ρ fun ds ρ1 => ∃ W : Nat → List D → Env → Prop, W 0 [] (wipeD ρ1 vs) ∧
  (∀ k x acc ρ, ds[k]? = some x → W k acc ρ → G x ρ fun ρ2 => Tt ρ2 fun c ρ3 => if c = true then Te ρ3 fun e ρ4 => acc.length < sizeLine ∧ W (k + 1) (acc ++ [e]) (wipeD ρ4 vs) else W (k + 1) acc (wipeD ρ3 vs)) ∧
  ∀ acc ρ, W ds.length acc ρ → Φ acc (restore ρ ρ1 vs)
theorem RG.fr {js : List Nat} {g : TG} {G : DG} (h : RG K ps js g G) {b : Bs} {σ : St} {H F : Hp} {ρ : Env} {v : V} {d : D} {Φ : Env → Prop} {Q : St → Hp → Prop} (R : Rep K ps b σ H F ρ) (hd : Dr K F v d) (hT : G d ρ Φ)
    (k : ∀ σ' H' F' ρ', Same F F' → Fr σ ρ H F H' F' → Rep K ps b σ' H' F' ρ' → (∀ a, Owned σ' ρ' a → Owned σ ρ a ∨ H a = none) → (∀ ws, (∀ j ∈ js, j ∈ ws) → wipe σ' ws = wipe σ ws) → Φ ρ' → Q σ' H') : g v σ H Q :=
  h (here b σ H F ρ) σ H F ρ v d Φ Q R.here hd hT fun σ' H' F' ρ' s R' w hΦ => k σ' H' F' ρ' s (R.fr R') (R.back R') (fun a z => (R'.owned z).2.1.symm) w hΦ
/-- a loose thing is changed -/
theorem Rep.poke {b : Bs} {σ : St} {H F : Hp} {ρ : Env} (R : Rep K ps b σ H F ρ) {p : Addr} {o u : HO} (hF : F p = none) (h0 : b.H0 p = none) (hn : ¬ Owned σ ρ p) (e : H p = some u) (hz : NT u := by intro t z; cases z) (hc : ∀ c q, u ≠ LamX.CodeO c q := by first | exact lst_nc _ | exact dK_nc _) : Rep K ps b σ (upd H p o) F ρ where
  sub := fun a w e1 => by
    rw [upd_ne (fun z => by rw [z, hF] at e1; cases e1)]
    exact R.sub a w e1
  grow := R.grow
  nt := R.nt
  dom := fun a w e1 => by
    rw [upd_ne (fun z => by rw [z, h0] at e1; cases e1)]
    exact R.dom a w e1
  tabs := tabs_but R.tabs e hz hc fun a w na e1 => by rw [upd_ne na]; exact e1
  keep := fun a w e1 n nz => by
    rw [upd_ne (fun z => by rw [z, h0] at e1; cases e1)]
    exact R.keep a w e1 n nz
  there := fun a h => by
    by_cases ha : a = p
    · subst ha
      exact ⟨o, upd_same⟩
    · rw [upd_ne ha]
      exact R.there a h
  new := R.new
  slot := fun i w e1 => by
    obtain ⟨v, h1, h2⟩ := R.slot i w e1
    refine ⟨v, h1, h2.up (Same.refl F) fun q hv ho => ?_⟩
    obtain ⟨q', hq, hFq, _, _⟩ := h2.inv ho
    rw [hv] at hq
    cases hq
    exact ⟨hFq, upd_ne (fun z => hn ⟨i, w, e1, ho, by rw [← z, ← hv]; exact h1⟩)⟩
  apart := R.apart
  len := R.len
  pin := R.pin
theorem owned_block {σ : St} {ρ : Env} {vs : List Nat} {a : Addr} (h : Owned (wipe σ vs) (wipeD ρ vs) a) : Owned σ ρ a := by
  obtain ⟨i, o, e1, e2, e3⟩ := h
  obtain ⟨h1, h2⟩ := wipeD_some e1
  rw [wipe_get h2] at e3
  exact ⟨i, o, h1, e2, e3⟩
theorem rl_lc {js : List Nat} {wi : TI} {g : TG} {tt : TT} {te : TE} {vs : List Nat} {Ti : DLs} {G : DG} {Tt : DT} {Te : DE} (hi : RI K ps wi Ti) (hg : RG K ps js g G) (ht : RT K ps tt Tt) (he : RE K ps te Te) (hv : ∀ v ∈ vs, v ∉ ps := by decide) (hj : ∀ j ∈ js, j ∈ vs := by decide) :
    RL K ps (tLc wi g tt te vs) (dLc Ti G Tt Te vs) := by
  intro b σ H F ρ Φ Q R0 hT k
  refine hi b σ H F ρ _ _ R0 hT fun J H1 F1 ρ1 ds s1 R1 hw hT => fun p hp => ?_
  obtain ⟨Gd, Y, hwk, hG, hY⟩ := hw
  obtain ⟨W, w0, wt, wd⟩ := hT
  obtain ⟨hF1, h01, _⟩ := R1.fresh hp
  have n1 : ¬ Owned σ ρ1 p := fun z => by
    obtain ⟨_, _, o, e⟩ := R1.owned z
    rw [hp] at e
    cases e
  refine lc_it hwk (fun i H' => ∃ F' ρ' acc xs, Same F1 F' ∧ Rep K ps b (wipe σ vs) H' F' ρ' ∧ H' p = some (.lst xs) ∧ DA K F' xs acc ∧ F' p = none ∧ ¬ Owned (wipe σ vs) ρ' p ∧ W i acc ρ')
    ⟨F1, _, [], [], Same.refl F1, (R1.block hv).put hp, upd_same, .nil, hF1, fun z => n1 (owned_block z), w0⟩ ?_ ?_ ?_
  · rintro i H' _ ⟨F', ρ', acc, xs, s, R, _⟩
    exact hG H' F' s R.sub
  · rintro i x H2 H3 hin ⟨F2, ρ2, acc, xs, s, R2, ex, hx, hF2, n2, hW⟩ y
    obtain ⟨d, F3, hd, hdr, hy⟩ := hY i H2 x H3 y hin F2 s R2.sub
    -- the item is there
    have st : Rep K ps b (wipe σ vs) H3 F3 ρ2 ∧ H3 p = some (.lst xs) ∧ F3 p = none ∧ Same F2 F3 := by
      rcases hy with ⟨rfl, rfl⟩ | ⟨q, o, hq, hqn, rfl, rfl⟩
      · exact ⟨R2, ex, hF2, Same.refl _⟩
      · have nq : p ≠ q := ne_of_none ex hq
        exact ⟨R2.alloc hq hqn, (upd_ne nq).trans ex, (upd_ne nq).trans hF2, SX.same_upd (R2.fresh hq).1⟩
    obtain ⟨R3, ex3, hF3, s3⟩ := st
    refine hg.fr R3 hdr (wt i d acc ρ2 hd hW) fun σ4 H4 F4 ρ4 s4 f4 R4 o4 w4 hT => ?_
    have hwp : wipe σ4 vs = wipe σ vs := by rw [w4 vs hj, wipe_wipe]
    obtain ⟨ex4, hF4⟩ := f4.loose R3 ex3 hF3 n2
    have n4 : ¬ Owned σ4 ρ4 p := fun z => (o4 p z).elim n2 fun h => by rw [ex3] at h; cases h
    refine ⟨hwp, ht.fr R4 hT fun c H5 F5 ρ5 s5 f5 R5 o5 hT => ?_⟩
    obtain ⟨ex5, hF5⟩ := f5.loose R4 ex4 hF4 n4
    have n5 : ¬ Owned σ4 ρ5 p := fun z => (o5 p z).elim n4 fun h => by rw [ex4] at h; cases h
    have s15 : Same F1 F5 := (((s.trans s3).trans s4).trans s5)
    have hx5 := (((hx.up s3).up s4).up s5)
    cases c with
    | false =>
      refine ⟨F5, wipeD ρ5 vs, acc, xs, s15, ?_, ex5, hx5, hF5, ?_, hT⟩
      · have := R5.block hv
        rwa [hwp] at this
      · intro z
        rw [← hwp] at z
        exact n5 (owned_block z)
    | true =>
      refine he.fr R5 hT fun u H6 F6 ρ6 e s6 f6 R6 o6 hd6 hT => ?_
      obtain ⟨ex6, hF6⟩ := f6.loose R5 ex5 hF5 n5
      have n6 : ¬ Owned σ4 ρ6 p := fun z => (o6 p z).elim n5 fun h => by rw [ex5] at h; cases h
      have hx6 := hx5.up s6
      refine ⟨xs, ex6, by rw [hx6.1]; exact hT.1, F6, wipeD ρ6 vs, acc ++ [e], xs ++ [u], s15.trans s6, ?_, upd_same, hx6.app (.one hd6), hF6, ?_, hT.2⟩
      · have := (R6.poke (o := .lst (xs ++ [u])) hF6 h01 n6 ex6).block hv
        rwa [hwp] at this
      · intro z
        rw [← hwp] at z
        exact n6 (owned_block z)
  · rintro H' ⟨F', ρ', acc, xs, s, R, ex, hx, hF', n', hW⟩
    have Ru := R1.unblock s R hv
    refine k p xs H' F' _ acc (s1.trans s) Ru ⟨hF', h01, fun i o e ho z => ?_⟩ ex hx (wd acc ρ' hW)
    rcases restore_some e with ⟨_, d, rfl, _⟩ | ⟨h1, h2⟩
    · cases ho
    · exact n' ⟨i, o, h2, ho, by rw [wipe_get h1]; exact z⟩
/-! ### slices -/
def DOo := Env → (Option Int → Env → Prop) → Prop
def RP (K : PySem.W.Frag) (ps : List Nat) (t : TO) (T : DOo) : Prop := ∀ (b : Bs) (σ : St) (H F : Hp) (ρ : Env) (Φ : Option Int → Env → Prop) (Q : Option Int → Hp → Prop), Rep K ps b σ H F ρ → T ρ Φ →
  (∀ o H' F' ρ', Same F F' → Rep K ps b σ H' F' ρ' → Φ o ρ' → Q o H') → t σ H Q
def dNoPart : DOo := fun ρ Φ => Φ none ρ
theorem rp_none : RP K ps tNoPart dNoPart := fun b σ H F ρ Φ Q R hT k => k none H F ρ (Same.refl F) R hT
def dPart (T : DE) : DOo := fun ρ Φ => T ρ fun x ρ' => ∃ i, x = .int i ∧ Φ (some i) ρ'
theorem rp_some {t : TE} {T : DE} (h : RE K ps t T) : RP K ps (tPart t) (dPart T) := by
  intro b σ H F ρ Φ Q R0 hT k
  refine h b σ H F ρ _ _ R0 hT fun x H1 F1 ρ1 d s1 R1 h1 hT => ?_
  obtain ⟨i, rfl, hT⟩ := hT
  exact ⟨i, h1.inv_int, k _ H1 F1 ρ1 s1 R1 hT⟩
def cutD (xs : List D) (lo hi : Option Int) : List D := (xs.drop (HT.sIx xs.length 0 lo)).take (HT.sIx xs.length xs.length hi - HT.sIx xs.length 0 lo)
theorem DA.cut {F : Hp} {xs : List V} {ds : List D} (h : DA K F xs ds) (lo hi : Option Int) : DA K F (cutV xs lo hi) (cutD ds lo hi) := by
  unfold cutV cutD
  rw [h.1]
  exact (h.drop _).take _
def dSlL (Te : DE) (Tl Th : DOo) : DLs := fun ρ Φ => Te ρ fun x ρ1 => Tl ρ1 fun l ρ2 => Th ρ2 fun u ρ3 => ∃ ds, x = .lst ds ∧ Φ (cutD ds l u) ρ3
theorem rl_slice {te : TE} {tl th : TO} {Te : DE} {Tl Th : DOo} (he : RE K ps te Te) (hl : RP K ps tl Tl) (hh : RP K ps th Th) : RL K ps (tSl (rSlL K) te tl th) (dSlL Te Tl Th) := by
  intro b σ H F ρ Φ Q R0 hT k
  refine he b σ H F ρ _ _ R0 hT fun x H1 F1 ρ1 d s1 R1 h1 hA => ?_
  refine hl b σ H1 F1 ρ1 _ _ R1 hA fun l H2 F2 ρ2 s2 R2 hB => ?_
  refine hh b σ H2 F2 ρ2 _ _ R2 hB fun u H3 F3 ρ3 s3 R3 hC => ?_
  obtain ⟨ds, rfl, hD⟩ := hC
  obtain ⟨a, xs, rfl, ea, ha⟩ := h1.inv_lst
  have s13 := s2.trans s3
  exact ⟨a, xs, rfl, SqL.of (R3.sub _ _ (s13 _ _ ea)), fun p hp => k p _ _ F3 ρ3 _ (s1.trans s13) (R3.put hp) (R3.loose hp) upd_same ((ha.up s13).cut l u) hD⟩
def dSlT (Te : DE) (Tl Th : DOo) : DE := fun ρ Φ => Te ρ fun x ρ1 => Tl ρ1 fun l ρ2 => Th ρ2 fun u ρ3 => ∃ ds, x = .tup ds ∧ Φ (.tup (cutD ds l u)) ρ3
theorem re_sliceT {te : TE} {tl th : TO} {Te : DE} {Tl Th : DOo} (he : RE K ps te Te) (hl : RP K ps tl Tl) (hh : RP K ps th Th) : RE K ps (tSl (rSlA K) te tl th) (dSlT Te Tl Th) := by
  intro b σ H F ρ Φ Q R0 hT k
  refine he b σ H F ρ _ _ R0 hT fun x H1 F1 ρ1 d s1 R1 h1 hA => ?_
  refine hl b σ H1 F1 ρ1 _ _ R1 hA fun l H2 F2 ρ2 s2 R2 hB => ?_
  refine hh b σ H2 F2 ρ2 _ _ R2 hB fun u H3 F3 ρ3 s3 R3 hC => ?_
  obtain ⟨ds, rfl, hD⟩ := hC
  have s13 := s2.trans s3
  obtain ⟨a, xs, rfl, ea, ha⟩ := (h1.up s13).inv_tup
  refine ⟨a, xs, rfl, sqT_same R3.sub ea, fun hw => ?_, fun _ p hp => ?_⟩
  · have e : cutD ds l u = ds := by
      unfold cutD
      rw [← ha.1, hw.1, hw.2, Nat.sub_zero, List.drop_zero, ha.1, List.take_length]
    rw [e] at hD
    exact k _ H3 F3 ρ3 _ (s1.trans s13) R3 (h1.up s13) hD
  · obtain ⟨hF, _⟩ := R3.fresh hp
    have sF : Same F3 (upd F3 p (.tup (cutV xs l u))) := SX.same_upd hF
    have hc := ha.cut l u
    exact k _ _ _ ρ3 _ ((s1.trans s13).trans sF) (R3.alloc hp) (.tup (SqT.of upd_same) hc.1 fun j v d a c => (hc.2 j v d a c).up sF) hD
def dRevL (T : DE) : DLs := fun ρ Φ => T ρ fun x ρ1 => ∃ ds, x = .lst ds ∧ Φ ds.reverse ρ1
theorem rl_rev {t : TE} {T : DE} (h : RE K ps t T) : RL K ps (tRevL K t) (dRevL T) := by
  intro b σ H F ρ Φ Q R0 hT k
  refine h b σ H F ρ _ _ R0 hT fun x H1 F1 ρ1 d s1 R1 h1 hT => ?_
  obtain ⟨ds, rfl, hT⟩ := hT
  obtain ⟨a, xs, rfl, ea, ha⟩ := h1.inv_lst
  exact ⟨a, xs, rfl, SqL.of (R1.sub _ _ ea), fun p hp => k p _ _ F1 ρ1 _ s1 (R1.put hp) (R1.loose hp) upd_same ha.rev hT⟩
def dRevT (T : DE) : DE := fun ρ Φ => T ρ fun x ρ1 => ∃ ds, x = .tup ds ∧ Φ (.tup ds.reverse) ρ1
theorem re_revT {t : TE} {T : DE} (h : RE K ps t T) : RE K ps (SX.tRevT K t) (dRevT T) := by
  intro b σ H F ρ Φ Q R0 hT k
  refine h b σ H F ρ _ _ R0 hT fun x H1 F1 ρ1 d s1 R1 h1 hT => ?_
  obtain ⟨ds, rfl, hT⟩ := hT
  obtain ⟨a, xs, rfl, ea, ha⟩ := h1.inv_tup
  refine ⟨a, xs, rfl, sqT_same R1.sub ea, fun p hp => ?_⟩
  obtain ⟨hF, _⟩ := R1.fresh hp
  have sF : Same F1 (upd F1 p (.tup xs.reverse)) := SX.same_upd hF
  exact k _ _ _ ρ1 _ (s1.trans sF) (R1.alloc hp) (.tup (SqT.of upd_same) ha.rev.1 fun j v d a c => (ha.rev.2 j v d a c).up sF) hT
/-! ### fields of what is kept -/
def dFld (C : Addr) (T : DE) (f : Str) : DE := fun ρ Φ => T ρ fun x ρ1 => ∃ fs d, x = .obj C fs ∧ valD fs f = some d ∧ Φ d ρ1
theorem lookup_valV {f : Str} : ∀ fs : List (Str × V), fs.lookup f = valV fs f
  | [] => rfl
  | p :: r => by
    by_cases e : p.1 = f
    · rw [valV_pos e, List.lookup_cons, beq_iff_eq.mpr e.symm]
    · rw [valV_neg e, List.lookup_cons, beq_eq_false_iff_ne.mpr (fun z => e z.symm)]
      exact lookup_valV r
theorem re_fld {C : Addr} {t : TE} {T : DE} {f : Str} (hc : Cls K C) (hn : NoAttr K C f) (h : RE K ps t T) : RE K ps (tFld K t f) (dFld C T f) := by
  intro b σ H F ρ Φ Q R0 hT k
  refine h b σ H F ρ _ _ R0 hT fun x H1 F1 ρ1 d s1 R1 h1 hT => ?_
  obtain ⟨fs, e, rfl, he, hT⟩ := hT
  obtain ⟨a, dx, xs, rfl, ea, hm⟩ := h1.inv_obj
  have m := hm.val (k := f)
  rw [he] at m
  obtain ⟨v, hv, hd⟩ := m
  exact ⟨a, C, dx, xs, v, rfl, R1.sub _ _ ea, hc, hn, by rw [lookup_valV]; exact hv, k v H1 F1 ρ1 e s1 R1 hd hT⟩
end
end DL
/-! Part 7: statements; what a def promises, by data. -/
namespace DL
variable [Tbs]
open PySem PySem.Spec PyProof.Rows L2
structure DEn where
  nx : Env → Prop
  rt : D → Env → Prop
  bk : Env → Prop
  ct : Env → Prop
abbrev DS := DEn → Env → Prop
def RS (K : PySem.W.Frag) (ps : List Nat) (t : TS) (T : DS) : Prop := ∀ (b : Bs) (σ : St) (H F : Hp) (ρ : Env) (E : DEn) (D' : Ends), Rep K ps b σ H F ρ → T E ρ →
  (∀ σ' H' F' ρ', Same F F' → Rep K ps b σ' H' F' ρ' → E.nx ρ' → D'.nx σ' H') → (∀ v σ' H' F' ρ' d, Same F F' → Rep K ps b σ' H' F' ρ' → Dr K F' v d → E.rt d ρ' → D'.rt v H') →
  (∀ σ' H' F' ρ', Same F F' → Rep K ps b σ' H' F' ρ' → E.bk ρ' → D'.bk σ' H') → (∀ σ' H' F' ρ', Same F F' → Rep K ps b σ' H' F' ρ' → E.ct ρ' → D'.ct σ' H') → t D' σ H
section
variable {K : PySem.W.Frag} {ps : List Nat}
theorem at_l {F H : Hp} {p : Addr} {xs : List V} {ds : List D} (h : H p = some (.lst xs)) (hd : DA K F xs ds) : At K F H p (.l ds) := ⟨xs, h, hd⟩
theorem at_m {F H : Hp} {p : Addr} {xs : List (Key × V)} {ds : List (Key × D)} (h : H p = some (.dK xs)) (hd : DM K F xs ds) : At K F H p (.m ds) := ⟨xs, h, hd⟩
def dNext : DS := fun E ρ => E.nx ρ
theorem rs_next : RS K ps tNext dNext := fun b σ H F ρ E D' R hT n r bk ct => n σ H F ρ (Same.refl F) R hT
def dSeq (T U : DS) : DS := fun E ρ => T { E with nx := U E } ρ
theorem rs_seq {t u : TS} {T U : DS} (h : RS K ps t T) (h2 : RS K ps u U) : RS K ps (tSeq t u) (dSeq T U) := by
  intro b σ H F ρ E D' R hT n r bk ct
  refine h b σ H F ρ _ _ R hT (fun σ1 H1 F1 ρ1 s1 R1 hT => ?_) r bk ct
  exact h2 b σ1 H1 F1 ρ1 E D' R1 hT (fun σ2 H2 F2 ρ2 s2 => n σ2 H2 F2 ρ2 (s1.trans s2)) (fun v σ2 H2 F2 ρ2 d s2 => r v σ2 H2 F2 ρ2 d (s1.trans s2)) (fun σ2 H2 F2 ρ2 s2 => bk σ2 H2 F2 ρ2 (s1.trans s2)) (fun σ2 H2 F2 ρ2 s2 => ct σ2 H2 F2 ρ2 (s1.trans s2))
def dBreak : DS := fun E ρ => E.bk ρ
theorem rs_break : RS K ps tBreak dBreak := fun b σ H F ρ E D' R hT n r bk ct => bk σ H F ρ (Same.refl F) R hT
def dCont : DS := fun E ρ => E.ct ρ
theorem rs_cont : RS K ps tCont dCont := fun b σ H F ρ E D' R hT n r bk ct => ct σ H F ρ (Same.refl F) R hT
def dRet (T : DE) : DS := fun E ρ => T ρ fun d ρ' => E.rt d ρ'
theorem rs_ret {t : TE} {T : DE} (h : RE K ps t T) : RS K ps (tRet t) (dRet T) := by
  intro b σ H F ρ E D' R hT n r bk ct
  exact h b σ H F ρ _ _ R hT fun v H1 F1 ρ1 d s1 R1 hd hΦ => r v σ H1 F1 ρ1 d s1 R1 hd hΦ
def dRetN : DS := fun E ρ => E.rt .non ρ
theorem rs_retN : RS K ps tRetN dRetN := fun b σ H F ρ E D' R hT n r bk ct => r .non σ H F ρ .non (Same.refl F) R .non hT
def dDrop (T : DE) : DS := fun E ρ => T ρ fun _ ρ' => E.nx ρ'
theorem rs_drop {t : TE} {T : DE} (h : RE K ps t T) : RS K ps (tDrop t) (dDrop T) := by
  intro b σ H F ρ E D' R hT n r bk ct
  exact h b σ H F ρ _ _ R hT fun v H1 F1 ρ1 d s1 R1 hd hΦ => n σ H1 F1 ρ1 s1 R1 hΦ
def dIfS (C : DT) (T U : DS) : DS := fun E ρ => C ρ fun c ρ1 => if c = true then T E ρ1 else U E ρ1
theorem rs_if {c : TT} {t u : TS} {C : DT} {T U : DS} (hc : RT K ps c C) (h : RS K ps t T) (h2 : RS K ps u U) : RS K ps (tIfS c t u) (dIfS C T U) := by
  intro b σ H F ρ E D' R hT n r bk ct
  refine hc b σ H F ρ _ _ R hT fun c H1 F1 ρ1 s1 R1 hT => ?_
  have n' := fun σ2 H2 F2 ρ2 (s2 : Same F1 F2) => n σ2 H2 F2 ρ2 (s1.trans s2)
  have r' := fun v σ2 H2 F2 ρ2 d (s2 : Same F1 F2) => r v σ2 H2 F2 ρ2 d (s1.trans s2)
  have b' := fun σ2 H2 F2 ρ2 (s2 : Same F1 F2) => bk σ2 H2 F2 ρ2 (s1.trans s2)
  have c' := fun σ2 H2 F2 ρ2 (s2 : Same F1 F2) => ct σ2 H2 F2 ρ2 (s1.trans s2)
  cases c with
  | true => exact h b σ H1 F1 ρ1 E D' R1 hT n' r' b' c'
  | false => exact h2 b σ H1 F1 ρ1 E D' R1 hT n' r' b' c'
/-- a target, data -/
def dAsg (T : DE) (G : DG) : DS := fun E ρ => T ρ fun d ρ1 => G d ρ1 E.nx
theorem rs_asg {js : List Nat} {t : TE} {g : TG} {T : DE} {G : DG} (h : RE K ps t T) (hg : RG K ps js g G) : RS K ps (tAsg t g) (dAsg T G) := by
  intro b σ H F ρ E D' R hT n r bk ct
  refine h b σ H F ρ _ _ R hT fun v H1 F1 ρ1 d s1 R1 hd hΦ => ?_
  exact hg b σ H1 F1 ρ1 v d _ _ R1 hd hΦ fun σ2 H2 F2 ρ2 s2 R2 _ hn => n σ2 H2 F2 ρ2 (s1.trans s2) R2 hn
/-- a new list into a slot -/
def dSetL (j : Nat) (T : DLs) : DS := fun E ρ => T ρ fun ds ρ1 => E.nx (ρ1.set j (some (.l ds)))
theorem rs_setL {j : Nat} {t : TE} {T : DLs} (h : RL K ps t T) (hj : j ∉ ps := by decide) : RS K ps (tAsg t (gName j)) (dSetL j T) := by
  intro b σ H F ρ E D' R hT n r bk ct
  exact h b σ H F ρ _ _ R hT fun p xs H1 F1 ρ1 ds s1 R1 lo hx hd hΦ => n _ H1 F1 _ s1 (R1.setO hj rfl lo (at_l hx hd)) hΦ
def dSetM (j : Nat) (T : DDs) : DS := fun E ρ => T ρ fun ds ρ1 => E.nx (ρ1.set j (some (.m ds)))
theorem rs_setM {j : Nat} {t : TE} {T : DDs} (h : RD K ps t T) (hj : j ∉ ps := by decide) : RS K ps (tAsg t (gName j)) (dSetM j T) := by
  intro b σ H F ρ E D' R hT n r bk ct
  exact h b σ H F ρ _ _ R hT fun p xs H1 F1 ρ1 ds s1 R1 lo hx hd hΦ => n _ H1 F1 _ s1 (R1.setO hj rfl lo (at_m hx hd)) hΦ
/-- x op= e on ints, texts, a name -/
def dAug (i : Nat) (T : DE) (R : DO) : DS := fun E ρ => ∃ x, ρ[i]? = some (some (.d x)) ∧ T ρ fun y ρ1 => R x y fun z => E.nx (ρ1.set i (some (.d z)))
theorem rs_augI {i : Nat} {t : TE} {T : DE} {f : Int → Int → Int} (h : RE K ps t T) (hj : i ∉ ps := by decide) : RS K ps (tAug i t (ipI f)) (dAug i T (oI0 fun a c => .int (f a c))) := by
  intro b σ H F ρ E D' R hT n r bk ct
  obtain ⟨x, hx, hT⟩ := hT
  obtain ⟨v, h1, h2⟩ := R.slot i _ hx
  refine ⟨v, h1, h b σ H F ρ _ _ R hT fun y H1 F1 ρ1 d s1 R1 hd hΦ => ?_⟩
  cases x <;> try exact hΦ.elim
  cases d <;> try exact hΦ.elim
  exact ⟨_, _, Dr.inv_int h2, hd.inv_int, n _ H1 F1 _ s1 (R1.setD hj (.int _)) hΦ⟩
/-- append to the slot's list -/
def dApp (i : Nat) (T : DE) : DS := fun E ρ => (∃ ds0, ρ[i]? = some (some (.l ds0))) ∧ T ρ fun d ρ1 => ∃ ds, ρ1[i]? = some (some (.l ds)) ∧ ds.length < sizeLine ∧ E.nx (ρ1.set i (some (.l (ds ++ [d]))))
theorem rs_app {i : Nat} {t : TE} {T : DE} (h : RE K ps t T) : RS K ps (tDrop (tBM K "list" rAppend (tVar i) (tCons t tNil))) (dApp i T) := by
  intro b σ H F ρ E D' R hT n r bk ct
  obtain ⟨⟨ds0, e0⟩, hT⟩ := hT
  obtain ⟨p, hp, _, _, xs0, ex0, _⟩ := R.own e0 rfl
  refine ⟨_, hp, .inl ⟨rfl, xs0, SqL.of ex0⟩, h b σ H F ρ _ _ R hT fun y H1 F1 ρ1 d s1 R1 hd hΦ => ?_⟩
  obtain ⟨ds, e1, hz, hΦ⟩ := hΦ
  obtain ⟨p', hp', hF1, _, xs, ex, hx⟩ := R1.own e1 rfl
  rw [hp] at hp'
  cases hp'
  refine ⟨p, xs, y, rfl, rfl, ex, by rw [hx.1]; exact hz, n σ _ F1 _ s1 (R1.write e1 rfl rfl hp (fun a u na e => (upd_ne na).trans e) (Same.refl F1) (fun a o e => ?_) (fun a o e => .inl e) (fun a o e => .inl e) (at_l upd_same (hx.app (.one hd)))) hΦ⟩
  rw [upd_ne (fun z => by rw [z, hF1] at e; cases e)]
  exact R1.sub a o e
/-- pop from the slot's list -/
def dPop (i : Nat) : DE := fun ρ Φ => ∃ ds d, ρ[i]? = some (some (.l ds)) ∧ ds[ds.length - 1]? = some d ∧ Φ d (ρ.set i (some (.l ds.dropLast)))
theorem re_pop {i : Nat} : RE K ps (tBM0 K "list" rPop (tVar i)) (dPop i) := by
  intro b σ H F ρ Φ Q R hT k
  obtain ⟨ds, d, e0, hd, hT⟩ := hT
  obtain ⟨p, hp, hF, _, xs, ex, hx⟩ := R.own e0 rfl
  obtain ⟨v, hv, hdr⟩ := hx.get hd
  refine ⟨_, hp, .inl ⟨rfl, xs, SqL.of ex⟩, p, xs, v, rfl, rfl, ex, by rw [hx.1]; exact hv, k v _ F _ d (Same.refl F) (R.write e0 rfl rfl hp (fun a u na e => (upd_ne na).trans e) (Same.refl F) (fun a o e => ?_) (fun a o e => .inl e) (fun a o e => .inl e) (at_l upd_same hx.dropLast)) hdr hT⟩
  rw [upd_ne (fun z => by rw [z, hF] at e; cases e)]
  exact R.sub a o e
/-- x[e] = y in the slot's list -/
def dPutL (i : Nat) (Tv Ti : DE) : DS := fun E ρ => Tv ρ fun d ρ1 => (ρ1[i]?.join).isSome = true ∧ Ti ρ1 fun y ρ2 => ∃ ds k j, ρ2[i]? = some (some (.l ds)) ∧ y = .int k ∧ ixN ds.length k = some j ∧ E.nx (ρ2.set i (some (.l (ds.set j d))))
theorem rs_putL {i : Nat} {tv ti : TE} {Tv Ti : DE} (hv : RE K ps tv Tv) (hi : RE K ps ti Ti) : RS K ps (tAsg tv (gSub (tVar i) ti rSetL)) (dPutL i Tv Ti) := by
  intro b σ H F ρ E D' R hT n r bk ct
  refine hv b σ H F ρ _ _ R hT fun v H1 F1 ρ1 d s1 R1 hd hT => ?_
  obtain ⟨w, hw⟩ := slot_some R1 hT.1
  refine ⟨w, hw, hi b σ H1 F1 ρ1 _ _ R1 hT.2 fun y H2 F2 ρ2 e s2 R2 he hT => ?_⟩
  obtain ⟨ds, k, j, e1, rfl, hj, hΦ⟩ := hT
  obtain ⟨p, hp, hF2, _, xs, ex, hx⟩ := R2.own e1 rfl
  rw [hw] at hp
  cases hp
  refine ⟨p, xs, k, j, rfl, he.inv_int, ex, by rw [hx.1]; exact hj, n σ _ F2 _ (s1.trans s2) (R2.write e1 rfl rfl hw (fun a u na e => (upd_ne na).trans e) (Same.refl F2) (fun a o e => ?_) (fun a o e => .inl e) (fun a o e => .inl e) (at_l upd_same (hx.set (hd.up s2)))) hΦ⟩
  rw [upd_ne (fun z => by rw [z, hF2] at e; cases e)]
  exact R2.sub a o e
/-- x[e] = y in the slot's dict -/
def dPutM (i : Nat) (Tv Ti : DE) : DS := fun E ρ => Tv ρ fun d ρ1 => (ρ1[i]?.join).isSome = true ∧ Ti ρ1 fun y ρ2 => ∃ ks k, ρ2[i]? = some (some (.m ks)) ∧ keyD y = some k ∧ ks.length < sizeLine ∧ E.nx (ρ2.set i (some (.m (putD ks k d))))
theorem rs_putM {i : Nat} {tv ti : TE} {Tv Ti : DE} (hv : RE K ps tv Tv) (hi : RE K ps ti Ti) : RS K ps (tAsg tv (gSub (tVar i) ti rSetD)) (dPutM i Tv Ti) := by
  intro b σ H F ρ E D' R hT n r bk ct
  refine hv b σ H F ρ _ _ R hT fun v H1 F1 ρ1 d s1 R1 hd hT => ?_
  obtain ⟨w, hw⟩ := slot_some R1 hT.1
  refine ⟨w, hw, hi b σ H1 F1 ρ1 _ _ R1 hT.2 fun y H2 F2 ρ2 e s2 R2 he hT => ?_⟩
  obtain ⟨ks, key, e1, hk, hz, hΦ⟩ := hT
  obtain ⟨p, hp, hF2, _, xs, ex, hx⟩ := R2.own e1 rfl
  rw [hw] at hp
  cases hp
  rw [keyD_ok he hk]
  refine ⟨p, _, rfl, DPut.k ex (by rw [hx.len]; exact hz), n σ _ F2 _ (s1.trans s2) (R2.write e1 rfl rfl hw (fun a u na e => (upd_ne na).trans e) (Same.refl F2) (fun a o e => ?_) (fun a o e => .inl e) (fun a o e => .inl e) (at_m upd_same (hx.put (hd.up s2)))) hΦ⟩
  rw [upd_ne (fun z => by rw [z, hF2] at e; cases e)]
  exact R2.sub a o e
/-! ### loops -/
def dFor (Ti : DLs) (G : DG) (Tb : DS) : DS := fun E ρ => Ti ρ fun ds ρ1 => ∃ W : Nat → Env → Prop, W 0 ρ1 ∧ (∀ k x ρ, ds[k]? = some x → W k ρ → G x ρ fun ρ2 => Tb ⟨W (k + 1), E.rt, E.nx, W (k + 1)⟩ ρ2) ∧ ∀ ρ, W ds.length ρ → E.nx ρ
theorem rs_for {js : List Nat} {wi : TI} {g : TG} {tb : TS} {Ti : DLs} {G : DG} {Tb : DS} (hi : RI K ps wi Ti) (hg : RG K ps js g G) (hb : RS K ps tb Tb) : RS K ps (tFor wi g tb) (dFor Ti G Tb) := by
  intro b σ H F ρ E D' R0 hT n r bk ct
  refine hi b σ H F ρ _ _ R0 hT fun J H1 F1 ρ1 ds s1 R1 hw hT => ?_
  obtain ⟨Gd, Y, hwk, hG, hY⟩ := hw
  obtain ⟨W, w0, wt, wd⟩ := hT
  refine for_it hwk (fun i σ' H' => ∃ F' ρ', Same F1 F' ∧ Rep K ps b σ' H' F' ρ' ∧ W i ρ') ⟨F1, ρ1, Same.refl F1, R1, w0⟩ ?_ ?_ ?_
  · rintro i σ' H' _ ⟨F', ρ', s, R, _⟩
    exact hG H' F' s R.sub
  · rintro i x σ2 H2 H3 hin ⟨F2, ρ2, s, R2, hW⟩ y
    obtain ⟨d, F3, hd, hdr, hy⟩ := hY i H2 x H3 y hin F2 s R2.sub
    have st : Rep K ps b σ2 H3 F3 ρ2 ∧ Same F2 F3 := by
      rcases hy with ⟨rfl, rfl⟩ | ⟨q, o, hq, hqn, rfl, rfl⟩
      · exact ⟨R2, Same.refl _⟩
      · exact ⟨R2.alloc hq hqn, SX.same_upd (R2.fresh hq).1⟩
    obtain ⟨R3, s3⟩ := st
    refine hg b σ2 H3 F3 ρ2 x d _ _ R3 hdr (wt i d ρ2 hd hW) fun σ4 H4 F4 ρ4 s4 R4 _ hT => ?_
    have s14 := ((s.trans s3).trans s4)
    exact hb b σ4 H4 F4 ρ4 _ _ R4 hT (fun σ5 H5 F5 ρ5 s5 R5 h => ⟨F5, ρ5, s14.trans s5, R5, h⟩) (fun v σ5 H5 F5 ρ5 d s5 R5 hd h => r v σ5 H5 F5 ρ5 d (s1.trans (s14.trans s5)) R5 hd h) (fun σ5 H5 F5 ρ5 s5 R5 h => n σ5 H5 F5 ρ5 (s1.trans (s14.trans s5)) R5 h)
      (fun σ5 H5 F5 ρ5 s5 R5 h => ⟨F5, ρ5, s14.trans s5, R5, h⟩)
  · rintro σ' H' ⟨F', ρ', s, R, hW⟩
    exact n σ' H' F' ρ' (s1.trans s) R (wd ρ' hW)
def dWhile (C : DT) (Tb : DS) : DS := fun E ρ => ∃ W : Nat → Env → Prop, (∃ m, W m ρ) ∧ ∀ m ρ, W m ρ → C ρ fun c ρ1 => if c = true then Tb ⟨fun ρ2 => ∃ m', m' < m ∧ W m' ρ2, E.rt, E.nx, fun ρ2 => ∃ m', m' < m ∧ W m' ρ2⟩ ρ1 else E.nx ρ1
theorem rs_while {c : TT} {tb : TS} {C : DT} {Tb : DS} (hc : RT K ps c C) (hb : RS K ps tb Tb) : RS K ps (tWhile c tb) (dWhile C Tb) := by
  intro b σ H F ρ E D' R0 hT n r bk ct
  obtain ⟨W, ⟨m0, w0⟩, wt⟩ := hT
  refine ⟨fun m σ' H' => ∃ F' ρ', Same F F' ∧ Rep K ps b σ' H' F' ρ' ∧ W m ρ', ⟨m0, F, ρ, Same.refl F, R0, w0⟩, ?_⟩
  rintro m σ1 H1 ⟨F1, ρ1, s1, R1, hW⟩
  refine hc b σ1 H1 F1 ρ1 _ _ R1 (wt m ρ1 hW) fun c H2 F2 ρ2 s2 R2 hT => ?_
  cases c with
  | false => exact n σ1 H2 F2 ρ2 (s1.trans s2) R2 hT
  | true =>
    refine ⟨fun σ' H' => ∃ m', m' < m ∧ ∃ F' ρ', Same F F' ∧ Rep K ps b σ' H' F' ρ' ∧ W m' ρ', fun σ' H' h => h, ?_⟩
    exact hb b σ1 H2 F2 ρ2 _ _ R2 hT (fun σ5 H5 F5 ρ5 s5 R5 ⟨m', h1, h2⟩ => ⟨m', h1, F5, ρ5, (s1.trans s2).trans s5, R5, h2⟩) (fun v σ5 H5 F5 ρ5 d s5 R5 hd h => r v σ5 H5 F5 ρ5 d ((s1.trans s2).trans s5) R5 hd h)
      (fun σ5 H5 F5 ρ5 s5 R5 h => n σ5 H5 F5 ρ5 ((s1.trans s2).trans s5) R5 h) (fun σ5 H5 F5 ρ5 s5 R5 ⟨m', h1, h2⟩ => ⟨m', h1, F5, ρ5, (s1.trans s2).trans s5, R5, h2⟩)
/-! ### what a def promises -/
def Ok0 (K : PySem.W.Frag) (F H : Hp) (v : V) (o : OV) : Prop := match o with
  | .d x => Dr K F v x
  | o => ∃ p, v = .ref p ∧ F p = none ∧ At K F H p o
theorem Ok0.mk {F H : Hp} {v : V} {o : OV} {p : Addr} (hv : v = .ref p) (ho : o.own = true) (hF : F p = none) (h : At K F H p o) : Ok0 K F H v o := by
  cases o with
  | d _ => cases ho
  | l ds => exact ⟨p, hv, hF, h⟩
  | m ks => exact ⟨p, hv, hF, h⟩
  | draw => exact ⟨p, hv, hF, h⟩
theorem Ok0.inv {F H : Hp} {v : V} {o : OV} (h : Ok0 K F H v o) (ho : o.own = true) : ∃ p, v = .ref p ∧ F p = none ∧ At K F H p o := by
  cases o with
  | d _ => cases ho
  | l ds => exact h
  | m ks => exact h
  | draw => exact h
def OwnA (vs : List V) (os : List OV) (a : Addr) : Prop := ∃ (i : Nat) (o : OV), os[i]? = some o ∧ o.own = true ∧ vs[i]? = some (.ref a)
structure ArgsAt (K : PySem.W.Frag) (F H : Hp) (vs : List V) (os : List OV) : Prop where
  len : vs.length = os.length
  ok : ∀ (i : Nat) v o, vs[i]? = some v → os[i]? = some o → Ok0 K F H v o
  apart : ∀ (i j : Nat) o u v, i ≠ j → os[i]? = some o → o.own = true → os[j]? = some u → u.own = true → vs[i]? = some v → vs[j]? ≠ some v
abbrev SD := List OV → (D → List OV → Prop) → Prop
/-- the promise S, over the heap -/
def spOf (K : PySem.W.Frag) (S : SD) : Sp := fun vs H Q _ => ∃ (F : Hp) (os : List OV) (Φ : D → List OV → Prop), (Sub F H ∧ (∀ a o, F a = some o → NT o) ∧ LamX.Tabs Tbs.T H ∧ Same Tbs.B F) ∧ ArgsAt K F H vs os ∧ S os Φ ∧
  ∀ F' H' v d os', Same F F' → (Sub F' H' ∧ (∀ a o, F' a = some o → NT o) ∧ LamX.Tabs Tbs.T H') → (∀ a o, H a = some o → ¬ OwnA vs os a → NT o → H' a = some o) → (∀ a o, H a = some o → ∃ o', H' a = some o') → (∀ a o, F' a = some o → F a = some o ∨ H a = none ∨ OwnA vs os a) →
    os'.length = os.length → (∀ (i : Nat) o o' v, os[i]? = some o → o.own = true → os'[i]? = some o' → vs[i]? = some v → Ok0 K F' H' v o') → Dr K F' v d → Φ d os' → Q v H'
def slotO (o : Option (Option OV)) : OV := match o with
  | some (some o) => o
  | _ => .d .non
def outs (n : Nat) (ρ : Env) : List OV := (List.range n).map fun i => slotO ρ[i]?
def startD (n : Nat) (os : List OV) : Env := os.map some ++ List.replicate (n - os.length) none
theorem fn_go {N pr : List Str} {S : SD} {ps : List Nat} {T : DS} {t : TS} {vs : List V} {H : Hp} {Q : VK} {E : XK} (hN : pr.length ≤ N.length) (h2 : RS K ps t T)
    (len : ∀ os Φ, S os Φ → os.length = pr.length ∧ (∀ (i : Nat) o, os[i]? = some o → o.own = true → i ∈ ps) ∧ ∀ i ∈ ps, i < os.length)
    (go : ∀ os Φ, S os Φ → T ⟨fun ρ => (∀ i ∈ ps, (ρ[i]?.join).isSome = true) ∧ Φ .non (outs os.length ρ), fun d ρ => (∀ i ∈ ps, (ρ[i]?.join).isSome = true) ∧ Φ d (outs os.length ρ), fun _ => False, fun _ => False⟩ (startD N.length os))
    (h : spOf K S vs H Q E) : t { nx := fun _ H' => Q .non H', rt := Q } (L2.start N vs) H := by
  obtain ⟨F, os, Φ, ⟨hsub, hnt, htb, hB⟩, ha, hS, q⟩ := h
  obtain ⟨l1, l2, l3⟩ := len os Φ hS
  have sg : ∀ {i : Nat} {v : V}, vs[i]? = some v → (L2.start N vs)[i]? = some (some v) := fun {i v} e => by
    have hi := (List.getElem?_eq_some_iff.mp e).1
    unfold L2.start
    rw [List.getElem?_append_left (by rw [List.length_map]; exact hi), List.getElem?_map, e]
    rfl
  have dg : ∀ {i : Nat} {o : OV}, (startD N.length os)[i]? = some (some o) → os[i]? = some o := fun {i o} e => by
    unfold startD at e
    by_cases hi : i < os.length
    · rw [List.getElem?_append_left (by rw [List.length_map]; exact hi), List.getElem?_map] at e
      cases e2 : os[i]? with
      | none => rw [e2] at e; cases e
      | some o' => rw [e2] at e; cases e; rfl
    · rw [List.getElem?_append_right (by rw [List.length_map]; omega)] at e
      have := List.mem_of_getElem? e
      rw [List.mem_replicate] at this
      cases this.2
  have vget : ∀ {i : Nat} {o : OV}, os[i]? = some o → ∃ v, vs[i]? = some v := fun {i o} e => by
    have hi := (List.getElem?_eq_some_iff.mp e).1
    exact ⟨_, List.getElem?_eq_getElem (by rw [ha.len]; exact hi)⟩
  have R : Rep K ps ⟨H, F, vs, OwnA vs os⟩ (L2.start N vs) H F (startD N.length os) := by
    refine ⟨hsub, ⟨Same.refl F, hB⟩, fun a o e _ _ => e, fun a ⟨i, o, e1, e2, e3⟩ => ?_, fun a o e => .inl e, fun i o e => ?_, fun i j o u v n e1 o1 e2 o2 s1 s2 => ?_, ?_, fun i hi => ?_, hnt, fun a o e => ⟨o, e⟩, htb⟩
    · obtain ⟨p, h3, _, h4⟩ := (ha.ok i _ o e3 e1).inv e2
      cases h3
      exact h4.ex
    · have e' := dg e
      obtain ⟨v, hv⟩ := vget e'
      refine ⟨v, sg hv, ?_⟩
      have hok := ha.ok i v o hv e'
      by_cases ho : o.own = true
      · obtain ⟨p, rfl, h3, h4⟩ := hok.inv ho
        exact .mk rfl ho h3 (.inr ⟨i, o, e', ho, hv⟩) h4
      · cases o with
        | d x => exact hok
        | _ => exact absurd rfl ho
    · have e1' := dg e1
      have e2' := dg e2
      obtain ⟨v1, hv1⟩ := vget e1'
      obtain ⟨v2, hv2⟩ := vget e2'
      have := sg hv1
      rw [s1] at this
      cases this
      have := sg hv2
      rw [s2] at this
      cases this
      exact ha.apart i j o u v n e1' o1 e2' o2 hv1 hv2
    · unfold startD L2.start
      rw [List.length_append, List.length_append, List.length_map, List.length_map, List.length_replicate, List.length_replicate, ha.len]
    · have hi' := l3 i hi
      obtain ⟨v, hv⟩ := vget (List.getElem?_eq_getElem hi')
      exact ⟨v, sg hv, hv⟩
  have fin : ∀ v σ' H' F' ρ' d, Same F F' → Rep K ps ⟨H, F, vs, OwnA vs os⟩ σ' H' F' ρ' → Dr K F' v d → ((∀ i ∈ ps, (ρ'[i]?.join).isSome = true) ∧ Φ d (outs os.length ρ')) → Q v H' := by
    intro v σ' H' F' ρ' d s1 R1 hd hΦ
    refine q F' H' v d (outs os.length ρ') s1 ⟨R1.sub, R1.nt, R1.tabs⟩ R1.keep (fun a o e => ?_) R1.new (by simp [outs]) (fun i o o' u e1 e2 e3 e4 => ?_) hd hΦ.2
    · by_cases z : OwnA vs os a
      · exact R1.there a z
      · exact R1.dom a o e
    · have hi := l2 i o e1 e2
      have hs := hΦ.1 i hi
      obtain ⟨u', g1, g2⟩ := R1.pin i hi
      rw [e4] at g2
      cases g2
      cases e5 : ρ'[i]? with
      | none => rw [e5] at hs; cases hs
      | some o5 =>
        cases o5 with
        | none => rw [e5] at hs; cases hs
        | some o5 =>
          have hil : i < os.length := (List.getElem?_eq_some_iff.mp e1).1
          have e6 : (outs os.length ρ')[i]? = some o5 := by
            unfold outs
            rw [List.getElem?_map, List.getElem?_range hil, Option.map_some, e5]
            rfl
          rw [e6] at e3
          obtain rfl : o5 = o' := Option.some.inj e3
          obtain ⟨u2, g3, g4⟩ := R1.slot i o5 e5
          rw [g1] at g3
          cases g3
          by_cases ho : o5.own = true
          · obtain ⟨p, rfl, z1, _, z2⟩ := g4.inv ho
            exact .mk rfl ho z1 z2
          · cases o5 with
            | d x => exact g4
            | _ => exact absurd rfl ho
  exact h2 _ _ H F _ _ _ R (go os Φ hS) (fun σ' H' F' ρ' s1 R1 hn => fin .non σ' H' F' ρ' .non s1 R1 .non hn) fin (fun _ _ _ _ _ _ z => z.elim) (fun _ _ _ _ _ _ z => z.elim)
theorem fnD {P : Program} {w : World} {mg : Str → Option Value} {base : Heap} {x qual : Str} {st : Stmt} {f : Addr} {fd : FuncData} {N pr : List Str} {k : Nat} {S : SD} (Fn : Fun K x qual st f fd) (Sc : FnScope N pr (defScope st)) (ps : List Nat) {T : DS}
    (body : ∀ (cdv : Value) (A : Around) (outer : List PySem.Env) (s : Shared) (H : Hp) (E : XK), Room k (A.deeper (envOfC qual (defScope st) s.heap.objs.size f cdv)) →
      ∃ t, PSs (cxOf CX0 P w K mg base N qual (defScope st) f cdv A outer s H E).nox (defBody st) t ∧ RS K ps t T)
    (len : ∀ os Φ, S os Φ → os.length = pr.length ∧ (∀ (i : Nat) o, os[i]? = some o → o.own = true → i ∈ ps) ∧ ∀ i ∈ ps, i < os.length)
    (go : ∀ os Φ, S os Φ → T ⟨fun ρ => (∀ i ∈ ps, (ρ[i]?.join).isSome = true) ∧ Φ .non (outs os.length ρ), fun d ρ => (∀ i ∈ ps, (ρ[i]?.join).isSome = true) ∧ Φ d (outs os.length ρ), fun _ => False, fun _ => False⟩ (startD N.length os)) :
    FnOk P w K mg base CX0 (k + 1) f fd pr (spOf K S) := by
  refine Fn.ok Sc (fun vs H Q E h => ?_) (fun cdv A outer s H vs Q E hr h => ?_)
  · obtain ⟨F, os, Φ, _, ha, hS, _⟩ := h
    rw [ha.len]
    exact (len os Φ hS).1
  · obtain ⟨t, h1, h2⟩ := body cdv A outer s H E hr
    have hN : pr.length ≤ N.length := by
      have := congrArg List.length Sc.pre
      rw [List.length_take] at this
      omega
    exact ⟨t, h1, fn_go hN h2 len go h⟩
/-- the def's code object stands at c -/
theorem okC {P : Program} {w : World} {mg : Str → Option Value} {base : Heap} {x qual : Str} {st : Stmt} {f c : Addr} {fd : FuncData} {N ps : List Str} {k : Nat} {sp : Sp} (F : Fun K x qual st f fd) (hc : fd.code = .ref c) (S : FnScope N ps (defScope st)) (len : ∀ vs H Q E, sp vs H Q E → vs.length = ps.length)
    (body : ∀ (A : Around) (outer : List PySem.Env) (s : Shared) (H : Hp) (vs : List V) (Q : VK) (E : XK), Room k (A.deeper (envOfC qual (defScope st) s.heap.objs.size f (.ref c))) → sp vs H Q E →
      ∃ t, PSs (cxOf CX0 P w K mg base N qual (defScope st) f (.ref c) A outer s H E).nox (defBody st) t ∧ t { nx := fun _ H' => Q .non H', rt := Q } (L2.start N vs) H) : FnOk P w K mg base CX0 (k + 1) f fd ps sp := by
  obtain ⟨oc, od, kV, doc, pm, an, cdv, ct, osl, e, lk, hcd⟩ := F.ex
  subst e
  obtain rfl : cdv = .ref c := hc
  refine fn_of lk hcd S len fun A outer s H vs Q E hr hsp => ?_
  obtain ⟨t, h, q⟩ := body A outer s H vs Q E hr hsp
  exact ⟨t, h.nox, q⟩
theorem fnDC {P : Program} {w : World} {mg : Str → Option Value} {base : Heap} {x qual : Str} {st : Stmt} {f c : Addr} {fd : FuncData} {N pr : List Str} {k : Nat} {S : SD} (Fn : Fun K x qual st f fd) (hc : fd.code = .ref c) (Sc : FnScope N pr (defScope st)) (ps : List Nat) {T : DS}
    (body : ∀ (A : Around) (outer : List PySem.Env) (s : Shared) (H : Hp) (E : XK), Room k (A.deeper (envOfC qual (defScope st) s.heap.objs.size f (.ref c))) →
      ∃ t, PSs (cxOf CX0 P w K mg base N qual (defScope st) f (.ref c) A outer s H E).nox (defBody st) t ∧ RS K ps t T)
    (len : ∀ os Φ, S os Φ → os.length = pr.length ∧ (∀ (i : Nat) o, os[i]? = some o → o.own = true → i ∈ ps) ∧ ∀ i ∈ ps, i < os.length)
    (go : ∀ os Φ, S os Φ → T ⟨fun ρ => (∀ i ∈ ps, (ρ[i]?.join).isSome = true) ∧ Φ .non (outs os.length ρ), fun d ρ => (∀ i ∈ ps, (ρ[i]?.join).isSome = true) ∧ Φ d (outs os.length ρ), fun _ => False, fun _ => False⟩ (startD N.length os)) :
    FnOk P w K mg base CX0 (k + 1) f fd pr (spOf K S) := by
  refine okC Fn hc Sc (fun vs H Q E h => ?_) (fun A outer s H vs Q E hr h => ?_)
  · obtain ⟨F, os, Φ, _, ha, hS, _⟩ := h
    rw [ha.len]
    exact (len os Φ hS).1
  · obtain ⟨t, h1, h2⟩ := body A outer s H E hr
    have hN : pr.length ≤ N.length := by
      have := congrArg List.length Sc.pre
      rw [List.length_take] at this
      omega
    exact ⟨t, h1, fn_go hN h2 len go h⟩
end
end DL
/-! Part 8: calls. -/
namespace DL
variable [Tbs]
open PySem PySem.Spec PyProof.Rows L2
section
variable {K : PySem.W.Frag} {ps : List Nat}
/-- a promise by data alone -/
def pureS (s : List D → (D → Prop) → Prop) : SD := fun os Φ => ∃ ds, os = ds.map .d ∧ s ds fun d => Φ d os
def ovOf (ρ : Env) : AV → OV
  | .v d => .d d
  | .s i => slotO ρ[i]?
def putBack : List AV → List OV → Env → Env
  | .s i :: as, o :: os, ρ => putBack as os (ρ.set i (some o))
  | .v _ :: as, _ :: os, ρ => putBack as os ρ
  | _, _, ρ => ρ
theorem putBack_len : ∀ (as : List AV) (os : List OV) (ρ : Env), (putBack as os ρ).length = ρ.length
  | .s i :: as, o :: os, ρ => by unfold putBack; rw [putBack_len as os, List.length_set]
  | .v _ :: as, _ :: os, ρ => by unfold putBack; exact putBack_len as os ρ
  | [], _, ρ => by cases ‹List OV› <;> rfl
  | .s _ :: _, [], ρ => rfl
  | .v _ :: _, [], ρ => rfl
theorem putBack_some {j : Nat} {o : OV} : ∀ {as : List AV} {os : List OV} {ρ : Env}, as.length ≤ os.length → (putBack as os ρ)[j]? = some (some o) → (∃ k : Nat, as[k]? = some (AV.s j) ∧ os[k]? = some o) ∨ ((∀ k : Nat, as[k]? ≠ some (AV.s j)) ∧ ρ[j]? = some (some o))
  | [], os, ρ, _, h => by
    have e : putBack [] os ρ = ρ := by cases os <;> rfl
    rw [e] at h
    exact .inr ⟨fun k z => (by cases z), h⟩
  | .v d :: as, [], ρ, hl, _ => by cases hl
  | .s i :: as, [], ρ, hl, _ => by cases hl
  | .v d :: as, u :: os, ρ, hl, h => by
    rcases putBack_some (Nat.le_of_succ_le_succ hl) (show (putBack as os ρ)[j]? = _ from h) with ⟨k, h1, h2⟩ | ⟨h1, h2⟩
    · exact .inl ⟨k + 1, h1, h2⟩
    · exact .inr ⟨fun k z => match k, z with
        | 0, z => by cases z
        | k + 1, z => h1 k z, h2⟩
  | .s i :: as, u :: os, ρ, hl, h => by
    rcases putBack_some (Nat.le_of_succ_le_succ hl) (show (putBack as os (ρ.set i (some u)))[j]? = _ from h) with ⟨k, h1, h2⟩ | ⟨h1, h2⟩
    · exact .inl ⟨k + 1, h1, h2⟩
    · rcases set_some h2 with ⟨rfl, q⟩ | ⟨n, q⟩
      · cases q
        exact .inl ⟨0, rfl, rfl⟩
      · exact .inr ⟨fun k z => match k, z with
          | 0, z => by cases z; exact n rfl
          | k + 1, z => h1 k z, q⟩
/-- the slots that are handed in -/
def slotsOf : List AV → List Nat
  | [] => []
  | .s i :: as => i :: slotsOf as
  | .v _ :: as => slotsOf as
theorem mem_slotsOf {i : Nat} : ∀ {as : List AV} {k : Nat}, as[k]? = some (AV.s i) → i ∈ slotsOf as
  | .s j :: as, 0, h => by cases h; exact List.mem_cons_self
  | .v d :: as, 0, h => by cases h
  | .s j :: as, k + 1, h => List.mem_cons_of_mem _ (mem_slotsOf (as := as) (k := k) h)
  | .v d :: as, k + 1, h => mem_slotsOf (as := as) (k := k) h
theorem slot_once {i : Nat} : ∀ {as : List AV} {k l : Nat}, (slotsOf as).Nodup → as[k]? = some (AV.s i) → as[l]? = some (AV.s i) → k = l
  | .s j :: as, 0, 0, _, _, _ => rfl
  | .s j :: as, 0, l + 1, n, h1, h2 => by
    cases h1
    exact absurd (mem_slotsOf (as := as) (k := l) h2) (List.nodup_cons.mp n).1
  | .s j :: as, k + 1, 0, n, h1, h2 => by
    cases h2
    exact absurd (mem_slotsOf (as := as) (k := k) h1) (List.nodup_cons.mp n).1
  | .s j :: as, k + 1, l + 1, n, h1, h2 => congrArg Nat.succ (slot_once (as := as) (List.nodup_cons.mp n).2 h1 h2)
  | .v d :: as, 0, _, _, h1, _ => by cases h1
  | .v d :: as, _ + 1, 0, _, _, h2 => by cases h2
  | .v d :: as, k + 1, l + 1, n, h1, h2 => congrArg Nat.succ (slot_once (as := as) n h1 h2)
theorem ArgRel.len {σ : St} {F : Hp} {vs : List V} {as : List AV} (h : ArgRel K σ F vs as) : vs.length = as.length := by
  induction h with
  | nil => rfl
  | v _ _ ih => exact congrArg Nat.succ ih
  | s _ _ ih => exact congrArg Nat.succ ih
theorem ArgRel.get {σ : St} {F : Hp} {vs : List V} {as : List AV} (h : ArgRel K σ F vs as) : ∀ {k : Nat} {v : V} {a : AV}, vs[k]? = some v → as[k]? = some a → match a with
    | .v d => Dr K F v d
    | .s i => σ[i]? = some (some v) := by
  induction h with
  | nil => intro k v a h; cases h
  | v h _ ih =>
    intro k v a h1 h2
    cases k with
    | zero => cases h1; cases h2; exact h
    | succ k => exact ih h1 h2
  | s h _ ih =>
    intro k v a h1 h2
    cases k with
    | zero => cases h1; cases h2; exact h
    | succ k => exact ih h1 h2
def ownB (ρ : Env) : AV → Bool
  | .v _ => true
  | .s i => (slotO ρ[i]?).own
/-- f(..), arguments of any kind -/
def dCall (S : SD) (Ta : DAs) : DE := fun ρ Φ => Ta ρ fun as ρ1 => (as.all (ownB ρ1) = true ∧ (slotsOf as).Nodup) ∧ S (as.map (ovOf ρ1)) fun d os => Φ d (putBack as os ρ1)
theorem slotO_own {o : Option (Option OV)} (h : (slotO o).own = true) : ∃ u, o = some (some u) ∧ slotO o = u ∧ u.own = true := by
  cases o with
  | none => cases h
  | some o =>
    cases o with
    | none => cases h
    | some u => exact ⟨u, rfl, rfl, h⟩
theorem re_call {S : SD} {t : TA} {Ta : DAs} {E : XK} (h : RA K ps t Ta) : RE K ps (tCall (spOf K S) [] E t) (dCall S Ta) := by
  intro b σ H F ρ Φ Q R0 hT k
  refine h b σ H F ρ _ _ R0 hT fun vs H1 F1 ρ1 as s1 R1 hr hT => ?_
  obtain ⟨⟨hown, hnd⟩, hS⟩ := hT
  have hl := hr.len
  have hO : ∀ {k : Nat} {i : Nat}, as[k]? = some (AV.s i) → ∃ u, ρ1[i]? = some (some u) ∧ ovOf ρ1 (.s i) = u ∧ u.own = true := fun {k i} e => slotO_own (List.all_eq_true.mp hown _ (List.mem_of_getElem? e))
  have og : ∀ {k : Nat} {o : OV}, (as.map (ovOf ρ1))[k]? = some o → ∃ a, as[k]? = some a ∧ ovOf ρ1 a = o := fun {k o} e => by
    rw [List.getElem?_map] at e
    exact Option.map_eq_some_iff.mp e
  have ow : ∀ {a : Addr}, OwnA vs (as.map (ovOf ρ1)) a → Owned σ ρ1 a := fun {a} ⟨k, o, e1, e2, e3⟩ => by
    obtain ⟨av, g1, g2⟩ := og e1
    cases av with
    | v d => subst g2; cases e2
    | s i =>
      obtain ⟨u, z1, z2, z3⟩ := hO g1
      exact ⟨i, u, z1, z3, hr.get e3 g1⟩
  refine ⟨F1, as.map (ovOf ρ1), _, ⟨R1.sub, R1.nt, R1.tabs, R1.grow.b⟩, ⟨by rw [List.length_map]; simpa using hl, fun k v o e1 e2 => ?_, fun k l o u v n e1 o1 e2 o2 e3 e4 => ?_⟩, hS, fun F' H' v d os' s2 ⟨sub2, nt2, tb2⟩ kp th nw len2 hout hd hΦ => ?_⟩
  · rw [List.append_nil] at e1
    obtain ⟨av, g1, g2⟩ := og e2
    have hg := hr.get e1 g1
    cases av with
    | v d => subst g2; exact hg
    | s i =>
      obtain ⟨u, z1, z2, z3⟩ := hO g1
      rw [z2] at g2
      subst g2
      obtain ⟨p, y1, y2, _, y3⟩ := R1.own z1 z3
      have hg' : σ[i]? = some (some v) := hg
      rw [y1] at hg'
      cases hg'
      exact .mk rfl z3 y2 y3
  · rw [List.append_nil] at e3 e4
    obtain ⟨a1, g1, g2⟩ := og e1
    obtain ⟨a2, g3, g4⟩ := og e2
    cases a1 with
    | v d => subst g2; cases o1
    | s i =>
      cases a2 with
      | v d => subst g4; cases o2
      | s j =>
        obtain ⟨u1, z1, z2, z3⟩ := hO g1
        obtain ⟨u2, z4, z5, z6⟩ := hO g3
        have hij : i ≠ j := fun z => by
          subst z
          exact n (slot_once hnd g1 g3)
        exact R1.apart i j u1 u2 v hij z1 z3 z4 z6 (hr.get e3 g1) (hr.get e4 g3)
  · rw [List.append_nil] at kp nw hout
    rw [List.length_map] at len2
    refine k v H' F' _ d (s1.trans s2) ⟨sub2, R1.grow.trans s2, fun a o e nn nz => ?_, fun a z => ?_, fun a o e => ?_, fun j o e => ?_, fun i j o u w n e1 o1 e2 o2 w1 => ?_, by rw [putBack_len, R1.len], R1.pin, nt2, fun a o e => (R1.dom a o e).elim fun o1 e1 => th a o1 e1, tb2⟩ hd hΦ
    · refine kp a o (R1.keep a o e nn nz) (fun z => ?_) nz
      rcases (R1.owned (ow z)).2.1 with h | h
      · rw [h] at e; cases e
      · exact nn h
    · obtain ⟨o, e⟩ := R1.there a z
      exact th a o e
    · rcases nw a o e with z | z | z
      · exact R1.new a o z
      · exact .inr (.inl (R1.fresh z).2.1)
      · rcases (R1.owned (ow z)).2.1 with h | h
        · exact .inr (.inl h)
        · exact .inr (.inr h)
    · rcases putBack_some (by rw [len2]; exact Nat.le_refl _) e with ⟨k', g1, g2⟩ | ⟨g1, g2⟩
      · obtain ⟨u, z1, z2, z3⟩ := hO g1
        obtain ⟨p, y1, y2, y3, y4⟩ := R1.own z1 z3
        have hk : k' < vs.length := by rw [hl]; exact (List.getElem?_eq_some_iff.mp g1).1
        have hv := List.getElem?_eq_getElem hk
        have hg : σ[j]? = some (some vs[k']) := hr.get hv g1
        have e7 : (as.map (ovOf ρ1))[k']? = some u := by
          rw [List.getElem?_map, g1]
          exact congrArg some z2
        have ho := hout k' u o _ e7 z3 g2 hv
        refine ⟨_, hg, ?_⟩
        by_cases hoo : o.own = true
        · obtain ⟨p', q1, q2, q3⟩ := ho.inv hoo
          rw [hg] at y1
          have q4 : vs[k'] = .ref p := Option.some.inj (Option.some.inj y1)
          rw [q4] at q1
          cases q1
          exact .mk q4 hoo q2 y3 q3
        · cases o with
          | d x => exact ho
          | _ => exact absurd rfl hoo
      · obtain ⟨w, h1, h2⟩ := R1.slot j o g2
        refine ⟨w, h1, ?_⟩
        by_cases hoo : o.own = true
        · obtain ⟨p, rfl, q1, q2, q3⟩ := h2.inv hoo
          have nO : ¬ OwnA vs (as.map (ovOf ρ1)) p := fun ⟨k', u, e1, e2, e3⟩ => by
            obtain ⟨av, z1, z2⟩ := og e1
            cases av with
            | v d => subst z2; cases e2
            | s i =>
              obtain ⟨u', z3, z4, z5⟩ := hO z1
              have hij : j ≠ i := fun z => by
                subst z
                exact g1 k' z1
              exact R1.apart j i o u' _ hij g2 hoo z3 z5 h1 (hr.get e3 z1)
          obtain ⟨w', ew, nw', _⟩ := q3.kind
          refine .mk rfl hoo ?_ q2 (q3.up s2 ((kp p w' ew nO nw').trans ew.symm))
          cases e8 : F' p with
          | none => rfl
          | some u' =>
            rcases nw p u' e8 with z | z | z
            · rw [q1] at z; cases z
            · rw [ew] at z; cases z
            · exact absurd z nO
        · cases o with
          | d x => exact Dr.up s2 h2
          | _ => exact absurd rfl hoo
    · have up : ∀ {j : Nat} {o : OV}, (putBack as os' ρ1)[j]? = some (some o) → o.own = true → ∃ u, ρ1[j]? = some (some u) ∧ u.own = true := fun {j o} e ho => by
        rcases putBack_some (by rw [len2]; exact Nat.le_refl _) e with ⟨k', g1, g2⟩ | ⟨g1, g2⟩
        · obtain ⟨u, z1, _, z3⟩ := hO g1
          exact ⟨u, z1, z3⟩
        · exact ⟨o, g2, ho⟩
      obtain ⟨u1, a1, a2⟩ := up e1 o1
      obtain ⟨u2, c1, c2⟩ := up e2 o2
      exact R1.apart i j u1 u2 w n a1 a2 c1 c2 w1
/-- f(..), data in -/
def dCallV (s : List D → (D → Prop) → Prop) (Ta : DLs) : DE := fun ρ Φ => Ta ρ fun ds ρ1 => s ds fun d => Φ d ρ1
theorem re_callV {s : List D → (D → Prop) → Prop} {t : TA} {Ta : DLs} {E : XK} (h : RV K ps t Ta) : RE K ps (tCall (spOf K (pureS s)) [] E t) (dCallV s Ta) := by
  intro b σ H F ρ Φ Q R0 hT k
  refine h b σ H F ρ _ _ R0 hT fun vs H1 F1 ρ1 ds s1 R1 hr hS => ?_
  have nO : ∀ a, ¬ OwnA vs (ds.map .d) a := fun a ⟨i, o, e1, e2, _⟩ => by
    rw [List.getElem?_map] at e1
    obtain ⟨d, _, rfl⟩ := Option.map_eq_some_iff.mp e1
    cases e2
  have eq : vs ++ ([] : List V) = vs := List.append_nil vs
  refine ⟨F1, ds.map .d, fun d _ => Φ d ρ1, ⟨R1.sub, R1.nt, R1.tabs, R1.grow.b⟩, ⟨by rw [List.length_map, eq]; exact hr.1, fun k v o e1 e2 => ?_, fun k l o u v n e1 o1 e2 o2 e3 e4 => ?_⟩, ⟨ds, rfl, hS⟩, fun F' H' v d os' s2 ⟨sub2, nt2, tb2⟩ kp th nw len2 hout hd hΦ => ?_⟩
  · rw [eq] at e1
    rw [List.getElem?_map] at e2
    obtain ⟨d, hd, rfl⟩ := Option.map_eq_some_iff.mp e2
    exact hr.2 k v d e1 hd
  · rw [List.getElem?_map] at e1
    obtain ⟨d, _, rfl⟩ := Option.map_eq_some_iff.mp e1
    cases o1
  · rw [eq] at kp nw
    exact k v H' F' ρ1 d (s1.trans s2) (R1.grownT (fun a o e nz => kp a o e (nO a) nz) th s2 sub2 (fun a o e => (nw a o e).elim .inl fun h => h.elim .inr fun z => absurd z (nO a)) nt2 tb2) hd hΦ
end
end DL
/-! Part 9: what simp knows. -/
namespace DL

open PySem PySem.Spec PyProof.Rows L2
@[simp] theorem isN_1 : isN "NoneType" "list" = some false := by decide +kernel
@[simp] theorem isN_2 : isN "NoneType" "tuple" = some false := by decide +kernel
@[simp] theorem isN_3 : isN "NoneType" "bool" = some false := by decide +kernel
@[simp] theorem isN_4 : isN "NoneType" "str" = some false := by decide +kernel
@[simp] theorem isN_5 : isN "NoneType" "int" = some false := by decide +kernel
@[simp] theorem isN_6 : isN "bool" "list" = some false := by decide +kernel
@[simp] theorem isN_7 : isN "bool" "tuple" = some false := by decide +kernel
@[simp] theorem isN_8 : isN "bool" "bool" = some true := by decide +kernel
@[simp] theorem isN_9 : isN "bool" "str" = some false := by decide +kernel
@[simp] theorem isN_10 : isN "bool" "int" = some true := by decide +kernel
@[simp] theorem isN_11 : isN "int" "list" = some false := by decide +kernel
@[simp] theorem isN_12 : isN "int" "tuple" = some false := by decide +kernel
@[simp] theorem isN_13 : isN "int" "bool" = some false := by decide +kernel
@[simp] theorem isN_14 : isN "int" "str" = some false := by decide +kernel
@[simp] theorem isN_15 : isN "int" "int" = some true := by decide +kernel
@[simp] theorem isN_16 : isN "str" "list" = some false := by decide +kernel
@[simp] theorem isN_17 : isN "str" "tuple" = some false := by decide +kernel
@[simp] theorem isN_18 : isN "str" "bool" = some false := by decide +kernel
@[simp] theorem isN_19 : isN "str" "str" = some true := by decide +kernel
@[simp] theorem isN_20 : isN "str" "int" = some false := by decide +kernel
@[simp] theorem isN_21 : isN "list" "list" = some true := by decide +kernel
@[simp] theorem isN_22 : isN "list" "tuple" = some false := by decide +kernel
@[simp] theorem isN_23 : isN "list" "bool" = some false := by decide +kernel
@[simp] theorem isN_24 : isN "list" "str" = some false := by decide +kernel
@[simp] theorem isN_25 : isN "list" "int" = some false := by decide +kernel
@[simp] theorem isN_26 : isN "tuple" "list" = some false := by decide +kernel
@[simp] theorem isN_27 : isN "tuple" "tuple" = some true := by decide +kernel
@[simp] theorem isN_28 : isN "tuple" "bool" = some false := by decide +kernel
@[simp] theorem isN_29 : isN "tuple" "str" = some false := by decide +kernel
@[simp] theorem isN_30 : isN "tuple" "int" = some false := by decide +kernel
@[simp] theorem isN_31 : isN "dict" "list" = some false := by decide +kernel
@[simp] theorem isN_32 : isN "dict" "tuple" = some false := by decide +kernel
@[simp] theorem isN_33 : isN "dict" "bool" = some false := by decide +kernel
@[simp] theorem isN_34 : isN "dict" "str" = some false := by decide +kernel
@[simp] theorem isN_35 : isN "dict" "int" = some false := by decide +kernel
section
variable {α : Type}
@[simp] theorem isD_non (n : String) : isD .non n = isN "NoneType" n := Eq.trans rfl rfl
@[simp] theorem isD_bl (b : Bool) (n : String) : isD (.bl b) n = isN "bool" n := Eq.trans rfl rfl
@[simp] theorem isD_int (i : Int) (n : String) : isD (.int i) n = isN "int" n := Eq.trans rfl rfl
@[simp] theorem isD_str (x : Str) (n : String) : isD (.str x) n = isN "str" n := Eq.trans rfl rfl
@[simp] theorem isD_lst (l : List D) (n : String) : isD (.lst l) n = isN "list" n := Eq.trans rfl rfl
@[simp] theorem isD_tup (l : List D) (n : String) : isD (.tup l) n = isN "tuple" n := Eq.trans rfl rfl
@[simp] theorem isD_dct (l : List (Key × D)) (n : String) : isD (.dct l) n = isN "dict" n := Eq.trans rfl rfl
@[simp] theorem atI_0 (a : α) (l : List α) : atI (a :: l) 0 = some a := by simp [atI, ixN]
@[simp] theorem atI_1 (a b : α) (l : List α) : atI (a :: b :: l) 1 = some b := by
  have h : ixN (a :: b :: l).length 1 = some 1 := by
    unfold ixN
    rw [if_pos (by decide), if_pos (by simp only [List.length_cons]; omega)]
    rfl
  unfold atI
  rw [h]
  rfl
@[simp] theorem atI_2 (a b c : α) (l : List α) : atI (a :: b :: c :: l) 2 = some c := by
  have h : ixN (a :: b :: c :: l).length 2 = some 2 := by
    unfold ixN
    rw [if_pos (by decide), if_pos (by simp only [List.length_cons]; omega)]
    rfl
  unfold atI
  rw [h]
  rfl
@[simp] theorem atI_nat' (l : List α) (i : Nat) : atI l (i : Int) = l[i]? := by
  unfold atI ixN
  rw [if_pos (by omega)]
  by_cases h : i < l.length
  · rw [if_pos (by omega)]
    rfl
  · rw [if_neg (by omega), List.getElem?_eq_none (by omega)]
    rfl
@[simp] theorem sizeLine_lit : sizeLine = 16777216 := Eq.trans rfl rfl
end
@[simp] theorem dSeq_ (T U : DS) (E : DEn) (ρ : Env) : dSeq T U E ρ = T { E with nx := U E } ρ := Eq.trans rfl rfl
@[simp] theorem dNext_ (E : DEn) (ρ : Env) : dNext E ρ = E.nx ρ := Eq.trans rfl rfl
@[simp] theorem dBreak_ (E : DEn) (ρ : Env) : dBreak E ρ = E.bk ρ := Eq.trans rfl rfl
@[simp] theorem dCont_ (E : DEn) (ρ : Env) : dCont E ρ = E.ct ρ := Eq.trans rfl rfl
@[simp] theorem dRetN_ (E : DEn) (ρ : Env) : dRetN E ρ = E.rt .non ρ := Eq.trans rfl rfl
@[simp] theorem dRet_ (T : DE) (E : DEn) (ρ : Env) : dRet T E ρ = T ρ fun d ρ' => E.rt d ρ' := Eq.trans rfl rfl
@[simp] theorem dDrop_ (T : DE) (E : DEn) (ρ : Env) : dDrop T E ρ = T ρ fun _ ρ' => E.nx ρ' := Eq.trans rfl rfl
@[simp] theorem dIfS_ (C : DT) (T U : DS) (E : DEn) (ρ : Env) : dIfS C T U E ρ = C ρ fun c ρ1 => if c = true then T E ρ1 else U E ρ1 := Eq.trans rfl rfl
@[simp] theorem dAsg_ (T : DE) (G : DG) (E : DEn) (ρ : Env) : dAsg T G E ρ = T ρ fun d ρ1 => G d ρ1 E.nx := Eq.trans rfl rfl
@[simp] theorem dSetL_ (j : Nat) (T : DLs) (E : DEn) (ρ : Env) : dSetL j T E ρ = T ρ fun ds ρ1 => E.nx (ρ1.set j (some (.l ds))) := Eq.trans rfl rfl
@[simp] theorem dSetM_ (j : Nat) (T : DDs) (E : DEn) (ρ : Env) : dSetM j T E ρ = T ρ fun ds ρ1 => E.nx (ρ1.set j (some (.m ds))) := Eq.trans rfl rfl
@[simp] theorem dAug_ (i : Nat) (T : DE) (R : DO) (E : DEn) (ρ : Env) : dAug i T R E ρ = ∃ x, ρ[i]? = some (some (.d x)) ∧ T ρ fun y ρ1 => R x y fun z => E.nx (ρ1.set i (some (.d z))) := Eq.trans rfl rfl
@[simp] theorem dApp_ (i : Nat) (T : DE) (E : DEn) (ρ : Env) : dApp i T E ρ = ((∃ ds0, ρ[i]? = some (some (.l ds0))) ∧ T ρ fun d ρ1 => ∃ ds, ρ1[i]? = some (some (.l ds)) ∧ ds.length < sizeLine ∧ E.nx (ρ1.set i (some (.l (ds ++ [d]))))) := Eq.trans rfl rfl
@[simp] theorem dPop_ (i : Nat) (ρ : Env) (Φ : D → Env → Prop) : dPop i ρ Φ = ∃ ds d, ρ[i]? = some (some (.l ds)) ∧ ds[ds.length - 1]? = some d ∧ Φ d (ρ.set i (some (.l ds.dropLast))) := Eq.trans rfl rfl
@[simp] theorem dPutL_ (i : Nat) (Tv Ti : DE) (E : DEn) (ρ : Env) : dPutL i Tv Ti E ρ = Tv ρ fun d ρ1 => (ρ1[i]?.join).isSome = true ∧ Ti ρ1 fun y ρ2 => ∃ ds k j, ρ2[i]? = some (some (.l ds)) ∧ y = .int k ∧ ixN ds.length k = some j ∧ E.nx (ρ2.set i (some (.l (ds.set j d)))) := Eq.trans rfl rfl
@[simp] theorem dPutM_ (i : Nat) (Tv Ti : DE) (E : DEn) (ρ : Env) : dPutM i Tv Ti E ρ = Tv ρ fun d ρ1 => (ρ1[i]?.join).isSome = true ∧ Ti ρ1 fun y ρ2 => ∃ ks k, ρ2[i]? = some (some (.m ks)) ∧ keyD y = some k ∧ ks.length < sizeLine ∧ E.nx (ρ2.set i (some (.m (putD ks k d)))) := Eq.trans rfl rfl
@[simp] theorem dVar_ (i : Nat) (ρ : Env) (Φ : D → Env → Prop) : dVar i ρ Φ = dVarG ρ[i]? i ρ Φ := Eq.trans rfl rfl
@[simp] theorem dVarG_d (d : D) (i : Nat) (ρ : Env) (Φ : D → Env → Prop) : dVarG (some (some (.d d))) i ρ Φ = Φ d ρ := Eq.trans rfl rfl
@[simp] theorem dVarG_l (ds : List D) (i : Nat) (ρ : Env) (Φ : D → Env → Prop) : dVarG (some (some (.l ds))) i ρ Φ = Φ (.lst ds) (ρ.set i (some (.d (.lst ds)))) := Eq.trans rfl rfl
@[simp] theorem dVarG_m (ks : List (Key × D)) (i : Nat) (ρ : Env) (Φ : D → Env → Prop) : dVarG (some (some (.m ks))) i ρ Φ = Φ (.dct ks) (ρ.set i (some (.d (.dct ks)))) := Eq.trans rfl rfl
@[simp] theorem dC_ (d : D) (ρ : Env) (Φ : D → Env → Prop) : dC d ρ Φ = Φ d ρ := Eq.trans rfl rfl
@[simp] theorem dK_ (T : DLs) (ρ : Env) (Φ : D → Env → Prop) : dK T ρ Φ = T ρ fun ds ρ' => Φ (.lst ds) ρ' := Eq.trans rfl rfl
@[simp] theorem dKd_ (T : DDs) (ρ : Env) (Φ : D → Env → Prop) : dKd T ρ Φ = T ρ fun ds ρ' => Φ (.dct ds) ρ' := Eq.trans rfl rfl
@[simp] theorem dOp_ (R : DO) (Ta Tb : DE) (ρ : Env) (Φ : D → Env → Prop) : dOp R Ta Tb ρ Φ = Ta ρ fun x ρ1 => Tb ρ1 fun y ρ2 => R x y fun z => Φ z ρ2 := Eq.trans rfl rfl
@[simp] theorem dOpL_ (R : D → D → (List D → Prop) → Prop) (Ta Tb : DE) (ρ : Env) (Φ : List D → Env → Prop) : dOpL R Ta Tb ρ Φ = Ta ρ fun x ρ1 => Tb ρ1 fun y ρ2 => R x y fun z => Φ z ρ2 := Eq.trans rfl rfl
@[simp] theorem oI_ (C : Int → Int → Prop) (g : Int → Int → D) (i j : Int) (Φ : D → Prop) : oI C g (.int i) (.int j) Φ = (C i j ∧ Φ (g i j)) := Eq.trans rfl rfl
@[simp] theorem oI0_ (g : Int → Int → D) (i j : Int) (Φ : D → Prop) : oI0 g (.int i) (.int j) Φ = Φ (g i j) := Eq.trans rfl rfl
@[simp] theorem oEq_ (d e : D) (Φ : D → Prop) : oEq d e Φ = oEqG (eqS d e) Φ := Eq.trans rfl rfl
@[simp] theorem oNe_ (d e : D) (Φ : D → Prop) : oNe d e Φ = oNeG (eqS d e) Φ := Eq.trans rfl rfl
@[simp] theorem oEqG_s (c : Bool) (Φ : D → Prop) : oEqG (some c) Φ = Φ (.bl c) := Eq.trans rfl rfl
@[simp] theorem oNeG_s (c : Bool) (Φ : D → Prop) : oNeG (some c) Φ = Φ (.bl (!c)) := Eq.trans rfl rfl
@[simp] theorem oIsN_ (d e : D) (Φ : D → Prop) : oIsN d e Φ = (isNon e = true ∧ Φ (.bl (isNon d))) := Eq.trans rfl rfl
@[simp] theorem oNotN_ (d e : D) (Φ : D → Prop) : oNotN d e Φ = (isNon e = true ∧ Φ (.bl (!isNon d))) := Eq.trans rfl rfl
@[simp] theorem eqS_int (i j : Int) : eqS (.int i) (.int j) = some (decide (i = j)) := Eq.trans rfl rfl
@[simp] theorem eqS_str (i j : Str) : eqS (.str i) (.str j) = some (decide (i = j)) := Eq.trans rfl rfl
@[simp] theorem eqS_bl (i j : Bool) : eqS (.bl i) (.bl j) = some (decide (i = j)) := Eq.trans rfl rfl
@[simp] theorem eqS_nn : eqS .non .non = some true := Eq.trans rfl rfl
@[simp] theorem eqS_ni (i : Int) : eqS .non (.int i) = some false := Eq.trans rfl rfl
@[simp] theorem eqS_in (i : Int) : eqS (.int i) .non = some false := Eq.trans rfl rfl
@[simp] theorem oCatS_ (i j : Str) (Φ : D → Prop) : oCatS (.str i) (.str j) Φ = (i.length + j.length ≤ sizeLine ∧ Φ (.str (i ++ j))) := Eq.trans rfl rfl
@[simp] theorem oCat_ (i j : List D) (Φ : List D → Prop) : oCat (.lst i) (.lst j) Φ = (i.length + j.length ≤ sizeLine ∧ Φ (i ++ j)) := Eq.trans rfl rfl
@[simp] theorem isNon_n : isNon .non = true := Eq.trans rfl rfl
@[simp] theorem isNon_i (i : Int) : isNon (.int i) = false := Eq.trans rfl rfl
@[simp] theorem isNon_b (i : Bool) : isNon (.bl i) = false := Eq.trans rfl rfl
@[simp] theorem isNon_s (i : Str) : isNon (.str i) = false := Eq.trans rfl rfl
@[simp] theorem isNon_l (i : List D) : isNon (.lst i) = false := Eq.trans rfl rfl
@[simp] theorem isNon_t (i : List D) : isNon (.tup i) = false := Eq.trans rfl rfl
@[simp] theorem isNon_d (i : List (Key × D)) : isNon (.dct i) = false := Eq.trans rfl rfl
@[simp] theorem isNon_o (C : Addr) (i : List (Str × D)) : isNon (.obj C i) = false := Eq.trans rfl rfl
@[simp] theorem dNil_ (ρ : Env) (Φ : List D → Env → Prop) : dNil ρ Φ = Φ [] ρ := Eq.trans rfl rfl
@[simp] theorem dCons_ (Ta : DE) (Tr : DLs) (ρ : Env) (Φ : List D → Env → Prop) : dCons Ta Tr ρ Φ = Ta ρ fun x ρ1 => Tr ρ1 fun xs ρ2 => Φ (x :: xs) ρ2 := Eq.trans rfl rfl
@[simp] theorem dANil_ (ρ : Env) (Φ : List AV → Env → Prop) : dANil ρ Φ = Φ [] ρ := Eq.trans rfl rfl
@[simp] theorem dACons_ (Ta : DE) (Tr : DAs) (ρ : Env) (Φ : List AV → Env → Prop) : dACons Ta Tr ρ Φ = Ta ρ fun x ρ1 => Tr ρ1 fun xs ρ2 => Φ (.v x :: xs) ρ2 := Eq.trans rfl rfl
@[simp] theorem dASlot_ (i : Nat) (Tr : DAs) (ρ : Env) (Φ : List AV → Env → Prop) : dASlot i Tr ρ Φ = ((ρ[i]?.join).isSome = true ∧ Tr ρ fun xs ρ2 => Φ (.s i :: xs) ρ2) := Eq.trans rfl rfl
@[simp] theorem dTup_ (T : DLs) (ρ : Env) (Φ : D → Env → Prop) : dTup T ρ Φ = T ρ fun ds ρ' => ds.length ≤ sizeLine ∧ Φ (.tup ds) ρ' := Eq.trans rfl rfl
@[simp] theorem dLst_ (T : DLs) (ρ : Env) (Φ : List D → Env → Prop) : dLst T ρ Φ = T ρ fun ds ρ' => ds.length ≤ sizeLine ∧ Φ ds ρ' := Eq.trans rfl rfl
@[simp] theorem dNewD_ (ρ : Env) (Φ : List (Key × D) → Env → Prop) : dNewD ρ Φ = Φ [] ρ := Eq.trans rfl rfl
@[simp] theorem oIxT_ (ds : List D) (i : Int) (Φ : D → Prop) : oIxT (.tup ds) (.int i) Φ = ∃ x, atI ds i = some x ∧ Φ x := Eq.trans rfl rfl
@[simp] theorem oIxL_ (ds : List D) (i : Int) (Φ : D → Prop) : oIxL (.lst ds) (.int i) Φ = ∃ x, atI ds i = some x ∧ Φ x := Eq.trans rfl rfl
@[simp] theorem oCatT_ (i j : List D) (Φ : D → Prop) : oCatT (.tup i) (.tup j) Φ = (i.length + j.length ≤ sizeLine ∧ Φ (.tup (i ++ j))) := Eq.trans rfl rfl
@[simp] theorem oIx_t (ds : List D) (i : Int) (Φ : D → Prop) : oIx (.tup ds) (.int i) Φ = ∃ x, atI ds i = some x ∧ Φ x := Eq.trans rfl rfl
@[simp] theorem oIx_l (ds : List D) (i : Int) (Φ : D → Prop) : oIx (.lst ds) (.int i) Φ = ∃ x, atI ds i = some x ∧ Φ x := Eq.trans rfl rfl
@[simp] theorem peek_ (ρ : Env) (i : Nat) : peek ρ i = peekG ρ[i]? := Eq.trans rfl rfl
@[simp] theorem peekG_d (d : D) : peekG (some (some (.d d))) = some d := Eq.trans rfl rfl
@[simp] theorem peekG_l (ds : List D) : peekG (some (some (.l ds))) = some (.lst ds) := Eq.trans rfl rfl
@[simp] theorem peekG_m (ks : List (Key × D)) : peekG (some (some (.m ks))) = some (.dct ks) := Eq.trans rfl rfl
@[simp] theorem dIxS_ (i : Nat) (Tb : DE) (ρ : Env) (Φ : D → Env → Prop) : dIxS i Tb ρ Φ = ((ρ[i]?.join).isSome = true ∧ Tb ρ fun y ρ2 => ∃ ds j x, peek ρ2 i = some (.lst ds) ∧ y = .int j ∧ atI ds j = some x ∧ Φ x ρ2) := Eq.trans rfl rfl
@[simp] theorem oIn_ (neg : Bool) (d e : D) (Φ : D → Prop) : oIn neg d e Φ = ∃ ds, seqD e = some ds ∧ flatD d = true ∧ ds.all flatD = true ∧ Φ (.bl (if neg then !inD d ds else inD d ds)) := Eq.trans rfl rfl
@[simp] theorem seqD_t (l : List D) : seqD (.tup l) = some l := Eq.trans rfl rfl
@[simp] theorem seqD_l (l : List D) : seqD (.lst l) = some l := Eq.trans rfl rfl
@[simp] theorem flatD_s (x : Str) : flatD (.str x) = true := Eq.trans rfl rfl
@[simp] theorem flatD_i (x : Int) : flatD (.int x) = true := Eq.trans rfl rfl
@[simp] theorem inD_nil (d : D) : inD d [] = false := Eq.trans rfl rfl
@[simp] theorem inD_cons (d e : D) (l : List D) : inD d (e :: l) = (eqD e d || inD d l) := Eq.trans rfl rfl
@[simp] theorem eqD_s (x y : Str) : eqD (.str x) (.str y) = (x == y) := Eq.trans rfl rfl
@[simp] theorem eqD_i (x y : Int) : eqD (.int x) (.int y) = (x == y) := Eq.trans rfl rfl
@[simp] theorem keyD_i (i : Int) : keyD (.int i) = some (.inl i) := Eq.trans rfl rfl
@[simp] theorem keyD_s (i : Str) : keyD (.str i) = some (.inr i) := Eq.trans rfl rfl
@[simp] theorem dInS_ (neg : Bool) (Ta : DE) (i : Nat) (ρ : Env) (Φ : D → Env → Prop) : dInS neg Ta i ρ Φ = Ta ρ fun x ρ1 => ∃ ds k, peek ρ1 i = some (.dct ds) ∧ keyD x = some k ∧ Φ (.bl (if neg then !(valD ds k).isSome else (valD ds k).isSome)) ρ1 := Eq.trans rfl rfl
@[simp] theorem oInD_ (neg : Bool) (d : D) (ds : List (Key × D)) (Φ : D → Prop) : oInD neg d (.dct ds) Φ = ∃ k, keyD d = some k ∧ Φ (.bl (if neg then !(valD ds k).isSome else (valD ds k).isSome)) := Eq.trans rfl rfl
@[simp] theorem dDGet_ (Td Ty : DE) (ρ : Env) (Φ : D → Env → Prop) : dDGet Td Ty ρ Φ = Td ρ fun x ρ1 => Ty ρ1 fun y ρ2 => ∃ ds k z, x = .dct ds ∧ keyD y = some k ∧ valD ds k = some z ∧ Φ z ρ2 := Eq.trans rfl rfl
@[simp] theorem dDGetS_ (i : Nat) (Ty : DE) (ρ : Env) (Φ : D → Env → Prop) : dDGetS i Ty ρ Φ = ((ρ[i]?.join).isSome = true ∧ Ty ρ fun y ρ2 => ∃ ds k z, peek ρ2 i = some (.dct ds) ∧ keyD y = some k ∧ valD ds k = some z ∧ Φ z ρ2) := Eq.trans rfl rfl
@[simp] theorem dGet1S_ (i : Nat) (Ty : DE) (ρ : Env) (Φ : D → Env → Prop) : dGet1S i Ty ρ Φ = ((∃ ds, peek ρ i = some (.dct ds)) ∧ Ty ρ fun y ρ2 => ∃ ds k, peek ρ2 i = some (.dct ds) ∧ keyD y = some k ∧ Φ ((valD ds k).getD .non) ρ2) := Eq.trans rfl rfl
@[simp] theorem dGet2S_ (i : Nat) (Ty Tz : DE) (ρ : Env) (Φ : D → Env → Prop) : dGet2S i Ty Tz ρ Φ = ((∃ ds, peek ρ i = some (.dct ds)) ∧ Ty ρ fun y ρ1 => Tz ρ1 fun z ρ2 => ∃ ds k, peek ρ2 i = some (.dct ds) ∧ keyD y = some k ∧ Φ ((valD ds k).getD z) ρ2) := Eq.trans rfl rfl
@[simp] theorem dGet1_ (Td Ty : DE) (ρ : Env) (Φ : D → Env → Prop) : dGet1 Td Ty ρ Φ = Td ρ fun x ρ1 => ∃ ds, x = .dct ds ∧ Ty ρ1 fun y ρ2 => ∃ k, keyD y = some k ∧ Φ ((valD ds k).getD .non) ρ2 := Eq.trans rfl rfl
@[simp] theorem dGet2_ (Td Ty Tz : DE) (ρ : Env) (Φ : D → Env → Prop) : dGet2 Td Ty Tz ρ Φ = Td ρ fun x ρ1 => ∃ ds, x = .dct ds ∧ Ty ρ1 fun y ρ2 => Tz ρ2 fun z ρ3 => ∃ k, keyD y = some k ∧ Φ ((valD ds k).getD z) ρ3 := Eq.trans rfl rfl
@[simp] theorem dTest_ (T : DE) (ρ : Env) (Φ : Bool → Env → Prop) : dTest T ρ Φ = T ρ fun x ρ' => blG x fun c => Φ c ρ' := Eq.trans rfl rfl
@[simp] theorem blG_ (c : Bool) (Φ : Bool → Prop) : blG (.bl c) Φ = Φ c := Eq.trans rfl rfl
@[simp] theorem obG_ (c : Bool) (Φ : Bool → Prop) : obG (some c) Φ = Φ c := Eq.trans rfl rfl
@[simp] theorem dTruth_ (T : DE) (ρ : Env) (Φ : Bool → Env → Prop) : dTruth T ρ Φ = T ρ fun x ρ' => obG (truD x) fun c => Φ c ρ' := Eq.trans rfl rfl
@[simp] theorem dTruthS_ (i : Nat) (ρ : Env) (Φ : Bool → Env → Prop) : dTruthS i ρ Φ = ∃ d, peek ρ i = some d ∧ obG (truD d) fun c => Φ c ρ := Eq.trans rfl rfl
@[simp] theorem truD_n : truD .non = some false := Eq.trans rfl rfl
@[simp] theorem truD_b (b : Bool) : truD (.bl b) = some b := Eq.trans rfl rfl
@[simp] theorem truD_i (i : Int) : truD (.int i) = some (i != 0) := Eq.trans rfl rfl
@[simp] theorem truD_l (l : List D) : truD (.lst l) = some !l.isEmpty := Eq.trans rfl rfl
@[simp] theorem truD_t (l : List D) : truD (.tup l) = some !l.isEmpty := Eq.trans rfl rfl
@[simp] theorem dAnd_ (T U : DT) (ρ : Env) (Φ : Bool → Env → Prop) : dAnd T U ρ Φ = T ρ fun c ρ1 => if c = true then U ρ1 Φ else Φ false ρ1 := Eq.trans rfl rfl
@[simp] theorem dOr_ (T U : DT) (ρ : Env) (Φ : Bool → Env → Prop) : dOr T U ρ Φ = T ρ fun c ρ1 => if c = true then Φ true ρ1 else U ρ1 Φ := Eq.trans rfl rfl
@[simp] theorem dNot_ (T : DT) (ρ : Env) (Φ : Bool → Env → Prop) : dNot T ρ Φ = T ρ fun c ρ1 => Φ (!c) ρ1 := Eq.trans rfl rfl
@[simp] theorem dAndV_ (T U : DE) (ρ : Env) (Φ : D → Env → Prop) : dAndV T U ρ Φ = T ρ fun x ρ1 => blG x fun c => if c = true then U ρ1 Φ else Φ (.bl false) ρ1 := Eq.trans rfl rfl
@[simp] theorem dOrV_ (T U : DE) (ρ : Env) (Φ : D → Env → Prop) : dOrV T U ρ Φ = T ρ fun x ρ1 => blG x fun c => if c = true then Φ (.bl true) ρ1 else U ρ1 Φ := Eq.trans rfl rfl
@[simp] theorem dNotV_ (T : DE) (ρ : Env) (Φ : D → Env → Prop) : dNotV T ρ Φ = T ρ fun x ρ1 => blG x fun c => Φ (.bl (!c)) ρ1 := Eq.trans rfl rfl
@[simp] theorem dIf_ (T : DT) (U W : DE) (ρ : Env) (Φ : D → Env → Prop) : dIf T U W ρ Φ = T ρ fun c ρ1 => if c = true then U ρ1 Φ else W ρ1 Φ := Eq.trans rfl rfl
@[simp] theorem dIfL_ (T : DT) (U W : DLs) (ρ : Env) (Φ : List D → Env → Prop) : dIfL T U W ρ Φ = T ρ fun c ρ1 => if c = true then U ρ1 Φ else W ρ1 Φ := Eq.trans rfl rfl
@[simp] theorem dNeg_ (T : DE) (ρ : Env) (Φ : D → Env → Prop) : dNeg T ρ Φ = T ρ fun x ρ1 => ∃ i, x = .int i ∧ Φ (.int (-i)) ρ1 := Eq.trans rfl rfl
@[simp] theorem dCB_ (R : List D → (D → Prop) → Prop) (T : DLs) (ρ : Env) (Φ : D → Env → Prop) : dCB R T ρ Φ = T ρ fun ds ρ' => R ds fun z => Φ z ρ' := Eq.trans rfl rfl
@[simp] theorem dCBL_ (R : List D → (List D → Prop) → Prop) (T : DLs) (ρ : Env) (Φ : List D → Env → Prop) : dCBL R T ρ Φ = T ρ fun ds ρ' => R ds fun z => Φ z ρ' := Eq.trans rfl rfl
@[simp] theorem oLen_s (x : Str) (Φ : D → Prop) : oLen [.str x] Φ = (x.length ≤ sizeLine ∧ Φ (.int x.length)) := Eq.trans rfl rfl
@[simp] theorem oLen_t (l : List D) (Φ : D → Prop) : oLen [.tup l] Φ = Φ (.int l.length) := Eq.trans rfl rfl
@[simp] theorem oLen_l (l : List D) (Φ : D → Prop) : oLen [.lst l] Φ = Φ (.int l.length) := Eq.trans rfl rfl
@[simp] theorem dLenS_ (i : Nat) (ρ : Env) (Φ : D → Env → Prop) : dLenS i ρ Φ = ∃ l, peek ρ i = some (.lst l) ∧ Φ (.int l.length) ρ := Eq.trans rfl rfl
@[simp] theorem oListOf_t (l : List D) (Φ : List D → Prop) : oListOf [.tup l] Φ = Φ l := Eq.trans rfl rfl
@[simp] theorem oListOf_l (l : List D) (Φ : List D → Prop) : oListOf [.lst l] Φ = Φ l := Eq.trans rfl rfl
@[simp] theorem oTupOf_t (l : List D) (Φ : D → Prop) : oTupOf [.tup l] Φ = Φ (.tup l) := Eq.trans rfl rfl
@[simp] theorem oTupOf_l (l : List D) (Φ : D → Prop) : oTupOf [.lst l] Φ = Φ (.tup l) := Eq.trans rfl rfl
@[simp] theorem oAbs_ (i : Int) (Φ : D → Prop) : oAbs [.int i] Φ = Φ (.int (if i < 0 then -i else i)) := Eq.trans rfl rfl
@[simp] theorem oInt_ (i : Int) (Φ : D → Prop) : oInt [.int i] Φ = Φ (.int i) := Eq.trans rfl rfl
@[simp] theorem oSum_ (l : List D) (Φ : D → Prop) : oSum [.lst l] Φ = ∃ ns, intsD l = some ns ∧ Φ (.int ns.sum) := by simp [oSum]
@[simp] theorem oMin_ (l : List D) (Φ : D → Prop) : oMin [.lst l] Φ = ∃ ns, intsD l = some ns ∧ 0 < ns.length ∧ ∀ m, m ∈ ns → (∀ y, y ∈ ns → m ≤ y) → Φ (.int m) := by simp [oMin]
@[simp] theorem oAll_ (l : List D) (Φ : D → Prop) : oAll [.lst l] Φ = ∃ ns, blsD l = some ns ∧ Φ (.bl (ns.all id)) := by simp [oAll]
@[simp] theorem oAny_ (l : List D) (Φ : D → Prop) : oAny [.lst l] Φ = ∃ ns, blsD l = some ns ∧ Φ (.bl (ns.any id)) := by simp [oAny]
@[simp] theorem oIsi_ (x : D) (n : String) (Φ : D → Prop) : oIsi [x, .ty n] Φ = obG (isD x n) fun c => Φ (.bl c) := Eq.trans rfl rfl
@[simp] theorem dIsi2_ (Ta : DE) (m n : String) (ρ : Env) (Φ : D → Env → Prop) : dIsi2 Ta m n ρ Φ = Ta ρ fun x ρ1 => obG (isD x m) fun c => obG (isD x n) fun e => Φ (.bl (c || e)) ρ1 := Eq.trans rfl rfl
@[simp] theorem dName_ (j : Nat) (d : D) (ρ : Env) (Φ : Env → Prop) : dName j d ρ Φ = Φ (ρ.set j (some (.d d))) := Eq.trans rfl rfl
@[simp] theorem dGNil_ (ρ : Env) (Φ : Env → Prop) : dGNil [] ρ Φ = Φ ρ := by unfold dGNil; simp
@[simp] theorem dGCons_ (G : DG) (Gs : DGs) (d : D) (r : List D) (ρ : Env) (Φ : Env → Prop) : dGCons G Gs (d :: r) ρ Φ = G d ρ fun ρ1 => Gs r ρ1 Φ := by
  unfold dGCons
  refine propext ⟨?_, fun h => ⟨_, _, rfl, h⟩⟩
  rintro ⟨d', r', h, g⟩
  cases h
  exact g
@[simp] theorem dGTup_ (n : Nat) (Gs : DGs) (ds : List D) (ρ : Env) (Φ : Env → Prop) : dGTup n Gs (.tup ds) ρ Φ = (ds.length = n ∧ Gs ds ρ Φ) := by
  unfold dGTup
  refine propext ⟨?_, fun h => ⟨_, rfl, h⟩⟩
  rintro ⟨d', h, g⟩
  cases h
  exact g
@[simp] theorem dIL_ (T : DE) (ρ : Env) (Φ : List D → Env → Prop) : dIL T ρ Φ = T ρ fun x ρ' => ∃ ds, x = .lst ds ∧ Φ ds ρ' := Eq.trans rfl rfl
@[simp] theorem dIT_ (T : DE) (ρ : Env) (Φ : List D → Env → Prop) : dIT T ρ Φ = T ρ fun x ρ' => ∃ ds, x = .tup ds ∧ Φ ds ρ' := Eq.trans rfl rfl
@[simp] theorem dIR1_ (T : DLs) (ρ : Env) (Φ : List D → Env → Prop) : dIR1 T ρ Φ = T ρ fun xs ρ' => ∃ j : Int, xs = [.int j] ∧ -(2 ^ 62) ≤ j ∧ j < 2 ^ 62 ∧ Φ (rngD 0 j.toNat) ρ' := Eq.trans rfl rfl
@[simp] theorem dIR2_ (T : DLs) (ρ : Env) (Φ : List D → Env → Prop) : dIR2 T ρ Φ = T ρ fun xs ρ' => ∃ i j : Int, xs = [.int i, .int j] ∧ (-(2 ^ 62) ≤ i ∧ i < 2 ^ 62 ∧ -(2 ^ 62) ≤ j ∧ j < 2 ^ 62) ∧ Φ (rngD i (j - i).toNat) ρ' := Eq.trans rfl rfl
@[simp] theorem wipeD_0 (ρ : Env) : wipeD ρ [] = ρ := Eq.trans rfl rfl
@[simp] theorem wipeD_1 (ρ : Env) (v : Nat) (vs : List Nat) : wipeD ρ (v :: vs) = (wipeD ρ vs).set v none := Eq.trans rfl rfl
@[simp] theorem restore_0 (ρ ρ0 : Env) : restore ρ ρ0 [] = ρ := Eq.trans rfl rfl
@[simp] theorem restore_1 (ρ ρ0 : Env) (v : Nat) (vs : List Nat) : restore ρ ρ0 (v :: vs) = (restore ρ ρ0 vs).set v (keepD ρ0[v]?) := Eq.trans rfl rfl
@[simp] theorem keepD_d (d : D) : keepD (some (some (.d d))) = some (.d d) := Eq.trans rfl rfl
@[simp] theorem keepD_n : keepD (some none) = none := Eq.trans rfl rfl
@[simp] theorem keepD_l (l : List D) : keepD (some (some (.l l))) = none := Eq.trans rfl rfl
@[simp] theorem keepD_m (l : List (Key × D)) : keepD (some (some (.m l))) = none := Eq.trans rfl rfl
@[simp] theorem dYes_ (ρ : Env) (Φ : Bool → Env → Prop) : dYes ρ Φ = Φ true ρ := Eq.trans rfl rfl
@[simp] theorem dNoPart_ (ρ : Env) (Φ : Option Int → Env → Prop) : dNoPart ρ Φ = Φ none ρ := Eq.trans rfl rfl
@[simp] theorem dPart_ (T : DE) (ρ : Env) (Φ : Option Int → Env → Prop) : dPart T ρ Φ = T ρ fun x ρ' => ∃ i, x = .int i ∧ Φ (some i) ρ' := Eq.trans rfl rfl
@[simp] theorem dSlL_ (Te : DE) (Tl Th : DOo) (ρ : Env) (Φ : List D → Env → Prop) : dSlL Te Tl Th ρ Φ = Te ρ fun x ρ1 => Tl ρ1 fun l ρ2 => Th ρ2 fun u ρ3 => ∃ ds, x = .lst ds ∧ Φ (cutD ds l u) ρ3 := Eq.trans rfl rfl
@[simp] theorem dSlT_ (Te : DE) (Tl Th : DOo) (ρ : Env) (Φ : D → Env → Prop) : dSlT Te Tl Th ρ Φ = Te ρ fun x ρ1 => Tl ρ1 fun l ρ2 => Th ρ2 fun u ρ3 => ∃ ds, x = .tup ds ∧ Φ (.tup (cutD ds l u)) ρ3 := Eq.trans rfl rfl
@[simp] theorem dRevL_ (T : DE) (ρ : Env) (Φ : List D → Env → Prop) : dRevL T ρ Φ = T ρ fun x ρ1 => ∃ ds, x = .lst ds ∧ Φ ds.reverse ρ1 := Eq.trans rfl rfl
@[simp] theorem dRevT_ (T : DE) (ρ : Env) (Φ : D → Env → Prop) : dRevT T ρ Φ = T ρ fun x ρ1 => ∃ ds, x = .tup ds ∧ Φ (.tup ds.reverse) ρ1 := Eq.trans rfl rfl
@[simp] theorem dFld_ (C : Addr) (T : DE) (f : Str) (ρ : Env) (Φ : D → Env → Prop) : dFld C T f ρ Φ = T ρ fun x ρ1 => ∃ fs d, x = .obj C fs ∧ valD fs f = some d ∧ Φ d ρ1 := Eq.trans rfl rfl
@[simp] theorem dCall_ (S : SD) (Ta : DAs) (ρ : Env) (Φ : D → Env → Prop) : dCall S Ta ρ Φ = Ta ρ fun as ρ1 => (as.all (ownB ρ1) = true ∧ (slotsOf as).Nodup) ∧ S (as.map (ovOf ρ1)) fun d os => Φ d (putBack as os ρ1) := Eq.trans rfl rfl
@[simp] theorem dCallV_ (s : List D → (D → Prop) → Prop) (Ta : DLs) (ρ : Env) (Φ : D → Env → Prop) : dCallV s Ta ρ Φ = Ta ρ fun ds ρ1 => s ds fun d => Φ d ρ1 := Eq.trans rfl rfl
@[simp] theorem ownB_v (ρ : Env) (d : D) : ownB ρ (.v d) = true := Eq.trans rfl rfl
@[simp] theorem ownB_s (ρ : Env) (i : Nat) : ownB ρ (.s i) = (slotO ρ[i]?).own := Eq.trans rfl rfl
@[simp] theorem ovOf_v (ρ : Env) (d : D) : ovOf ρ (.v d) = .d d := Eq.trans rfl rfl
@[simp] theorem ovOf_s (ρ : Env) (i : Nat) : ovOf ρ (.s i) = slotO ρ[i]? := Eq.trans rfl rfl
@[simp] theorem slotO_s (o : OV) : slotO (some (some o)) = o := Eq.trans rfl rfl
@[simp] theorem own_d (d : D) : OV.own (.d d) = false := Eq.trans rfl rfl
@[simp] theorem own_l (d : List D) : OV.own (.l d) = true := Eq.trans rfl rfl
@[simp] theorem own_m (d : List (Key × D)) : OV.own (.m d) = true := Eq.trans rfl rfl
@[simp] theorem own_w : OV.own .draw = true := Eq.trans rfl rfl
@[simp] theorem slotsOf_n : slotsOf [] = [] := Eq.trans rfl rfl
@[simp] theorem slotsOf_v (d : D) (as : List AV) : slotsOf (.v d :: as) = slotsOf as := Eq.trans rfl rfl
@[simp] theorem slotsOf_s (i : Nat) (as : List AV) : slotsOf (.s i :: as) = i :: slotsOf as := Eq.trans rfl rfl
@[simp] theorem putBack_n (os : List OV) (ρ : Env) : putBack [] os ρ = ρ := by cases os <;> rfl
@[simp] theorem putBack_v (d : D) (as : List AV) (o : OV) (os : List OV) (ρ : Env) : putBack (.v d :: as) (o :: os) ρ = putBack as os ρ := Eq.trans rfl rfl
@[simp] theorem putBack_s (i : Nat) (as : List AV) (o : OV) (os : List OV) (ρ : Env) : putBack (.s i :: as) (o :: os) ρ = putBack as os (ρ.set i (some o)) := Eq.trans rfl rfl
@[simp] theorem outs_0 (ρ : Env) : outs 0 ρ = [] := Eq.trans rfl rfl
@[simp] theorem outs_1 (a : Option OV) (ρ : Env) : outs 1 (a :: ρ) = [slotO (some a)] := Eq.trans rfl rfl
@[simp] theorem outs_2 (a b : Option OV) (ρ : Env) : outs 2 (a :: b :: ρ) = [slotO (some a), slotO (some b)] := Eq.trans rfl rfl
@[simp] theorem outs_3 (a b c : Option OV) (ρ : Env) : outs 3 (a :: b :: c :: ρ) = [slotO (some a), slotO (some b), slotO (some c)] := Eq.trans rfl rfl
@[simp] theorem outs_4 (a b c d : Option OV) (ρ : Env) : outs 4 (a :: b :: c :: d :: ρ) = [slotO (some a), slotO (some b), slotO (some c), slotO (some d)] := Eq.trans rfl rfl
@[simp] theorem outs_5 (a b c d e : Option OV) (ρ : Env) : outs 5 (a :: b :: c :: d :: e :: ρ) = [slotO (some a), slotO (some b), slotO (some c), slotO (some d), slotO (some e)] := Eq.trans rfl rfl
@[simp] theorem startD_ (n : Nat) (os : List OV) : startD n os = os.map some ++ List.replicate (n - os.length) none := Eq.trans rfl rfl
/-- a test whose answer is told -/
theorem pure_len {n : Nat} {s : List D → (D → Prop) → Prop} (h : ∀ ds Φ, s ds Φ → ds.length = n) : ∀ os Φ, pureS s os Φ → os.length = n ∧ (∀ (i : Nat) o, os[i]? = some o → o.own = true → i ∈ ([] : List Nat)) ∧ ∀ i ∈ ([] : List Nat), i < os.length := by
  rintro os Φ ⟨ds, rfl, hs⟩
  refine ⟨by rw [List.length_map]; exact h ds _ hs, fun i o e ho => ?_, fun i hi => by cases hi⟩
  rw [List.getElem?_map] at e
  obtain ⟨d, _, rfl⟩ := Option.map_eq_some_iff.mp e
  cases ho
theorem for_inv {Ti : DLs} {G : DG} {Tb : DS} {E : DEn} {ρ : Env} (ds : List D) (ρ1 : Env) (W : Nat → Env → Prop) (hI : ∀ Ψ : List D → Env → Prop, Ψ ds ρ1 → Ti ρ Ψ) (h0 : W 0 ρ1)
    (hs : ∀ k x ρ, ds[k]? = some x → W k ρ → G x ρ fun ρ2 => Tb ⟨W (k + 1), E.rt, E.nx, W (k + 1)⟩ ρ2) (hd : ∀ ρ, W ds.length ρ → E.nx ρ) : dFor Ti G Tb E ρ := hI _ ⟨W, h0, hs, hd⟩
theorem while_inv {C : DT} {Tb : DS} {E : DEn} {ρ : Env} (W : Nat → Env → Prop) (h0 : ∃ m, W m ρ)
    (hs : ∀ m ρ, W m ρ → C ρ fun c ρ1 => if c = true then Tb ⟨fun ρ2 => ∃ m', m' < m ∧ W m' ρ2, E.rt, E.nx, fun ρ2 => ∃ m', m' < m ∧ W m' ρ2⟩ ρ1 else E.nx ρ1) : dWhile C Tb E ρ := ⟨W, h0, hs⟩
theorem lc_inv {Ti : DLs} {G : DG} {Tt : DT} {Te : DE} {vs : List Nat} {ρ : Env} {Φ : List D → Env → Prop} (ds : List D) (ρ1 : Env) (W : Nat → List D → Env → Prop) (hI : ∀ Ψ : List D → Env → Prop, Ψ ds ρ1 → Ti ρ Ψ) (h0 : W 0 [] (wipeD ρ1 vs))
    (hs : ∀ k x acc ρ, ds[k]? = some x → W k acc ρ → G x ρ fun ρ2 => Tt ρ2 fun c ρ3 => if c = true then Te ρ3 fun e ρ4 => acc.length < sizeLine ∧ W (k + 1) (acc ++ [e]) (wipeD ρ4 vs) else W (k + 1) acc (wipeD ρ3 vs))
    (hd : ∀ acc ρ, W ds.length acc ρ → Φ acc (restore ρ ρ1 vs)) : dLc Ti G Tt Te vs ρ Φ := hI _ ⟨W, h0, hs, hd⟩
/-- a comprehension whose items and tests are told by functions -/
theorem lc_fp {Ti : DLs} {G : DG} {Tt : DT} {Te : DE} {vs : List Nat} {ρ : Env} {Φ : List D → Env → Prop} (ds : List D) (ρ1 ρw : Env) (p : D → Bool) (f : D → D) (hI : ∀ Ψ : List D → Env → Prop, Ψ ds ρ1 → Ti ρ Ψ) (hw : wipeD ρ1 vs = ρw) (hz : ds.length ≤ 16000000)
    (hs : ∀ x, x ∈ ds → ∀ (A : D → Env → Prop) (B : Env → Prop), (p x = true → ∀ ρ4, wipeD ρ4 vs = ρw → A (f x) ρ4) → (p x = false → ∀ ρ3, wipeD ρ3 vs = ρw → B ρ3) → G x ρw fun ρ2 => Tt ρ2 fun c ρ3 => if c = true then Te ρ3 A else B ρ3)
    (hd : Φ ((ds.filter p).map f) (restore ρw ρ1 vs)) : dLc Ti G Tt Te vs ρ Φ := by
  refine lc_inv ds ρ1 (fun k acc ρ => acc = ((ds.take k).filter p).map f ∧ ρ = ρw) hI ⟨rfl, hw⟩ ?_ ?_
  · rintro k x acc ρ hx ⟨rfl, rfl⟩
    have hk := (List.getElem?_eq_some_iff.mp hx).1
    have ht : ds.take (k + 1) = ds.take k ++ [x] := by rw [List.take_add_one, hx]; rfl
    refine hs x (List.mem_of_getElem? hx) _ _ (fun hp ρ4 h4 => ⟨?_, ?_, h4⟩) (fun hp ρ3 h3 => ⟨?_, h3⟩)
    · have h1 : (((ds.take k).filter p).map f).length ≤ k := by
        rw [List.length_map]
        exact Nat.le_trans (List.length_filter_le _ _) (by rw [List.length_take]; omega)
      show _ < 16777216
      omega
    · rw [ht, List.filter_append, List.filter_cons, hp]
      simp
    · rw [ht, List.filter_append, List.filter_cons, hp]
      simp
  · rintro acc ρ ⟨rfl, rfl⟩
    rw [List.take_length]
    exact hd
theorem lc_f {Ti : DLs} {G : DG} {Te : DE} {vs : List Nat} {ρ : Env} {Φ : List D → Env → Prop} (ds : List D) (ρ1 ρw : Env) (f : D → D) (hI : ∀ Ψ : List D → Env → Prop, Ψ ds ρ1 → Ti ρ Ψ) (hw : wipeD ρ1 vs = ρw) (hz : ds.length ≤ 16000000)
    (hs : ∀ x, x ∈ ds → ∀ (A : D → Env → Prop), (∀ ρ4, wipeD ρ4 vs = ρw → A (f x) ρ4) → G x ρw fun ρ2 => Te ρ2 A)
    (hd : Φ (ds.map f) (restore ρw ρ1 vs)) : dLc Ti G dYes Te vs ρ Φ := by
  refine lc_fp ds ρ1 ρw (fun _ => true) f hI hw hz (fun x hx A B h1 h2 => ?_) ?_
  · exact hs x hx A (h1 rfl)
  · have e : ds.filter (fun _ => true) = ds := List.filter_eq_self.mpr fun _ _ => rfl
    rw [e]
    exact hd
/-- .. whose items are told in a row -/
theorem lc_z {Ti : DLs} {G : DG} {Te : DE} {vs : List Nat} {ρ : Env} {Φ : List D → Env → Prop} (ds es : List D) (ρ1 ρw : Env) (hI : ∀ Ψ : List D → Env → Prop, Ψ ds ρ1 → Ti ρ Ψ) (hw : wipeD ρ1 vs = ρw) (hz : ds.length ≤ 16000000) (hl : es.length = ds.length)
    (hs : ∀ (k : Nat) x e, ds[k]? = some x → es[k]? = some e → ∀ (A : D → Env → Prop), (∀ ρ4, wipeD ρ4 vs = ρw → A e ρ4) → G x ρw fun ρ2 => Te ρ2 A)
    (hd : Φ es (restore ρw ρ1 vs)) : dLc Ti G dYes Te vs ρ Φ := by
  refine lc_inv ds ρ1 (fun k acc ρ => acc = es.take k ∧ ρ = ρw) hI ⟨rfl, hw⟩ ?_ ?_
  · rintro k x acc ρ hx ⟨rfl, rfl⟩
    have hk := (List.getElem?_eq_some_iff.mp hx).1
    have ge := List.getElem?_eq_getElem (show k < es.length by omega)
    refine hs k x _ hx ge _ fun ρ4 h4 => ⟨?_, ?_, h4⟩
    · show _ < 16777216
      rw [List.length_take]
      omega
    · rw [List.take_add_one, ge]
      rfl
  · rintro acc ρ ⟨rfl, rfl⟩
    rw [← hl, List.take_length]
    exact hd
theorem mem_rng {x : D} {lo : Int} {n : Nat} (h : x ∈ rngD lo n) : ∃ i : Nat, i < n ∧ x = .int (lo + (i : Nat)) := by
  unfold rngD at h
  obtain ⟨i, hi, rfl⟩ := List.mem_map.mp h
  exact ⟨i, List.mem_range.mp hi, rfl⟩
def ownAt : Nat → List OV → List Nat
  | _, [] => []
  | k, o :: os => if o.own = true then k :: ownAt (k + 1) os else ownAt (k + 1) os
theorem ownAt_mem {i : Nat} {o : OV} : ∀ {os : List OV} {k : Nat}, os[i]? = some o → o.own = true → k + i ∈ ownAt k os
  | [], k, h, _ => by cases h
  | u :: os, k, h, ho => by
    cases i with
    | zero =>
      cases h
      unfold ownAt
      rw [if_pos ho]
      exact List.mem_cons_self
    | succ i =>
      have := ownAt_mem (i := i) (os := os) (k := k + 1) h ho
      rw [show k + (i + 1) = k + 1 + i by omega]
      unfold ownAt
      split
      · exact List.mem_cons_of_mem _ this
      · exact this
theorem ownAt_lt {i : Nat} : ∀ {os : List OV} {k : Nat}, i ∈ ownAt k os → i < k + os.length
  | [], k, h => by cases h
  | u :: os, k, h => by
    unfold ownAt at h
    rw [List.length_cons]
    split at h
    · rcases List.mem_cons.mp h with rfl | h
      · omega
      · have := ownAt_lt h
        omega
    · have := ownAt_lt h
      omega
theorem own_len {n : Nat} {ps : List Nat} {S : SD} (h : ∀ os Φ, S os Φ → os.length = n ∧ ownAt 0 os = ps) : ∀ os Φ, S os Φ → os.length = n ∧ (∀ (i : Nat) o, os[i]? = some o → o.own = true → i ∈ ps) ∧ ∀ i ∈ ps, i < os.length := by
  intro os Φ hS
  obtain ⟨h1, h2⟩ := h os Φ hS
  refine ⟨h1, fun i o e ho => ?_, fun i hi => ?_⟩
  · have := ownAt_mem (k := 0) e ho
    rw [h2, Nat.zero_add] at this
    exact this
  · rw [← h2] at hi
    have := ownAt_lt hi
    omega
end DL
/-! min(xs, default=None) over ints. -/
namespace DX
open PySem PySem.Spec PyProof.Rows L2 DL
section
variable {X : Cx}
def rMinD (K : PySem.W.Frag) : List V → List V → Hp → VK → Prop := fun vs zs H Q => ∃ (a : Addr) (ns : List Int), vs = [V.ref a] ∧ zs = [V.non] ∧ SqL K H a (ns.map V.int) ∧ (ns = [] → Q .non H) ∧ ∀ m, m ∈ ns → (∀ y, y ∈ ns → m ≤ y) → Q (.int m) H
theorem cr_minD (hc : X.calm = true) : CallRK X (.builtin "min") [Str.ofString "default"] (rMinD X.K) := by
  intro pins s σ H vs zs us ws Q I r rz h
  obtain ⟨a, ns, rfl, rfl, hs, q0, q⟩ := h
  obtain rfl := Vals.ref1 r
  obtain ⟨w1, rfl, e1⟩ := vals1 rz
  obtain rfl : w1 = Value.none := e1
  obtain ⟨its, rv, hl, _⟩ := I.list hs
  have hl := hl.isList
  have hi := rv.ints
  obtain ⟨xs, e⟩ := hi.allInts.items
  have hn : numsOf (intItems xs).toList = ns := by rw [← e]; exact hi.numsOf
  rw [nums_intItems] at hn
  subst hn
  rw [e] at hl
  have hh := I.ok.hd hc
  show wpAny _ _ (call (.builtin "min") [.ref a] [(Str.ofString "default", Value.none)]) _ _ s
  refine call_min_walkD (PySem.W.iter_listW (A := X.A.in1) hh hl fun s₂ e2 W st hfp hw hk => ?_)
  refine ⟨_, _, _, _, _, _, _, s.heap, (fun i j => decide (numAt xs i < numAt xs j)), rfl, W, st, hfp, hw, hk, fun hz s' m => ?_, fun hp => ⟨?_, fun v s' hP m => ?_⟩⟩
  · obtain ⟨h', tk, rfl, hk'⟩ := PySem.W.moved_old e2 rfl m
    refine ⟨.non, H, I.kept hk', rfl, q0 ?_⟩
    have : xs.size = 0 := by simpa [intItems] using hz
    rw [Array.eq_empty_of_size_eq_zero this]
    rfl
  · intro i j vi vj s9 Q9 E9 _ h1 h2 h3
    exact CmpOf.ints_lt (numAt xs) (fun _ _ => intItems_at) i j vi vj s9 Q9 E9 h1 h2 h3
  · obtain ⟨h', tk, rfl, hk'⟩ := PySem.W.moved_old e2 rfl m
    obtain ⟨t, rfl⟩ := intItems_at hP
    have hsz : 0 < xs.size := by simpa [intItems] using hp
    have e3 : (intItems xs).size - 1 = xs.size - 1 := by simp [intItems]
    obtain ⟨h1, h2⟩ := argBest_lt (numAt xs) (xs.size - 1)
    rw [e3] at hP ⊢
    refine ⟨.int _, H, I.kept hk', ⟨_, rfl⟩, q _ ?_ fun a ha => ?_⟩
    · rw [numAt_eq]; exact PySem.getD_mem (by rw [List.length_map, Array.length_toList]; omega)
    · obtain ⟨j, hj, rfl⟩ := mem_getD ha
      rw [List.length_map, Array.length_toList] at hj
      rw [← numAt_eq]; exact h2 j (by omega)
end
section
variable [Tbs] {K : PySem.W.Frag} {ps : List Nat}
def oMinD (ds : List D) (Φ : D → Prop) : Prop := ∃ l ns, ds = [.lst l] ∧ intsD l = some ns ∧ (ns = [] → Φ .non) ∧ ∀ m, m ∈ ns → (∀ y, y ∈ ns → m ≤ y) → Φ (.int m)
@[simp] theorem oMinD_ (l : List D) (Φ : D → Prop) : oMinD [.lst l] Φ = ∃ ns, intsD l = some ns ∧ (ns = [] → Φ .non) ∧ ∀ m, m ∈ ns → (∀ y, y ∈ ns → m ≤ y) → Φ (.int m) := by
  unfold oMinD
  refine propext ⟨?_, fun ⟨ns, h⟩ => ⟨l, ns, rfl, h⟩⟩
  rintro ⟨l', ns, e, h⟩
  cases e
  exact ⟨ns, h⟩
theorem re_minD {t : TA} {T : DLs} (h : RV K ps t T) : RE K ps (tCKw (rMinD K) t (tCons (tC .non) tNil)) (dCB oMinD T) := by
  intro b σ H F ρ Φ Q R0 hT k
  refine h b σ H F ρ _ _ R0 hT fun xs H1 F1 ρ1 ds s1 R1 h1 hT => ?_
  obtain ⟨l, ns, rfl, hn, q0, q⟩ := hT
  obtain ⟨v, r, rfl, h1, h2⟩ := h1.inv
  rw [h2.inv_nil]
  obtain ⟨a, ys, rfl, ea, ha⟩ := h1.inv_lst
  rw [intsD_ok ha hn] at ea
  exact ⟨a, ns, rfl, rfl, SqL.of (R1.sub _ _ ea), fun z => k _ H1 F1 ρ1 _ s1 R1 .non (q0 z), fun m h3 h4 => k _ H1 F1 ρ1 _ s1 R1 (.int _) (q m h3 h4)⟩
end
end DX
/-! A list or a dict of one's own lent to a callee as data: the callee's result is flat, so it stays one's own. -/
namespace DL
open PySem PySem.Spec PyProof.Rows L2
def lentO : OV → D
  | .d d => d
  | .l ds => .lst ds
  | .m ks => .dct ks
  | .draw => .non
def lentD (ρ : Env) : AV → D
  | .v d => d
  | .s i => lentO (slotO ρ[i]?)
def lendO : OV → Bool
  | .l _ => true
  | .m _ => true
  | _ => false
def lendS : Option (Option OV) → Bool
  | some (some (.l _)) => true
  | some (some (.m _)) => true
  | some (some (.d _)) => true
  | _ => false
def lendB (ρ : Env) : AV → Bool
  | .v _ => true
  | .s i => lendS ρ[i]?
theorem Dr.flat {K : PySem.W.Frag} {F F' : Hp} {v : V} {d : D} (h : Dr K F v d) (hf : flatD d = true) : Dr K F' v d := by
  cases h with
  | non => exact .non
  | bl b => exact .bl b
  | int i => exact .int i
  | str x => exact .str x
  | _ => cases hf
section
variable [Tbs] {K : PySem.W.Frag} {ps : List Nat} {b : Bs} {σ : St} {H : Hp}
theorem argUp {F F' : Hp} (s : Same F F') {vs : List V} {as : List AV} (h : ArgRel K σ F vs as) : ArgRel K σ F' vs as := by
  induction h with
  | nil => exact .nil
  | v h _ ih => exact .v (h.up s) ih
  | s h _ ih => exact .s h ih
theorem lend {vs : List V} {as : List AV} : ∀ {F : Hp} {ρ : Env}, ArgRel K σ F vs as → Rep K ps b σ H F ρ → as.all (lendB ρ) = true → ∃ F2 ρ2, Same F F2 ∧ Rep K ps b σ H F2 ρ2 ∧ DA K F2 vs (as.map (lentD ρ)) := by
  induction as generalizing vs with
  | nil =>
    intro F ρ hr R _
    cases hr
    exact ⟨F, ρ, Same.refl F, R, ⟨rfl, fun k v d e => by cases e⟩⟩
  | cons a as ih =>
    intro F ρ hr R hl
    rw [List.all_cons, Bool.and_eq_true] at hl
    have up : ∀ {F2 : Hp} {ρ2 : Env} {v : V} {d : D} {vs' : List V}, Same F F2 → Dr K F2 v d → ArgRel K σ F vs' as → Rep K ps b σ H F2 ρ2 → as.all (lendB ρ2) = true → (as.map (lentD ρ2)) = as.map (lentD ρ) →
        ∃ F3 ρ3, Same F F3 ∧ Rep K ps b σ H F3 ρ3 ∧ DA K F3 (v :: vs') (d :: as.map (lentD ρ)) := fun {F2 ρ2 v d vs'} s hd hr R2 hl2 e => by
      obtain ⟨F3, ρ3, s3, R3, h3⟩ := ih (argUp s hr) R2 hl2
      rw [e] at h3
      exact ⟨F3, ρ3, s.trans s3, R3, .cons (hd.up s3) h3⟩
    have stay : ∀ {i : Nat} {o : OV}, ρ[i]? = some (some o) → lendO o = true → (∀ a : AV, lentD (ρ.set i (some (.d (lentO o)))) a = lentD ρ a) ∧ ∀ a : AV, lendB ρ a = true → lendB (ρ.set i (some (.d (lentO o)))) a = true := fun {i o} e ho => by
      have hi := (List.getElem?_eq_some_iff.mp e).1
      refine ⟨fun a => ?_, fun a h => ?_⟩
      · cases a with
        | v d => rfl
        | s j =>
          show lentO (slotO _) = lentO (slotO _)
          by_cases hj : i = j
          · subst hj
            rw [List.getElem?_set_self hi, e]
            rfl
          · rw [List.getElem?_set_ne hj]
      · cases a with
        | v d => rfl
        | s j =>
          show lendS _ = true
          by_cases hj : i = j
          · subst hj
            rw [List.getElem?_set_self hi]
            rfl
          · rw [List.getElem?_set_ne hj]
            exact h
    have all2 : ∀ {ρ2 : Env}, (∀ a : AV, lendB ρ a = true → lendB ρ2 a = true) → as.all (lendB ρ2) = true := fun h => List.all_eq_true.mpr fun a ha => h a (List.all_eq_true.mp hl.2 a ha)
    cases hr with
    | v h1 h2 => exact up (Same.refl F) h1 h2 R hl.2 rfl
    | s h1 h2 =>
      rename_i v i vs'
      have h0 : lendS ρ[i]? = true := hl.1
      show ∃ F2 ρ2, Same F F2 ∧ Rep K ps b σ H F2 ρ2 ∧ DA K F2 (v :: vs') (lentO (slotO ρ[i]?) :: as.map (lentD ρ))
      cases e : ρ[i]? with
      | none => rw [e] at h0; cases h0
      | some o =>
        cases o with
        | none => rw [e] at h0; cases h0
        | some o =>
          cases o with
          | d x =>
            obtain ⟨v', g1, g2⟩ := R.slot i _ e
            rw [h1] at g1
            cases g1
            exact up (Same.refl F) g2 h2 R hl.2 rfl
          | draw => rw [e] at h0; cases h0
          | l ds =>
            obtain ⟨p, xs, g1, _, _, g4, g5, g6⟩ := R.frzL e
            rw [h1] at g1
            cases g1
            obtain ⟨t1, t2⟩ := stay e rfl
            exact up g4 g5 h2 g6 (all2 t2) (List.map_congr_left fun a _ => t1 a)
          | m ds =>
            obtain ⟨p, xs, g1, _, _, g4, g5, g6⟩ := R.frzM e
            rw [h1] at g1
            cases g1
            obtain ⟨t1, t2⟩ := stay e rfl
            exact up g4 g5 h2 g6 (all2 t2) (List.map_congr_left fun a _ => t1 a)
def dCallB (s : List D → (D → Prop) → Prop) (Ta : DAs) : DE := fun ρ Φ => Ta ρ fun as ρ1 => as.all (lendB ρ1) = true ∧ s (as.map (lentD ρ1)) fun d => flatD d = true ∧ Φ d ρ1
theorem re_callB {s : List D → (D → Prop) → Prop} {t : TA} {Ta : DAs} {E : XK} (h : RA K ps t Ta) : RE K ps (tCall (spOf K (pureS s)) [] E t) (dCallB s Ta) := by
  intro b σ H F ρ Φ Q R0 hT k
  refine h b σ H F ρ _ _ R0 hT fun vs H1 F1 ρ1 as s1 R1 hr hT => ?_
  obtain ⟨hb, hS⟩ := hT
  obtain ⟨F2, ρ2, s2, R2, hda⟩ := lend hr R1 hb
  generalize as.map (lentD ρ1) = ds at hda hS
  have nO : ∀ a, ¬ OwnA vs (ds.map .d) a := fun a ⟨i, o, e1, e2, _⟩ => by
    rw [List.getElem?_map] at e1
    obtain ⟨d, _, rfl⟩ := Option.map_eq_some_iff.mp e1
    cases e2
  have eq : vs ++ ([] : List V) = vs := List.append_nil vs
  refine ⟨F2, ds.map .d, fun d _ => flatD d = true ∧ Φ d ρ1, ⟨R2.sub, R2.nt, R2.tabs, R2.grow.b⟩, ⟨by rw [List.length_map, eq]; exact hda.1, fun k v o e1 e2 => ?_, fun k l o u v n e1 o1 e2 o2 e3 e4 => ?_⟩, ⟨ds, rfl, hS⟩, fun F' H' v d os' s3 ⟨sub2, nt2, tb2⟩ kp th nw len2 hout hd hΦ => ?_⟩
  · rw [eq] at e1
    rw [List.getElem?_map] at e2
    obtain ⟨d, hd, rfl⟩ := Option.map_eq_some_iff.mp e2
    exact hda.2 k v d e1 hd
  · rw [List.getElem?_map] at e1
    obtain ⟨d, _, rfl⟩ := Option.map_eq_some_iff.mp e1
    cases o1
  · rw [eq] at kp nw
    exact k v H' F1 ρ1 d s1 (R1.grownT (fun a o e nz => kp a o e (nO a) nz) th (Same.refl F1) (fun a o e => sub2 a o (s3 _ _ (s2 _ _ e))) (fun a o e => .inl e) R1.nt tb2) (hd.flat hΦ.1) hΦ.2
@[simp] theorem dCallB_ (s : List D → (D → Prop) → Prop) (Ta : DAs) (ρ : Env) (Φ : D → Env → Prop) : dCallB s Ta ρ Φ = Ta ρ fun as ρ1 => as.all (lendB ρ1) = true ∧ s (as.map (lentD ρ1)) fun d => flatD d = true ∧ Φ d ρ1 := Eq.trans rfl rfl
@[simp] theorem lentD_v (ρ : Env) (d : D) : lentD ρ (.v d) = d := Eq.trans rfl rfl
@[simp] theorem lentD_s (ρ : Env) (i : Nat) : lentD ρ (.s i) = lentO (slotO ρ[i]?) := Eq.trans rfl rfl
@[simp] theorem lentO_d (d : D) : lentO (.d d) = d := Eq.trans rfl rfl
@[simp] theorem lentO_l (d : List D) : lentO (.l d) = .lst d := Eq.trans rfl rfl
@[simp] theorem lentO_m (d : List (Key × D)) : lentO (.m d) = .dct d := Eq.trans rfl rfl
@[simp] theorem lendB_v (ρ : Env) (d : D) : lendB ρ (.v d) = true := Eq.trans rfl rfl
@[simp] theorem lendB_s (ρ : Env) (i : Nat) : lendB ρ (.s i) = lendS ρ[i]? := Eq.trans rfl rfl
@[simp] theorem lendS_d (d : D) : lendS (some (some (.d d))) = true := Eq.trans rfl rfl
@[simp] theorem lendS_l (d : List D) : lendS (some (some (.l d))) = true := Eq.trans rfl rfl
@[simp] theorem lendS_m (d : List (Key × D)) : lendS (some (some (.m d))) = true := Eq.trans rfl rfl
end
end DL
/-! Trees, and their nodes in order. -/
namespace TR
inductive Tr (α : Type) where
  | nd (d : α) (ks : List (Tr α))
variable {α : Type}
def Tr.d : Tr α → α
  | .nd d _ => d
def Tr.ks : Tr α → List (Tr α)
  | .nd _ ks => ks
@[simp] theorem d_nd (d : α) (ks : List (Tr α)) : (Tr.nd d ks).d = d := rfl
@[simp] theorem ks_nd (d : α) (ks : List (Tr α)) : (Tr.nd d ks).ks = ks := rfl
mutual
def pre : Tr α → List (Tr α)
  | .nd d ks => .nd d ks :: pres ks
def pres : List (Tr α) → List (Tr α)
  | [] => []
  | k :: ks => pre k ++ pres ks
end
mutual
def sz : Tr α → Nat
  | .nd _ ks => 1 + szs ks
def szs : List (Tr α) → Nat
  | [] => 0
  | k :: ks => sz k + szs ks
end
/-- the numbers of trees one behind the other, the first one having this number -/
def starts : List (Tr α) → Nat → List Nat
  | [], _ => []
  | k :: ks, n => n :: starts ks (n + sz k)
mutual
def num : Tr α → Nat → List (α × List Nat)
  | .nd d ks, n => (d, starts ks (n + 1)) :: nums ks (n + 1)
def nums : List (Tr α) → Nat → List (α × List Nat)
  | [], _ => []
  | k :: ks, n => num k n ++ nums ks (n + sz k)
end
mutual
theorem pre_len : ∀ t : Tr α, (pre t).length = sz t
  | .nd d ks => by rw [pre, sz, List.length_cons, pres_len ks]; omega
theorem pres_len : ∀ ks : List (Tr α), (pres ks).length = szs ks
  | [] => by rw [pres, szs]; rfl
  | k :: ks => by rw [pres, szs, List.length_append, pre_len k, pres_len ks]
end
mutual
theorem num_len : ∀ (t : Tr α) (n : Nat), (num t n).length = sz t
  | .nd d ks, n => by rw [num, sz, List.length_cons, nums_len ks]; omega
theorem nums_len : ∀ (ks : List (Tr α)) (n : Nat), (nums ks n).length = szs ks
  | [], n => by rw [nums, szs]; rfl
  | k :: ks, n => by rw [nums, szs, List.length_append, num_len k, nums_len ks]
end
theorem sz_pos (t : Tr α) : 0 < sz t := by cases t; rw [sz]; omega
theorem pre_zero (t : Tr α) : (pre t)[0]? = some t := by cases t; rw [pre]; rfl
theorem starts_len : ∀ (ks : List (Tr α)) (n : Nat), (starts ks n).length = ks.length
  | [], n => rfl
  | k :: ks, n => by rw [starts, List.length_cons, List.length_cons, starts_len ks]
/-- G has these nodes from n on -/
def Has (G : List (Tr α)) (n : Nat) (l : List (Tr α)) : Prop := ∀ i s, l[i]? = some s → G[n + i]? = some s
theorem Has.app {G : List (Tr α)} {n : Nat} {a b : List (Tr α)} (h : Has G n (a ++ b)) : Has G n a ∧ Has G (n + a.length) b := by
  refine ⟨fun i s e => h i s ?_, fun i s e => ?_⟩
  · rw [List.getElem?_append_left (List.getElem?_eq_some_iff.mp e).1]
    exact e
  · have := h (a.length + i) s (by rw [List.getElem?_append_right (by omega), Nat.add_sub_cancel_left]; exact e)
    rwa [← Nat.add_assoc] at this
theorem Has.tail {G : List (Tr α)} {n : Nat} {a : Tr α} {b : List (Tr α)} (h : Has G n (a :: b)) : G[n]? = some a ∧ Has G (n + 1) b := by
  refine ⟨h 0 a rfl, fun i s e => ?_⟩
  have := h (i + 1) s e
  rwa [Nat.add_comm i 1, ← Nat.add_assoc] at this
theorem starts_has {G : List (Tr α)} : ∀ (ks : List (Tr α)) (n : Nat), Has G n (pres ks) → ∀ (j k : Nat), (starts ks n)[j]? = some k → n ≤ k ∧ G[k]? = ks[j]?
  | [], n, _, j, k, e => by cases e
  | t :: ks, n, h, j, k, e => by
    rw [pres] at h
    obtain ⟨h1, h2⟩ := h.app
    rw [pre_len] at h2
    cases j with
    | zero =>
      rw [starts] at e
      cases e
      have := h1 0 t (pre_zero t)
      exact ⟨Nat.le_refl _, this⟩
    | succ j =>
      rw [starts] at e
      obtain ⟨g1, g2⟩ := starts_has ks (n + sz t) h2 j k e
      exact ⟨by omega, g2⟩
/-- a row tells a node and the numbers of those in it -/
def RowOk (G : List (Tr α)) (i : Nat) (r : α × List Nat) : Prop := ∃ s, G[i]? = some s ∧ s.d = r.1 ∧ r.2.length = s.ks.length ∧ ∀ (j k : Nat), r.2[j]? = some k → i < k ∧ G[k]? = s.ks[j]?
mutual
theorem num_ok {G : List (Tr α)} : ∀ (t : Tr α) (n : Nat), Has G n (pre t) → ∀ i r, (num t n)[i]? = some r → RowOk G (n + i) r
  | .nd d ks, n, h, i, r, e => by
    rw [pre] at h
    obtain ⟨h1, h2⟩ := h.tail
    rw [num] at e
    cases i with
    | zero =>
      cases e
      refine ⟨_, h1, rfl, starts_len _ _, fun j k ek => ?_⟩
      obtain ⟨g1, g2⟩ := starts_has ks (n + 1) h2 j k ek
      exact ⟨by omega, g2⟩
    | succ i =>
      have := nums_ok ks (n + 1) h2 i r e
      rwa [Nat.add_assoc, Nat.add_comm 1 i] at this
theorem nums_ok {G : List (Tr α)} : ∀ (ks : List (Tr α)) (n : Nat), Has G n (pres ks) → ∀ i r, (nums ks n)[i]? = some r → RowOk G (n + i) r
  | [], n, _, i, r, e => by rw [nums] at e; cases e
  | k :: ks, n, h, i, r, e => by
    rw [pres] at h
    obtain ⟨h1, h2⟩ := h.app
    rw [pre_len] at h2
    rw [nums] at e
    by_cases hi : i < (num k n).length
    · rw [List.getElem?_append_left hi] at e
      exact num_ok k n h1 i r e
    · rw [List.getElem?_append_right (by omega), num_len] at e
      rw [num_len] at hi
      have := nums_ok ks (n + sz k) h2 _ r e
      rwa [show n + sz k + (i - sz k) = n + i by omega] at this
end
theorem rows_ok (t : Tr α) {i : Nat} {r : α × List Nat} (e : (num t 0)[i]? = some r) : RowOk (pre t) i r := by
  have := num_ok (G := pre t) t 0 (fun i s e => by rwa [Nat.zero_add]) i r e
  rwa [Nat.zero_add] at this
/-! ### as a walk with a stack finds them -/
theorem modif_get {β : Type} (f : β → β) (k i : Nat) (l : List β) : (l.modify k f)[i]? = if k = i then l[i]?.map f else l[i]? := by
  rw [List.getElem?_modify]
  split
  · cases l[i]? <;> simp_all
  · cases l[i]? <;> simp_all
def addTo (o : Option Nat) (n : Nat) (rows : List (α × List Nat)) : List (α × List Nat) := match o with
  | none => rows
  | some k => rows.modify k fun r => (r.1, r.2 ++ [n])
theorem addTo_len (o : Option Nat) (n : Nat) (rows : List (α × List Nat)) : (addTo o n rows).length = rows.length := by
  cases o with
  | none => rfl
  | some k => exact List.length_modify ..
/-- what comes of these rows with this stack, the next one first -/
def proc : List (α × List Nat) → List (Tr α × Option Nat) → List (α × List Nat)
  | rows, [] => rows
  | rows, (t, o) :: ws => proc (addTo o rows.length rows ++ num t rows.length) ws
def step1 (d : α) (o : Option Nat) (rows : List (α × List Nat)) : List (α × List Nat) := addTo o rows.length (rows ++ [(d, [])])
/-- o is a row -/
def InR (rows : List (α × List Nat)) (o : Option Nat) : Prop := ∀ k, o = some k → k < rows.length
theorem addTo_app (o : Option Nat) (n : Nat) {rows : List (α × List Nat)} (more : List (α × List Nat)) (h : InR rows o) : addTo o n (rows ++ more) = addTo o n rows ++ more := by
  cases o with
  | none => rfl
  | some k =>
    have hk := h k rfl
    apply List.ext_getElem?
    intro i
    show ((rows ++ more).modify k _)[i]? = (rows.modify k _ ++ more)[i]?
    rw [modif_get]
    by_cases hi : i < rows.length
    · rw [List.getElem?_append_left hi, List.getElem?_append_left (by rw [List.length_modify]; exact hi), modif_get]
    · rw [List.getElem?_append_right (by omega), List.getElem?_append_right (by rw [List.length_modify]; omega), List.length_modify, if_neg (by omega)]
def addAll (k : Nat) (ns : List Nat) (rows : List (α × List Nat)) : List (α × List Nat) := rows.modify k fun r => (r.1, r.2 ++ ns)
theorem proc_kids (k : Nat) : ∀ (ks : List (Tr α)) (rows : List (α × List Nat)) (ws : List (Tr α × Option Nat)), k < rows.length →
    proc rows (ks.map (fun t => (t, some k)) ++ ws) = proc (addAll k (starts ks rows.length) rows ++ nums ks rows.length) ws
  | [], rows, ws, hk => by
    rw [starts, nums, List.append_nil]
    show proc rows ws = _
    congr 1
    apply List.ext_getElem?
    intro i
    unfold addAll
    rw [modif_get]
    cases rows[i]? with
    | none => simp
    | some r => simp
  | t :: ks, rows, ws, hk => by
    show proc (addTo (some k) rows.length rows ++ num t rows.length) (ks.map (fun t => (t, some k)) ++ ws) = _
    have hl : (addTo (some k) rows.length rows ++ num t rows.length).length = rows.length + sz t := by rw [List.length_append, addTo_len, num_len]
    rw [proc_kids k ks _ ws (by rw [hl]; omega), hl, starts, nums]
    congr 1
    rw [← List.append_assoc]
    congr 1
    apply List.ext_getElem?
    intro i
    unfold addAll
    show ((rows.modify k _ ++ num t rows.length).modify k _)[i]? = (rows.modify k _ ++ num t rows.length)[i]?
    rw [modif_get]
    by_cases hi : i < rows.length
    · rw [List.getElem?_append_left (by rw [List.length_modify]; exact hi), List.getElem?_append_left (by rw [List.length_modify]; exact hi), modif_get, modif_get]
      cases rows[i]? with
      | none => simp
      | some r =>
        by_cases hki : k = i
        · simp [hki]
        · simp [hki]
    · rw [List.getElem?_append_right (by rw [List.length_modify]; omega), List.getElem?_append_right (by rw [List.length_modify]; omega), List.length_modify, List.length_modify, if_neg (by omega)]
theorem proc_step (d : α) (ks : List (Tr α)) (o : Option Nat) (rows : List (α × List Nat)) (ws : List (Tr α × Option Nat)) (h : InR rows o) :
    proc rows ((.nd d ks, o) :: ws) = proc (step1 d o rows) (ks.map (fun t => (t, some rows.length)) ++ ws) := by
  have hl : (step1 d o rows).length = rows.length + 1 := by unfold step1; rw [addTo_len, List.length_append]; rfl
  rw [proc_kids rows.length ks _ ws (by rw [hl]; omega), hl]
  show proc (addTo o rows.length rows ++ num (.nd d ks) rows.length) ws = _
  rw [num]
  congr 1
  have e : addAll rows.length (starts ks (rows.length + 1)) (step1 d o rows) = addTo o rows.length rows ++ [(d, starts ks (rows.length + 1))] := by
    unfold step1
    rw [addTo_app o _ _ h]
    unfold addAll
    have hl2 := addTo_len o rows.length rows
    apply List.ext_getElem?
    intro i
    rw [modif_get]
    by_cases hi : i < rows.length
    · rw [List.getElem?_append_left (by omega), List.getElem?_append_left (by omega), if_neg (by omega)]
    · rw [List.getElem?_append_right (by omega), List.getElem?_append_right (by omega), hl2]
      by_cases h2 : i = rows.length
      · subst h2
        simp
      · rw [if_neg (fun z => h2 z.symm)]
        have : ∀ x : α × List Nat, [x][i - rows.length]? = none := fun x => List.getElem?_eq_none (by simp; omega)
        rw [this, this]
  rw [e, List.append_assoc]
  rfl
def szw : List (Tr α × Option Nat) → Nat
  | [] => 0
  | w :: ws => sz w.1 + szw ws
theorem szw_app (a b : List (Tr α × Option Nat)) : szw (a ++ b) = szw a + szw b := by
  induction a with
  | nil => simp [szw]
  | cons w a ih => rw [List.cons_append, szw, szw, ih]; omega
theorem szw_kids (o : Option Nat) (ks : List (Tr α)) : szw (ks.map fun t => (t, o)) = szs ks := by
  induction ks with
  | nil => rw [szs]; rfl
  | cons k ks ih => rw [List.map_cons, szw, ih, szs]
theorem proc_len : ∀ (ws : List (Tr α × Option Nat)) (rows : List (α × List Nat)), (proc rows ws).length = rows.length + szw ws
  | [], rows => rfl
  | (t, o) :: ws, rows => by
    show (proc (addTo o rows.length rows ++ num t rows.length) ws).length = _
    rw [proc_len ws, List.length_append, addTo_len, num_len]
    show _ = rows.length + (sz t + szw ws)
    omega
theorem proc_all (t : Tr α) : proc [] [(t, none)] = num t 0 := by
  show proc (([] : List (α × List Nat)) ++ num t 0) [] = _
  rw [List.nil_append]
  rfl
theorem ks_szs (ks : List (Tr α)) : ks.length ≤ szs ks := by
  induction ks with
  | nil => exact Nat.zero_le _
  | cons k ks ih => have := sz_pos k; rw [szs, List.length_cons]; omega
mutual
theorem pre_sz : ∀ (t s : Tr α), s ∈ pre t → sz s ≤ sz t
  | .nd d ks, s, h => by
    rw [pre] at h
    rcases List.mem_cons.mp h with rfl | h
    · exact Nat.le_refl _
    · have := pres_sz ks s h
      rw [sz]
      omega
theorem pres_sz : ∀ (ks : List (Tr α)) (s : Tr α), s ∈ pres ks → sz s ≤ szs ks
  | [], s, h => by rw [pres] at h; cases h
  | k :: ks, s, h => by
    rw [pres] at h
    rw [szs]
    rcases List.mem_append.mp h with h | h
    · have := pre_sz k s h; omega
    · have := pres_sz ks s h; omega
end
theorem kids_le {t s : Tr α} (h : s ∈ pre t) : s.ks.length < sz t := by
  have h1 := pre_sz t s h
  cases s with
  | nd d ks =>
    have h2 := ks_szs ks
    rw [sz] at h1
    show ks.length < _
    omega
/-! ### other labels -/
mutual
def mapT {β : Type} (δ : α → β) : Tr α → Tr β
  | .nd d ks => .nd (δ d) (mapTs δ ks)
def mapTs {β : Type} (δ : α → β) : List (Tr α) → List (Tr β)
  | [] => []
  | k :: ks => mapT δ k :: mapTs δ ks
end
theorem mapTs_map {α : Type} {β : Type} (δ : α → β) (ks : List (Tr α)) : mapTs δ ks = ks.map (mapT δ) := by
  induction ks with
  | nil => rw [mapTs]; rfl
  | cons k ks ih => rw [mapTs, ih]; rfl
theorem mapT_d {α : Type} {β : Type} (δ : α → β) (t : Tr α) : (mapT δ t).d = δ t.d := by
  cases t
  rw [mapT]
  rfl
mutual
theorem sz_map {α : Type} {β : Type} (δ : α → β) : ∀ t : Tr α, sz (mapT δ t) = sz t
  | .nd d ks => by rw [mapT, sz, sz, szs_map δ ks]
theorem szs_map {α : Type} {β : Type} (δ : α → β) : ∀ ks : List (Tr α), szs (mapTs δ ks) = szs ks
  | [] => by rw [mapTs, szs, szs]
  | k :: ks => by rw [mapTs, szs, szs, sz_map δ k, szs_map δ ks]
end
theorem starts_map {α : Type} {β : Type} (δ : α → β) : ∀ (ks : List (Tr α)) (n : Nat), starts (mapTs δ ks) n = starts ks n
  | [], n => by rw [mapTs]; rfl
  | k :: ks, n => by rw [mapTs, starts, starts, sz_map, starts_map δ ks]
mutual
theorem num_map {α : Type} {β : Type} (δ : α → β) : ∀ (t : Tr α) (n : Nat), num (mapT δ t) n = (num t n).map fun r => (δ r.1, r.2)
  | .nd d ks, n => by rw [mapT, num, num, starts_map, nums_map δ ks, List.map_cons]
theorem nums_map {α : Type} {β : Type} (δ : α → β) : ∀ (ks : List (Tr α)) (n : Nat), nums (mapTs δ ks) n = (nums ks n).map fun r => (δ r.1, r.2)
  | [], n => by rw [mapTs, nums, nums]; rfl
  | k :: ks, n => by rw [mapTs, nums, nums, num_map δ k, nums_map δ ks, sz_map, List.map_append]
end
end TR
/-! numbered, folded: over trees of data. -/
namespace NB
open PySem PySem.Spec PyProof.Rows L2 DL TR
section
variable [Tbs] {K : PySem.W.Frag} {ps : List Nat}
/-! ### a call of a local name; extend -/
abbrev SV := List D → (D → Prop) → Prop
def dCallA (i : Nat) (SS : Addr → Option SV) (Ta : DLs) : DE := fun ρ Φ => ∃ f s, ρ[i]? = some (some (.d (.fn f))) ∧ SS f = some s ∧ Ta ρ fun ds ρ1 => s ds fun d => Φ d ρ1
def spA (K : PySem.W.Frag) (SS : Addr → Option SV) : Addr → Option Sp := fun f => (SS f).map fun s => spOf K (pureS s)
theorem re_callA {i : Nat} {SS : Addr → Option SV} {t : TA} {Ta : DLs} (h : RV K ps t Ta) : RE K ps (tCallA i (spA K SS) t) (dCallA i SS Ta) := by
  intro b σ H F ρ Φ Q R hT k
  obtain ⟨f, s, e, hs, hT⟩ := hT
  obtain ⟨v, h1, h2⟩ := R.slot i _ e
  have hv : v = .ref f := Dr.inv_fn h2
  subst hv
  refine ⟨f, spOf K (pureS s), h1, by unfold spA; rw [hs]; rfl, ?_⟩
  have hc := re_callV (s := s) (E := fun _ _ _ => False) h b σ H F ρ Φ Q R hT k
  have e0 : (fun (vs : List V) (H1 : Hp) => spOf K (pureS s) (vs ++ []) H1 Q (fun _ _ _ => False)) = fun vs H1 => spOf K (pureS s) vs H1 Q (fun _ _ _ => False) := by
    funext vs H1
    rw [List.append_nil]
  have hc' : t σ H (fun vs H1 => spOf K (pureS s) (vs ++ []) H1 Q (fun _ _ _ => False)) := hc
  rw [e0] at hc'
  exact hc'
@[simp] theorem dCallA_ (i : Nat) (SS : Addr → Option SV) (Ta : DLs) (ρ : DL.Env) (Φ : D → DL.Env → Prop) : dCallA i SS Ta ρ Φ = ∃ f s, ρ[i]? = some (some (.d (.fn f))) ∧ SS f = some s ∧ Ta ρ fun ds ρ1 => s ds fun d => Φ d ρ1 := Eq.trans rfl rfl
def dExt (i : Nat) (T : DLs) : DS := fun E ρ => (∃ ds0, ρ[i]? = some (some (.l ds0))) ∧ T ρ fun es ρ1 => ∃ ds, ρ1[i]? = some (some (.l ds)) ∧ ds.length + es.length ≤ sizeLine ∧ E.nx (ρ1.set i (some (.l (ds ++ es))))
theorem rs_ext {i : Nat} {t : TE} {T : DLs} (h : RL K ps t T) : RS K ps (tDrop (tBM K "list" rExtend (tVar i) (tCons t tNil))) (dExt i T) := by
  intro b σ H F ρ E D' R hT n r bk ct
  obtain ⟨⟨ds0, e0⟩, hT⟩ := hT
  obtain ⟨p, hp, _, _, xs0, ex0, _⟩ := R.own e0 rfl
  refine ⟨_, hp, .inl ⟨rfl, xs0, SqL.of ex0⟩, h b σ H F ρ _ _ R hT fun q ys H1 F1 ρ1 es s1 R1 lo hy hes hΦ => ?_⟩
  obtain ⟨ds, e1, hz, hΦ⟩ := hΦ
  obtain ⟨p', hp', hF1, _, xs, ex, hx⟩ := R1.own e1 rfl
  rw [hp] at hp'
  cases hp'
  refine ⟨p, q, xs, ys, rfl, rfl, ex, hy, by rw [hx.1, hes.1]; exact hz, n σ _ F1 _ s1 (R1.write e1 rfl rfl hp (fun a u na e => (upd_ne na).trans e) (Same.refl F1) (fun a o e => ?_) (fun a o e => .inl e) (fun a o e => .inl e) (at_l upd_same (hx.app hes))) hΦ⟩
  rw [upd_ne (fun z => by rw [z, hF1] at e; cases e)]
  exact R1.sub a o e
@[simp] theorem dExt_ (i : Nat) (T : DLs) (E : DEn) (ρ : DL.Env) : dExt i T E ρ = ((∃ ds0, ρ[i]? = some (some (.l ds0))) ∧ T ρ fun es ρ1 => ∃ ds, ρ1[i]? = some (some (.l ds)) ∧ ds.length + es.length ≤ sizeLine ∧ E.nx (ρ1.set i (some (.l (ds ++ es))))) := Eq.trans rfl rfl
/-! ### frames of statements -/
variable {b : Bs} {σ : L2.St} {H F : Hp} {ρ : DL.Env}
def exN (N : DL.Env → Prop) : DEn := ⟨N, fun _ _ => False, fun _ => False, fun _ => False⟩
theorem RS.fr {t : TS} {T : DS} (h : RS K ps t T) (R : Rep K ps b σ H F ρ) {N : DL.Env → Prop} {D' : Ends} (hT : T (exN N) ρ)
    (n : ∀ σ' H' F' ρ', Same F F' → Fr σ ρ H F H' F' → Rep K ps b σ' H' F' ρ' → (∀ a, Owned σ' ρ' a → Owned σ ρ a ∨ H a = none) → N ρ' → D'.nx σ' H') : t D' σ H :=
  h (here b σ H F ρ) σ H F ρ (exN N) D' R.here hT (fun σ' H' F' ρ' s R' hn => n σ' H' F' ρ' s (R.fr R') (R.back R') (fun a z => (R'.owned z).2.1.symm) hn)
    (fun _ _ _ _ _ _ _ _ _ z => z.elim) (fun _ _ _ _ _ _ z => z.elim) (fun _ _ _ _ _ _ z => z.elim)
theorem Rep.revs {vs : List V} (R : Rep K [] b σ H F ρ) : Rep K [] ⟨b.H0, b.F0, vs, b.O⟩ σ H F ρ :=
  ⟨R.sub, R.grow, R.keep, R.there, R.new, R.slot, R.apart, R.len, fun i h => (nomatch h), R.nt, R.dom, R.tabs⟩
theorem Rep.unpin (R : Rep K ps b σ H F ρ) : Rep K [] b σ H F ρ :=
  ⟨R.sub, R.grow, R.keep, R.there, R.new, R.slot, R.apart, R.len, fun i h => (nomatch h), R.nt, R.dom, R.tabs⟩
theorem Rep.setU {i : Nat} {v : V} (R : Rep K [] b σ H F ρ) (hρ : ∀ o, ρ[i]? ≠ some (some o)) (hv : b.vs[i]? = some v) (hi : i < σ.length) : Rep K [i] b (σ.set i (some v)) H F ρ where
  sub := R.sub
  grow := R.grow
  nt := R.nt
  dom := R.dom
  tabs := R.tabs
  keep := R.keep
  there := R.there
  new := R.new
  slot := fun j o e => by
    have n : i ≠ j := fun z => by subst z; exact hρ o e
    rw [List.getElem?_set_ne n]
    exact R.slot j o e
  apart := fun j k o u w n e1 o1 e2 o2 s1 => by
    have n1 : i ≠ j := fun z => by subst z; exact hρ o e1
    have n2 : i ≠ k := fun z => by subst z; exact hρ u e2
    rw [List.getElem?_set_ne n1] at s1
    rw [List.getElem?_set_ne n2]
    exact R.apart j k o u w n e1 o1 e2 o2 s1
  len := by rw [List.length_set, R.len]
  pin := fun j hj => by
    cases List.mem_singleton.mp hj
    exact ⟨v, List.getElem?_set_self hi, hv⟩
/-! ### the rows of nodes, loose -/
def foot (ts : List (Addr × Addr × V)) : List Addr := ts.flatMap fun x => [x.1, x.2.1]
def nV (ns : List Nat) : List V := ns.map fun n => .int (n : Nat)
structure Nst (K : PySem.W.Frag) (b : Bs) (σ : L2.St) (H F : Hp) (ρ : DL.Env) (p : Addr) (ts : List (Addr × Addr × V)) (rows : List (D × List Nat)) : Prop where
  main : H p = some (.lst (ts.map fun x => .ref x.1))
  len : ts.length = rows.length
  row : ∀ (i : Nat) x r, ts[i]? = some x → rows[i]? = some r → H x.1 = some (.tup [x.2.2, .ref x.2.1]) ∧ H x.2.1 = some (.lst (nV r.2)) ∧ Dr K F x.2.2 r.1
  free : ∀ a, a ∈ p :: foot ts → F a = none ∧ b.H0 a = none ∧ ¬ Owned σ ρ a
  nodup : (p :: foot ts).Nodup
theorem mem_foot {ts : List (Addr × Addr × V)} {a : Addr} (h : a ∈ foot ts) : ∃ (i : Nat) (x : Addr × Addr × V), ts[i]? = some x ∧ (a = x.1 ∨ a = x.2.1) := by
  obtain ⟨x, hx, ha⟩ := List.mem_flatMap.mp h
  obtain ⟨i, hi⟩ := List.getElem?_of_mem hx
  refine ⟨i, x, hi, ?_⟩
  simpa using ha
theorem foot_mem {ts : List (Addr × Addr × V)} {i : Nat} {x : Addr × Addr × V} (h : ts[i]? = some x) : x.1 ∈ foot ts ∧ x.2.1 ∈ foot ts :=
  ⟨List.mem_flatMap.mpr ⟨x, List.mem_of_getElem? h, by simp⟩, List.mem_flatMap.mpr ⟨x, List.mem_of_getElem? h, by simp⟩⟩
theorem Nst.ex {p : Addr} {ts : List (Addr × Addr × V)} {rows : List (D × List Nat)} (N : Nst K b σ H F ρ p ts rows) {a : Addr} (h : a ∈ p :: foot ts) : ∃ o, H a = some o ∧ NT o := by
  rcases List.mem_cons.mp h with rfl | h
  · exact ⟨_, N.main, by intro t z; cases z⟩
  · obtain ⟨i, x, hx, ha⟩ := mem_foot h
    have hi := (List.getElem?_eq_some_iff.mp hx).1
    obtain ⟨h1, h2, _⟩ := N.row i x _ hx (List.getElem?_eq_getElem (by rw [← N.len]; exact hi))
    rcases ha with rfl | rfl
    · exact ⟨_, h1, by intro t z; cases z⟩
    · exact ⟨_, h2, by intro t z; cases z⟩
theorem Nst.up {b' : Bs} {σ' : L2.St} {H' F' : Hp} {ρ' : DL.Env} {p : Addr} {ts : List (Addr × Addr × V)} {rows : List (D × List Nat)} (N : Nst K b σ H F ρ p ts rows) (R : Rep K ps b' σ H F ρ) (s : Same F F') (f : Fr σ ρ H F H' F')
    (o : ∀ a, Owned σ' ρ' a → Owned σ ρ a ∨ H a = none) : Nst K b σ' H' F' ρ' p ts rows := by
  have kp : ∀ {a : Addr} {u : HO}, a ∈ p :: foot ts → H a = some u → H' a = some u ∧ F' a = none := fun {a u} h e => by
    obtain ⟨u', e', nu⟩ := N.ex h
    rw [e] at e'
    cases e'
    obtain ⟨hF, _, hn⟩ := N.free a h
    exact f.loose R e hF hn nu
  refine ⟨(kp List.mem_cons_self N.main).1, N.len, fun i x r hx hr => ?_, fun a h => ?_, N.nodup⟩
  · obtain ⟨h1, h2, h3⟩ := N.row i x r hx hr
    obtain ⟨m1, m2⟩ := foot_mem hx
    exact ⟨(kp (List.mem_cons_of_mem _ m1) h1).1, (kp (List.mem_cons_of_mem _ m2) h2).1, h3.up s⟩
  · obtain ⟨u, e, _⟩ := N.ex h
    obtain ⟨_, h0, hn⟩ := N.free a h
    refine ⟨(kp h e).2, h0, fun z => ?_⟩
    rcases o a z with z | z
    · exact hn z
    · rw [e] at z; cases z
def rowD (r : D × List Nat) : D := .tup [r.1, .lst (r.2.map fun n => .int (n : Nat))]
theorem da_nats {F : Hp} : ∀ ns : List Nat, DA K F (nV ns) (ns.map fun n => .int (n : Nat))
  | [] => .nil
  | n :: ns => .cons (.int _) (da_nats ns)
theorem loose_of {p : Addr} (hF : F p = none) (h0 : b.H0 p = none) (hn : ¬ Owned σ ρ p) : Loose b σ F ρ p := ⟨hF, h0, fun i o e ho z => hn ⟨i, o, e, ho, z⟩⟩
theorem fz_rows : ∀ (ts : List (Addr × Addr × V)) (rows : List (D × List Nat)) (F : Hp), ts.length = rows.length → (∀ (i : Nat) x r, ts[i]? = some x → rows[i]? = some r → H x.1 = some (.tup [x.2.2, .ref x.2.1]) ∧ H x.2.1 = some (.lst (nV r.2)) ∧ Dr K F x.2.2 r.1) →
    (∀ a, a ∈ foot ts → F a = none ∧ b.H0 a = none ∧ ¬ Owned σ ρ a) → (foot ts).Nodup → Rep K ps b σ H F ρ → ∃ F', Same F F' ∧ Rep K ps b σ H F' ρ ∧ DA K F' (ts.map fun x => .ref x.1) (rows.map rowD) ∧ ∀ a, a ∉ foot ts → F' a = F a
  | [], [], F, _, _, _, _, R => ⟨F, Same.refl F, R, .nil, fun a _ => rfl⟩
  | [], _ :: _, F, hl, _, _, _, _ => by cases hl
  | _ :: _, [], F, hl, _, _, _, _ => by cases hl
  | (t, q, v) :: ts, r :: rows, F, hl, hr, hf, hn, R => by
    obtain ⟨ht, hq, hv⟩ := hr 0 _ r rfl rfl
    have hft : foot ((t, q, v) :: ts) = t :: q :: foot ts := rfl
    rw [hft] at hf hn
    obtain ⟨n1, n2⟩ := List.nodup_cons.mp hn
    obtain ⟨n3, n4⟩ := List.nodup_cons.mp n2
    have ntq : t ≠ q := fun z => n1 (by rw [z]; exact List.mem_cons_self)
    obtain ⟨tF, t0, tO⟩ := hf t List.mem_cons_self
    obtain ⟨qF, q0, qO⟩ := hf q (List.mem_cons_of_mem _ List.mem_cons_self)
    obtain ⟨s1, R1⟩ := R.frzLoose (loose_of qF q0 qO) hq
    have tF1 : upd F q (.lst (nV r.2)) t = none := by rw [upd_ne ntq]; exact tF
    obtain ⟨s2, R2⟩ := R1.frzLoose (loose_of tF1 t0 tO) ht
    have s12 := s1.trans s2
    have off : ∀ a, a ≠ t → a ≠ q → upd (upd F q (.lst (nV r.2))) t (.tup [v, .ref q]) a = F a := fun a h1 h2 => by rw [upd_ne h1, upd_ne h2]
    obtain ⟨F3, s3, R3, h3, o3⟩ := fz_rows ts rows _ (Nat.succ.inj hl) (fun i x r' hx hr' => by
        obtain ⟨a1, a2, a3⟩ := hr (i + 1) x r' hx hr'
        exact ⟨a1, a2, a3.up s12⟩) (fun a ha => by
        obtain ⟨a1, a2, a3⟩ := hf a (List.mem_cons_of_mem _ (List.mem_cons_of_mem _ ha))
        refine ⟨?_, a2, a3⟩
        rw [off a (fun z => n1 (by rw [← z]; exact List.mem_cons_of_mem _ ha)) (fun z => n3 (by rw [← z]; exact ha))]
        exact a1) n4 R2
    refine ⟨F3, s12.trans s3, R3, .cons ?_ h3, fun a ha => ?_⟩
    · have dn := da_nats (K := K) (F := upd (upd F q (.lst (nV r.2))) t (.tup [v, .ref q])) r.2
      have e1 : upd (upd F q (.lst (nV r.2))) t (.tup [v, .ref q]) q = some (.lst (nV r.2)) := by rw [upd_ne (Ne.symm ntq), upd_same]
      have da : DA K (upd (upd F q (.lst (nV r.2))) t (.tup [v, .ref q])) [v, .ref q] [r.1, .lst (r.2.map fun n => .int (n : Nat))] := .cons (hv.up s12) (.one (.lst e1 dn.1 dn.2))
      exact Dr.up s3 (.tup (SqT.of upd_same) da.1 da.2)
    · rw [hft] at ha
      rw [o3 a fun z => ha (List.mem_cons_of_mem _ (List.mem_cons_of_mem _ z))]
      exact off a (fun z => ha (by rw [z]; exact List.mem_cons_self)) (fun z => ha (by rw [z]; exact List.mem_cons_of_mem _ List.mem_cons_self))
theorem Nst.freeze {p : Addr} {ts : List (Addr × Addr × V)} {rows : List (D × List Nat)} (N : Nst K b σ H F ρ p ts rows) (R : Rep K ps b σ H F ρ) : ∃ F', Same F F' ∧ Rep K ps b σ H F' ρ ∧ Dr K F' (.ref p) (.lst (rows.map rowD)) := by
  obtain ⟨n1, n2⟩ := List.nodup_cons.mp N.nodup
  obtain ⟨F1, s1, R1, h1, o1⟩ := fz_rows ts rows F N.len N.row (fun a h => N.free a (List.mem_cons_of_mem _ h)) n2 R
  obtain ⟨a1, a2, a3⟩ := N.free p List.mem_cons_self
  obtain ⟨s2, R2⟩ := R1.frzLoose (loose_of (by rw [o1 p n1]; exact a1) a2 a3) N.main
  have h2 := h1.up s2
  exact ⟨_, s1.trans s2, R2, .lst upd_same h2.1 h2.2⟩
end
end NB
/-! numbered: its loop. -/
namespace NB
open PySem PySem.Spec PyProof.Rows L2 DL TR
section
variable [Tbs] {K : PySem.W.Frag} {b : Bs} {σ : L2.St} {H F : Hp} {ρ : DL.Env} {p : Addr} {ts : List (Addr × Addr × V)} {rows : List (D × List Nat)}
def tApp : TS := tDrop (tBM K "list" rAppend (tVar 2) (tCons (tTup (tCons (tVar 4) (tCons (tLst tNil) tNil))) tNil))
theorem foot_snoc (ts : List (Addr × Addr × V)) (x : Addr × Addr × V) : foot (ts ++ [x]) = foot ts ++ [x.1, x.2.1] := by
  unfold foot
  rw [List.flatMap_append]
  simp
theorem st_app (R : Rep K [2] b σ H F ρ) (N : Nst K b σ H F ρ p ts rows) (hp : σ[2]? = some (some (.ref p))) {d : D} (h4 : ρ[4]? = some (some (.d d))) (hz : rows.length < 16000000) {D' : Ends}
    (n : ∀ ts' H', Rep K [2] b σ H' F ρ → Nst K b σ H' F ρ p ts' (rows ++ [(d, [])]) → D'.nx σ H') : (tApp (K := K)) D' σ H := by
  obtain ⟨v4, g4, d4⟩ := R.slot 4 _ h4
  refine ⟨_, hp, .inl ⟨rfl, _, SqL.of N.main⟩, v4, g4, Nat.zero_le _, fun q hq => ⟨(show 2 ≤ sizeLine by decide), fun a ha => ?_⟩⟩
  have R1 := R.put (o := .lst []) hq
  have R2 := R1.put (o := .tup [v4, .ref q]) ha
  have hpq : p ≠ q := ne_of_none N.main hq
  have e1 : upd H q (.lst []) p = some (.lst (ts.map fun x => .ref x.1)) := (upd_ne hpq).trans N.main
  have hpa : p ≠ a := ne_of_none e1 ha
  have e2 : upd (upd H q (.lst [])) a (.tup [v4, .ref q]) p = some (.lst (ts.map fun x => .ref x.1)) := (upd_ne hpa).trans e1
  have haq : a ≠ q := fun z => by rw [z, upd_same] at ha; cases ha
  have ha0 : H a = none := by rwa [upd_ne haq] at ha
  obtain ⟨f1, f2, f3⟩ := N.free p List.mem_cons_self
  have nO : ∀ {x : Addr}, H x = none → ¬ Owned σ ρ x := fun {x} hx z => by
    obtain ⟨_, _, o, e⟩ := R.owned z
    rw [hx] at e
    cases e
  refine ⟨p, _, .ref a, rfl, rfl, e2, by rw [List.length_map, N.len]; show rows.length < 16777216; omega, n (ts ++ [(a, q, v4)]) _ (R2.poke f1 f2 f3 e2) ⟨?_, ?_, ?_, ?_, ?_⟩⟩
  · rw [upd_same, List.map_append]
    rfl
  · rw [List.length_append, List.length_append, N.len]
    rfl
  · have nd := (List.nodup_cons.mp N.nodup).1
    intro i x r hx hr
    by_cases hi : i < ts.length
    · rw [List.getElem?_append_left hi] at hx
      rw [List.getElem?_append_left (by rw [← N.len]; exact hi)] at hr
      obtain ⟨h1, h2, h3⟩ := N.row i x r hx hr
      obtain ⟨m1, m2⟩ := foot_mem hx
      have far : ∀ {y : Addr} {o : HO}, y ∈ foot ts → H y = some o → upd (upd (upd H q (.lst [])) a (.tup [v4, .ref q])) p (.lst (ts.map (fun x => .ref x.1) ++ [.ref a])) y = some o := fun {y o} m e => by
        rw [upd_ne (fun z => nd (by rw [← z]; exact m)), upd_ne (ne_of_none e ha0), upd_ne (ne_of_none e hq)]
        exact e
      exact ⟨far m1 h1, far m2 h2, h3⟩
    · rw [List.getElem?_append_right (by omega)] at hx
      rw [List.getElem?_append_right (by rw [← N.len]; omega), ← N.len] at hr
      have hi' : i - ts.length = 0 := by
        rcases Nat.eq_zero_or_pos (i - ts.length) with z | z
        · exact z
        · rw [List.getElem?_eq_none (by simp; omega)] at hx
          cases hx
      rw [hi'] at hx hr
      cases hx
      cases hr
      refine ⟨?_, ?_, d4⟩
      · rw [upd_ne (Ne.symm hpa), upd_same]
      · rw [upd_ne (Ne.symm hpq), upd_ne (Ne.symm haq), upd_same]
        rfl
  · intro x hx
    rw [foot_snoc, ← List.cons_append] at hx
    rcases List.mem_append.mp hx with hx | hx
    · exact N.free x hx
    · have : H x = none := by
        rcases List.mem_cons.mp hx with rfl | hx
        · exact ha0
        · rw [List.mem_singleton.mp hx]; exact hq
      obtain ⟨z1, z2, _⟩ := R.fresh this
      exact ⟨z1, z2, nO this⟩
  · rw [foot_snoc, ← List.cons_append]
    have out : ∀ {x : Addr}, H x = none → x ∉ p :: foot ts := fun {x} hx z => by
      obtain ⟨o, e, _⟩ := N.ex z
      rw [hx] at e
      cases e
    refine List.nodup_append.mpr ⟨N.nodup, ?_, fun x hx y hy => ?_⟩
    · simpa using haq
    · rcases List.mem_cons.mp hy with rfl | hy
      · exact fun z => out ha0 (by rw [← z]; exact hx)
      · rw [List.mem_singleton.mp hy]
        exact fun z => out hq (by have z : x = q := z; rw [← z]; exact hx)
theorem foot_sep : ∀ {ts : List (Addr × Addr × V)}, (foot ts).Nodup → ∀ {i j : Nat} {x y : Addr × Addr × V}, ts[i]? = some x → ts[j]? = some y → x.1 ≠ y.2.1 ∧ (i ≠ j → x.2.1 ≠ y.2.1)
  | [], _, i, j, x, y, hx, _ => by cases hx
  | z :: ts, hn, i, j, x, y, hx, hy => by
    have hft : foot (z :: ts) = z.1 :: z.2.1 :: foot ts := rfl
    rw [hft] at hn
    obtain ⟨n1, n2⟩ := List.nodup_cons.mp hn
    obtain ⟨n3, n4⟩ := List.nodup_cons.mp n2
    cases i with
    | zero =>
      cases hx
      cases j with
      | zero => cases hy; exact ⟨fun e => n1 (by rw [e]; exact List.mem_cons_self), fun e => absurd rfl e⟩
      | succ j =>
        have m := (foot_mem (i := j) (x := y) hy).2
        exact ⟨fun e => n1 (by rw [e]; exact List.mem_cons_of_mem _ m), fun _ e => n3 (by rw [e]; exact m)⟩
    | succ i =>
      cases j with
      | zero =>
        cases hy
        have m := foot_mem (i := i) (x := x) hx
        exact ⟨fun e => n3 (by rw [← e]; exact m.1), fun _ e => n3 (by rw [← e]; exact m.2)⟩
      | succ j =>
        obtain ⟨a1, a2⟩ := foot_sep n4 (i := i) (j := j) hx hy
        exact ⟨a1, fun e => a2 fun z => e (by rw [z])⟩
def tChild : TS := tDrop (tBM K "list" rAppend (tOp (rIxT K) (tOp (rIxL K) (tVar 2) (tVar 5)) (tC (.int 1))) (tCons (tVar 6) tNil))
theorem st_child (R : Rep K [2] b σ H F ρ) (N : Nst K b σ H F ρ p ts rows) (hp : σ[2]? = some (some (.ref p))) {k n : Nat} (h5 : ρ[5]? = some (some (.d (.int (k : Nat))))) (h6 : ρ[6]? = some (some (.d (.int (n : Nat))))) (hk : k < rows.length) (hz : ∀ r ∈ rows, r.2.length < 16000000) {D' : Ends}
    (nx : ∀ H', Rep K [2] b σ H' F ρ → Nst K b σ H' F ρ p ts (addTo (some k) n rows) → D'.nx σ H') : (tChild (K := K)) D' σ H := by
  obtain ⟨v5, g5, d5⟩ := R.slot 5 _ h5
  obtain ⟨v6, g6, d6⟩ := R.slot 6 _ h6
  have e5 : v5 = .int (k : Nat) := Dr.inv_int d5
  have e6 : v6 = .int (n : Nat) := Dr.inv_int d6
  subst e5 e6
  have hx := List.getElem?_eq_getElem (show k < ts.length by rw [N.len]; exact hk)
  have hr := List.getElem?_eq_getElem hk
  generalize ts[k]'(by rw [N.len]; exact hk) = x at hx
  generalize rows[k] = r at hr
  obtain ⟨h1, h2, h3⟩ := N.row k x r hx hr
  obtain ⟨m1, m2⟩ := foot_mem hx
  obtain ⟨n1, n2⟩ := List.nodup_cons.mp N.nodup
  obtain ⟨f1, f2, f3⟩ := N.free x.2.1 (List.mem_cons_of_mem _ m2)
  have ex : L2.atI (ts.map fun x => V.ref x.1) (k : Int) = some (.ref x.1) := by
    rw [atI_nat', List.getElem?_map, hx]
    rfl
  have zr := hz r (List.mem_of_getElem? hr)
  refine ⟨_, hp, _, g5, p, _, _, _, rfl, rfl, SqL.of N.main, ex, x.1, _, _, .ref x.2.1, rfl, rfl, SqT.of h1, rfl, .inl ⟨rfl, _, SqL.of h2⟩, _, g6, x.2.1, _, _, rfl, rfl, h2, by unfold nV; rw [List.length_map]; show r.2.length < 16777216; omega, ?_⟩
  refine nx _ (R.poke f1 f2 f3 h2) ⟨?_, ?_, ?_, N.free, N.nodup⟩
  · rw [upd_ne (fun z => n1 (by rw [z]; exact m2))]
    exact N.main
  · rw [addTo_len]
    exact N.len
  · intro i y s hy hs
    obtain ⟨a1, a2⟩ := foot_sep n2 hy hx
    rw [show addTo (some k) n rows = rows.modify k fun r => (r.1, r.2 ++ [n]) from rfl, modif_get] at hs
    by_cases hki : k = i
    · subst hki
      rw [if_pos rfl, hr] at hs
      cases hs
      rw [hx] at hy
      cases hy
      refine ⟨by rw [upd_ne a1]; exact h1, ?_, h3⟩
      rw [upd_same]
      unfold nV
      rw [List.map_append]
      rfl
    · rw [if_neg hki] at hs
      obtain ⟨b1, b2, b3⟩ := N.row i y s hy hs
      exact ⟨by rw [upd_ne a1]; exact b1, by rw [upd_ne (a2 fun z => hki z.symm)]; exact b2, b3⟩
end
end NB
/-! numbered: the whole. -/
namespace NB
open PySem PySem.Spec PyProof.Rows L2 DL TR
/-- s tells of each node those directly in it -/
inductive Good (s : SV) : Tr D → Prop
  | nd {d : D} {ks : List (Tr D)} (h : ∀ Φ : D → Prop, Φ (.tup (ks.map Tr.d)) → s [d] Φ) (hk : ∀ k ∈ ks, Good s k) : Good s (.nd d ks)
def oD : Option Nat → D
  | none => .non
  | some k => .int (k : Nat)
def wD (x : Tr D × Option Nat) : D := .tup [x.1.d, oD x.2]
def stk (ws : List (Tr D × Option Nat)) : List D := (ws.map wD).reverse
theorem stk_cons (x : Tr D × Option Nat) (ws : List (Tr D × Option Nat)) : stk (x :: ws) = stk ws ++ [wD x] := by
  unfold stk
  rw [List.map_cons, List.reverse_cons]
theorem stk_app (vs ws : List (Tr D × Option Nat)) : stk (vs ++ ws) = stk ws ++ stk vs := by
  unfold stk
  rw [List.map_append, List.reverse_append]
theorem stk_len (ws : List (Tr D × Option Nat)) : (stk ws).length ≤ szw ws := by
  induction ws with
  | nil => exact Nat.le_refl _
  | cons x ws ih =>
    have := sz_pos x.1
    rw [stk_cons, List.length_append]
    show _ + 1 ≤ sz x.1 + szw ws
    omega
def tTurn [Tbs] (K : PySem.W.Frag) (SI : Addr → Option SV) : TS :=
  tSeq (tAsg (tBM0 K "list" rPop (tVar 3)) (gTup K 2 (gCons (gName 4) (gCons (gName 5) gNil))))
    (tSeq (tAsg (tCB (fun xs H Q => ∃ x n, xs = [x] ∧ LenV K x H n ∧ Q (.int (n : Nat)) H) (tCons (tVar 2) tNil)) (gName 6))
      (tSeq (tApp (K := K))
        (tSeq (tIfS (tTest (tOp (fun x y H Q => y = V.non ∧ Q (V.bl !decide (x = V.non)) H) (tVar 5) (tC V.non))) (tChild (K := K)) tNext)
          (tDrop (tBM K "list" rExtend (tVar 3) (tCons (tLc (iTup K (SX.tRevT K (tCallA 1 (spA K SI) (tCons (tVar 4) tNil)))) (gName 7) tYes (tTup (tCons (tVar 7) (tCons (tVar 6) tNil))) [7]) tNil))))))
def tNum [Tbs] (K : PySem.W.Frag) (SI : Addr → Option SV) : TS :=
  tSeq (tAsg (tLst tNil) (gName 2))
    (tSeq (tAsg (tLst (tCons (tTup (tCons (tVar 0) (tCons (tC V.non) tNil))) tNil)) (gName 3))
      (tSeq (tWhile (fun σ H Q => tVar 3 σ H fun x H' => ∃ k, TruV K x H' k ∧ Q k H') (tTurn K SI)) (tRet (tVar 2))))
def dNum (SI : Addr → Option SV) : DS := fun E ρ => ∃ (t : Tr D) (f : Addr) (s : SV), ρ = [some (.d t.d), some (.d (.fn f)), none, none, none, none, none, none] ∧ SI f = some s ∧ Good s t ∧ sz t ≤ 1000000 ∧ ∀ o2 o4 o5 o6 o7 : Option OV, E.rt (.lst ((num t 0).map rowD)) [some (.d t.d), some (.d (.fn f)), none, o2, o4, o5, o6, o7]
def envN (r : D) (f : Addr) (ws : List (Tr D × Option Nat)) (o4 o5 o6 o7 : Option OV) : DL.Env := [some (.d r), some (.d (.fn f)), none, some (.l (stk ws)), o4, o5, o6, o7]
structure Lp (s : SV) (t : Tr D) (rows : List (D × List Nat)) (ws : List (Tr D × Option Nat)) : Prop where
  pr : proc rows ws = num t 0
  ok : ∀ x ∈ ws, InR rows x.2 ∧ Good s x.1
  len : rows.length + szw ws = sz t
  short : ∀ r ∈ rows, r.2.length ≤ rows.length
theorem Lp.step {s : SV} {t : Tr D} {rows : List (D × List Nat)} {d : D} {ks : List (Tr D)} {o : Option Nat} {ws : List (Tr D × Option Nat)} (h : Lp s t rows ((.nd d ks, o) :: ws)) : Lp s t (step1 d o rows) (ks.map (fun t => (t, some rows.length)) ++ ws) := by
  have ho := (h.ok _ List.mem_cons_self).1
  have hg := (h.ok _ List.mem_cons_self).2
  have hl : (step1 d o rows).length = rows.length + 1 := by unfold step1; rw [addTo_len, List.length_append]; rfl
  refine ⟨by rw [← proc_step d ks o rows ws ho]; exact h.pr, fun x hx => ?_, ?_, fun r hr => ?_⟩
  · rcases List.mem_append.mp hx with hx | hx
    · obtain ⟨k, hk, rfl⟩ := List.mem_map.mp hx
      cases hg with
      | nd _ hks => exact ⟨fun j e => by cases e; rw [hl]; omega, hks k hk⟩
    · obtain ⟨a, c⟩ := h.ok x (List.mem_cons_of_mem _ hx)
      exact ⟨fun j e => by rw [hl]; exact Nat.lt_succ_of_lt (a j e), c⟩
  · have h2 := h.len
    rw [szw_app, szw_kids, hl]
    have e : szw ((Tr.nd d ks, o) :: ws) = sz (Tr.nd d ks) + szw ws := rfl
    rw [e, sz] at h2
    omega
  · rw [hl]
    obtain ⟨i, hi⟩ := List.getElem?_of_mem hr
    unfold step1 at hi
    have base : ∀ r ∈ rows ++ [(d, [])], r.2.length ≤ rows.length := fun r hr => by
      rcases List.mem_append.mp hr with hr | hr
      · exact h.short r hr
      · rw [List.mem_singleton.mp hr]; exact Nat.zero_le _
    cases o with
    | none => exact Nat.le_succ_of_le (base r (List.mem_of_getElem? hi))
    | some k =>
      rw [show addTo (some k) rows.length (rows ++ [(d, [])]) = (rows ++ [(d, [])]).modify k (fun r => (r.1, r.2 ++ [rows.length])) from rfl, modif_get] at hi
      split at hi
      · obtain ⟨r', h1, rfl⟩ := Option.map_eq_some_iff.mp hi
        have := base r' (List.mem_of_getElem? h1)
        show (r'.2 ++ [rows.length]).length ≤ _
        rw [List.length_append]
        exact Nat.succ_le_succ this
      · exact Nat.le_succ_of_le (base r (List.mem_of_getElem? hi))
section
variable [Tbs] {K : PySem.W.Frag} {b : Bs} {σ : L2.St} {H F : Hp} {p : Addr} {ts : List (Addr × Addr × V)} {rows : List (D × List Nat)}
theorem pin2 {ρ : DL.Env} (R : Rep K [2] b σ H F ρ) (hb : b.vs = [.non, .non, .ref p]) : σ[2]? = some (some (.ref p)) := by
  obtain ⟨v, h1, h2⟩ := R.pin 2 (List.mem_singleton.mpr rfl)
  rw [hb] at h2
  cases h2
  exact h1
/-- one turn -/
theorem turn {SI : Addr → Option SV} {r : D} {f : Addr} {s : SV} {t : Tr D} {x : Tr D × Option Nat} {ws : List (Tr D × Option Nat)} {o4 o5 o6 o7 : Option OV} (hb : b.vs = [.non, .non, .ref p]) (hs : SI f = some s) (hz : sz t ≤ 1000000)
    (R : Rep K [2] b σ H F (envN r f (x :: ws) o4 o5 o6 o7)) (N : Nst K b σ H F (envN r f (x :: ws) o4 o5 o6 o7) p ts rows) (L : Lp s t rows (x :: ws)) {D' : Ends}
    (nx : ∀ σ' H' F' ts' rows' ws' o4 o5 o6 o7, Same F F' → Rep K [2] b σ' H' F' (envN r f ws' o4 o5 o6 o7) → Nst K b σ' H' F' (envN r f ws' o4 o5 o6 o7) p ts' rows' → Lp s t rows' ws' → szw ws' < szw (x :: ws) → D'.nx σ' H') : tTurn K SI D' σ H := by
  obtain ⟨⟨d, ks⟩, o⟩ := x
  have hlen := L.len
  have hrl : rows.length ≤ 1000000 := by omega
  have hwl : szw ((Tr.nd d ks, o) :: ws) = sz (Tr.nd d ks) + szw ws := rfl
  rw [hwl, sz] at hlen
  refine RS.fr (N := fun ρ' => ρ' = envN r f ws (some (.d d)) (some (.d (oD o))) o6 o7) (rs_asg (re_pop (i := 3)) (rg_tup (rgs_cons rg_name (rgs_cons rg_name rgs_nil)))) R ?_ fun σ1 H1 F1 ρ1 s1 f1 R1 w1 e1 => ?_
  · rw [dAsg_, dPop_]
    refine ⟨stk ((.nd d ks, o) :: ws), wD (.nd d ks, o), rfl, ?_, ?_⟩
    · rw [stk_cons]
      simp
    · rw [stk_cons, List.dropLast_concat]
      unfold wD envN exN
      simp
  subst e1
  have N1 := N.up R s1 f1 w1
  -- number = len(nodes)
  refine ⟨_, pin2 R1 hb, _, rows.length, rfl, .inl ⟨_, SqL.of N1.main, by rw [List.length_map, N1.len]⟩, ?_⟩
  have R2 := R1.setD (i := 6) (v := .int (rows.length : Nat)) (d := .int (rows.length : Nat)) (by decide) (.int _)
  have N2 : Nst K b (σ1.set 6 (some (.int (rows.length : Nat)))) H1 F1 ((envN r f ws (some (.d d)) (some (.d (oD o))) o6 o7).set 6 (some (.d (.int (rows.length : Nat))))) p ts rows :=
    N1.up R1 (Same.refl F1) (Fr.refl R1) fun a ⟨i, u, z1, z2, z3⟩ => by
      rcases set_some z1 with ⟨rfl, q⟩ | ⟨nq, q⟩
      · cases q; cases z2
      · rw [List.getElem?_set_ne (Ne.symm nq)] at z3
        exact .inl ⟨i, u, q, z2, z3⟩
  have e2 : (envN r f ws (some (.d d)) (some (.d (oD o))) o6 o7).set 6 (some (.d (.int (rows.length : Nat)))) = envN r f ws (some (.d d)) (some (.d (oD o))) (some (.d (.int (rows.length : Nat)))) o7 := rfl
  rw [e2] at R2 N2
  -- nodes.append((node, []))
  refine st_app R2 N2 (pin2 R2 hb) (d := d) rfl (by omega) fun ts3 H3 R3 N3 => ?_
  have L' := L.step
  have hsh : ∀ r ∈ rows ++ [(d, [])], r.2.length < 16000000 := fun r hr => by
    rcases List.mem_append.mp hr with hr | hr
    · have := L.short r hr
      omega
    · rw [List.mem_singleton.mp hr]
      exact (show 0 < 16000000 by decide)
  -- the rest, once the number stands with the one that it is in
  have rest : ∀ H4, Rep K [2] b (σ1.set 6 (some (.int (rows.length : Nat)))) H4 F1 (envN r f ws (some (.d d)) (some (.d (oD o))) (some (.d (.int (rows.length : Nat)))) o7) → Nst K b (σ1.set 6 (some (.int (rows.length : Nat)))) H4 F1 (envN r f ws (some (.d d)) (some (.d (oD o))) (some (.d (.int (rows.length : Nat)))) o7) p ts3 (step1 d o rows) →
      (tDrop (tBM K "list" rExtend (tVar 3) (tCons (tLc (iTup K (SX.tRevT K (tCallA 1 (spA K SI) (tCons (tVar 4) tNil)))) (gName 7) tYes (tTup (tCons (tVar 7) (tCons (tVar 6) tNil))) [7]) tNil))) D' (σ1.set 6 (some (.int (rows.length : Nat)))) H4 := by
    intro H4 R4 N4
    refine RS.fr (N := fun ρ' => ∃ o7', ρ' = envN r f (ks.map (fun t => (t, some rows.length)) ++ ws) (some (.d d)) (some (.d (oD o))) (some (.d (.int (rows.length : Nat)))) o7') (rs_ext (i := 3) (rl_lc (ri_tup (re_revT (re_callA (SS := SI) (i := 1) (rv_cons (re_var 4) rv_nil)))) rg_name rt_yes (re_tup (rv_cons (re_var 7) (rv_cons (re_var 6) rv_nil))))) R4 ?_ fun σ5 H5 F5 ρ5 s5 f5 R5 w5 e5 => ?_
    · have hg := (L.ok _ List.mem_cons_self).2
      have hkl : (ks.map Tr.d).length ≤ 1000000 := by
        have h1 := stk_len (ks.map fun t => (t, some rows.length))
        rw [szw_kids] at h1
        unfold stk at h1
        rw [List.length_reverse, List.length_map, List.length_map] at h1
        rw [List.length_map]
        omega
      cases hg with
      | nd hin _ =>
      rw [dExt_]
      refine ⟨⟨_, rfl⟩, ?_⟩
      refine lc_f ((ks.map Tr.d).reverse) (envN r f ws (some (.d d)) (some (.d (oD o))) (some (.d (.int (rows.length : Nat)))) o7) (envN r f ws (some (.d d)) (some (.d (oD o))) (some (.d (.int (rows.length : Nat)))) none) (fun x => .tup [x, .int (rows.length : Nat)]) (fun Ψ h => ?_) rfl (by rw [List.length_reverse]; omega) (fun x hx A hA => ?_) ?_
      · unfold envN at h ⊢
        simp
        exact ⟨s, hs, hin _ ⟨_, rfl, h⟩⟩
      · unfold envN
        simp
        exact hA _ (by simp [envN])
      · refine ⟨stk ws, ?_, ?_, keepD (some o7), ?_⟩
        · unfold envN
          simp
        · rw [List.length_map, List.length_reverse]
          have h1 := stk_len ws
          show _ ≤ 16777216
          omega
        · rw [show envN r f (ks.map (fun t => (t, some rows.length)) ++ ws) (some (.d d)) (some (.d (oD o))) (some (.d (.int (rows.length : Nat)))) (keepD (some o7)) = [some (.d r), some (.d (.fn f)), none, some (.l (stk (ks.map (fun t => (t, some rows.length)) ++ ws))), some (.d d), some (.d (oD o)), some (.d (.int (rows.length : Nat))), keepD (some (o7))] from rfl, stk_app]
          have e6 : (ks.map Tr.d).reverse.map (fun x => D.tup [x, .int (rows.length : Nat)]) = stk (ks.map fun t => (t, some rows.length)) := by
            unfold stk
            rw [List.map_reverse, List.map_map, List.map_map]
            rfl
          rw [e6]
          unfold envN
          simp
    · obtain ⟨o7', e5⟩ := e5
      subst e5
      have N5 := N4.up R4 s5 f5 w5
      refine nx σ5 H5 F5 ts3 _ _ _ _ _ _ (s1.trans s5) R5 N5 L' ?_
      rw [szw_app, szw_kids, hwl, sz]
      omega
  -- if outer is not None
  cases o with
  | none =>
    obtain ⟨v5, g5, d5⟩ := R3.slot 5 _ (rfl : (envN r f ws (some (.d d)) (some (.d (oD none))) (some (.d (.int (rows.length : Nat)))) o7)[5]? = some (some (.d .non)))
    have e5 : v5 = .non := Dr.inv_non d5
    subst e5
    exact ⟨_, g5, rfl, false, rfl, rest H3 R3 N3⟩
  | some k =>
    obtain ⟨v5, g5, d5⟩ := R3.slot 5 _ (rfl : (envN r f ws (some (.d d)) (some (.d (oD (some k)))) (some (.d (.int (rows.length : Nat)))) o7)[5]? = some (some (.d (.int (k : Nat)))))
    have e5 : v5 = .int (k : Nat) := Dr.inv_int d5
    subst e5
    have hk : k < (rows ++ [(d, [])]).length := by
      rw [List.length_append]
      exact Nat.lt_succ_of_lt ((L.ok _ List.mem_cons_self).1 k rfl)
    refine ⟨_, g5, rfl, true, rfl, ?_⟩
    exact st_child R3 N3 (pin2 R3 hb) rfl rfl hk hsh fun H4 R4 N4 => rest H4 R4 N4
theorem rs_numbered {SI : Addr → Option SV} : RS K [] (tNum K SI) (dNum SI) := by
  intro b σ H F ρ E D' R hT n r bk ct
  obtain ⟨t, f, s, rfl, hs, hg, hz, hE⟩ := hT
  have hl : σ.length = 8 := R.len.symm
  refine ⟨Nat.zero_le _, fun p hp => ?_⟩
  have R1 : Rep K [] ⟨H, F, [.non, .non, .ref p], Owned σ [some (.d t.d), some (.d (.fn f)), none, none, none, none, none, none]⟩ σ H F [some (.d t.d), some (.d (.fn f)), none, none, none, none, none, none] := Rep.revs R.here
  have hF := (R.fresh hp).1
  have R2 := R1.put (o := .lst []) hp
  have R3 := Rep.setU (i := 2) (v := .ref p) R2 (fun o z => by cases z) rfl (by omega)
  have N3 : Nst K ⟨H, F, [.non, .non, .ref p], Owned σ [some (.d t.d), some (.d (.fn f)), none, none, none, none, none, none]⟩ (σ.set 2 (some (.ref p))) (upd H p (.lst [])) F [some (.d t.d), some (.d (.fn f)), none, none, none, none, none, none] p [] [] := by
    refine ⟨upd_same, rfl, fun i x r h => (by cases h), fun a ha => ?_, (by simp [foot])⟩
    have ea : a = p := by simpa [foot] using ha
    subst ea
    refine ⟨hF, hp, fun ⟨i, o, z1, z2, z3⟩ => ?_⟩
    match i, z1 with
    | 0, z1 => cases z1; cases z2
    | 1, z1 => cases z1; cases z2
    | 2, z1 => cases z1
    | 3, z1 => cases z1
    | 4, z1 => cases z1
    | 5, z1 => cases z1
    | 6, z1 => cases z1
    | 7, z1 => cases z1
  refine RS.fr (N := fun ρ' => ρ' = envN t.d f [(t, none)] none none none none) (rs_setL (rl_lst (rv_cons (re_tup (rv_cons (re_var 0) (rv_cons re_non rv_nil))) rv_nil))) R3 ?_ fun σ4 H4 F4 ρ4 s4 f4 R4 w4 e4 => ?_
  · simp [envN, stk, wD, oD, exN]
  subst e4
  have N4 := N3.up R3 s4 f4 w4
  refine ⟨fun m σ' H' => ∃ F' ws rows ts o4 o5 o6 o7, Same F4 F' ∧ Rep K [2] _ σ' H' F' (envN t.d f ws o4 o5 o6 o7) ∧ Nst K _ σ' H' F' (envN t.d f ws o4 o5 o6 o7) p ts rows ∧ Lp s t rows ws ∧ m = szw ws, ⟨_, F4, _, _, _, _, _, _, _, Same.refl F4, R4, N4, ⟨proc_all t, fun x hx => ?_, ?_, fun r hr => (nomatch hr)⟩, rfl⟩, ?_⟩
  · rw [List.mem_singleton.mp hx]
    exact ⟨fun k e => (nomatch e), hg⟩
  · show 0 + (sz t + 0) = _
    omega
  · rintro m σ5 H5 ⟨F5, ws, rows, ts, o4, o5, o6, o7, s5, R5, N5, L5, rfl⟩
    obtain ⟨q, hq, _, _, xs, ex, hx⟩ := R5.own (i := 3) rfl rfl
    refine ⟨_, hq, _, .inl ⟨xs, SqL.of ex, rfl⟩, ?_⟩
    have hxl : xs.isEmpty = (stk ws).isEmpty := isEmpty_len hx.1
    rw [hxl]
    cases ws with
    | nil =>
      simp only []
      rw [if_neg (by simp [stk])]
      have hr : rows = num t 0 := L5.pr
      subst hr
      refine ⟨_, pin2 R5 rfl, ?_⟩
      obtain ⟨F6, s6, R6, d6⟩ := N5.freeze R5
      exact r _ _ H5 F6 _ _ ((s4.trans s5).trans s6) (R.back (Rep.revs (Rep.unpin R6))) d6 (hE _ _ _ _ _)
    | cons x ws =>
      simp only []
      rw [if_pos (by rw [stk_cons]; simp)]
      refine ⟨fun σ' H' => ∃ m', m' < szw (x :: ws) ∧ ∃ F' ws rows ts o4 o5 o6 o7, Same F4 F' ∧ Rep K [2] _ σ' H' F' (envN t.d f ws o4 o5 o6 o7) ∧ Nst K _ σ' H' F' (envN t.d f ws o4 o5 o6 o7) p ts rows ∧ Lp s t rows ws ∧ m' = szw ws, fun σ' H' h => h, ?_⟩
      exact turn rfl hs hz R5 N5 L5 fun σ' H' F' ts' rows' ws' p4 p5 p6 p7 s6 R6 N6 L6 lt => ⟨_, lt, F', ws', rows', ts', p4, p5, p6, p7, s5.trans s6, R6, N6, L6, rfl⟩
end
end NB
/-! The making of a lambda: what the heap is afterwards, to the last. -/
namespace LM
open PySem PySem.Spec PyProof.Rows L2 LamX
structure Made (T : List (Addr × Str)) (H H1 : Hp) : Prop where
  ext : ExtN H H1
  tabs : Tabs T H1
  dom : ∀ a o, H a = some o → ∃ o', H1 a = some o'
theorem Made.same {T : List (Addr × Str)} {H : Hp} (h : Tabs T H) : Made T H H := ⟨ExtN.refl H, h, fun a o e => ⟨o, e⟩⟩
/-- a table has grown by one code object -/
theorem Made.more {T : List (Addr × Str)} {H : Hp} {P k : Addr} {q : Str} {old : Array Value} (hT : Tabs T H) (hu : ∀ x ∈ T, x.1 = P → x.2 = q) (hP : H P = some (.tbl old)) (hk : H k = none) (ht : TriplesOk old.toList)
    (hall : ∀ (pos : Pos) (v : Value), codeAmong pos old.toList = some v → ∃ c, v = .ref c ∧ H c = some (CodeO c q)) {pos : Pos} :
    Made T H (upd (upd H P (.tbl (old ++ #[rawInt pos.line, rawInt pos.col, .ref k]))) k (CodeO k q)) := by
  have hPk := ne_of_none hP hk
  generalize hX : upd (upd H P (.tbl (old ++ #[rawInt pos.line, rawInt pos.col, .ref k]))) k (CodeO k q) = X
  have atK : X k = some (CodeO k q) := by rw [← hX]; exact upd_same
  have atP : X P = some (.tbl (old ++ #[rawInt pos.line, rawInt pos.col, .ref k])) := by rw [← hX, upd_ne hPk]; exact upd_same
  have else_ : ∀ a, a ≠ P → a ≠ k → X a = H a := fun a h1 h2 => by rw [← hX, upd_ne h2, upd_ne h1]
  have ext : ExtN H X := fun a o e nt => by
    rw [else_ a (fun z => nt old (by rw [z, hP] at e; exact (Option.some.inj e).symm)) (ne_of_none e hk)]
    exact e
  refine ⟨ext, fun x hx => ?_, fun a o e => ?_⟩
  · obtain ⟨tb, h1, h2, h3⟩ := hT x hx
    by_cases hb : x.1 = P
    · have hq := hu x hx hb
      rw [hb, hq]
      refine ⟨_, atP, by rw [Array.toList_append]; exact PySem.TriplesOk_snoc _ _ _ _ ht, fun at' v hv => ?_⟩
      rw [Array.toList_append] at hv
      rcases among_app old.toList ht hv with hv | hv
      · obtain ⟨c, e1, e2⟩ := hall at' v hv
        exact ⟨c, e1, ext c _ e2 codeO_ne⟩
      · exact ⟨k, hv, atK⟩
    · refine ⟨tb, (else_ _ hb (ne_of_none h1 hk)).trans h1, h2, fun at' v hv => ?_⟩
      obtain ⟨c, e1, e2⟩ := h3 at' v hv
      exact ⟨c, e1, ext c _ e2 codeO_ne⟩
  · by_cases h1 : a = P
    · exact ⟨_, by rw [h1]; exact atP⟩
    · exact ⟨o, (else_ a h1 (ne_of_none e hk)).trans e⟩
section
variable {X : Cx} {pins : List (Addr × Obj)} {σ : L2.St} {H : Hp} {s : Shared}
theorem lam_new {T : List (Addr × Str)} {c P : Addr} {params : Arguments} {body : Expr} {scope : Scope} {pos : Pos} {E Q : Value → Shared → Prop} (I : Inv X pins σ H s) (TB : TabB X.base X.mg c P) (hcode : X.env.code = .ref c)
    (hm : (P, X.env.qual ++ "<lambda>") ∈ T) (hu : ∀ x ∈ T, x.1 = P → x.2 = X.env.qual ++ "<lambda>") (hT : Tabs T H) (hdef : defaultsOf params X.env = ([], [])) (hcl : ∀ y ∈ scope.names, y.2 = .free → ∃ c, X.env.cells.lookup y.1 = some c)
    (fin : ∀ (f k : Addr) (m v : Value) (H1 : Hp) (s1 : Shared), Inv X pins σ H1 s1 → Made T H H1 → s1.heap.get? f = some (PySem.W.kla_obj "<lambda>" (X.env.qual ++ "<lambda>") params body scope (cloFrom X.env.cells scope.names []) m k v) → H1 f = none → f ∉ frs X.stack → H1 k = some (CodeO k (X.env.qual ++ "<lambda>")) → Q (.ref f) s1) :
    wpAny (model X.prog X.w) X.A (eval (.Lambda params body scope pos) X.env) Q E s := by
  obtain ⟨old, hP, ht, hall⟩ := hT _ hm
  have hPh : s.heap.get? P = some { cls := .none, data := .fields old } := I.hok P _ hP
  have young : ∀ a, s.heap.objs.size ≤ a → a ∉ frs X.stack := fun a ha hin => by
    rcases List.mem_cons.mp (I.stkSub _ hin) with e | e
    · have lt := I.lt
      rw [← e] at lt
      exact absurd (Nat.lt_of_lt_of_le lt ha) (Nat.lt_irrefl _)
    · exact I.nofs ha e
  apply PySem.W.kla_eval hdef
  cases among : codeAmong pos old.toList with
  | some v =>
    obtain ⟨k, rfl, hk⟩ := hall pos v among
    refine PySem.W.kla_makeFunctionHit (mg := X.mg) (c := c) (P := P) (ps := old) (closure_ok hcl) I.ok.glob (I.mod.glob.keeps I.bk) hcode (TB.code.keeps I.bk) hPh ht among (TB.bm.keeps I.bk) fun cv h1 tk keep size => ?_
    refine fin h1.objs.size k ((X.mg "__name__").getD .none) cv H _ (I.kept (h' := h1.push (PySem.W.kla_obj "<lambda>" (X.env.qual ++ "<lambda>") params body scope (cloFrom X.env.cells scope.names []) ((X.mg "__name__").getD .none) k cv)) (t' := tk) fun a o e => ?_) (Made.same hT) (Heap.get?_push_size _ rfl) (I.hok.fresh size) (young _ size) hk
    exact Heap.get?_push_of_some _ (keep a o e)
  | none =>
    refine PySem.W.kla_makeFunction (mg := X.mg) (c := c) (P := P) (ps := old) (closure_ok hcl) I.ok.glob (I.mod.glob.keeps I.bk) hcode (TB.code.keeps I.bk) hPh ht among TB.gP (TB.bm.keeps I.bk) fun k cv h1 tk but ge lt rec tab => ?_
    obtain ⟨k', oc, vs, tq, e, hoc, hd, hv⟩ := rec
    cases e
    have hk : H k = none := I.hok.fresh ge
    have size : s.heap.objs.size ≤ h1.objs.size := by omega
    have I1 := inv_table (t' := tk) (more := #[rawInt pos.line, rawInt pos.col, .ref k]) (h' := h1.push (PySem.W.kla_obj "<lambda>" (X.env.qual ++ "<lambda>") params body scope (cloFrom X.env.cells scope.names []) ((X.mg "__name__").getD .none) k cv)) I hP
      (fun a o na e => Heap.get?_push_of_some _ (but a o na e)) (Heap.get?_push_of_some _ tab) ge ⟨oc, vs, tq, Heap.get?_push_of_some _ hoc, hd, hv⟩
    refine fin h1.objs.size k ((X.mg "__name__").getD .none) cv _ _ I1 (Made.more hT hu hP hk ht hall) (Heap.get?_push_size _ rfl) ?_ (young _ size) upd_same
    have n1 : h1.objs.size ≠ k := by omega
    have n2 : h1.objs.size ≠ P := fun z => absurd (Nat.lt_of_lt_of_le (Heap.lt_size hPh) size) (by rw [z]; exact Nat.lt_irrefl _)
    rw [upd_ne n1, upd_ne n2]
    exact I.hok.fresh size
end
end LM
/-! A lambda with parameters handed to a def as its last argument, and called there. -/
namespace CLX
open PySem PySem.Spec PyProof.Rows L2 LamX NdefX
theorem cells_un {fs : List Addr} {cl : List (Str × Addr)} {fr : List Str} {ws : List (Option V)} {H HZ : Hp} {h h1 : Heap} (C : CellsAt cl fr ws h H) (un : Un fs [] H HZ h h1) : CellsAt cl fr ws h1 HZ := by
  have kp : ∀ y c, cl.lookup y = some c → ∀ v, h.IsCell c v → h1.IsCell c v := fun y c e v ⟨o, ho, hd⟩ => by
    obtain ⟨sl, q⟩ := un.any ho (C.all y c e).1 (by simp)
    exact ⟨_, q, hd⟩
  refine ⟨C.len, fun y c e => ?_, C.inj, fun i y e => ?_⟩
  · obtain ⟨n, v, z⟩ := C.all y c e
    refine ⟨?_, v, kp y c e v z⟩
    obtain ⟨o, ho, _⟩ := z
    exact un.free c o ho n (by simp)
  · obtain ⟨c, hc, hv⟩ := C.has i y e
    refine ⟨c, hc, fun v ev => ?_⟩
    obtain ⟨u, r, z⟩ := hv v ev
    exact ⟨u, r, kp y c hc _ z⟩
/-- a lambda's words -/
abbrev lamF (qual : Str) (params : Arguments) (scope : Scope) (cl : List (Str × Addr)) (c' : Addr) : NF := ⟨"<lambda>", qual, params, [], scope, cl, c'⟩
def E0 : XK := fun _ _ _ => False
section
variable {X : Cx} {pins : List (Addr × Obj)} {σ : L2.St} {H HZ : Hp} {s s1 : Shared}
theorem pe_act3 {CXg : CXT} {Eg : XK} {Ng : List Str} {qg : Str} {sg : Scope} {g f c' : Addr} {cdg pm ctv : Value} {params : Arguments} {body : Expr} {scope : Scope} {k i : Nat} {a : Str} {pn : List (Addr × Obj)} {xe : Value → Shared → Prop} {tb : TE} {t : TA} {p1 p2 : Pos}
    {N ps fr : List Str} {js : List Nat} {e : Expr} {es : List Expr}
    (I : Inv X pins σ H s) (S : NScope N ps fr scope) (cp : Caps X (cloFrom X.env.cells scope.names []) fr js) (hf : s.heap.get? f = some (PySem.W.kla_obj "<lambda>" (X.env.qual ++ "<lambda>") params body scope (cloFrom X.env.cells scope.names []) pm c' ctv)) (hfn : H f = none) (hfr : f ∉ frs X.stack)
    (hbind : ∀ us : List Value, us.length = ps.length → bindArgs (PySem.W.kla_fn "<lambda>" (X.env.qual ++ "<lambda>") params body scope (cloFrom X.env.cells scope.names []) pm (.ref c') ctv) ⟨us, []⟩ = pure (ps.zip us))
    (hr : Room (k + 1) (X.A.deeper (envOfC qg sg s.heap.objs.size g cdg)))
    (hbody : ∀ (A : Around) (outer : List Env) (s : Shared) (H : Hp), Room k (A.deeper (envF (lamF (X.env.qual ++ "<lambda>") params scope (cloFrom X.env.cells scope.names []) c') f s.heap.objs.size)) →
      PE (ncx C8.CX0 X.prog X.w X.K X.mg X.base N (lamF (X.env.qual ++ "<lambda>") params scope (cloFrom X.env.cells scope.names []) c') f A outer s H E0) body tb)
    (hN : Ng[i]? = some a) (hv : Vis sg a) (ha : PA ((cxOf CXg X.prog X.w X.K X.mg X.base Ng qg sg g cdg X.A X.stack s H Eg).tr pn xe) (e :: es) t) (hd : (a == ("__debug__" : Str)) = false := by decide) (hcd : (a == ("__classdict__" : Str)) = false := by decide)
    (he : starEach (e :: es) ((cxOf CXg X.prog X.w X.K X.mg X.base Ng qg sg g cdg X.A X.stack s H Eg).tr pn xe).env = (false, eval e ((cxOf CXg X.prog X.w X.K X.mg X.base Ng qg sg g cdg X.A X.stack s H Eg).tr pn xe).env) :: starEach es ((cxOf CXg X.prog X.w X.K X.mg X.base Ng qg sg g cdg X.A X.stack s H Eg).tr pn xe).env := by rfl)
    (hpl : (backTo p2 (starEach es ((cxOf CXg X.prog X.w X.K X.mg X.base Ng qg sg g cdg X.A X.stack s H Eg).tr pn xe).env)).any (·.1) = false := by rfl) :
    PE ((cxOf CXg X.prog X.w X.K X.mg X.base Ng qg sg g cdg X.A X.stack s H Eg).tr pn xe) (.Call (.Name a p1) (e :: es) [] p2)
      (fun σZ HZ Q => σZ[i]? = some (some (.ref f)) ∧ t σZ HZ fun vs HZ1 => vs.length = ps.length ∧ HZ1 c' = some (CodeO c' (X.env.qual ++ "<lambda>")) ∧ tb (startF N vs (js.map (slotAt σ))) HZ1 Q) := by
  refine ⟨fun pinsZ sZ σZ HZ Q IZ h => ?_⟩
  obtain ⟨hs, ht⟩ := h
  refine wpAny_Call_Name_kw (thn ((pe_var (pos := p1) (i := i) hN hv hd hcd).run pinsZ sZ σZ HZ (fun v H1 => v = .ref f ∧ H1 = HZ) IZ ⟨.ref f, hs, rfl, rfl⟩) fun u s1 ⟨v, H1, I1, r1, q1⟩ => ?_)
  obtain ⟨ev, eH⟩ := q1
  subst ev
  rw [eH] at I1
  obtain rfl : u = Value.ref f := r1
  have of : ∀ {σ2 : L2.St} {H2 : Hp} {s2 : Shared}, Inv ((cxOf CXg X.prog X.w X.K X.mg X.base Ng qg sg g cdg X.A X.stack s H Eg).tr pn xe) pinsZ σ2 H2 s2 → s2.heap.get? f = some (PySem.W.kla_obj "<lambda>" (X.env.qual ++ "<lambda>") params body scope (cloFrom X.env.cells scope.names []) pm c' ctv) :=
    fun I2 => I2.base.keep f _ hf hfn hfr (fun z => nomatch (show f ∈ ([] : List Addr) from z))
  refine PySem.W.callWith_F (first := []) ⟨_, _, _, _, of I1⟩ (thn (ha.run p2 pinsZ s1 σZ HZ _ I1 ht) fun us s2 ⟨vs, H2, I2, r, hl, hc, q⟩ => ⟨⟨_, _, _, _, of I2⟩, ?_⟩) he hpl
  show wpAny _ _ (call (.ref f) us) _ _ _
  have un : Un (frs X.stack) [] H H2 s.heap s2.heap := I2.base
  have C2 := cells_un (cells_of I cp) un
  obtain ⟨⟨oc, vs1, t1, hoc, hdc, hvc⟩, _, _⟩ := I2.hok c' _ hc
  have rc : codeAny (model X.prog X.w) (X.A.deeper (envOfC qg sg s.heap.objs.size g cdg)) (.call (.ref f) ⟨us, []⟩) (CR C8.CX0 (envOfC qg sg s.heap.objs.size g cdg :: X.stack) X.prog X.w H2 s2 Q E0) s2 := by
    refine PySem.W.kla_callFunE hr.depth (of I2) rfl S.co S.gen rfl ⟨c', oc, vs1, t1, rfl, hoc, hdc, hvc⟩ ?_
    rw [hbind us (by rw [← r.length]; exact hl)]
    refine wpAny_pure (wpAny_newFunctionEnv S.nocell (fun ⟨n, _⟩ hy => S.par n (List.of_mem_zip hy).1) (fun h₁ hns hsb => ⟨I2.nolimit.fresh _ hsb, ?_⟩) S.kind)
    show codeAny _ _ (.expr body (envF (lamF (X.env.qual ++ "<lambda>") params scope (cloFrom X.env.cells scope.names []) c') f s2.heap.objs.size)) _ _
    have kp : ∀ b o, s2.heap.get? b = some o → h₁.get? b = some o := fun b o e => hsb.extBut b o (Nat.ne_of_lt (Heap.lt_size e)) (Heap.get?_push_of_some _ e)
    have J := inv_startN (CX := C8.CX0) (F := lamF (X.env.qual ++ "<lambda>") params scope (cloFrom X.env.cells scope.names []) c') (f := f) (E := E0) (tk := s2.toks + (ps.zip us).length) S hr.hd I2.env0 hl r C2 hns kp
    refine PySem.W.kla_codeExpr (wpAny_mono ((hbody _ _ s2 H2 (hr.deeper _)).run [] _ _ H2 Q J q) (fun v s' hq => ?_) fun e s' hq => hq)
    obtain ⟨w', H', J', rv, q⟩ := hq
    exact ⟨w', H', J'.os, J'.bare, J'.base, J'.hok, rv, q⟩
  refine wpAny_call (codeAny_mono rc fun r s' hq => ?_)
  cases r with
  | error e => exact (show False from hq).elim
  | ok fl =>
    cases fl with
    | ret u => exact I2.after hq
    | next => exact False.elim hq
    | brk => exact False.elim hq
    | cont => exact False.elim hq
end
/-- the def g, given vs and the lambda; tl: what the lambda's call comes to -/
def Gives (X : Cx) (Ng : List Str) (x : Str) (sg : Scope) (g : Addr) (cdg : Value) (bg : List Stmt) (a : Str) (i nl k : Nat) (q : Str) (TT : (List V → Hp → VK → Prop) → List V → Hp → VK → Prop) : Prop :=
  ∀ (f c' : Addr) (s : Shared) (H : Hp) (Q : VK) (vs : List V) (tl : List V → Hp → VK → Prop), Room k (X.A.deeper (envOfC x sg s.heap.objs.size g cdg)) →
    (∀ (pn : List (Addr × Obj)) (xe : Value → Shared → Prop) (p1 p2 : Pos) (e : Expr) (es : List Expr) (t : TA), PA ((cxOf C8.CX0 X.prog X.w X.K X.mg X.base Ng x sg g cdg X.A X.stack s H C8.E0).tr pn xe) (e :: es) t →
      starEach (e :: es) ((cxOf C8.CX0 X.prog X.w X.K X.mg X.base Ng x sg g cdg X.A X.stack s H C8.E0).tr pn xe).env = (false, eval e ((cxOf C8.CX0 X.prog X.w X.K X.mg X.base Ng x sg g cdg X.A X.stack s H C8.E0).tr pn xe).env) :: starEach es ((cxOf C8.CX0 X.prog X.w X.K X.mg X.base Ng x sg g cdg X.A X.stack s H C8.E0).tr pn xe).env →
      (backTo p2 (starEach es ((cxOf C8.CX0 X.prog X.w X.K X.mg X.base Ng x sg g cdg X.A X.stack s H C8.E0).tr pn xe).env)).any (·.1) = false →
      PE ((cxOf C8.CX0 X.prog X.w X.K X.mg X.base Ng x sg g cdg X.A X.stack s H C8.E0).tr pn xe) (.Call (.Name a p1) (e :: es) [] p2)
        (fun σZ HZ Q => σZ[i]? = some (some (.ref f)) ∧ t σZ HZ fun vs HZ1 => vs.length = nl ∧ HZ1 c' = some (CodeO c' q) ∧ tl vs HZ1 Q)) →
    H c' = some (CodeO c' q) → H f = none → TT tl vs H Q →
    ∃ t, PSs (cxOf C8.CX0 X.prog X.w X.K X.mg X.base Ng x sg g cdg X.A X.stack s H C8.E0).nox bg t ∧ t { nx := fun _ H' => Q .non H', rt := Q } (L2.start Ng (vs ++ [.ref f])) H
def tGive (T : List (Addr × Str)) (TT : (List V → Hp → VK → Prop) → List V → Hp → VK → Prop) (t : TA) (tl : L2.St → List V → Hp → VK → Prop) : TE := fun σ H Q => t σ H fun vs H1 => Tabs T H1 ∧ ∀ H2, LM.Made T H1 H2 → TT (tl σ) vs H2 Q
section
variable {X : Cx}
/-- x(e1, e2, lambda ..: body) -/
theorem pe_give {T : List (Addr × Str)} {TT : (List V → Hp → VK → Prop) → List V → Hp → VK → Prop} {x a : Str} {g c P : Addr} {k : Nat} {pg : Arguments} {bg : List Stmt} {sg : Scope} {dV kV doc pm cdv ct oc : Value} {an od : Option Addr} {osl : Array (Option Value)} {Ng pr : List Str}
    {params : Arguments} {body : Expr} {scope : Scope} {t1 t2 tb : TE} {e1 e2 : Expr} {p lpos pos : Pos} {N ps fr : List Str} {js : List Nat} (hg : Gl X x) (hm : X.mg x = some (.ref g)) (hk : PySem.W.keepIn X.K (.ref g) = true)
    (lk : X.K.lookup g = some ⟨oc, od, .func (PySem.W.fnOf x x pg bg sg dV kV doc pm an cdv ct), osl⟩) (hcg : PySem.W.codeIn X.K cdv x = true) (hb : L2.Binds X.K (PySem.W.fnOf x x pg bg sg dV kV doc pm an cdv ct) pr []) (Sg : FnScope Ng pr sg) (hpr : pr.length = 3) (hNg : Ng[2]? = some a) (hva : Vis sg a)
    (hG : Gives X Ng x sg g cdv bg a 2 ps.length (k + 1) (X.env.qual ++ "<lambda>") TT)
    (TB : TabB X.base X.mg c P) (hcode : X.env.code = .ref c) (hmT : (P, X.env.qual ++ "<lambda>") ∈ T) (hu : ∀ p ∈ T, p.1 = P → p.2 = X.env.qual ++ "<lambda>") (hr : Room (k + 2) X.A) (S : NScope N ps fr scope)
    (hfree : ∀ y ∈ scope.names, y.2 = .free → X.env.scope.names.lookup y.1 = some .cell ∨ X.env.scope.names.lookup y.1 = some .free) (hfr : ∀ y ∈ fr, (y, NameKind.free) ∈ scope.names) (hjs : js.map (fun j => X.N[j]?) = fr.map some) (hdef : defaultsOf params X.env = ([], []))
    (hbind : ∀ (q : Str) (cl : List (Str × Addr)) (pm cv ctv : Value) (us : List Value), us.length = ps.length → bindArgs (PySem.W.kla_fn "<lambda>" q params body scope cl pm cv ctv) ⟨us, []⟩ = pure (ps.zip us))
    (hbody : ∀ (A : Around) (outer : List Env) (s : Shared) (H : Hp) (f c' : Addr), Room k (A.deeper (envF (lamF (X.env.qual ++ "<lambda>") params scope (cloFrom X.env.cells scope.names []) c') f s.heap.objs.size)) →
      PE (ncx C8.CX0 X.prog X.w X.K X.mg X.base N (lamF (X.env.qual ++ "<lambda>") params scope (cloFrom X.env.cells scope.names []) c') f A outer s H E0) body tb)
    (h1 : PE X e1 t1) (h2 : PE X e2 t2)
    (hdb : (x == ("__debug__" : Str)) = false := by decide) (hd : (a == ("__debug__" : Str)) = false := by decide) (hcd : (a == ("__classdict__" : Str)) = false := by decide)
    (hs1 : starEach [e1, e2, .Lambda params body scope lpos] X.env = [(false, eval e1 X.env), (false, eval e2 X.env), (false, eval (.Lambda params body scope lpos) X.env)] := by rfl)
    (he : starEach [e1, e2, .Lambda params body scope lpos] X.env = (false, eval e1 X.env) :: starEach [e2, .Lambda params body scope lpos] X.env := by rfl) (hpl : (backTo pos (starEach [e2, .Lambda params body scope lpos] X.env)).any (·.1) = false := by rfl) :
    PE X (.Call (.Name x p) [e1, e2, .Lambda params body scope lpos] [] pos) (tGive T TT (tCons t1 (tCons t2 tNil)) fun σ vs HZ1 Q => tb (startF N vs (js.map (slotAt σ))) HZ1 Q) := by
  refine ⟨fun pins s σ H Q I h => ?_⟩
  refine wpAny_Call_Name_kw (ld_glob I hg hm ?_ hdb)
  refine PySem.W.callWith_K (h₀ := X.base) I.ok.mod.kin hk ?_ he hpl
  rw [hs1]
  show wpAny _ _ (spliced [(false, eval e1 X.env), (false, eval e2 X.env), (false, eval (.Lambda params body scope lpos) X.env)]) _ _ s
  have hfr2 : ∀ y ∈ scope.names, y.2 = .free → ∃ c, X.env.cells.lookup y.1 = some c := fun y hy e => (hfree y hy e).elim (fun z => I.ok.has _ (.inl z)) fun z => I.ok.has _ (.inr z)
  refine Calls.spliced_cons (thn (h1.run pins s σ H _ I h) fun u1 s1 ⟨v1, H1, I1, r1, q1⟩ => ?_)
  refine Calls.spliced_cons (thn (h2.run pins s1 σ H1 _ I1 q1) fun u2 s2 ⟨v2, H2, I2, r2, hT, q2⟩ => ?_)
  refine Calls.spliced_cons (LM.lam_new I2 TB hcode hmT hu hT hdef hfr2 fun f c' pm' ctv H3 s3 I3 mk hf hfn hfrm hco => ?_)
  refine Calls.spliced_nil ⟨I3.kIn, ?_⟩
  have rr : Vals ([v1, v2, .ref f] : List V) [u1, u2, .ref f] := .cons r1 (.cons r2 (.cons rfl .nil))
  have rc : codeAny (model X.prog X.w) X.A (.call (.ref g) ⟨[u1, u2, .ref f], []⟩) (CR C8.CX0 X.stack X.prog X.w H3 s3 Q C8.E0) s3 := by
    refine run_ofS (N := Ng) (ps := pr) (us := [u1, u2, .ref f]) (vs := [v1, v2, .ref f]) lk hcg Sg hr I3.env0 (hb s3 [u1, u2, .ref f] I3.kIn (by rw [hpr]; rfl)) rr (by rw [hpr]; rfl) fun hr' => ?_
    obtain ⟨t', ht', hq'⟩ := hG f c' s3 H3 Q [v1, v2] (fun vs HZ1 Q => tb (startF N vs (js.map (slotAt σ))) HZ1 Q) hr' (fun pn xe p1 p2 e es t ha he2 hpl2 =>
      pe_act3 (i := 2) I3 S (Caps.made I3.ok hfree hfr hjs) hf hfn hfrm (hbind _ _ _ _ _) hr' (fun A outer s H hr2 => hbody A outer s H f c' hr2) hNg hva ha hd hcd he2 hpl2) hco hfn (q2 H3 mk)
    exact ⟨t', ht'.nox, hq'⟩
  refine wpAny_call (codeAny_mono rc fun r s2 hq => ?_)
  cases r with
  | error e => exact (show False from hq).elim
  | ok fl =>
    cases fl with
    | ret u => exact I3.after hq
    | next => exact False.elim hq
    | brk => exact False.elim hq
    | cont => exact False.elim hq
end
end CLX
/-! folded: over trees of data, told by a lambda. -/
namespace DL
open PySem PySem.Spec PyProof.Rows L2
section
variable [Tbs] {K : PySem.W.Frag} {ps : List Nat}
/-! ### ranges downward, lists repeated -/
def rngDn (hi : Int) (n : Nat) : List D := (List.range n).map fun i => .int (hi - (i : Nat))
theorem rngDn_len (hi : Int) (n : Nat) : (rngDn hi n).length = n := by simp [rngDn]
theorem rngDn_get {hi : Int} {n i : Nat} (h : i < n) : (rngDn hi n)[i]? = some (.int (hi - (i : Nat))) := by
  unfold rngDn
  rw [List.getElem?_map, List.getElem?_range h]
  rfl
theorem wk_rangeDn {F : Hp} {hi : Int} {n : Nat} : Wk K F (Itc hi (-1) n) (rngDn hi n) := by
  refine ⟨fun _ => True, YFn fun i => .int (hi + (i : Nat) * (-1)), by rw [rngDn_len]; exact walk_rangeC, fun H F' s sub => trivial, ?_⟩
  rintro i H x H' ⟨rfl, rfl⟩ hi' F' s sub
  rw [rngDn_len] at hi'
  have e : hi + ((i : Nat) : Int) * (-1) = hi - (i : Nat) := by omega
  refine ⟨_, F', rngDn_get hi', ?_, .inl ⟨rfl, rfl⟩⟩
  show Dr K F' (.int (hi + ((i : Nat) : Int) * (-1))) _
  rw [e]
  exact .int _
def dIRd (T : DLs) : DLs := fun ρ Φ => T ρ fun xs ρ' => ∃ i j : Int, xs = [.int i, .int j, .int (-1)] ∧ (-(2 ^ 62) ≤ i ∧ i < 2 ^ 62 ∧ -(2 ^ 62) ≤ j ∧ j < 2 ^ 62) ∧ Φ (rngDn i (i - j).toNat) ρ'
theorem ri_range3 {t : TA} {T : DLs} (h : RV K ps t T) : RI K ps (iRng3 t) (dIRd T) := by
  intro b σ H F ρ Φ R R0 hT k
  refine h b σ H F ρ _ _ R0 hT fun xs H1 F1 ρ1 ds s1 R1 h1 hT => ?_
  obtain ⟨i, j, rfl, ⟨b1, b2, b3, b4⟩, hT⟩ := hT
  obtain ⟨v, r, rfl, h2, h3⟩ := h1.inv
  obtain ⟨w, r2, rfl, h4, h5⟩ := h3.inv
  obtain ⟨u, r3, rfl, h6, h7⟩ := h5.inv
  rw [h7.inv_nil, h2.inv_int, h4.inv_int, h6.inv_int]
  exact ⟨i, j, -1, _, rfl, RgC.neg b1 b2 b3 b4, k _ H1 F1 ρ1 _ s1 R1 wk_rangeDn hT⟩
@[simp] theorem dIRd_ (T : DLs) (ρ : DL.Env) (Φ : List D → DL.Env → Prop) : dIRd T ρ Φ = T ρ fun xs ρ' => ∃ i j : Int, xs = [.int i, .int j, .int (-1)] ∧ (-(2 ^ 62) ≤ i ∧ i < 2 ^ 62 ∧ -(2 ^ 62) ≤ j ∧ j < 2 ^ 62) ∧ Φ (rngDn i (i - j).toNat) ρ' := Eq.trans rfl rfl
def oRep : D → D → (List D → Prop) → Prop := fun d e Φ => match d, e with
  | .lst xs, .int k => (0 ≤ k ∧ k < 2 ^ 63) ∧ xs.length * k.toNat ≤ sizeLine ∧ Φ (List.replicate k.toNat xs).flatten
  | _, _ => False
theorem DA.rep {F : Hp} {xs : List V} {ds : List D} (h : DA K F xs ds) : ∀ n : Nat, DA K F (List.replicate n xs).flatten (List.replicate n ds).flatten
  | 0 => .nil
  | n + 1 => by
    rw [List.replicate_succ, List.replicate_succ, List.flatten_cons, List.flatten_cons]
    exact h.app (DA.rep h n)
theorem rol_rep : ROL K ps rRep oRep := by
  intro b σ H F ρ x y d e Φ Q R h1 h2 hT k
  cases d <;> try exact hT.elim
  cases e <;> try exact hT.elim
  rename_i xs n
  obtain ⟨⟨b1, b2⟩, b3, hT⟩ := hT
  obtain ⟨a, ys, rfl, ea, ha⟩ := h1.inv_lst
  refine ⟨a, n, ys, rfl, h2.inv_int, R.sub _ _ ea, Int.le_trans (by decide) b1, b2, by rw [ha.1]; exact b3, fun p hp => ?_⟩
  exact k p _ _ F _ (Same.refl F) (R.put hp) (R.loose hp) upd_same (ha.rep n.toNat) hT
@[simp] theorem oRep_ (xs : List D) (n : Int) (Φ : List D → Prop) : oRep (.lst xs) (.int n) Φ = ((0 ≤ n ∧ n < 2 ^ 63) ∧ xs.length * n.toNat ≤ sizeLine ∧ Φ (List.replicate n.toNat xs).flatten) := Eq.trans rfl rfl
/-! ### the entry of a def that is handed data alone -/
theorem rep_start {N : List Str} {H F : Hp} {vs : List V} {ds : List D} (hsub : Sub F H) (hnt : ∀ a o, F a = some o → NT o) (htb : LamX.Tabs Tbs.T H) (hB : Same Tbs.B F) (h : DA K F vs ds) (ws : List (Option V)) (cs : List (Option OV))
    (hw : ws.length = cs.length) (hc : ∀ (i : Nat) o, cs[i]? = some (some o) → ∃ d v, o = .d d ∧ ws[i]? = some (some v) ∧ Dr K F v d) :
    Rep K [] ⟨H, F, vs, fun _ => False⟩ (vs.map some ++ ws) H F (ds.map (fun d => some (.d d)) ++ cs) := by
  have key : ∀ (i : Nat) o, (ds.map (fun d => some (OV.d d)) ++ cs)[i]? = some (some o) → ∃ d v, o = .d d ∧ (vs.map some ++ ws)[i]? = some (some v) ∧ Dr K F v d := fun i o e => by
    by_cases hi : i < ds.length
    · rw [List.getElem?_append_left (by rw [List.length_map]; exact hi), List.getElem?_map] at e
      obtain ⟨d, hd, e⟩ := Option.map_eq_some_iff.mp e
      obtain ⟨v, hv, hr⟩ := h.get hd
      refine ⟨d, v, (Option.some.inj e).symm, ?_, hr⟩
      rw [List.getElem?_append_left (by rw [List.length_map, h.1]; exact hi), List.getElem?_map, hv]
      rfl
    · rw [List.getElem?_append_right (by rw [List.length_map]; omega), List.length_map] at e
      obtain ⟨d, v, h1, h2, h3⟩ := hc _ o e
      refine ⟨d, v, h1, ?_, h3⟩
      rw [List.getElem?_append_right (by rw [List.length_map, h.1]; omega), List.length_map, h.1]
      exact h2
  refine ⟨hsub, ⟨Same.refl F, hB⟩, fun a o e _ _ => e, fun a z => z.elim, fun a o e => .inl e, fun i o e => ?_, fun i j o u v n e1 o1 => ?_, by rw [List.length_append, List.length_append, List.length_map, List.length_map, h.1, hw], fun i z => (nomatch z), hnt, fun a o e => ⟨o, e⟩, htb⟩
  · obtain ⟨d, v, rfl, h1, h2⟩ := key i o e
    exact ⟨v, h1, h2⟩
  · obtain ⟨d, v', rfl, _⟩ := key i o e1
    cases o1
/-- what does not lean on a code object -/
theorem Dr.less {F F' : Hp} (s : ∀ a o, F a = some o → (∀ c q, o ≠ LamX.CodeO c q) → F' a = some o) {v : V} {d : D} (h : Dr K F v d) : Dr K F' v d := by
  have n1 : ∀ (xs : List V) (c : Addr) (q : Str), HO.tup xs ≠ LamX.CodeO c q := fun xs c q z => by unfold LamX.CodeO at z; cases z
  have n2 : ∀ (C x : Addr) (xs : List (Str × V)) (c : Addr) (q : Str), HO.ins C x xs ≠ LamX.CodeO c q := fun C x xs c q z => by unfold LamX.CodeO at z; cases z
  induction h with
  | non => exact .non
  | bl b => exact .bl b
  | int i => exact .int i
  | str x => exact .str x
  | ty n => exact .ty n
  | fn a => exact .fn a
  | scr e =>
    refine .scr ?_
    rcases e with (e | ⟨o, e⟩) | e
    · exact .inl (.inl (s _ _ e (lst_nc _)))
    · exact .inl (.inr ⟨o, s _ _ e fun c q z => by unfold LamX.CodeO at z; cases z⟩)
    · exact .inr e
  | tup e hl _ ih =>
    refine .tup ?_ hl ih
    rcases e with (e | ⟨o, e⟩) | e
    · exact .inl (.inl (s _ _ e (n1 _)))
    · exact .inl (.inr ⟨o, s _ _ e fun c q z => by unfold LamX.CodeO at z; cases z⟩)
    · exact .inr e
  | lst e hl _ ih => exact .lst (s _ _ e (lst_nc _)) hl ih
  | dct e hk _ ih => exact .dct (s _ _ e (dK_nc _)) hk ih
  | obj e hk _ ih => exact .obj (s _ _ e (n2 _ _ _)) hk ih
end
end DL
namespace FD
open PySem PySem.Spec PyProof.Rows L2 DL TR NB
section
variable [Tbs] {K : PySem.W.Frag} {ps : List Nat}
/-! ### a call of the lambda -/
def tTell (i : Nat) (f : Addr) (nl : Nat) (c' : Addr) (q : Str) (tl : List V → Hp → VK → Prop) (t : TA) : TE := fun σZ HZ Q => σZ[i]? = some (some (.ref f)) ∧ t σZ HZ fun vs HZ1 => vs.length = nl ∧ HZ1 c' = some (LamX.CodeO c' q) ∧ tl vs HZ1 Q
def dTell (i : Nat) (f : Addr) (nl : Nat) (s : SV) (Ta : DLs) : DE := fun ρ Φ => ρ[i]? = some (some (.d (.fn f))) ∧ Ta ρ fun ds ρ1 => ds.length = nl ∧ s ds fun d => Φ d ρ1
theorem re_tell {i nl : Nat} {f c' : Addr} {q : Str} {tl : List V → Hp → VK → Prop} {s : SV} {t : TA} {Ta : DLs} (hc : Tbs.B c' = some (LamX.CodeO c' q)) (hl : ∀ vs H Q, spOf K (pureS s) vs H Q CLX.E0 → tl vs H Q) (h : RV K ps t Ta) : RE K ps (tTell i f nl c' q tl t) (dTell i f nl s Ta) := by
  intro b σ H F ρ Φ Q R hT k
  obtain ⟨e, hT⟩ := hT
  obtain ⟨v, h1, h2⟩ := R.slot i _ e
  have hv : v = .ref f := Dr.inv_fn h2
  subst hv
  refine ⟨h1, h b σ H F ρ _ _ R hT fun vs H1 F1 ρ1 ds s1 R1 hr ⟨hn, hS⟩ => ⟨by rw [hr.1, hn], R1.sub _ _ (R1.grow.b _ _ hc), hl _ _ _ ?_⟩⟩
  have nO : ∀ a, ¬ OwnA vs (ds.map .d) a := fun a ⟨i, o, e1, e2, _⟩ => by
    rw [List.getElem?_map] at e1
    obtain ⟨d, _, rfl⟩ := Option.map_eq_some_iff.mp e1
    cases e2
  refine ⟨F1, ds.map .d, fun d _ => Φ d ρ1, ⟨R1.sub, R1.nt, R1.tabs, R1.grow.b⟩, ⟨by rw [List.length_map]; exact hr.1, fun k v o e1 e2 => ?_, fun k l o u v n e1 o1 e2 o2 e3 e4 => ?_⟩, ⟨ds, rfl, hS⟩, fun F' H' v d os' s2 ⟨sub2, nt2, tb2⟩ kp th nw len2 hout hd hΦ => ?_⟩
  · rw [List.getElem?_map] at e2
    obtain ⟨d, hd, rfl⟩ := Option.map_eq_some_iff.mp e2
    exact hr.2 k v d e1 hd
  · rw [List.getElem?_map] at e1
    obtain ⟨d, _, rfl⟩ := Option.map_eq_some_iff.mp e1
    cases o1
  · exact k v H' F' ρ1 d (s1.trans s2) (R1.grownT (fun a o e nz => kp a o e (nO a) nz) th s2 sub2 (fun a o e => (nw a o e).elim .inl fun h => h.elim .inr fun z => absurd z (nO a)) nt2 tb2) hd hΦ
@[simp] theorem dTell_ (i : Nat) (f : Addr) (nl : Nat) (s : SV) (Ta : DLs) (ρ : DL.Env) (Φ : D → DL.Env → Prop) : dTell i f nl s Ta ρ Φ = (ρ[i]? = some (some (.d (.fn f))) ∧ Ta ρ fun ds ρ1 => ds.length = nl ∧ s ds fun d => Φ d ρ1) := Eq.trans rfl rfl
end
/-- what numbered promises -/
def sNum (SI : Addr → Option SV) : SV := fun ds Φ => ∃ (t : Tr D) (f : Addr) (s : SV), ds = [t.d, .fn f] ∧ SI f = some s ∧ Good s t ∧ sz t ≤ 1000000 ∧ Φ (.lst ((num t 0).map rowD))
/-- what folded comes to -/
def dFold (SI : Addr → Option SV) (f : Addr) (sL : SV) : DS :=
  dSeq (dAsg (dCallV (sNum SI) (dCons (dVar 0) (dCons (dVar 1) dNil))) (dName 3))
    (dSeq (dSetL 4 (dOpL oRep (dK (dLst (dCons (dC D.non) dNil))) (dLenS 3)))
      (dSeq (dFor (dIRd (dCons (dOp (oI0 fun a c => .int (a - c)) (dLenS 3) (dC (.int 1))) (dCons (dNeg (dC (.int 1))) (dCons (dNeg (dC (.int 1))) dNil)))) (dName 5)
          (dSeq (dAsg (dIxS 3 (dVar 5)) (dGTup 2 (dGCons (dName 6) (dGCons (dName 7) dGNil))))
            (dPutL 4 (dTell 2 f 2 sL (dCons (dVar 6) (dCons (dK (dLc (dIL (dVar 7)) (dName 8) dYes (dIxS 4 (dVar 8)) [8])) dNil))) (dVar 5))))
        (dRet (dIxS 4 (dC (.int 0))))))
/-- told so far: those from j on -/
def toldAt {α : Type} (G : List (Tr α)) (val : Tr α → D) (j : Nat) : List D := (List.range G.length).map fun i => if j ≤ i then (match G[i]? with | some s => val s | none => .non) else .non
theorem toldAt_len {α : Type} (G : List (Tr α)) (val : Tr α → D) (j : Nat) : (toldAt G val j).length = G.length := by simp [toldAt]
theorem toldAt_get {α : Type} {G : List (Tr α)} {val : Tr α → D} {j i : Nat} {s : Tr α} (h : G[i]? = some s) (hj : j ≤ i) : (toldAt G val j)[i]? = some (val s) := by
  unfold toldAt
  rw [List.getElem?_map, List.getElem?_range (List.getElem?_eq_some_iff.mp h).1]
  simp [hj, h]
theorem toldAt_all {α : Type} (G : List (Tr α)) (val : Tr α → D) : toldAt G val G.length = List.replicate G.length .non := by
  unfold toldAt
  apply List.ext_getElem?
  intro i
  rw [List.getElem?_map, List.getElem?_replicate]
  by_cases hi : i < G.length
  · rw [List.getElem?_range hi, if_pos hi, Option.map_some, if_neg (by omega)]
  · rw [List.getElem?_eq_none (by simp; omega), if_neg hi]
    rfl
theorem toldAt_set {α : Type} {G : List (Tr α)} {val : Tr α → D} {j : Nat} {s : Tr α} (h : G[j]? = some s) : (toldAt G val (j + 1)).set j (val s) = toldAt G val j := by
  have hj := (List.getElem?_eq_some_iff.mp h).1
  apply List.ext_getElem?
  intro i
  by_cases hij : j = i
  · subst hij
    rw [List.getElem?_set_self (by rw [toldAt_len]; exact hj), toldAt_get h (Nat.le_refl _)]
  · rw [List.getElem?_set_ne hij]
    unfold toldAt
    rw [List.getElem?_map, List.getElem?_map]
    by_cases hi : i < G.length
    · rw [List.getElem?_range hi, Option.map_some, Option.map_some]
      by_cases h1 : j + 1 ≤ i
      · rw [if_pos h1, if_pos (by omega)]
      · rw [if_neg h1, if_neg (by omega)]
    · rw [List.getElem?_eq_none (by simp; omega)]
      rfl
def envF (r : D) (fi f : Addr) (nodes : List D) (told : List D) (o5 o6 o7 o8 : Option OV) : DL.Env := [some (.d r), some (.d (.fn fi)), some (.d (.fn f)), some (.d (.lst nodes)), some (.l told), o5, o6, o7, o8]
theorem fold_go [Tbs] {SI : Addr → Option SV} {f fi : Addr} {si sL : SV} {α : Type} {δ : α → D} {t : Tr α} {val : Tr α → D} (hs : SI fi = some si) (hg : Good si (mapT δ t)) (hz : sz t ≤ 1000000) (hv : ∀ s ∈ pre t, ∀ Φ : D → Prop, Φ (val s) → sL [δ s.d, .lst (s.ks.map val)] Φ) {E : DEn}
    (hE : ∀ ρ', E.rt (val t) ρ') : dFold SI f sL E [some (.d (δ t.d)), some (.d (.fn fi)), some (.d (.fn f)), none, none, none, none, none, none] := by
  unfold dFold
  have hn : ((num (mapT δ t) 0).map rowD).length = sz t := by rw [List.length_map, num_len, sz_map]
  have hG : (pre t).length = sz t := pre_len t
  have hp := sz_pos t
  generalize hnd : (num (mapT δ t) 0).map rowD = nodes at hn
  simp only [dSeq_, dAsg_, dCallV_, dCons_, dVar_, dNil_, List.getElem?_cons_zero, List.getElem?_cons_succ, dVarG_d]
  refine ⟨mapT δ t, fi, si, by rw [mapT_d], hs, hg, by rw [sz_map]; exact hz, ?_⟩
  rw [hnd]
  simp [hn]
  refine ⟨by omega, by omega, ?_⟩
  have e0 : List.replicate (sz t) D.non = toldAt (pre t) val (sz t) := by
    rw [← hG, toldAt_all]
  rw [e0]
  refine for_inv (rngDn ((sz t : Int) - 1) (sz t)) (envF (δ t.d) fi f nodes (toldAt (pre t) val (sz t)) none none none none) (fun k ρ => ∃ o5 o6 o7 o8, ρ = envF (δ t.d) fi f nodes (toldAt (pre t) val (sz t - k)) o5 o6 o7 o8) (fun Ψ h => ?_) ⟨none, none, none, none, rfl⟩ ?_ ?_
  · have e1 : ((sz t : Int) - 1 - (-1)).toNat = sz t := by omega
    simp [hn]
    refine ⟨_, _, ⟨rfl, rfl⟩, ⟨by omega, by omega, by omega, by omega⟩, ?_⟩
    rw [e1]
    exact h
  · rintro k x ρ hx ⟨o5, o6, o7, o8, rfl⟩
    have hk : k < sz t := by
      have := (List.getElem?_eq_some_iff.mp hx).1
      rwa [rngDn_len] at this
    rw [rngDn_get hk] at hx
    cases hx
    obtain ⟨j, hj⟩ : ∃ j, j = sz t - 1 - k := ⟨_, rfl⟩
    have ej : (sz t : Int) - 1 - (k : Nat) = (j : Nat) := by omega
    have e2 : sz t - k = j + 1 := by omega
    have e3 : sz t - (k + 1) = j := by omega
    rw [ej, e2, e3]
    have hjn : j < (num t 0).length := by rw [num_len]; omega
    have hr := List.getElem?_eq_getElem hjn
    generalize (num t 0)[j] = r at hr
    obtain ⟨s, h1, h2, h3, h4⟩ := rows_ok t hr
    have hnr : nodes[j]? = some (rowD (δ r.1, r.2)) := by rw [← hnd, num_map, List.getElem?_map, List.getElem?_map, hr]; rfl
    have hsm : s ∈ pre t := List.mem_of_getElem? h1
    simp only [dName_]
    unfold envF
    simp [hnr, rowD]
    refine lc_z (r.2.map fun n => .int (n : Nat)) (s.ks.map val) [some (.d (δ t.d)), some (.d (.fn fi)), some (.d (.fn f)), some (.d (.lst nodes)), some (.l (toldAt (pre t) val (j + 1))), some (.d (.int (j : Nat))), some (.d (δ r.1)), some (.d (.lst (r.2.map fun n => .int (n : Nat)))), o8]
      [some (.d (δ t.d)), some (.d (.fn fi)), some (.d (.fn f)), some (.d (.lst nodes)), some (.l (toldAt (pre t) val (j + 1))), some (.d (.int (j : Nat))), some (.d (δ r.1)), some (.d (.lst (r.2.map fun n => .int (n : Nat)))), none] (fun Ψ h => ?_) rfl ?_ ?_ (fun i x e hx he A hA => ?_) ?_
    · simpa using h
    · rw [List.length_map, h3]
      have := kids_le hsm
      omega
    · rw [List.length_map, List.length_map, h3]
    · rw [List.getElem?_map] at hx he
      obtain ⟨n, hn', rfl⟩ := Option.map_eq_some_iff.mp hx
      obtain ⟨u, hu, rfl⟩ := Option.map_eq_some_iff.mp he
      obtain ⟨g1, g2⟩ := h4 i n hn'
      rw [hu] at g2
      simp
      exact ⟨_, toldAt_get g2 (by omega), hA _ (by simp)⟩
    · simp
      rw [← h2]
      have hjl : j < (toldAt (pre t) val (j + 1)).length := by rw [toldAt_len, hG]; omega
      refine hv s hsm _ ⟨j, ?_, toldAt_set h1⟩
      unfold ixN
      rw [if_pos (by omega), if_pos (by omega)]
      rfl
  · rintro ρ ⟨o5, o6, o7, o8, rfl⟩
    rw [rngDn_len, Nat.sub_self]
    unfold envF
    simp
    exact ⟨_, (atI_nat' _ 0).trans (toldAt_get (pre_zero t) (Nat.le_refl _)), hE _⟩
end FD
/-! folded as it is handed a lambda. -/
namespace FD
open PySem PySem.Spec PyProof.Rows L2 DL TR NB
/-- what folded asks of its arguments and of the lambda -/
def TTf (I : Tbs) (K : PySem.W.Frag) (SI : Addr → Option SV) (tl : List V → Hp → VK → Prop) (vs : List V) (H : Hp) (Q : VK) : Prop :=
  ∃ (F : Hp) (α : Type) (δ : α → D) (t : Tr α) (fi : Addr) (si sL : SV) (val : Tr α → D), (Sub F H ∧ (∀ a o, F a = some o → NT o) ∧ LamX.Tabs I.T H ∧ Same I.B F) ∧ DA K F vs [δ t.d, .fn fi] ∧ (SI fi = some si ∧ Good si (mapT δ t) ∧ sz t ≤ 1000000) ∧
    (∀ s ∈ pre t, ∀ Φ : D → Prop, Φ (val s) → sL [δ s.d, .lst (s.ks.map val)] Φ) ∧ (∀ vs H' Q, @spOf ⟨I.T, F⟩ K (pureS sL) vs H' Q CLX.E0 → tl vs H' Q) ∧
    ∀ F' H' v, Same F F' → (Sub F' H' ∧ (∀ a o, F' a = some o → NT o) ∧ LamX.Tabs I.T H') → (∀ a o, H a = some o → NT o → H' a = some o) → (∀ a o, H a = some o → ∃ o', H' a = some o') → (∀ a o, F' a = some o → F a = some o ∨ H a = none) → Dr K F' v (val t) → Q v H'
theorem codeO_nt (c : Addr) (q : Str) : NT (LamX.CodeO c q) := fun t z => by
  unfold LamX.CodeO at z
  cases z
/-- the body of folded, told by data -/
theorem fold_run {I : Tbs} {K : PySem.W.Frag} {SI : Addr → Option SV} {f c' : Addr} {q : Str} {H : Hp} {Q : VK} {vs : List V} {tl : List V → Hp → VK → Prop} {N : List Str} (hN : N.length = 9) (hco : H c' = some (LamX.CodeO c' q)) (hT : TTf I K SI tl vs H Q) {P : TS → Prop}
    (h : ∀ (J : Tbs) (s : SV), J.T = I.T → J.B c' = some (LamX.CodeO c' q) → (∀ vs H' Q, @spOf J K (pureS s) vs H' Q CLX.E0 → tl vs H' Q) → ∃ t, P t ∧ @RS J K [] t (dFold SI f s)) :
    ∃ t, P t ∧ t { nx := fun _ H' => Q .non H', rt := Q } (L2.start N (vs ++ [.ref f])) H := by
  obtain ⟨F, α, δ, tr, fi, si, sL, val, ⟨hsub, hnt, htb, hB⟩, hda, ⟨hs, hg, hz⟩, hv, hl, hQ⟩ := hT
  have sF : Same F (upd F c' (LamX.CodeO c' q)) := fun a o e => by
    by_cases ha : a = c'
    · subst ha
      rw [hsub _ _ e] at hco
      rw [upd_same]
      exact hco.symm
    · rw [upd_ne ha]
      exact e
  have sub1 : Sub (upd F c' (LamX.CodeO c' q)) H := fun a o e => by
    by_cases ha : a = c'
    · subst ha
      rw [upd_same] at e
      rw [hco]
      exact e
    · rw [upd_ne ha] at e
      exact hsub _ _ e
  have nt1 : ∀ a o, upd F c' (LamX.CodeO c' q) a = some o → NT o := nt_upd hnt (codeO_nt _ _)
  obtain ⟨t, ht, hr⟩ := h ⟨I.T, upd F c' (LamX.CodeO c' q)⟩ sL rfl upd_same (fun vs H' Q hsp => hl vs H' Q (by
    obtain ⟨F', os, Φ, ⟨a1, a2, a3, a4⟩, rest⟩ := hsp
    exact ⟨F', os, Φ, ⟨a1, a2, a3, sF.trans a4⟩, rest⟩))
  letI J : Tbs := ⟨I.T, upd F c' (LamX.CodeO c' q)⟩
  have hda' : DA K (upd F c' (LamX.CodeO c' q)) (vs ++ [.ref f]) ([δ tr.d, .fn fi] ++ [.fn f]) := (hda.up sF).app (.one (.fn f))
  have R := @rep_start J K N H _ _ _ sub1 nt1 htb (Same.refl _) hda' (List.replicate 6 none) (List.replicate 6 none) rfl (fun i o e => by
    have := List.mem_of_getElem? e
    rw [List.mem_replicate] at this
    cases this.2)
  have e1 : (vs ++ [V.ref f]).map some ++ List.replicate 6 none = L2.start N (vs ++ [.ref f]) := by
    unfold L2.start
    have := hda'.1
    rw [hN, this]
    rfl
  rw [e1] at R
  have fin : ∀ (v : V) (σ' : L2.St) (H' F' : Hp) (ρ' : DL.Env) (d : D), Same (upd F c' (LamX.CodeO c' q)) F' → @Rep J K [] ⟨H, upd F c' (LamX.CodeO c' q), vs ++ [.ref f], fun _ => False⟩ σ' H' F' ρ' → Dr K F' v d → d = val tr → Q v H' := by
    intro v σ' H' F' ρ' d s R' hd ed
    subst ed
    -- the code object is kept for good only here
    let F2 : Hp := fun a => if a = c' then F a else F' a
    have f2 : ∀ a, a ≠ c' → F2 a = F' a := fun a n => if_neg n
    have f2c : F2 c' = F c' := if_pos rfl
    have s2 : Same F F2 := fun a o e => by
      by_cases ha : a = c'
      · subst ha; rw [f2c]; exact e
      · rw [f2 a ha]; exact s _ _ (sF _ _ e)
    have sub2 : Sub F2 F' := fun a o e => by
      by_cases ha : a = c'
      · subst ha; rw [f2c] at e; exact s _ _ (sF _ _ e)
      · rw [f2 a ha] at e; exact e
    refine hQ F2 H' v s2 ⟨fun a o e => R'.sub _ _ (sub2 a o e), fun a o e => R'.nt a o (sub2 a o e), R'.tabs⟩ (fun a o e nz => R'.keep a o e (fun z => z) nz) (fun a o e => R'.dom a o e) (fun a o e => ?_) (hd.less fun a o e nc => ?_)
    · by_cases ha : a = c'
      · subst ha; rw [f2c] at e; exact .inl e
      · rw [f2 a ha] at e
        rcases R'.new a o e with z | z | z
        · have z : upd F c' (LamX.CodeO c' q) a = some o := z
          rw [upd_ne ha] at z
          exact .inl z
        · exact .inr z
        · exact z.elim
    · have ha : a ≠ c' := fun z => by
        subst z
        rw [s _ _ upd_same] at e
        exact nc _ _ (Option.some.inj e).symm
      rw [f2 a ha]
      exact e
  exact ⟨t, ht, hr _ _ H _ _ ⟨fun _ => False, fun d _ => d = val tr, fun _ => False, fun _ => False⟩ _ R (fold_go hs hg hz hv fun _ => rfl) (fun _ _ _ _ _ _ z => z.elim) fin (fun _ _ _ _ _ _ z => z.elim) (fun _ _ _ _ _ _ z => z.elim)⟩
/-! ### folded(tree, inner_of, lambda ..) -/
def freeB (so scope : Scope) : Bool := scope.names.all fun y => !decide (y.2 = .free) || decide (so.names.lookup y.1 = some .cell) || decide (so.names.lookup y.1 = some .free)
theorem free_by {so scope : Scope} (h : freeB so scope = true) : ∀ y ∈ scope.names, y.2 = .free → so.names.lookup y.1 = some .cell ∨ so.names.lookup y.1 = some .free := fun y hy e => by
  have := List.all_eq_true.mp h y hy
  simp only [Bool.or_eq_true, Bool.not_eq_true', decide_eq_false_iff_not, decide_eq_true_eq] at this
  rcases this with (z | z) | z
  · exact absurd e z
  · exact .inl z
  · exact .inr z
def dGive (SI : Addr → Option SV) (js : List Nat) (Lam : List D → SV) (Ta : DLs) : DE := fun ρ Φ => Ta ρ fun ds ρ1 => ∃ (α : Type) (δ : α → D) (t : Tr α) (fi : Addr) (si : SV) (val : Tr α → D) (caps : List D), ds = [δ t.d, .fn fi] ∧ (SI fi = some si ∧ Good si (mapT δ t) ∧ sz t ≤ 1000000) ∧
  (js.map fun j => ρ1[j]?) = caps.map (fun d => some (some (OV.d d))) ∧ (∀ s ∈ pre t, ∀ Φ' : D → Prop, Φ' (val s) → Lam caps [δ s.d, .lst (s.ks.map val)] Φ') ∧ Φ (val t) ρ1
theorem give_at {SI : Addr → Option SV} {js : List Nat} {Lam : List D → SV} {Ta : DLs} {ρ : DL.Env} {Φ : D → DL.Env → Prop} {α : Type} (ρ1 : DL.Env) (δ : α → D) (t : Tr α) (fi : Addr) (si : SV) (val : Tr α → D) (caps : List D) (hA : ∀ Ψ : List D → DL.Env → Prop, Ψ [δ t.d, .fn fi] ρ1 → Ta ρ Ψ)
    (hs : SI fi = some si) (hg : Good si (mapT δ t)) (hz : sz t ≤ 1000000) (hc : (js.map fun j => ρ1[j]?) = caps.map (fun d => some (some (OV.d d)))) (hv : ∀ s ∈ pre t, ∀ Φ' : D → Prop, Φ' (val s) → Lam caps [δ s.d, .lst (s.ks.map val)] Φ') (hΦ : Φ (val t) ρ1) : dGive SI js Lam Ta ρ Φ :=
  hA _ ⟨α, δ, t, fi, si, val, caps, rfl, ⟨hs, hg, hz⟩, hc, hv, hΦ⟩
/-- the lambda's names at its entry -/
def startL (ds caps : List D) (m : Nat) : DL.Env := ds.map (fun d => some (.d d)) ++ (caps.map (fun d => some (.d d)) ++ List.replicate m none)
theorem re_give [I : Tbs] {K : PySem.W.Frag} {ps : List Nat} {SI : Addr → Option SV} {t : TA} {tb : TE} {Tb : DE} {Ta : DLs} {js : List Nat} {N : List Str} {Lam : List D → SV} {nl : Nat} (h : RV K ps t Ta) (hb : RE K [] tb Tb)
    (hsem : ∀ caps ds Φ, caps.length = js.length → Lam caps ds Φ → ds.length = nl ∧ Tb (startL ds caps (N.length - nl - js.length)) (fun d _ => Φ d)) :
    RE K ps (CLX.tGive Tbs.T (TTf I K SI) t fun σ vs HZ1 Q => tb (NdefX.startF N vs (js.map (NdefX.slotAt σ))) HZ1 Q) (dGive SI js Lam Ta) := by
  intro b σ H F ρ Φ Q R hT k
  refine h b σ H F ρ _ _ R hT fun vs H1 F1 ρ1 ds s1 R1 hda ⟨α, δ, tr, fi, si, val, caps, e, hsi, hcap, hval, hΦ⟩ => ⟨R1.tabs, fun H2 mk => ?_⟩
  subst e
  have hcl : caps.length = js.length := by
    have := congrArg List.length hcap
    rw [List.length_map, List.length_map] at this
    exact this.symm
  refine ⟨F1, α, δ, tr, fi, si, Lam caps, val, ⟨fun a o e => mk.ext a o (R1.sub a o e) (R1.nt a o e), R1.nt, mk.tabs, R1.grow.b⟩, hda, hsi, hval, fun vs' H' Q' hsp => ?_, fun F' H' v s ⟨sub, nt, tb'⟩ keep dom new hd => ?_⟩
  · obtain ⟨F', os, Φ', ⟨a1, a2, a3, a4⟩, ha, ⟨ds', e, hS⟩, hq⟩ := hsp
    subst e
    obtain ⟨hl, hTb⟩ := hsem caps ds' _ hcl hS
    have hDA : DA K F' vs' ds' := ⟨by have := ha.len; rwa [List.length_map] at this, fun i v d e1 e2 => ha.ok i v (.d d) e1 (by rw [List.getElem?_map, e2]; rfl)⟩
    have R2 := @rep_start I K N H' F' vs' ds' a1 a2 a3 (R1.grow.b.trans a4) hDA (js.map (NdefX.slotAt σ) ++ List.replicate (N.length - nl - js.length) none) (caps.map (fun d => some (.d d)) ++ List.replicate (N.length - nl - js.length) none)
      (by rw [List.length_append, List.length_append, List.length_map, List.length_map, hcl, List.length_replicate, List.length_replicate]) (fun i o e => by
        by_cases hi : i < caps.length
        · rw [List.getElem?_append_left (by rw [List.length_map]; exact hi), List.getElem?_map] at e
          obtain ⟨d, hd, e⟩ := Option.map_eq_some_iff.mp e
          have e := Option.some.inj e
          subst e
          have hj := List.getElem?_eq_getElem (show i < js.length by omega)
          have hc := congrArg (fun l => l[i]?) hcap
          simp only [List.getElem?_map, hj, hd, Option.map_some] at hc
          obtain ⟨v, g1, g2⟩ := R1.slot _ _ (Option.some.inj hc)
          refine ⟨d, v, rfl, ?_, Dr.up a4 g2⟩
          rw [List.getElem?_append_left (by rw [List.length_map]; omega), List.getElem?_map, hj, Option.map_some]
          unfold NdefX.slotAt
          rw [g1]
        · rw [List.getElem?_append_right (by rw [List.length_map]; omega)] at e
          have := List.mem_of_getElem? e
          rw [List.mem_replicate] at this
          cases this.2)
    have e1 : NdefX.startF N vs' (js.map (NdefX.slotAt σ)) = vs'.map some ++ (js.map (NdefX.slotAt σ) ++ List.replicate (N.length - nl - js.length) none) := by
      unfold NdefX.startF
      rw [List.length_map, hDA.1, hl]
    rw [e1]
    refine hb _ _ H' F' _ _ Q' R2 hTb fun v H'' F'' ρ'' d s R'' hd hΦ => ?_
    exact hq F'' H'' v d _ s ⟨R''.sub, R''.nt, R''.tabs⟩ (fun a o e _ nz => R''.keep a o e (fun z => z) nz) R''.dom (fun a o e => (R''.new a o e).elim .inl fun z => z.elim (fun z => .inr (.inl z)) fun z => z.elim) rfl (fun i o o' v e1 ho => by
      rw [List.getElem?_map] at e1
      obtain ⟨d, _, rfl⟩ := Option.map_eq_some_iff.mp e1
      cases ho) hd hΦ
  · refine k v H' F' ρ1 _ (s1.trans s) (R1.grownT (fun a o e nz => keep a o (mk.ext a o e nz) nz) (fun a o e => (mk.dom a o e).elim fun o1 e1 => dom a o1 e1) s sub (fun a o e => (new a o e).elim .inl fun z => .inr ?_) nt tb') hd hΦ
    cases q : H1 a with
    | none => rfl
    | some u =>
      obtain ⟨u', e'⟩ := mk.dom a u q
      rw [z] at e'
      cases e'
end FD
/-! Dict comprehensions, list(d), sorted(d), == of nested data. -/
namespace DL
open PySem PySem.Spec PyProof.Rows L2
def dDc (Ti : DLs) (G : DG) (Tt : DT) (Tk Tv : DE) (vs : List Nat) : DDs := fun ρ Φ => Ti ρ fun ds ρ1 => ∃ W : Nat → List (Key × D) → DL.Env → Prop, W 0 [] (wipeD ρ1 vs) ∧
  (∀ k x acc ρ, ds[k]? = some x → W k acc ρ → G x ρ fun ρ2 => Tt ρ2 fun c ρ3 => if c = true then Tk ρ3 fun y ρ4 => Tv ρ4 fun z ρ5 => ∃ key, keyD y = some key ∧ acc.length < sizeLine ∧ W (k + 1) (putD acc key z) (wipeD ρ5 vs) else W (k + 1) acc (wipeD ρ3 vs)) ∧
  ∀ acc ρ, W ds.length acc ρ → Φ acc (restore ρ ρ1 vs)
section
variable [Tbs] {K : PySem.W.Frag} {ps : List Nat}
theorem rd_dc {js : List Nat} {wi : TI} {g : TG} {tt : TT} {tk tv : TE} {vs : List Nat} {Ti : DLs} {G : DG} {Tt : DT} {Tk Tv : DE} (hi : RI K ps wi Ti) (hg : RG K ps js g G) (ht : RT K ps tt Tt) (hk : RE K ps tk Tk) (he : RE K ps tv Tv) (hv : ∀ v ∈ vs, v ∉ ps := by decide) (hj : ∀ j ∈ js, j ∈ vs := by decide) :
    RD K ps (tDc wi g tt tk tv vs) (dDc Ti G Tt Tk Tv vs) := by
  intro b σ H F ρ Φ Q R0 hT k
  refine hi b σ H F ρ _ _ R0 hT fun J H1 F1 ρ1 ds s1 R1 hw hT => fun p hp => ?_
  obtain ⟨Gd, Y, hwk, hG, hY⟩ := hw
  obtain ⟨W, w0, wt, wd⟩ := hT
  obtain ⟨hF1, h01, _⟩ := R1.fresh hp
  have n1 : ¬ Owned σ ρ1 p := fun z => by
    obtain ⟨_, _, o, e⟩ := R1.owned z
    rw [hp] at e
    cases e
  let Pv : Nat → Hp → Prop := fun i H' => ∃ F' ρ' acc xs, Same F1 F' ∧ Rep K ps b (wipe σ vs) H' F' ρ' ∧ H' p = some (.dK xs) ∧ DM K F' xs acc ∧ F' p = none ∧ ¬ Owned (wipe σ vs) ρ' p ∧ W i acc ρ'
  refine ⟨fun i m H' => m = ds.length - i ∧ i ≤ ds.length ∧ Pv i H', ⟨ds.length, by simp, Nat.zero_le _, F1, _, [], [], Same.refl F1, (R1.block hv).put hp, upd_same, .nil, hF1, fun z => n1 (owned_block z), w0⟩, ?_⟩
  rintro i m H2 ⟨rfl, hle, F2, ρ2, acc, xs, s, R2, ex, hx, hF2, n2, hW⟩
  have hgd := hG H2 F2 s R2.sub
  by_cases hin : i < ds.length
  · refine .inr ⟨hwk.goes i H2 hin hgd, Pv (i + 1), fun H' p' => ⟨ds.length - (i + 1), by omega, rfl, hin, p'⟩, fun x H3 y => ?_⟩
    obtain ⟨d, F3, hd, hdr, hy⟩ := hY i H2 x H3 (hwk.yields i H2 x H3 hin hgd y) hin F2 s R2.sub
    have st : Rep K ps b (wipe σ vs) H3 F3 ρ2 ∧ H3 p = some (.dK xs) ∧ F3 p = none ∧ Same F2 F3 := by
      rcases hy with ⟨rfl, rfl⟩ | ⟨q, o, hq, hqn, rfl, rfl⟩
      · exact ⟨R2, ex, hF2, Same.refl _⟩
      · have nq : p ≠ q := ne_of_none ex hq
        exact ⟨R2.alloc hq hqn, (upd_ne nq).trans ex, (upd_ne nq).trans hF2, SX.same_upd (R2.fresh hq).1⟩
    obtain ⟨R3, ex3, hF3, s3⟩ := st
    refine hg.fr R3 hdr (wt i d acc ρ2 hd hW) fun σ4 H4 F4 ρ4 s4 f4 R4 o4 w4 hT => ?_
    have hwp : wipe σ4 vs = wipe σ vs := by rw [w4 vs hj, wipe_wipe]
    obtain ⟨ex4, hF4⟩ := f4.loose R3 ex3 hF3 n2
    have n4 : ¬ Owned σ4 ρ4 p := fun z => (o4 p z).elim n2 fun h => by rw [ex3] at h; cases h
    refine ⟨hwp, ht.fr R4 hT fun c H5 F5 ρ5 s5 f5 R5 o5 hT => ?_⟩
    obtain ⟨ex5, hF5⟩ := f5.loose R4 ex4 hF4 n4
    have n5 : ¬ Owned σ4 ρ5 p := fun z => (o5 p z).elim n4 fun h => by rw [ex4] at h; cases h
    have s15 : Same F1 F5 := (((s.trans s3).trans s4).trans s5)
    have hx5 := (((hx.up s3).up s4).up s5)
    cases c with
    | false =>
      refine ⟨F5, wipeD ρ5 vs, acc, xs, s15, ?_, ex5, hx5, hF5, ?_, hT⟩
      · have := R5.block hv
        rwa [hwp] at this
      · intro z
        rw [← hwp] at z
        exact n5 (owned_block z)
    | true =>
      refine hk.fr R5 hT fun u H6 F6 ρ6 e s6 f6 R6 o6 hd6 hT => ?_
      obtain ⟨ex6, hF6⟩ := f6.loose R5 ex5 hF5 n5
      have n6 : ¬ Owned σ4 ρ6 p := fun z => (o6 p z).elim n5 fun h => by rw [ex5] at h; cases h
      refine he.fr R6 hT fun u7 H7 F7 ρ7 e7 s7 f7 R7 o7 hd7 hT => ?_
      obtain ⟨ex7, hF7⟩ := f7.loose R6 ex6 hF6 n6
      have n7 : ¬ Owned σ4 ρ7 p := fun z => (o7 p z).elim n6 fun h => by rw [ex6] at h; cases h
      obtain ⟨key, hky, hz, hT⟩ := hT
      have hx7 := (hx5.up s6).up s7
      refine ⟨xs, key, keyD_ok hd6 hky, ex7, by rw [hx7.len]; exact hz, F7, wipeD ρ7 vs, putD acc key e7, putK xs key u7, (s15.trans s6).trans s7, ?_, upd_same, hx7.put hd7, hF7, ?_, hT⟩
      · have := (R7.poke (o := .dK (putK xs key u7)) hF7 h01 n7 ex7).block hv
        rwa [hwp] at this
      · intro z
        rw [← hwp] at z
        exact n7 (owned_block z)
  · have e : i = ds.length := by omega
    subst e
    refine .inl ⟨hwk.stops H2 hgd, ?_⟩
    have Ru := R1.unblock s R2 hv
    refine k p xs H2 F2 _ acc (s1.trans s) Ru ⟨hF2, h01, fun i o e ho z => ?_⟩ ex hx (wd acc ρ2 hW)
    rcases restore_some e with ⟨_, d, rfl, _⟩ | ⟨h1, h2⟩
    · cases ho
    · exact n2 ⟨i, o, h2, ho, by rw [wipe_get h1]; exact z⟩
/-! ### list(d), sorted(d) -/
def kyD : Key → D
  | .inl i => .int i
  | .inr x => .str x
theorem kyD_ok {F : Hp} (k : Key) : Dr K F (kV k) (kyD k) := by
  cases k with
  | inl i => exact .int i
  | inr x => exact .str x
theorem keys_da {F : Hp} {xs : List (Key × V)} {ds : List (Key × D)} (h : xs.map (·.1) = ds.map (·.1)) : DA K F (xs.map fun kv => kV kv.1) (ds.map fun kv => kyD kv.1) := by
  have e1 : (xs.map fun kv => kV kv.1) = (xs.map (·.1)).map kV := by rw [List.map_map]; rfl
  have e2 : (ds.map fun kv => kyD kv.1) = (ds.map (·.1)).map kyD := by rw [List.map_map]; rfl
  rw [e1, e2, h]
  generalize ds.map (·.1) = ks
  induction ks with
  | nil => exact .nil
  | cons k ks ih => exact .cons (kyD_ok k) ih
def oListD (ds : List D) (Φ : List D → Prop) : Prop := match ds with
  | [.dct ks] => Φ (ks.map fun kv => kyD kv.1)
  | _ => False
theorem rcl_listD : RCL K ps (fun xs H Q => ∃ (a : Addr) (kvs : List (Key × V)), xs = [.ref a] ∧ Rd H a (.dK kvs) ∧ ∀ p, H p = none → Q (.ref p) (upd H p (.lst (kvs.map fun kv => kV kv.1)))) oListD := by
  intro b σ H F ρ xs ds Φ Q R h hT k
  match ds, hT with
  | [.dct ks], hT =>
    obtain ⟨v, r, rfl, h1, h2⟩ := h.inv
    rw [h2.inv_nil]
    obtain ⟨a, ys, rfl, ea, ha⟩ := h1.inv_dct
    exact ⟨a, ys, rfl, Rd.of (R.sub _ _ ea), fun q hq => k q _ _ F _ (Same.refl F) (R.put hq) (R.loose hq) upd_same (keys_da ha.1) hT⟩
def oSortD (ds : List D) (Φ : List D → Prop) : Prop := match ds with
  | [.dct ks] => ∃ ss : List Str, ks.map (·.1) = ss.map Sum.inr ∧ ss.length < 64 ∧ ∀ ys : List Str, ys.Perm ss → sortedS ys = true → Φ (ys.map .str)
  | _ => False
theorem strs_da {F : Hp} (ys : List Str) : DA K F (ys.map V.str) (ys.map .str) := by
  induction ys with
  | nil => exact .nil
  | cons y ys ih => exact .cons (.str y) ih
theorem rcl_sortD : RCL K ps (fun xs H Q => ∃ (a : Addr) (kvs : List (Key × V)) (ks : List Str), xs = [.ref a] ∧ Rd H a (.dK kvs) ∧ kvs.map (·.1) = ks.map Sum.inr ∧ ks.length < 64 ∧
    ∀ ys p, ys.Perm ks → sortedS ys = true → H p = none → Q (.ref p) (upd H p (.lst (ys.map V.str)))) oSortD := by
  intro b σ H F ρ xs ds Φ Q R h hT k
  match ds, hT with
  | [.dct ks], ⟨ss, e, h64, hT⟩ =>
    obtain ⟨v, r, rfl, h1, h2⟩ := h.inv
    rw [h2.inv_nil]
    obtain ⟨a, ys, rfl, ea, ha⟩ := h1.inv_dct
    exact ⟨a, ys, ss, rfl, Rd.of (R.sub _ _ ea), ha.1.trans e, h64, fun zs q hp hs hq => k q _ _ F _ (Same.refl F) (R.put hq) (R.loose hq) upd_same (strs_da zs) (hT zs hp hs)⟩
/-- list(d), sorted(d) of the slot's dict -/
def dSortS (i : Nat) : DLs := fun ρ Φ => ∃ ks, peek ρ i = some (.dct ks) ∧ oSortD [.dct ks] fun l => Φ l ρ
theorem rl_sortS {i : Nat} : RL K ps (tCB (fun xs H Q => ∃ (a : Addr) (kvs : List (Key × V)) (ks : List Str), xs = [.ref a] ∧ Rd H a (.dK kvs) ∧ kvs.map (·.1) = ks.map Sum.inr ∧ ks.length < 64 ∧
    ∀ ys p, ys.Perm ks → sortedS ys = true → H p = none → Q (.ref p) (upd H p (.lst (ys.map V.str)))) (tCons (tVar i) tNil)) (dSortS i) := by
  intro b σ H F ρ Φ Q R0 hT k
  obtain ⟨ks, hp, ss, e, h64, hT⟩ := hT
  obtain ⟨v, hv⟩ := slot_some R0 (peek_some hp)
  obtain ⟨a, xs, rfl, ea, ha⟩ := peek_dct R0 hp hv
  exact ⟨_, hv, a, xs, ss, rfl, Rd.of ea, ha.1.trans e, h64, fun zs q hp hs hq => k q _ _ F ρ _ (Same.refl F) (R0.put hq) (R0.loose hq) upd_same (strs_da zs) (hT zs hp hs)⟩
/-! ### == of nested data -/
mutual
def toPy : D → Option PyData
  | .non => some .none
  | .bl b => some (.bool b)
  | .int i => some (.int i)
  | .str x => some (.str x)
  | .lst l => (toPys l).map .list
  | .tup l => (toPys l).map .tuple
  | _ => none
def toPys : List D → Option (List PyData)
  | [] => some []
  | d :: l => match toPy d, toPys l with
    | some p, some q => some (p :: q)
    | _, _ => none
end
mutual
theorem toPy_ok {F H : Hp} (s : Sub F H) : ∀ {d : D} {v : V} {p : PyData}, Dr K F v d → toPy d = some p → Dp K H v p
  | .non, v, p, h, e => by rw [toPy] at e; cases e; rw [h.inv_non]; exact .non
  | .bl b, v, p, h, e => by rw [toPy] at e; cases e; rw [h.inv_bl]; exact .bl b
  | .int i, v, p, h, e => by rw [toPy] at e; cases e; rw [h.inv_int]; exact .int i
  | .str x, v, p, h, e => by rw [toPy] at e; cases e; rw [h.inv_str]; exact .str x
  | .lst l, v, p, h, e => by
    rw [toPy] at e
    obtain ⟨q, hq, rfl⟩ := Option.map_eq_some_iff.mp e
    obtain ⟨a, xs, rfl, ea, ha⟩ := h.inv_lst
    exact .lst (SqL.of (s _ _ ea)) (toPys_ok s ha hq)
  | .tup l, v, p, h, e => by
    rw [toPy] at e
    obtain ⟨q, hq, rfl⟩ := Option.map_eq_some_iff.mp e
    obtain ⟨a, xs, rfl, ea, ha⟩ := h.inv_tup
    exact .tup (sqT_same s ea) (toPys_ok s ha hq)
  | .ty _, v, p, h, e => by rw [toPy] at e <;> first | cases e | (intros; contradiction)
  | .fn _, v, p, h, e => by rw [toPy] at e <;> first | cases e | (intros; contradiction)
  | .scr _, v, p, h, e => by rw [toPy] at e <;> first | cases e | (intros; contradiction)
  | .dct _, v, p, h, e => by rw [toPy] at e <;> first | cases e | (intros; contradiction)
  | .obj _ _, v, p, h, e => by rw [toPy] at e <;> first | cases e | (intros; contradiction)
theorem toPys_ok {F H : Hp} (s : Sub F H) : ∀ {ds : List D} {xs : List V} {ps : List PyData}, DA K F xs ds → toPys ds = some ps → DpAll K H xs ps
  | [], xs, ps, h, e => by rw [toPys] at e; cases e; rw [h.inv_nil]; exact .nil
  | d :: ds, xs, ps, h, e => by
    obtain ⟨v, r, rfl, h1, h2⟩ := h.inv
    rw [toPys] at e
    split at e
    · rename_i p q hp hq
      cases e
      exact .cons (toPy_ok s h1 hp) (toPys_ok s h2 hq)
    · cases e
end
def oEqP (neg : Bool) : DO := fun d e Φ => ∃ p q, toPy d = some p ∧ toPy e = some q ∧ SeqAt.shaped p = true ∧ SeqAt.shaped q = true ∧ Φ (.bl (if neg then !PyData.eqv p q else PyData.eqv p q))
theorem ro_eqD : RO K ps (rEqD K) (oEqP false) := by
  intro b σ H F ρ x y d e Φ Q R h1 h2 hT k
  obtain ⟨p, q, e1, e2, s1, s2, hT⟩ := hT
  exact ⟨p, q, toPy_ok R.sub h1 e1, toPy_ok R.sub h2 e2, s1, s2, k _ H F _ (Same.refl F) R (.bl _) hT⟩
theorem ro_neD : RO K ps (rNeD K) (oEqP true) := by
  intro b σ H F ρ x y d e Φ Q R h1 h2 hT k
  obtain ⟨p, q, e1, e2, s1, s2, hT⟩ := hT
  exact ⟨p, q, toPy_ok R.sub h1 e1, toPy_ok R.sub h2 e2, s1, s2, k _ H F _ (Same.refl F) R (.bl _) hT⟩
end
@[simp] theorem oListD_ (ks : List (Key × D)) (Φ : List D → Prop) : oListD [.dct ks] Φ = Φ (ks.map fun kv => kyD kv.1) := Eq.trans rfl rfl
@[simp] theorem oSortD_ (ks : List (Key × D)) (Φ : List D → Prop) : oSortD [.dct ks] Φ = ∃ ss : List Str, ks.map (·.1) = ss.map Sum.inr ∧ ss.length < 64 ∧ ∀ ys : List Str, ys.Perm ss → sortedS ys = true → Φ (ys.map .str) := Eq.trans rfl rfl
@[simp] theorem dSortS_ (i : Nat) (ρ : DL.Env) (Φ : List D → DL.Env → Prop) : dSortS i ρ Φ = ∃ ks, peek ρ i = some (.dct ks) ∧ oSortD [.dct ks] fun l => Φ l ρ := Eq.trans rfl rfl
@[simp] theorem oEqP_ (neg : Bool) (d e : D) (Φ : D → Prop) : oEqP neg d e Φ = ∃ p q, toPy d = some p ∧ toPy e = some q ∧ SeqAt.shaped p = true ∧ SeqAt.shaped q = true ∧ Φ (.bl (if neg then !PyData.eqv p q else PyData.eqv p q)) := Eq.trans rfl rfl
theorem dc_inv {Ti : DLs} {G : DG} {Tt : DT} {Tk Tv : DE} {vs : List Nat} {ρ : DL.Env} {Φ : List (Key × D) → DL.Env → Prop} (ds : List D) (ρ1 : DL.Env) (W : Nat → List (Key × D) → DL.Env → Prop) (hI : ∀ Ψ : List D → DL.Env → Prop, Ψ ds ρ1 → Ti ρ Ψ) (h0 : W 0 [] (wipeD ρ1 vs))
    (hs : ∀ k x acc ρ, ds[k]? = some x → W k acc ρ → G x ρ fun ρ2 => Tt ρ2 fun c ρ3 => if c = true then Tk ρ3 fun y ρ4 => Tv ρ4 fun z ρ5 => ∃ key, keyD y = some key ∧ acc.length < sizeLine ∧ W (k + 1) (putD acc key z) (wipeD ρ5 vs) else W (k + 1) acc (wipeD ρ3 vs))
    (hd : ∀ acc ρ, W ds.length acc ρ → Φ acc (restore ρ ρ1 vs)) : dDc Ti G Tt Tk Tv vs ρ Φ := hI _ ⟨W, h0, hs, hd⟩
end DL
/-! The end of a law whose program makes lambdas. -/
namespace FE
open PySem PySem.Spec PyProof.Rows L2 DL
/-- of a def: its code object and the empty table of this -/
def TabAt (mg : Str → Option Value) (h : Heap) (x : Str) : Prop := ∃ a o fd c P, mg x = some (.ref a) ∧ h.get? a = some o ∧ o.data = .func fd ∧ fd.code = .ref c ∧ h.IsCode c P #[] ∧ h.TableAt c P #[]
theorem walk_tab {l : PySem.W.OpenLaw} {n k : Nat} {q : Program} {loose : List Str} {XP : (Str → Option Value) → Heap → Prop} {YP : World → Heap → Prop} {d : DefRec} {K : Params → PySem.W.Frag} {CX : World → CXT} {x : Str} (xs : List Str)
    (hn : l.most = some n) (hn2 : n ≤ sizeLine) (hdf : d.params.defaults = []) (hr : Room k callerA) (hx : (xs.all fun x => (recsOf q).any fun e => e.name == x) = true) (hY : ∀ (w : World) (h : Heap), YP w h → (K w.params).In h)
    (F : ∀ (w : World) (mg : Str → Option Value) (fa : Addr) (h : Heap), (K w.params).In h → h.Ns mainGlobals mg → mg d.name = some (.ref fa) → (∀ x ∈ xs, TabAt mg h x) → LamX.LawAtS l w (K w.params) (CX w) k n x mg fa h)
    (hCX : ∀ (w : World) (H : Hp) (s : Shared) (e : Value) (s' : Shared), CX w [] H s (fun _ _ _ => False) e s' → False) : PySem.W.WalkO q loose XP YP l.row.toRowW d [] (fun f vs => PySem.call f vs) := by
  refine Att.attach_callB hn hdf fun w s₀ s₁ mg mb fa o pm cd doc a vs ns G Y ho hd hcd hmg hobj hints hlen hbits hg => ?_
  have inK := hY w _ Y
  have tabs : ∀ x ∈ xs, TabAt mg s₁.heap x := fun x hm => by
    obtain ⟨r, r1, r2⟩ := List.any_eq_true.mp (List.all_eq_true.mp hx x hm)
    have t := G.T.tab r r1
    rw [beq_iff_eq.mp r2] at t
    exact t
  obtain ⟨fd, cs, sp, a1, a2, a3, a4, a5, a6⟩ := F w mg fa _ inK G.T.g hmg tabs
  exact LamX.law_callTs inK G.T.g G.T.b G.T.builtins G.T.nolimit hg a1 a2 a3 G.T.bmain hobj hints (Nat.le_trans hlen hn2) hr a6 a4 (fun H z1 z2 => a5 H a ns hlen hbits z1 z2) fun H e s' => hCX w H s₁ e s'
theorem tab_at {K : PySem.W.Frag} {h : Heap} {mg : Str → Option Value} {x : Str} {f c P : Addr} {oc e : Value} {od dd : Option Addr} {fd : FuncData} {sl sl' : Array (Option Value)} {vs : Array Value} (inK : K.In h) (hm : mg x = some (.ref f)) (lf : K.lookup f = some ⟨oc, od, .func fd, sl⟩) (hc : fd.code = .ref c)
    (lc : K.lookup c = some ⟨e, dd, .fields vs, sl'⟩) (hp : vs[11]? = some (.ref P)) (t : TabAt mg h x) : h.get? P = some { cls := .none, data := .fields #[] } ∧ PySem.W.CodeHd h c P := by
  obtain ⟨a, o, fd', c', P', t1, t2, t3, t4, t5, t6⟩ := t
  rw [hm] at t1
  cases t1
  rw [inK _ _ lf] at t2
  cases t2
  cases t3
  rw [hc] at t4
  cases t4
  have t6' := t6
  obtain ⟨⟨o, vs', u1, u2, u3, u4⟩, u5⟩ := t6
  rw [inK _ _ lc] at u1
  cases u1
  cases u3
  rw [hp] at u4
  cases u4
  exact ⟨u5, PySem.W.CodeHd.of t5 t6'⟩
theorem law_entry {K : PySem.W.Frag} {T0 : List (Addr × Str)} {sL : NB.SV} {a : Addr} {ns : List Int} {H : Hp} (hT : ∀ p ∈ T0, H p.1 = some (.tbl #[])) (hS : SqL K H a (ns.map V.int)) (hs : ∀ Φ : D → Prop, Φ (.bl true) → sL [.scr ns] Φ) :
    @spOf ⟨T0, fun _ => none⟩ K (pureS sL) [.ref a] H (fun v _ => v = .bl true) fun _ _ _ => False := by
  have core : ∀ F : Hp, Sub F H → (∀ b o, F b = some o → NT o) → SqL K F a (ns.map V.int) → @spOf ⟨T0, fun _ => none⟩ K (pureS sL) [.ref a] H (fun v _ => v = .bl true) fun _ _ _ => False := fun F sub nt hF => by
    refine ⟨F, [.d (.scr ns)], fun d _ => d = .bl true, ⟨sub, nt, fun p hp => LamX.TabS.nil (hT p hp), fun b o e => nomatch e⟩, ⟨rfl, fun i v o e1 e2 => ?_, fun i j o u v n e1 o1 => ?_⟩, ⟨[.scr ns], rfl, hs _ rfl⟩, fun F' H' v d os' _ _ _ _ _ _ _ hd hΦ => ?_⟩
    · match i, e1, e2 with
      | 0, e1, e2 =>
        cases e1
        cases e2
        exact Dr.scr hF
      | i + 1, e1, e2 => cases e1
    · match i, e1 with
      | 0, e1 => cases e1; cases o1
      | i + 1, e1 => cases e1
    · have hΦ : d = .bl true := hΦ
      subst hΦ
      exact hd.inv_bl
  have one : ∀ o, H a = some o → NT o → ∃ F : Hp, F a = some o ∧ Sub F H ∧ ∀ b o, F b = some o → NT o := fun o e nt => by
    have q : ∀ b u, (fun b => if b = a then some o else none) b = some u → b = a ∧ u = o := fun b u eu => by
      have eu : (if b = a then some o else none) = some u := eu
      split at eu
      · exact ⟨by assumption, (Option.some.inj eu).symm⟩
      · cases eu
    exact ⟨fun b => if b = a then some o else none, if_pos rfl, fun b u eu => by rw [(q b u eu).1, (q b u eu).2]; exact e, fun b u eu => by rw [(q b u eu).2]; exact nt⟩
  rcases hS with (h | ⟨o, h⟩) | h
  · obtain ⟨F, f1, f2, f3⟩ := one _ h (fun t z => by cases z)
    exact core F f2 f3 (.inl (.inl f1))
  · obtain ⟨F, f1, f2, f3⟩ := one _ h (fun t z => by cases z)
    exact core F f2 f3 (.inl (.inr ⟨o, f1⟩))
  · exact core (fun _ => none) (fun b o e => nomatch e) (fun b o e => nomatch e) (.inr h)
end FE
/-! A layer with cells: slots hold data, which may tell of a cell by its address; a cell is a list, a dict, an object, a draw that may change. Part 1. -/
namespace HC
open PySem PySem.Spec PyProof.Rows L2 DL
inductive Cell where
  | l (ds : List D) | m (ks : List (Key × D)) | o (C : Addr) (fs : List (Str × D)) | draw | z (d : D)
abbrev Cells := List (Addr × Cell)
def look : Cells → Addr → Option Cell
  | [], _ => none
  | (q, c) :: M, p => if q = p then some c else look M p
def put : Cells → Addr → Cell → Cells
  | [], _, _ => []
  | (q, c) :: M, p, x => if q = p then (q, x) :: M else (q, c) :: put M p x
theorem look_put {p : Addr} {x : Cell} : ∀ {M : Cells} {a : Addr}, look M p ≠ none → look (put M p x) a = if a = p then some x else look M a
  | [], a, h => absurd rfl h
  | (q, c) :: M, a, h => by
    unfold look at h
    unfold put
    by_cases hq : q = p
    · rw [if_pos hq]
      unfold look
      by_cases ha : q = a
      · rw [if_pos ha, if_pos (ha.symm.trans hq)]
      · rw [if_neg ha, if_neg (fun z => ha (hq.trans z.symm)), if_neg ha]
    · rw [if_neg hq] at h
      rw [if_neg hq]
      unfold look
      by_cases ha : q = a
      · rw [if_pos ha, if_neg (fun z => hq (ha.trans z)), if_pos ha]
      · rw [if_neg ha, if_neg ha]
        exact look_put h
theorem put_none {p : Addr} {x : Cell} : ∀ {M : Cells} {a : Addr}, look (put M p x) a = none ↔ look M a = none
  | [], a => Iff.rfl
  | (q, c) :: M, a => by
    unfold put
    by_cases hq : q = p
    · rw [if_pos hq]
      unfold look
      by_cases ha : q = a
      · rw [if_pos ha, if_pos ha]
        exact ⟨fun z => (by cases z), fun z => (by cases z)⟩
      · rw [if_neg ha, if_neg ha]
    · rw [if_neg hq]
      unfold look
      by_cases ha : q = a
      · rw [if_pos ha, if_pos ha]
      · rw [if_neg ha, if_neg ha]
        exact put_none
/-- the cell c stands at p -/
def At (K : PySem.W.Frag) (F H : Hp) (p : Addr) : Cell → Prop
  | .l ds => F p = none ∧ ∃ xs, H p = some (.lst xs) ∧ DA K F xs ds
  | .m ks => F p = none ∧ ∃ xs, H p = some (.dK xs) ∧ DM K F xs ks
  | .o C fs => F p = none ∧ ∃ dx xs, H p = some (.ins C dx xs) ∧ DM K F xs fs
  | .draw => F p = none ∧ DrawIn F H p
  | .z d => Dr K F (.ref p) d ∧ ∃ u, F p = some u
structure Bs where
  H0 : Hp
  F0 : Hp
  O : Addr → Prop
abbrev Env := List (Option D)
structure Rep [Tbs] (K : PySem.W.Frag) (b : Bs) (σ : L2.St) (H F : Hp) (ρ : Env) (M : Cells) : Prop where
  sub : ∀ a o, F a = some o → H a = some o
  grow : Gr b.F0 F
  keep : ∀ a o, b.H0 a = some o → ¬ b.O a → NT o → H a = some o
  new : ∀ a o, F a = some o → b.F0 a = some o ∨ b.H0 a = none ∨ b.O a
  slot : ∀ (i : Nat) d, ρ[i]? = some (some d) → ∃ v, σ[i]? = some (some v) ∧ Dr K F v d
  cell : ∀ p c, look M p = some c → At K F H p c ∧ (b.H0 p = none ∨ b.O p)
  len : ρ.length = σ.length
  nt : ∀ a o, F a = some o → NT o
  dom : ∀ a o, b.H0 a = some o → ∃ o', H a = some o'
  tabs : LamX.Tabs Tbs.T H
theorem At.kind {K : PySem.W.Frag} {F H : Hp} {p : Addr} {c : Cell} (h : At K F H p c) (s : ∀ a o, F a = some o → H a = some o) (n : ∀ a o, F a = some o → NT o) : ∃ u, H p = some u ∧ NT u := by
  cases c with
  | l ds => obtain ⟨_, xs, e, _⟩ := h; exact ⟨_, e, by intro t z; cases z⟩
  | m ks => obtain ⟨_, xs, e, _⟩ := h; exact ⟨_, e, by intro t z; cases z⟩
  | o C fs => obtain ⟨_, dx, xs, e, _⟩ := h; exact ⟨_, e, by intro t z; cases z⟩
  | draw => obtain ⟨_, _, _, _, _, _, e, _⟩ := h; exact ⟨_, e, by intro t z; cases z⟩
  | z d => obtain ⟨_, u, e⟩ := h; exact ⟨_, s _ _ e, n _ _ e⟩
theorem At.up {K : PySem.W.Frag} {F H F' H' : Hp} {p : Addr} {c : Cell} (h : At K F H p c) (s : Same F F') (e : H' p = H p) (hF : F p = none → F' p = none) : At K F' H' p c := by
  cases c with
  | l ds => obtain ⟨h0, xs, h1, h2⟩ := h; exact ⟨hF h0, xs, e.trans h1, h2.up s⟩
  | m ks => obtain ⟨h0, xs, h1, h2⟩ := h; exact ⟨hF h0, xs, e.trans h1, h2.up s⟩
  | o C fs => obtain ⟨h0, dx, xs, h1, h2⟩ := h; exact ⟨hF h0, dx, xs, e.trans h1, h2.up s⟩
  | draw => obtain ⟨h0, sc, ns, i, x, y, h1, h2, h3⟩ := h; exact ⟨hF h0, sc, ns, i, x, y, e.trans h1, s _ _ h2, h3⟩
  | z d => obtain ⟨h1, u, h2⟩ := h; exact ⟨h1.up s, u, s _ _ h2⟩
theorem ins_nc (C x : Addr) (xs : List (Str × V)) (c : Addr) (q : Str) : HO.ins C x xs ≠ LamX.CodeO c q := fun z => by
  unfold LamX.CodeO at z
  cases z
section
variable [Tbs] {K : PySem.W.Frag} {b : Bs} {σ : L2.St} {H F : Hp} {ρ : Env} {M : Cells}
theorem Rep.fresh (R : Rep K b σ H F ρ M) {p : Addr} (h : H p = none) : F p = none ∧ b.H0 p = none ∧ look M p = none := by
  refine ⟨?_, ?_, ?_⟩
  · cases e : F p with
    | none => rfl
    | some o => rw [R.sub _ _ e] at h; cases h
  · cases e : b.H0 p with
    | none => rfl
    | some o => obtain ⟨o', e'⟩ := R.dom _ _ e; rw [e'] at h; cases h
  · cases e : look M p with
    | none => rfl
    | some c =>
      obtain ⟨u, eu, _⟩ := (R.cell p c e).1.kind R.sub R.nt
      rw [h] at eu
      cases eu
/-- the heap has grown; the kept part too, by new things; all that is no table stays -/
theorem Rep.grownT {H' F' : Hp} (R : Rep K b σ H F ρ M) (hs : ∀ a o, H a = some o → NT o → H' a = some o) (th : ∀ a o, H a = some o → ∃ o', H' a = some o') (fs : Same F F') (sub : ∀ a o, F' a = some o → H' a = some o) (new : ∀ a o, F' a = some o → F a = some o ∨ H a = none) (nn : ∀ a o, F' a = some o → NT o) (tb : LamX.Tabs Tbs.T H') : Rep K b σ H' F' ρ M where
  sub := sub
  grow := R.grow.trans fs
  keep := fun a o e n z => hs _ _ (R.keep a o e n z) z
  new := fun a o e => by
    rcases new a o e with h | h
    · exact R.new a o h
    · exact .inr (.inl (R.fresh h).2.1)
  slot := fun i d e => by
    obtain ⟨v, h1, h2⟩ := R.slot i d e
    exact ⟨v, h1, h2.up fs⟩
  cell := fun p c e => by
    obtain ⟨h1, h2⟩ := R.cell p c e
    obtain ⟨u, eu, nu⟩ := h1.kind R.sub R.nt
    refine ⟨h1.up fs ((hs _ _ eu nu).trans eu.symm) fun hF => ?_, h2⟩
    cases e' : F' p with
    | none => rfl
    | some o' =>
      rcases new p o' e' with h | h
      · rw [hF] at h; cases h
      · rw [eu] at h; cases h
  len := R.len
  nt := nn
  dom := fun a o e => by
    obtain ⟨o', e'⟩ := R.dom a o e
    exact th _ _ e'
  tabs := tb
theorem Rep.grown {H' F' : Hp} (R : Rep K b σ H F ρ M) (hs : Same H H') (fs : Same F F') (sub : ∀ a o, F' a = some o → H' a = some o) (new : ∀ a o, F' a = some o → F a = some o ∨ H a = none) (nn : ∀ a o, F' a = some o → F a = some o ∨ NT o) : Rep K b σ H' F' ρ M :=
  R.grownT (fun a o e _ => hs _ _ e) (fun a o e => ⟨o, hs _ _ e⟩) fs sub new (fun a o e => (nn a o e).elim (R.nt a o) id) (R.tabs.ext hs)
theorem Rep.alloc (R : Rep K b σ H F ρ M) {p : Addr} {o : HO} (h : H p = none) (hn : NT o := by intro t z; cases z) : Rep K b σ (upd H p o) (upd F p o) ρ M := by
  obtain ⟨hF, _, _⟩ := R.fresh h
  refine R.grown (SX.same_upd h) (SX.same_upd hF) (fun a u e => ?_) (fun a u e => ?_) fun a u e => ?_
  · by_cases ha : a = p
    · subst ha; rw [upd_same] at e ⊢; exact e
    · rw [upd_ne ha] at e ⊢; exact R.sub _ _ e
  · by_cases ha : a = p
    · subst ha; exact .inr h
    · rw [upd_ne ha] at e; exact .inl e
  · by_cases ha : a = p
    · subst ha; rw [upd_same] at e; cases e; exact .inr hn
    · rw [upd_ne ha] at e; exact .inl e
theorem Rep.lay (R : Rep K b σ H F ρ M) {p : Addr} {o : HO} (h : H p = none) : Rep K b σ (upd H p o) F ρ M := by
  obtain ⟨hF, _, _⟩ := R.fresh h
  refine R.grown (SX.same_upd h) (Same.refl F) (fun a u e => ?_) (fun a u e => .inl e) fun a u e => .inl e
  rw [upd_ne (fun z => by rw [z, hF] at e; cases e)]
  exact R.sub _ _ e
def Loose (b : Bs) (F : Hp) (M : Cells) (p : Addr) : Prop := F p = none ∧ b.H0 p = none ∧ look M p = none
theorem Rep.loose (R : Rep K b σ H F ρ M) {p : Addr} (h : H p = none) : Loose b F M p := R.fresh h
/-- fewer cells, fewer slots -/
theorem Rep.weak {ρ' : Env} {M' : Cells} (R : Rep K b σ H F ρ M) (hl : ρ'.length = ρ.length) (h : ∀ (i : Nat) o, ρ'[i]? = some (some o) → ρ[i]? = some (some o)) (hM : ∀ p c, look M' p = some c → look M p = some c) : Rep K b σ H F ρ' M' :=
  ⟨R.sub, R.grow, R.keep, R.new, fun i o e => R.slot i o (h i o e), fun p c e => R.cell p c (hM p c e), hl.trans R.len, R.nt, R.dom, R.tabs⟩
theorem Rep.setD (R : Rep K b σ H F ρ M) {i : Nat} {v : V} {d : D} (h : Dr K F v d) : Rep K b (σ.set i (some v)) H F (ρ.set i (some d)) M where
  sub := R.sub
  grow := R.grow
  keep := R.keep
  new := R.new
  nt := R.nt
  dom := R.dom
  tabs := R.tabs
  cell := R.cell
  len := by rw [List.length_set, List.length_set, R.len]
  slot := fun j o e => by
    rcases set_some e with ⟨rfl, q1⟩ | ⟨n, q1⟩
    · cases q1
      have hl : j < σ.length := by
        have := (List.getElem?_eq_some_iff.mp e).1
        rwa [List.length_set, R.len] at this
      exact ⟨v, List.getElem?_set_self hl, h⟩
    · rw [List.getElem?_set_ne (Ne.symm n)]
      exact R.slot j o q1
/-- a loose thing becomes a cell -/
theorem Rep.add (R : Rep K b σ H F ρ M) {p : Addr} {c : Cell} (lo : Loose b F M p) (h : At K F H p c) : Rep K b σ H F ρ ((p, c) :: M) where
  sub := R.sub
  grow := R.grow
  keep := R.keep
  new := R.new
  nt := R.nt
  dom := R.dom
  tabs := R.tabs
  slot := R.slot
  len := R.len
  cell := fun q x e => by
    unfold look at e
    by_cases hq : p = q
    · rw [if_pos hq] at e
      cases e
      subst hq
      exact ⟨h, .inl lo.2.1⟩
    · rw [if_neg hq] at e
      exact R.cell q x e
/-- a loose thing is kept for good -/
theorem Rep.frzLoose (R : Rep K b σ H F ρ M) {p : Addr} {u : HO} (lo : Loose b F M p) (hx : H p = some u) (hn : NT u := by intro t z; cases z) : Same F (upd F p u) ∧ Rep K b σ H (upd F p u) ρ M := by
  have sF : Same F (upd F p u) := SX.same_upd lo.1
  refine ⟨sF, ⟨fun a w e1 => ?_, R.grow.trans sF, R.keep, fun a w e1 => ?_, fun j d e1 => ?_, fun q c e1 => ?_, R.len, nt_upd R.nt hn, R.dom, R.tabs⟩⟩
  · by_cases ha : a = p
    · subst ha; rw [upd_same] at e1; cases e1; exact hx
    · rw [upd_ne ha] at e1; exact R.sub _ _ e1
  · by_cases ha : a = p
    · subst ha; exact .inr (.inl lo.2.1)
    · rw [upd_ne ha] at e1; exact R.new _ _ e1
  · obtain ⟨v, g1, g2⟩ := R.slot j d e1
    exact ⟨v, g1, g2.up sF⟩
  · obtain ⟨h1, h2⟩ := R.cell q c e1
    have nq : q ≠ p := fun z => by rw [z, lo.2.2] at e1; cases e1
    exact ⟨h1.up sF rfl fun hF => by rw [upd_ne nq]; exact hF, h2⟩
/-- a cell is written -/
theorem Rep.write (R : Rep K b σ H F ρ M) {p : Addr} {c c' : Cell} {u u0 : HO} (e : look M p = some c) (hF : F p = none) (eu0 : H p = some u0) (n0 : NT u0) (c0 : ∀ x q, u0 ≠ LamX.CodeO x q) (h : At K F (upd H p u) p c') : Rep K b σ (upd H p u) F ρ (put M p c') := by
  have hb := (R.cell p c e).2
  have hne : look M p ≠ none := by rw [e]; exact fun z => (by cases z)
  refine ⟨fun a w e1 => ?_, R.grow, fun a w e1 n1 nz => ?_, R.new, R.slot, fun q x e1 => ?_, R.len, R.nt, fun a w e1 => ?_, tabs_but R.tabs eu0 n0 c0 fun a w na e1 => (upd_ne na).trans e1⟩
  · rw [upd_ne (fun z => by rw [z, hF] at e1; cases e1)]
    exact R.sub _ _ e1
  · by_cases ha : a = p
    · subst ha
      rcases hb with z | z
      · rw [z] at e1; cases e1
      · exact absurd z n1
    · rw [upd_ne ha]
      exact R.keep _ _ e1 n1 nz
  · rw [look_put hne] at e1
    by_cases hq : q = p
    · subst hq
      rw [if_pos rfl] at e1
      cases e1
      exact ⟨h, hb⟩
    · rw [if_neg hq] at e1
      obtain ⟨h1, h2⟩ := R.cell q x e1
      exact ⟨h1.up (Same.refl F) (upd_ne hq) id, h2⟩
  · by_cases ha : a = p
    · subst ha; exact ⟨_, upd_same⟩
    · rw [upd_ne ha]; exact R.dom _ _ e1
/-- a cell is kept for good -/
theorem Rep.frz (R : Rep K b σ H F ρ M) {p : Addr} {c : Cell} {u : HO} {d : D} (e : look M p = some c) (hF : F p = none) (eu : H p = some u) (nu : NT u) (hd : Dr K (upd F p u) (.ref p) d) : Same F (upd F p u) ∧ Rep K b σ H (upd F p u) ρ (put M p (.z d)) := by
  have sF : Same F (upd F p u) := SX.same_upd hF
  have hb := (R.cell p c e).2
  have hne : look M p ≠ none := by rw [e]; exact fun z => (by cases z)
  refine ⟨sF, ⟨fun a w e1 => ?_, R.grow.trans sF, R.keep, fun a w e1 => ?_, fun j d e1 => ?_, fun q x e1 => ?_, R.len, nt_upd R.nt nu, R.dom, R.tabs⟩⟩
  · by_cases ha : a = p
    · subst ha; rw [upd_same] at e1; cases e1; exact eu
    · rw [upd_ne ha] at e1; exact R.sub _ _ e1
  · by_cases ha : a = p
    · subst ha; exact .inr hb
    · rw [upd_ne ha] at e1; exact R.new _ _ e1
  · obtain ⟨v, g1, g2⟩ := R.slot j d e1
    exact ⟨v, g1, g2.up sF⟩
  · rw [look_put hne] at e1
    by_cases hq : q = p
    · subst hq
      rw [if_pos rfl] at e1
      cases e1
      exact ⟨⟨hd, u, upd_same⟩, hb⟩
    · rw [if_neg hq] at e1
      obtain ⟨h1, h2⟩ := R.cell q x e1
      exact ⟨h1.up sF rfl fun hF => by rw [upd_ne hq]; exact hF, h2⟩
/-- a loose thing is changed -/
theorem Rep.poke (R : Rep K b σ H F ρ M) {p : Addr} {o u : HO} (lo : Loose b F M p) (e : H p = some u) (hz : NT u := by intro t z; cases z) (hc : ∀ c q, u ≠ LamX.CodeO c q := by first | exact lst_nc _ | exact dK_nc _ | exact ins_nc _ _ _) : Rep K b σ (upd H p o) F ρ M where
  sub := fun a w e1 => by
    rw [upd_ne (fun z => by rw [z, lo.1] at e1; cases e1)]
    exact R.sub a w e1
  grow := R.grow
  nt := R.nt
  dom := fun a w e1 => by
    rw [upd_ne (fun z => by rw [z, lo.2.1] at e1; cases e1)]
    exact R.dom a w e1
  tabs := tabs_but R.tabs e hz hc fun a w na e1 => by rw [upd_ne na]; exact e1
  keep := fun a w e1 n nz => by
    rw [upd_ne (fun z => by rw [z, lo.2.1] at e1; cases e1)]
    exact R.keep a w e1 n nz
  new := R.new
  slot := R.slot
  len := R.len
  cell := fun q c e1 => by
    obtain ⟨h1, h2⟩ := R.cell q c e1
    have nq : q ≠ p := fun z => by rw [z, lo.2.2] at e1; cases e1
    exact ⟨h1.up (Same.refl F) (upd_ne nq) id, h2⟩
/-! ### the layer without cells -/
abbrev ob (H F : Hp) : DL.Bs := ⟨H, F, [], fun _ => False⟩
theorem Rep.old (R : Rep K b σ H F ρ M) : DL.Rep K [] (ob H F) σ H F (List.replicate σ.length none) := by
  have nn : ∀ (i : Nat) (o : OV), (List.replicate σ.length (none : Option OV))[i]? ≠ some (some o) := fun i o e => by
    have := List.mem_of_getElem? e
    rw [List.mem_replicate] at this
    cases this.2
  exact ⟨R.sub, ⟨Same.refl F, R.grow.b⟩, fun a o e _ _ => e, fun a z => z.elim, fun a o e => .inl e, fun i o e => absurd e (nn i o), fun i j o u v n e => absurd e (nn i o), List.length_replicate, fun i h => (nomatch h), R.nt, fun a o e => ⟨o, e⟩, R.tabs⟩
theorem Rep.oldBack {σ' : L2.St} {H' F' : Hp} {ρ' : DL.Env} (R : Rep K b σ H F ρ M) (R' : DL.Rep K [] (ob H F) σ' H' F' ρ') (s : Same F F') : Rep K b σ H' F' ρ M :=
  R.grownT (fun a o e nz => R'.keep a o e (fun z => z) nz) (fun a o e => R'.dom a o e) s R'.sub (fun a o e => (R'.new a o e).elim .inl fun z => z.elim .inr False.elim) R'.nt R'.tabs
/-! ### what has happened since here -/
def here (H F : Hp) (M : Cells) : Bs := ⟨H, F, fun a => look M a ≠ none⟩
theorem Rep.here (R : Rep K b σ H F ρ M) : Rep K (here H F M) σ H F ρ M :=
  ⟨R.sub, ⟨Same.refl F, R.grow.b⟩, fun a o e _ _ => e, fun a o e => .inl e, R.slot, fun p c e => ⟨(R.cell p c e).1, .inr (show look M p ≠ none by rw [e]; exact fun z => (by cases z))⟩, R.len, R.nt, fun a o e => ⟨o, e⟩, R.tabs⟩
theorem Rep.cellOf (R : Rep K b σ H F ρ M) {p : Addr} (h : look M p ≠ none) : (b.H0 p = none ∨ b.O p) ∧ ∃ u, H p = some u ∧ NT u := by
  cases e : look M p with
  | none => exact absurd e h
  | some c => exact ⟨(R.cell p c e).2, (R.cell p c e).1.kind R.sub R.nt⟩
theorem Rep.back {σ' : L2.St} {H' F' : Hp} {ρ' : Env} {M' : Cells} (R : Rep K b σ H F ρ M) (R' : Rep K (HC.here H F M) σ' H' F' ρ' M') : Rep K b σ' H' F' ρ' M' where
  sub := R'.sub
  grow := R.grow.trans R'.grow.a
  nt := R'.nt
  dom := fun a o e => by
    obtain ⟨o1, e1⟩ := R.dom a o e
    exact R'.dom a o1 e1
  tabs := R'.tabs
  keep := fun a o e n nz => by
    refine R'.keep a o (R.keep a o e n nz) (fun z => ?_) nz
    rcases (R.cellOf z).1 with h | h
    · rw [h] at e; cases e
    · exact n h
  new := fun a o e => by
    rcases R'.new a o e with h | h | h
    · exact R.new a o h
    · exact .inr (.inl (R.fresh h).2.1)
    · exact .inr (R.cellOf h).1
  slot := R'.slot
  len := R'.len
  cell := fun p c e => by
    obtain ⟨h1, h2⟩ := R'.cell p c e
    refine ⟨h1, ?_⟩
    rcases h2 with h | h
    · exact .inl (R.fresh h).2.1
    · exact (R.cellOf h).1
structure Fr (M : Cells) (H F H' F' : Hp) (M' : Cells) : Prop where
  keep : ∀ a o, H a = some o → look M a = none → NT o → H' a = some o
  new : ∀ a o, F' a = some o → F a = some o ∨ H a = none ∨ look M a ≠ none
  cells : ∀ a, look M' a ≠ none → look M a ≠ none ∨ H a = none
theorem Rep.fr {σ' : L2.St} {H' F' : Hp} {ρ' : Env} {M' : Cells} (R' : Rep K (HC.here H F M) σ' H' F' ρ' M') : Fr M H F H' F' M' :=
  ⟨fun a o e n nz => R'.keep a o e (fun z => z n) nz, R'.new, fun a h => (R'.cellOf h).1.symm⟩
/-- a loose thing stays loose, as it was -/
theorem Fr.loose {H' F' : Hp} {M' : Cells} (f : Fr M H F H' F' M') {p : Addr} {o : HO} (lo : Loose b F M p) (e : H p = some o) (hz : NT o := by intro t z; cases z) : H' p = some o ∧ Loose b F' M' p := by
  refine ⟨f.keep p o e lo.2.2 hz, ?_, lo.2.1, ?_⟩
  · cases q : F' p with
    | none => rfl
    | some u =>
      rcases f.new p u q with h | h | h
      · rw [lo.1] at h; cases h
      · rw [e] at h; cases h
      · exact absurd lo.2.2 h
  · cases q : look M' p with
    | none => rfl
    | some c =>
      rcases f.cells p (by rw [q]; exact fun z => (by cases z)) with h | h
      · exact absurd lo.2.2 h
      · rw [e] at h; cases h
theorem Fr.refl (R : Rep K b σ H F ρ M) : Fr M H F H F M := ⟨fun _ _ e _ _ => e, fun _ _ e => .inl e, fun _ h => .inl h⟩
theorem loose_back {p : Addr} {F' : Hp} {M' : Cells} (R : Rep K b σ H F ρ M) (h : Loose (HC.here H F M) F' M' p) : Loose b F' M' p := ⟨h.1, (R.fresh h.2.1).2.1, h.2.2⟩
end
end HC
/-! Part 2: what expressions come to. -/
namespace HC
open PySem PySem.Spec PyProof.Rows L2 DL
abbrev CE := HC.Env → Cells → (D → Cells → Prop) → Prop
abbrev CLs := HC.Env → Cells → (List D → Cells → Prop) → Prop
abbrev CDs := HC.Env → Cells → (List (Key × D) → Cells → Prop) → Prop
abbrev CTt := HC.Env → Cells → (Bool → Cells → Prop) → Prop
def lstOf (M : Cells) : D → Option (List D)
  | .lst l => some l
  | .fn p => match look M p with
    | some (.l ds) => some ds
    | some (.z (.lst ds)) => some ds
    | _ => none
  | _ => none
def dctOf (M : Cells) : D → Option (List (Key × D))
  | .dct l => some l
  | .fn p => match look M p with
    | some (.m ds) => some ds
    | some (.z (.dct ds)) => some ds
    | _ => none
  | _ => none
def objOf (M : Cells) : D → Option (Addr × List (Str × D))
  | .obj C l => some (C, l)
  | .fn p => match look M p with
    | some (.o C ds) => some (C, ds)
    | some (.z (.obj C ds)) => some (C, ds)
    | _ => none
  | _ => none
/-- lists, tuples -/
def seqOf (M : Cells) : D → Option (List D)
  | .tup l => some l
  | d => lstOf M d
section
variable [Tbs] {K : PySem.W.Frag} {b : HC.Bs} {σ : L2.St} {H F : Hp} {ρ : HC.Env} {M : Cells}
theorem lst_at (R : Rep K b σ H F ρ M) {v : V} {d : D} {ds : List D} (h : Dr K F v d) (e : lstOf M d = some ds) : ∃ a xs, v = .ref a ∧ H a = some (.lst xs) ∧ DA K F xs ds := by
  cases d with
  | lst l =>
    cases e
    obtain ⟨a, xs, rfl, e1, e2⟩ := h.inv_lst
    exact ⟨a, xs, rfl, R.sub _ _ e1, e2⟩
  | fn p =>
    have hv := h.inv_fn
    subst hv
    unfold lstOf at e
    cases q : look M p with
    | none => simp only [q] at e; cases e
    | some c =>
      have hc := (R.cell p c q).1
      cases c with
      | l ds' =>
        simp only [q] at e
        cases e
        obtain ⟨_, xs, e1, e2⟩ := hc
        exact ⟨p, xs, rfl, e1, e2⟩
      | z d' =>
        cases d' with
        | lst l =>
          simp only [q] at e
          cases e
          obtain ⟨a, xs, e0, e1, e2⟩ := hc.1.inv_lst
          cases e0
          exact ⟨p, xs, rfl, R.sub _ _ e1, e2⟩
        | _ => simp only [q] at e; cases e
      | _ => simp only [q] at e; cases e
  | _ => cases e
theorem dct_at (R : Rep K b σ H F ρ M) {v : V} {d : D} {ds : List (Key × D)} (h : Dr K F v d) (e : dctOf M d = some ds) : ∃ a xs, v = .ref a ∧ H a = some (.dK xs) ∧ DM K F xs ds := by
  cases d with
  | dct l =>
    cases e
    obtain ⟨a, xs, rfl, e1, e2⟩ := h.inv_dct
    exact ⟨a, xs, rfl, R.sub _ _ e1, e2⟩
  | fn p =>
    have hv := h.inv_fn
    subst hv
    unfold dctOf at e
    cases q : look M p with
    | none => simp only [q] at e; cases e
    | some c =>
      have hc := (R.cell p c q).1
      cases c with
      | m ds' =>
        simp only [q] at e
        cases e
        obtain ⟨_, xs, e1, e2⟩ := hc
        exact ⟨p, xs, rfl, e1, e2⟩
      | z d' =>
        cases d' with
        | dct l =>
          simp only [q] at e
          cases e
          obtain ⟨a, xs, e0, e1, e2⟩ := hc.1.inv_dct
          cases e0
          exact ⟨p, xs, rfl, R.sub _ _ e1, e2⟩
        | _ => simp only [q] at e; cases e
      | _ => simp only [q] at e; cases e
  | _ => cases e
theorem obj_at (R : Rep K b σ H F ρ M) {v : V} {d : D} {C : Addr} {ds : List (Str × D)} (h : Dr K F v d) (e : objOf M d = some (C, ds)) : ∃ a dx xs, v = .ref a ∧ H a = some (.ins C dx xs) ∧ DM K F xs ds := by
  cases d with
  | obj C' l =>
    cases e
    obtain ⟨a, dx, xs, rfl, e1, e2⟩ := h.inv_obj
    exact ⟨a, dx, xs, rfl, R.sub _ _ e1, e2⟩
  | fn p =>
    have hv := h.inv_fn
    subst hv
    unfold objOf at e
    cases q : look M p with
    | none => simp only [q] at e; cases e
    | some c =>
      have hc := (R.cell p c q).1
      cases c with
      | o C' ds' =>
        simp only [q] at e
        cases e
        obtain ⟨_, dx, xs, e1, e2⟩ := hc
        exact ⟨p, dx, xs, rfl, e1, e2⟩
      | z d' =>
        cases d' with
        | obj C' l =>
          simp only [q] at e
          cases e
          obtain ⟨a, dx, xs, e0, e1, e2⟩ := hc.1.inv_obj
          cases e0
          exact ⟨p, dx, xs, rfl, R.sub _ _ e1, e2⟩
        | _ => simp only [q] at e; cases e
      | _ => simp only [q] at e; cases e
  | _ => cases e
theorem seq_at (R : Rep K b σ H F ρ M) {v : V} {d : D} {ds : List D} (h : Dr K F v d) (e : seqOf M d = some ds) : ∃ a xs, v = .ref a ∧ (SqL K H a xs ∨ SqT K H a xs) ∧ DA K F xs ds := by
  by_cases hd : ∃ l, d = .tup l
  · obtain ⟨l, rfl⟩ := hd
    cases e
    obtain ⟨a, xs, rfl, e1, e2⟩ := h.inv_tup
    exact ⟨a, xs, rfl, .inr (sqT_same R.sub e1), e2⟩
  · have e' : lstOf M d = some ds := by
      cases d with
      | tup l => exact absurd ⟨l, rfl⟩ hd
      | _ => exact e
    obtain ⟨a, xs, h1, h2, h3⟩ := lst_at R h e'
    exact ⟨a, xs, h1, .inl (SqL.of h2), h3⟩
end
section
variable [Tbs] (K : PySem.W.Frag)
def XE (t : TE) (T : CE) : Prop := ∀ (b : HC.Bs) (σ : L2.St) (H F : Hp) (ρ : HC.Env) (M : Cells) (Φ : D → Cells → Prop) (Q : VK), Rep K b σ H F ρ M → T ρ M Φ →
  (∀ v H' F' M' d, Same F F' → Rep K b σ H' F' ρ M' → Dr K F' v d → Φ d M' → Q v H') → t σ H Q
def XL (t : TE) (T : CLs) : Prop := ∀ (b : HC.Bs) (σ : L2.St) (H F : Hp) (ρ : HC.Env) (M : Cells) (Φ : List D → Cells → Prop) (Q : VK), Rep K b σ H F ρ M → T ρ M Φ →
  (∀ p xs H' F' M' ds, Same F F' → Rep K b σ H' F' ρ M' → Loose b F' M' p → H' p = some (.lst xs) → DA K F' xs ds → Φ ds M' → Q (.ref p) H') → t σ H Q
def XD (t : TE) (T : CDs) : Prop := ∀ (b : HC.Bs) (σ : L2.St) (H F : Hp) (ρ : HC.Env) (M : Cells) (Φ : List (Key × D) → Cells → Prop) (Q : VK), Rep K b σ H F ρ M → T ρ M Φ →
  (∀ p xs H' F' M' ds, Same F F' → Rep K b σ H' F' ρ M' → Loose b F' M' p → H' p = some (.dK xs) → DM K F' xs ds → Φ ds M' → Q (.ref p) H') → t σ H Q
def XT (t : TT) (T : CTt) : Prop := ∀ (b : HC.Bs) (σ : L2.St) (H F : Hp) (ρ : HC.Env) (M : Cells) (Φ : Bool → Cells → Prop) (Q : Bool → Hp → Prop), Rep K b σ H F ρ M → T ρ M Φ →
  (∀ c H' F' M', Same F F' → Rep K b σ H' F' ρ M' → Φ c M' → Q c H') → t σ H Q
def XV (t : TA) (T : CLs) : Prop := ∀ (b : HC.Bs) (σ : L2.St) (H F : Hp) (ρ : HC.Env) (M : Cells) (Φ : List D → Cells → Prop) (Q : List V → Hp → Prop), Rep K b σ H F ρ M → T ρ M Φ →
  (∀ vs H' F' M' ds, Same F F' → Rep K b σ H' F' ρ M' → DA K F' vs ds → Φ ds M' → Q vs H') → t σ H Q
end
section
variable [Tbs] {K : PySem.W.Frag}
/-! ### names, constants, freezing -/
def cRaw (i : Nat) : CE := fun ρ M Φ => ∃ d, ρ[i]? = some (some d) ∧ Φ d M
theorem xe_raw (i : Nat) : XE K (tVar i) (cRaw i) := by
  intro b σ H F ρ M Φ Q R h k
  obtain ⟨d, e, h⟩ := h
  obtain ⟨v, h1, h2⟩ := R.slot i d e
  exact ⟨v, h1, k v H F M d (Same.refl F) R h2 h⟩
def frzG (M : Cells) (d : D) (Φ : D → Cells → Prop) : Prop := match d with
  | .fn p => match look M p with
    | some (.l ds) => Φ (.lst ds) (put M p (.z (.lst ds)))
    | some (.m ks) => Φ (.dct ks) (put M p (.z (.dct ks)))
    | some (.o C fs) => Φ (.obj C fs) (put M p (.z (.obj C fs)))
    | some (.z d) => Φ d M
    | _ => Φ d M
  | d => Φ d M
theorem frz_ok {b : HC.Bs} {σ : L2.St} {H F : Hp} {ρ : HC.Env} {M : Cells} {v : V} {d : D} {Φ : D → Cells → Prop} (R : Rep K b σ H F ρ M) (hd : Dr K F v d) (h : frzG M d Φ) : ∃ F' M' d', Same F F' ∧ Rep K b σ H F' ρ M' ∧ Dr K F' v d' ∧ Φ d' M' := by
  by_cases hf : ∃ p, d = .fn p
  · obtain ⟨p, rfl⟩ := hf
    have hv := hd.inv_fn
    subst hv
    unfold frzG at h
    cases q : look M p with
    | none => simp only [q] at h; exact ⟨F, M, _, Same.refl F, R, hd, h⟩
    | some c =>
      have hc := (R.cell p c q).1
      cases c with
      | l ds =>
        simp only [q] at h
        obtain ⟨hF, xs, e1, e2⟩ := hc
        have up := SX.same_upd (o := .lst xs) hF
        have e3 := e2.up up
        obtain ⟨s, R'⟩ := R.frz (d := .lst ds) q hF e1 (by intro t z; cases z) (.lst upd_same e3.1 e3.2)
        exact ⟨_, _, _, s, R', .lst upd_same e3.1 e3.2, h⟩
      | m ks =>
        simp only [q] at h
        obtain ⟨hF, xs, e1, e2⟩ := hc
        have up := SX.same_upd (o := .dK xs) hF
        have e3 := e2.up up
        obtain ⟨s, R'⟩ := R.frz (d := .dct ks) q hF e1 (by intro t z; cases z) (.dct upd_same e3.1 e3.2)
        exact ⟨_, _, _, s, R', .dct upd_same e3.1 e3.2, h⟩
      | o C fs =>
        simp only [q] at h
        obtain ⟨hF, dx, xs, e1, e2⟩ := hc
        have up := SX.same_upd (o := .ins C dx xs) hF
        have e3 := e2.up up
        obtain ⟨s, R'⟩ := R.frz (d := .obj C fs) q hF e1 (by intro t z; cases z) (.obj upd_same e3.1 e3.2)
        exact ⟨_, _, _, s, R', .obj upd_same e3.1 e3.2, h⟩
      | draw => simp only [q] at h; exact ⟨F, M, _, Same.refl F, R, hd, h⟩
      | z d => simp only [q] at h; exact ⟨F, M, _, Same.refl F, R, hc.1, h⟩
  · have h' : Φ d M := by
      cases d with
      | fn p => exact absurd ⟨p, rfl⟩ hf
      | _ => exact h
    exact ⟨F, M, d, Same.refl F, R, hd, h'⟩
/-- what an expression gives is kept for good -/
def cFz (T : CE) : CE := fun ρ M Φ => T ρ M fun d M' => frzG M' d Φ
theorem xe_fz {t : TE} {T : CE} (h : XE K t T) : XE K t (cFz T) := by
  intro b σ H F ρ M Φ Q R hT k
  refine h b σ H F ρ M _ Q R hT fun v H' F' M' d s R' hd hΦ => ?_
  obtain ⟨F2, M2, d2, s2, R2, hd2, h2⟩ := frz_ok R' hd hΦ
  exact k v H' F2 M2 d2 (s.trans s2) R2 hd2 h2
def cVar (i : Nat) : CE := cFz (cRaw i)
theorem xe_var (i : Nat) : XE K (tVar i) (cVar i) := xe_fz (xe_raw i)
def cC (d : D) : CE := fun ρ M Φ => Φ d M
theorem xe_c {v : V} {d : D} (h : ∀ F, Dr K F v d) : XE K (tC v) (cC d) := fun b σ H F ρ M Φ Q R hT k => k v H F M d (Same.refl F) R (h F) hT
theorem xe_int {i : Int} : XE K (tC (.int i)) (cC (.int i)) := xe_c fun _ => .int i
theorem xe_str {x : Str} : XE K (tC (.str x)) (cC (.str x)) := xe_c fun _ => .str x
theorem xe_bl {x : Bool} : XE K (tC (.bl x)) (cC (.bl x)) := xe_c fun _ => .bl x
theorem xe_non : XE K (tC .non) (cC .non) := xe_c fun _ => .non
theorem xe_fn {a : Addr} : XE K (tC (.ref a)) (cC (.fn a)) := xe_c fun _ => .fn a
theorem xe_ty {n : String} : XE K (tC (.ty n)) (cC (.ty n)) := xe_c fun _ => .ty n
/-- a new list: kept, or a cell -/
def cK (T : CLs) : CE := fun ρ M Φ => T ρ M fun ds M' => Φ (.lst ds) M'
theorem XL.re {t : TE} {T : CLs} (h : XL K t T) : XE K t (cK T) := by
  intro b σ H F ρ M Φ Q R hT k
  refine h b σ H F ρ M _ Q R hT fun p xs H' F' M' ds s R' lo hx hd hΦ => ?_
  obtain ⟨sF, R2⟩ := R'.frzLoose lo hx
  have h2 := hd.up sF
  exact k _ H' _ M' (.lst ds) (s.trans sF) R2 (.lst upd_same h2.1 h2.2) hΦ
def cKc (T : CLs) : CE := fun ρ M Φ => T ρ M fun ds M' => ∀ p, look M' p = none → Φ (.fn p) ((p, .l ds) :: M')
theorem XL.ce {t : TE} {T : CLs} (h : XL K t T) : XE K t (cKc T) := by
  intro b σ H F ρ M Φ Q R hT k
  refine h b σ H F ρ M _ Q R hT fun p xs H' F' M' ds s R' lo hx hd hΦ => ?_
  exact k _ H' F' _ (.fn p) s (R'.add (c := .l ds) lo ⟨lo.1, xs, hx, hd⟩) (.fn p) (hΦ p lo.2.2)
def cKd (T : CDs) : CE := fun ρ M Φ => T ρ M fun ds M' => Φ (.dct ds) M'
theorem XD.re {t : TE} {T : CDs} (h : XD K t T) : XE K t (cKd T) := by
  intro b σ H F ρ M Φ Q R hT k
  refine h b σ H F ρ M _ Q R hT fun p xs H' F' M' ds s R' lo hx hd hΦ => ?_
  obtain ⟨sF, R2⟩ := R'.frzLoose lo hx
  have h2 := hd.up sF
  exact k _ H' _ M' (.dct ds) (s.trans sF) R2 (.dct upd_same h2.1 h2.2) hΦ
def cKdc (T : CDs) : CE := fun ρ M Φ => T ρ M fun ds M' => ∀ p, look M' p = none → Φ (.fn p) ((p, .m ds) :: M')
theorem XD.ce {t : TE} {T : CDs} (h : XD K t T) : XE K t (cKdc T) := by
  intro b σ H F ρ M Φ Q R hT k
  refine h b σ H F ρ M _ Q R hT fun p xs H' F' M' ds s R' lo hx hd hΦ => ?_
  exact k _ H' F' _ (.fn p) s (R'.add (c := .m ds) lo ⟨lo.1, xs, hx, hd⟩) (.fn p) (hΦ p lo.2.2)
/-! ### operators -/
def cOp (R : DO) (Ta Tb : CE) : CE := fun ρ M Φ => Ta ρ M fun x M1 => Tb ρ M1 fun y M2 => R x y fun z => Φ z M2
theorem xe_op {r : R2} {R : DO} {ta tb : TE} {Ta Tb : CE} (ho : RO K [] r R) (ha : XE K ta Ta) (hb : XE K tb Tb) : XE K (tOp r ta tb) (cOp R Ta Tb) := by
  intro b σ H F ρ M Φ Q R0 hT k
  refine ha b σ H F ρ M _ _ R0 hT fun x H1 F1 M1 d s1 R1 h1 hT => ?_
  refine hb b σ H1 F1 ρ M1 _ _ R1 hT fun y H2 F2 M2 e s2 R2 h2 hT => ?_
  exact ho _ σ H2 F2 _ x y d e _ Q R2.old (h1.up s2) h2 hT fun v H3 F3 z s3 R3 h3 hz => k v H3 F3 M2 z ((s1.trans s2).trans s3) (R2.oldBack R3 s3) h3 hz
def cOpL (R : D → D → (List D → Prop) → Prop) (Ta Tb : CE) : CLs := fun ρ M Φ => Ta ρ M fun x M1 => Tb ρ M1 fun y M2 => R x y fun z => Φ z M2
theorem loose_old {b : HC.Bs} {σ : L2.St} {H F F' H' : Hp} {ρ : HC.Env} {M : Cells} {p : Addr} {ρ' : DL.Env} (R : Rep K b σ H F ρ M) (lo : DL.Loose (ob H F) σ F' ρ' p) : HC.Loose b F' M p := by
  have hp : H p = none := lo.2.1
  exact ⟨lo.1, (R.fresh hp).2⟩
theorem xl_op {r : R2} {R : D → D → (List D → Prop) → Prop} {ta tb : TE} {Ta Tb : CE} (ho : ROL K [] r R) (ha : XE K ta Ta) (hb : XE K tb Tb) : XL K (tOp r ta tb) (cOpL R Ta Tb) := by
  intro b σ H F ρ M Φ Q R0 hT k
  refine ha b σ H F ρ M _ _ R0 hT fun x H1 F1 M1 d s1 R1 h1 hT => ?_
  refine hb b σ H1 F1 ρ M1 _ _ R1 hT fun y H2 F2 M2 e s2 R2 h2 hT => ?_
  exact ho _ σ H2 F2 _ x y d e _ Q R2.old (h1.up s2) h2 hT fun p xs H3 F3 ds s3 R3 lo hx hd hz => k p xs H3 F3 M2 ds ((s1.trans s2).trans s3) (R2.oldBack R3 s3) (loose_old (H' := H3) R2 lo) hx hd hz
/-! ### arguments, displays -/
def cNil : CLs := fun ρ M Φ => Φ [] M
theorem xv_nil : XV K tNil cNil := fun b σ H F ρ M Φ Q R hT k => k [] H F M [] (Same.refl F) R .nil hT
def cCons (Ta : CE) (Tr : CLs) : CLs := fun ρ M Φ => Ta ρ M fun x M1 => Tr ρ M1 fun xs M2 => Φ (x :: xs) M2
theorem xv_cons {ta : TE} {tr : TA} {Ta : CE} {Tr : CLs} (ha : XE K ta Ta) (hr : XV K tr Tr) : XV K (tCons ta tr) (cCons Ta Tr) := by
  intro b σ H F ρ M Φ Q R0 hT k
  refine ha b σ H F ρ M _ _ R0 hT fun x H1 F1 M1 d s1 R1 h1 hT => ?_
  exact hr b σ H1 F1 ρ M1 _ _ R1 hT fun xs H2 F2 M2 ds s2 R2 h2 hT => k _ H2 F2 M2 _ (s1.trans s2) R2 (.cons (h1.up s2) h2) hT
def cTup (T : CLs) : CE := fun ρ M Φ => T ρ M fun ds M' => ds.length ≤ sizeLine ∧ Φ (.tup ds) M'
theorem xe_tup {t : TA} {T : CLs} (h : XV K t T) : XE K (tTup t) (cTup T) := by
  intro b σ H F ρ M Φ Q R0 hT k
  refine h b σ H F ρ M _ _ R0 hT fun xs H1 F1 M1 ds s1 R1 h1 hT => ⟨by rw [h1.1]; exact hT.1, fun p hp => ?_⟩
  obtain ⟨hF, _⟩ := R1.fresh hp
  have sF : Same F1 (upd F1 p (.tup xs)) := SX.same_upd hF
  have h2 := h1.up sF
  exact k _ _ _ M1 _ (s1.trans sF) (R1.alloc hp) (.tup (SqT.of upd_same) h2.1 h2.2) hT.2
def cLst (T : CLs) : CLs := fun ρ M Φ => T ρ M fun ds M' => ds.length ≤ sizeLine ∧ Φ ds M'
theorem xl_lst {t : TA} {T : CLs} (h : XV K t T) : XL K (tLst t) (cLst T) := by
  intro b σ H F ρ M Φ Q R0 hT k
  refine h b σ H F ρ M _ _ R0 hT fun xs H1 F1 M1 ds s1 R1 h1 hT => ⟨by rw [h1.1]; exact hT.1, fun p hp => ?_⟩
  exact k p xs _ F1 M1 ds s1 (R1.lay hp) (R1.loose hp) upd_same h1 hT.2
def cNewD : CDs := fun ρ M Φ => Φ [] M
theorem xd_new : XD K tDNewK cNewD := by
  intro b σ H F ρ M Φ Q R0 hT k
  exact fun p hp => k p [] _ F M [] (Same.refl F) (R0.lay hp) (R0.loose hp) upd_same .nil hT
/-! ### places, lengths, in -/
def cIxL (Ta Tb : CE) : CE := fun ρ M Φ => Ta ρ M fun x M1 => Tb ρ M1 fun y M2 => ∃ ds j z, lstOf M2 x = some ds ∧ y = .int j ∧ atI ds j = some z ∧ Φ z M2
theorem xe_ixL {ta tb : TE} {Ta Tb : CE} (ha : XE K ta Ta) (hb : XE K tb Tb) : XE K (tOp (rIxL K) ta tb) (cIxL Ta Tb) := by
  intro b σ H F ρ M Φ Q R0 hT k
  refine ha b σ H F ρ M _ _ R0 hT fun x H1 F1 M1 d s1 R1 h1 hT => ?_
  refine hb b σ H1 F1 ρ M1 _ _ R1 hT fun y H2 F2 M2 e s2 R2 h2 hT => ?_
  obtain ⟨ds, j, z, hl, rfl, hz, hΦ⟩ := hT
  obtain ⟨a, xs, rfl, ea, ha⟩ := lst_at R2 (h1.up s2) hl
  obtain ⟨w, hw, hd⟩ := ha.atI hz
  exact ⟨a, xs, j, w, rfl, h2.inv_int, SqL.of ea, hw, k w H2 F2 M2 z (s1.trans s2) R2 hd hΦ⟩
def cIx (Ta Tb : CE) : CE := fun ρ M Φ => Ta ρ M fun x M1 => Tb ρ M1 fun y M2 => ∃ ds j z, seqOf M2 x = some ds ∧ y = .int j ∧ atI ds j = some z ∧ Φ z M2
theorem xe_ix {ta tb : TE} {Ta Tb : CE} (ha : XE K ta Ta) (hb : XE K tb Tb) : XE K (tOp (rIx K) ta tb) (cIx Ta Tb) := by
  intro b σ H F ρ M Φ Q R0 hT k
  refine ha b σ H F ρ M _ _ R0 hT fun x H1 F1 M1 d s1 R1 h1 hT => ?_
  refine hb b σ H1 F1 ρ M1 _ _ R1 hT fun y H2 F2 M2 e s2 R2 h2 hT => ?_
  obtain ⟨ds, j, z, hl, rfl, hz, hΦ⟩ := hT
  obtain ⟨a, xs, rfl, ea, ha⟩ := seq_at R2 (h1.up s2) hl
  obtain ⟨w, hw, hd⟩ := ha.atI hz
  rcases ea with ea | ea
  · exact .inl ⟨a, xs, j, w, rfl, h2.inv_int, ea, hw, k w H2 F2 M2 z (s1.trans s2) R2 hd hΦ⟩
  · exact .inr (.inl ⟨a, xs, j, w, rfl, h2.inv_int, ea, hw, k w H2 F2 M2 z (s1.trans s2) R2 hd hΦ⟩)
def lenG (M : Cells) (d : D) (Φ : Nat → Prop) : Prop := match d with
  | .str x => x.length ≤ sizeLine ∧ Φ x.length
  | d => ∃ ds, seqOf M d = some ds ∧ Φ ds.length
def cLen (Ta : CE) : CE := fun ρ M Φ => Ta ρ M fun x M1 => lenG M1 x fun n => Φ (.int (n : Nat)) M1
theorem xe_len {ta : TE} {Ta : CE} (ha : XE K ta Ta) : XE K (tCB (fun xs H Q => ∃ x n, xs = [x] ∧ LenV K x H n ∧ Q (.int n) H) (tCons ta tNil)) (cLen Ta) := by
  intro b σ H F ρ M Φ Q R0 hT k
  refine ha b σ H F ρ M _ _ R0 hT fun x H1 F1 M1 d s1 R1 h1 hT => ?_
  by_cases hs : ∃ y, d = .str y
  · obtain ⟨y, rfl⟩ := hs
    rw [h1.inv_str]
    exact ⟨_, y.length, rfl, ⟨hT.1, rfl⟩, k _ H1 F1 M1 _ s1 R1 (.int _) hT.2⟩
  · have hT' : ∃ ds, seqOf M1 d = some ds ∧ Φ (.int (ds.length : Nat)) M1 := by
      cases d with
      | str y => exact absurd ⟨y, rfl⟩ hs
      | _ => exact hT
    obtain ⟨ds, he, hΦ⟩ := hT'
    obtain ⟨a, xs, rfl, ea, ha⟩ := seq_at R1 h1 he
    refine ⟨_, ds.length, rfl, ?_, k _ H1 F1 M1 _ s1 R1 (.int _) hΦ⟩
    rcases ea with ea | ea
    · exact .inl ⟨xs, ea, ha.1.symm⟩
    · exact .inr ⟨xs, ea, ha.1.symm⟩
def cIn (neg : Bool) (Ta Tb : CE) : CE := fun ρ M Φ => Ta ρ M fun x M1 => Tb ρ M1 fun y M2 => ∃ ds, seqOf M2 y = some ds ∧ flatD x = true ∧ ds.all flatD = true ∧ Φ (.bl (if neg then !inD x ds else inD x ds)) M2
theorem xe_in {neg : Bool} {ta tb : TE} {Ta Tb : CE} (ha : XE K ta Ta) (hb : XE K tb Tb) : XE K (tOp (rIn K neg) ta tb) (cIn neg Ta Tb) := by
  intro b σ H F ρ M Φ Q R0 hT k
  refine ha b σ H F ρ M _ _ R0 hT fun x H1 F1 M1 d s1 R1 h1 hT => ?_
  refine hb b σ H1 F1 ρ M1 _ _ R1 hT fun y H2 F2 M2 e s2 R2 h2 hT => ?_
  obtain ⟨ds, hl, fd, fs, hΦ⟩ := hT
  obtain ⟨a, xs, rfl, ea, ha⟩ := seq_at R2 h2 hl
  obtain ⟨i1, i2⟩ := inD_ok (h1.up s2) fd ha fs
  refine ⟨a, xs, rfl, ea, flat_ok h1 fd, i1, ?_⟩
  rw [i2]
  exact k _ H2 F2 M2 _ (s1.trans s2) R2 (.bl _) hΦ
def cInD (neg : Bool) (Ta Tb : CE) : CE := fun ρ M Φ => Ta ρ M fun x M1 => Tb ρ M1 fun y M2 => ∃ ds key, dctOf M2 y = some ds ∧ keyD x = some key ∧ Φ (.bl (if neg then !(valD ds key).isSome else (valD ds key).isSome)) M2
theorem dval {F H : Hp} {a : Addr} {v : V} {d : D} {k : Key} {xs : List (Key × V)} {ds : List (Key × D)} (h : Dr K F v d) (e : keyD d = some k) (hd : DM K F xs ds) (ha : H a = some (.dK xs)) : ∃ o, DGet H a v o ∧ o.isSome = (valD ds k).isSome ∧ ∀ z, valD ds k = some z → ∃ w, o = some w ∧ Dr K F w z := by
  have g := dget_ok h e hd ha
  cases q : valD ds k with
  | none => rw [q] at g; exact ⟨none, g, rfl, fun z e => (by cases e)⟩
  | some z => rw [q] at g; obtain ⟨w, g1, g2⟩ := g; exact ⟨some w, g1, rfl, fun z' e => by cases e; exact ⟨w, rfl, g2⟩⟩
theorem xe_inD {ta tb : TE} {Ta Tb : CE} (ha : XE K ta Ta) (hb : XE K tb Tb) : XE K (tOp rInDK ta tb) (cInD false Ta Tb) := by
  intro b σ H F ρ M Φ Q R0 hT k
  refine ha b σ H F ρ M _ _ R0 hT fun x H1 F1 M1 d s1 R1 h1 hT => ?_
  refine hb b σ H1 F1 ρ M1 _ _ R1 hT fun y H2 F2 M2 e s2 R2 h2 hT => ?_
  obtain ⟨ds, key, hl, hk, hΦ⟩ := hT
  obtain ⟨a, xs, rfl, ea, ha⟩ := dct_at R2 h2 hl
  obtain ⟨o, g1, g2, _⟩ := dval (h1.up s2) hk ha ea
  refine ⟨a, o, rfl, g1, ?_⟩
  rw [g2]
  exact k _ H2 F2 M2 _ (s1.trans s2) R2 (.bl _) hΦ
theorem xe_notInD {ta tb : TE} {Ta Tb : CE} (ha : XE K ta Ta) (hb : XE K tb Tb) : XE K (tOp rNotInDK ta tb) (cInD true Ta Tb) := by
  intro b σ H F ρ M Φ Q R0 hT k
  refine ha b σ H F ρ M _ _ R0 hT fun x H1 F1 M1 d s1 R1 h1 hT => ?_
  refine hb b σ H1 F1 ρ M1 _ _ R1 hT fun y H2 F2 M2 e s2 R2 h2 hT => ?_
  obtain ⟨ds, key, hl, hk, hΦ⟩ := hT
  obtain ⟨a, xs, rfl, ea, ha⟩ := dct_at R2 h2 hl
  obtain ⟨o, g1, g2, _⟩ := dval (h1.up s2) hk ha ea
  refine ⟨a, o, rfl, g1, ?_⟩
  rw [g2]
  exact k _ H2 F2 M2 _ (s1.trans s2) R2 (.bl _) hΦ
def cDGet (Td Ty : CE) : CE := fun ρ M Φ => Td ρ M fun x M1 => Ty ρ M1 fun y M2 => ∃ ds key z, dctOf M2 x = some ds ∧ keyD y = some key ∧ valD ds key = some z ∧ Φ z M2
theorem xe_dget {td ty : TE} {Td Ty : CE} (hd : XE K td Td) (hy : XE K ty Ty) : XE K (tDGet td ty) (cDGet Td Ty) := by
  intro b σ H F ρ M Φ Q R0 hT k
  refine hd b σ H F ρ M _ _ R0 hT fun x H1 F1 M1 d s1 R1 h1 hT => ?_
  refine hy b σ H1 F1 ρ M1 _ _ R1 hT fun y H2 F2 M2 e s2 R2 h2 hT => ?_
  obtain ⟨ds, key, z, hl, hk, hz, hΦ⟩ := hT
  obtain ⟨a, xs, rfl, ea, ha⟩ := dct_at R2 (h1.up s2) hl
  obtain ⟨o, g1, _, g3⟩ := dval h2 hk ha ea
  obtain ⟨w, rfl, hw⟩ := g3 z hz
  exact ⟨a, w, rfl, g1, k w H2 F2 M2 z (s1.trans s2) R2 hw hΦ⟩
def cGet1 (Td Ty : CE) : CE := fun ρ M Φ => Td ρ M fun x M1 => (∃ ds, dctOf M1 x = some ds) ∧ Ty ρ M1 fun y M2 => ∃ ds key, dctOf M2 x = some ds ∧ keyD y = some key ∧ Φ ((valD ds key).getD .non) M2
theorem xe_get1 {td ty : TE} {Td Ty : CE} (hd : XE K td Td) (hy : XE K ty Ty) : XE K (tDGet1 td ty) (cGet1 Td Ty) := by
  intro b σ H F ρ M Φ Q R0 hT k
  refine hd b σ H F ρ M _ _ R0 hT fun x H1 F1 M1 d s1 R1 h1 hT => ?_
  obtain ⟨⟨ds0, e0⟩, hT⟩ := hT
  obtain ⟨a, xs0, rfl, ea0, _⟩ := dct_at R1 h1 e0
  refine ⟨a, rfl, .inl ⟨xs0, .inl ea0⟩, hy b σ H1 F1 ρ M1 _ _ R1 hT fun y H2 F2 M2 e s2 R2 h2 hT => ?_⟩
  obtain ⟨ds, key, hl, hk, hΦ⟩ := hT
  obtain ⟨a', xs, e', ea, ha⟩ := dct_at R2 (h1.up s2) hl
  cases e'
  obtain ⟨o, g1, _, g3⟩ := dval h2 hk ha ea
  cases q : valD ds key with
  | none =>
    rw [q] at hΦ
    cases o with
    | none => exact ⟨none, g1, k _ H2 F2 M2 _ (s1.trans s2) R2 .non hΦ⟩
    | some w => simp_all
  | some z =>
    rw [q] at hΦ
    obtain ⟨w, rfl, hw⟩ := g3 z q
    exact ⟨some w, g1, k _ H2 F2 M2 _ (s1.trans s2) R2 hw hΦ⟩
def cGet2 (Td Ty Tz : CE) : CE := fun ρ M Φ => Td ρ M fun x M1 => (∃ ds, dctOf M1 x = some ds) ∧ Ty ρ M1 fun y M2 => Tz ρ M2 fun z M3 => ∃ ds key, dctOf M3 x = some ds ∧ keyD y = some key ∧ Φ ((valD ds key).getD z) M3
theorem xe_get2 {td ty tz : TE} {Td Ty Tz : CE} (hd : XE K td Td) (hy : XE K ty Ty) (hz : XE K tz Tz) : XE K (tDGet2 td ty tz) (cGet2 Td Ty Tz) := by
  intro b σ H F ρ M Φ Q R0 hT k
  refine hd b σ H F ρ M _ _ R0 hT fun x H1 F1 M1 d s1 R1 h1 hT => ?_
  obtain ⟨⟨ds0, e0⟩, hT⟩ := hT
  obtain ⟨a, xs0, rfl, ea0, _⟩ := dct_at R1 h1 e0
  refine ⟨a, rfl, .inl ⟨xs0, .inl ea0⟩, hy b σ H1 F1 ρ M1 _ _ R1 hT fun y H2 F2 M2 e s2 R2 h2 hT => ?_⟩
  refine hz b σ H2 F2 ρ M2 _ _ R2 hT fun z H3 F3 M3 f s3 R3 h3 hT => ?_
  obtain ⟨ds, key, hl, hk, hΦ⟩ := hT
  have s12 := s2.trans s3
  obtain ⟨a', xs, e', ea, ha⟩ := dct_at R3 (h1.up s12) hl
  cases e'
  obtain ⟨o, g1, _, g3⟩ := dval (h2.up s3) hk ha ea
  cases q : valD ds key with
  | none =>
    rw [q] at hΦ
    cases o with
    | none => exact ⟨none, g1, k _ H3 F3 M3 _ (s1.trans s12) R3 h3 hΦ⟩
    | some w => simp_all
  | some z =>
    rw [q] at hΦ
    obtain ⟨w, rfl, hw⟩ := g3 z q
    exact ⟨some w, g1, k _ H3 F3 M3 _ (s1.trans s12) R3 hw hΦ⟩
/-! ### fields -/
def cFld (C : Addr) (T : CE) (f : Str) : CE := fun ρ M Φ => T ρ M fun x M1 => ∃ fs d, objOf M1 x = some (C, fs) ∧ valD fs f = some d ∧ Φ d M1
theorem xe_fld {C : Addr} {t : TE} {T : CE} {f : Str} (hc : Cls K C) (hn : NoAttr K C f) (h : XE K t T) : XE K (tFld K t f) (cFld C T f) := by
  intro b σ H F ρ M Φ Q R0 hT k
  refine h b σ H F ρ M _ _ R0 hT fun x H1 F1 M1 d s1 R1 h1 hT => ?_
  obtain ⟨fs, e, ho, he, hΦ⟩ := hT
  obtain ⟨a, dx, xs, rfl, ea, hm⟩ := obj_at R1 h1 ho
  have m := hm.val (k := f)
  rw [he] at m
  obtain ⟨v, hv, hd⟩ := m
  exact ⟨a, C, dx, xs, v, rfl, ea, hc, hn, by rw [lookup_valV]; exact hv, k v H1 F1 M1 e s1 R1 hd hΦ⟩
/-! ### tests -/
def cTest (T : CE) : CTt := fun ρ M Φ => T ρ M fun x M' => blG x fun c => Φ c M'
theorem xt_test {t : TE} {T : CE} (h : XE K t T) : XT K (tTest t) (cTest T) := by
  intro b σ H F ρ M Φ Q R0 hT k
  refine h b σ H F ρ M _ _ R0 hT fun x H1 F1 M1 d s1 R1 h1 hT => ?_
  obtain ⟨c, rfl, hT⟩ := blG_ok hT
  exact ⟨c, h1.inv_bl, k c H1 F1 M1 s1 R1 hT⟩
theorem xt_B {t : TE} {T : CE} (h : XE K t T) : XT K (tB t) (cTest T) := xt_test h
def truG (M : Cells) (d : D) (Φ : Bool → Prop) : Prop := match d with
  | .non => Φ false
  | .bl b => Φ b
  | .int i => Φ (i != 0)
  | .tup l => Φ (!l.isEmpty)
  | d => (∃ ds, lstOf M d = some ds ∧ Φ (!ds.isEmpty)) ∨ ∃ ds, dctOf M d = some ds ∧ Φ (!ds.isEmpty)
def cTruth (T : CE) : CTt := fun ρ M Φ => T ρ M fun x M' => truG M' x fun c => Φ c M'
theorem xt_truth {t : TE} {T : CE} (h : XE K t T) : XT K (fun σ H Q => t σ H fun x H' => ∃ k, TruV K x H' k ∧ Q k H') (cTruth T) := by
  intro b σ H F ρ M Φ Q R0 hT k
  refine h b σ H F ρ M _ _ R0 hT fun x H1 F1 M1 d s1 R1 h1 hT => ?_
  have rest : ((∃ ds, lstOf M1 d = some ds ∧ Φ (!ds.isEmpty) M1) ∨ ∃ ds, dctOf M1 d = some ds ∧ Φ (!ds.isEmpty) M1) → ∃ c, TruV K x H1 c ∧ Q c H1 := fun hT => by
    rcases hT with ⟨ds, e, hΦ⟩ | ⟨ds, e, hΦ⟩
    · obtain ⟨a, xs, rfl, ea, ha⟩ := lst_at R1 h1 e
      exact ⟨_, .inl ⟨_, SqL.of ea, by rw [isEmpty_len ha.1]⟩, k _ H1 F1 M1 s1 R1 hΦ⟩
    · obtain ⟨a, xs, rfl, ea, ha⟩ := dct_at R1 h1 e
      exact ⟨_, .inr (.inr ⟨_, ea, by rw [isEmpty_len ha.len]⟩), k _ H1 F1 M1 s1 R1 hΦ⟩
  cases d with
  | non => rw [h1.inv_non]; exact ⟨false, rfl, k _ H1 F1 M1 s1 R1 hT⟩
  | bl c => rw [h1.inv_bl]; exact ⟨c, rfl, k _ H1 F1 M1 s1 R1 hT⟩
  | int i => rw [h1.inv_int]; exact ⟨_, rfl, k _ H1 F1 M1 s1 R1 hT⟩
  | tup l =>
    obtain ⟨a, xs, rfl, ea, ha⟩ := h1.inv_tup
    exact ⟨_, .inr (.inl ⟨_, sqT_same R1.sub ea, by rw [isEmpty_len ha.1]⟩), k _ H1 F1 M1 s1 R1 hT⟩
  | _ => exact rest hT
def cAnd (T U : CTt) : CTt := fun ρ M Φ => T ρ M fun c M1 => if c = true then U ρ M1 Φ else Φ false M1
theorem xt_and {t u : TT} {T U : CTt} (h : XT K t T) (h2 : XT K u U) : XT K (tAnd t u) (cAnd T U) := by
  intro b σ H F ρ M Φ Q R0 hT k
  refine h b σ H F ρ M _ _ R0 hT fun c H1 F1 M1 s1 R1 hT => ?_
  cases c with
  | true => exact h2 b σ H1 F1 ρ M1 _ _ R1 hT fun c H2 F2 M2 s2 R2 hT => k c H2 F2 M2 (s1.trans s2) R2 hT
  | false => exact k false H1 F1 M1 s1 R1 hT
def cOr (T U : CTt) : CTt := fun ρ M Φ => T ρ M fun c M1 => if c = true then Φ true M1 else U ρ M1 Φ
theorem xt_or {t u : TT} {T U : CTt} (h : XT K t T) (h2 : XT K u U) : XT K (tOr t u) (cOr T U) := by
  intro b σ H F ρ M Φ Q R0 hT k
  refine h b σ H F ρ M _ _ R0 hT fun c H1 F1 M1 s1 R1 hT => ?_
  cases c with
  | false => exact h2 b σ H1 F1 ρ M1 _ _ R1 hT fun c H2 F2 M2 s2 R2 hT => k c H2 F2 M2 (s1.trans s2) R2 hT
  | true => exact k true H1 F1 M1 s1 R1 hT
def cNot (T : CTt) : CTt := fun ρ M Φ => T ρ M fun c M1 => Φ (!c) M1
theorem xt_not {t : TT} {T : CTt} (h : XT K t T) : XT K (tNot t) (cNot T) := by
  intro b σ H F ρ M Φ Q R0 hT k
  exact h b σ H F ρ M _ _ R0 hT fun c H1 F1 M1 s1 R1 hT => k _ H1 F1 M1 s1 R1 hT
def cAndV (T U : CE) : CE := fun ρ M Φ => T ρ M fun x M1 => blG x fun c => if c = true then U ρ M1 Φ else Φ (.bl false) M1
theorem xe_and {t u : TE} {T U : CE} (h : XE K t T) (h2 : XE K u U) : XE K (tAndV t u) (cAndV T U) := by
  intro b σ H F ρ M Φ Q R0 hT k
  refine h b σ H F ρ M _ _ R0 hT fun x H1 F1 M1 d s1 R1 h1 hT => ?_
  obtain ⟨c, rfl, hT⟩ := blG_ok hT
  refine ⟨c, h1.inv_bl, ?_⟩
  cases c with
  | true => exact h2 b σ H1 F1 ρ M1 _ _ R1 hT fun c H2 F2 M2 d s2 R2 hd hT => k c H2 F2 M2 d (s1.trans s2) R2 hd hT
  | false => exact k _ H1 F1 M1 _ s1 R1 (.bl false) hT
def cOrV (T U : CE) : CE := fun ρ M Φ => T ρ M fun x M1 => blG x fun c => if c = true then Φ (.bl true) M1 else U ρ M1 Φ
theorem xe_or {t u : TE} {T U : CE} (h : XE K t T) (h2 : XE K u U) : XE K (tOrV t u) (cOrV T U) := by
  intro b σ H F ρ M Φ Q R0 hT k
  refine h b σ H F ρ M _ _ R0 hT fun x H1 F1 M1 d s1 R1 h1 hT => ?_
  obtain ⟨c, rfl, hT⟩ := blG_ok hT
  refine ⟨c, h1.inv_bl, ?_⟩
  cases c with
  | false => exact h2 b σ H1 F1 ρ M1 _ _ R1 hT fun c H2 F2 M2 d s2 R2 hd hT => k c H2 F2 M2 d (s1.trans s2) R2 hd hT
  | true => exact k _ H1 F1 M1 _ s1 R1 (.bl true) hT
def cNotV (T : CE) : CE := fun ρ M Φ => T ρ M fun x M1 => blG x fun c => Φ (.bl (!c)) M1
theorem xe_not {t : TE} {T : CE} (h : XE K t T) : XE K (tNotV t) (cNotV T) := by
  intro b σ H F ρ M Φ Q R0 hT k
  refine h b σ H F ρ M _ _ R0 hT fun x H1 F1 M1 d s1 R1 h1 hT => ?_
  obtain ⟨c, rfl, hT⟩ := blG_ok hT
  exact ⟨c, h1.inv_bl, k _ H1 F1 M1 _ s1 R1 (.bl _) hT⟩
def cIf (T : CTt) (U W : CE) : CE := fun ρ M Φ => T ρ M fun c M1 => if c = true then U ρ M1 Φ else W ρ M1 Φ
theorem xe_if {t : TT} {u w : TE} {T : CTt} {U W : CE} (h : XT K t T) (h2 : XE K u U) (h3 : XE K w W) : XE K (tIf t u w) (cIf T U W) := by
  intro b σ H F ρ M Φ Q R0 hT k
  refine h b σ H F ρ M _ _ R0 hT fun c H1 F1 M1 s1 R1 hT => ?_
  cases c with
  | true => exact h2 b σ H1 F1 ρ M1 _ _ R1 hT fun c H2 F2 M2 d s2 R2 hd hT => k c H2 F2 M2 d (s1.trans s2) R2 hd hT
  | false => exact h3 b σ H1 F1 ρ M1 _ _ R1 hT fun c H2 F2 M2 d s2 R2 hd hT => k c H2 F2 M2 d (s1.trans s2) R2 hd hT
def cIfL (T : CTt) (U W : CLs) : CLs := fun ρ M Φ => T ρ M fun c M1 => if c = true then U ρ M1 Φ else W ρ M1 Φ
theorem xl_if {t : TT} {u w : TE} {T : CTt} {U W : CLs} (h : XT K t T) (h2 : XL K u U) (h3 : XL K w W) : XL K (tIf t u w) (cIfL T U W) := by
  intro b σ H F ρ M Φ Q R0 hT k
  refine h b σ H F ρ M _ _ R0 hT fun c H1 F1 M1 s1 R1 hT => ?_
  cases c with
  | true => exact h2 b σ H1 F1 ρ M1 _ _ R1 hT fun p xs H2 F2 M2 ds s2 R2 lo hx hd hT => k p xs H2 F2 M2 ds (s1.trans s2) R2 lo hx hd hT
  | false => exact h3 b σ H1 F1 ρ M1 _ _ R1 hT fun p xs H2 F2 M2 ds s2 R2 lo hx hd hT => k p xs H2 F2 M2 ds (s1.trans s2) R2 lo hx hd hT
def cNeg (T : CE) : CE := fun ρ M Φ => T ρ M fun x M1 => ∃ i, x = .int i ∧ Φ (.int (-i)) M1
theorem xe_neg {t : TE} {T : CE} (h : XE K t T) : XE K (tUn (rU fun i => .int (-i)) t) (cNeg T) := by
  intro b σ H F ρ M Φ Q R0 hT k
  refine h b σ H F ρ M _ _ R0 hT fun x H1 F1 M1 d s1 R1 h1 hT => ?_
  obtain ⟨i, rfl, hT⟩ := hT
  exact ⟨i, h1.inv_int, k _ H1 F1 M1 _ s1 R1 (.int _) hT⟩
/-! ### built-ins -/
def cCB (R : List D → (D → Prop) → Prop) (T : CLs) : CE := fun ρ M Φ => T ρ M fun ds M' => R ds fun z => Φ z M'
theorem xe_cb {r : List V → Hp → VK → Prop} {R : List D → (D → Prop) → Prop} {t : TA} {T : CLs} (hr : RC K [] r R) (h : XV K t T) : XE K (tCB r t) (cCB R T) := by
  intro b σ H F ρ M Φ Q R0 hT k
  refine h b σ H F ρ M _ _ R0 hT fun xs H1 F1 M1 ds s1 R1 h1 hT => ?_
  exact hr _ σ H1 F1 _ xs ds _ Q R1.old h1 hT fun v H2 F2 z s2 R2 hd hΦ => k v H2 F2 M1 z (s1.trans s2) (R1.oldBack R2 s2) hd hΦ
def cCBL (R : List D → (List D → Prop) → Prop) (T : CLs) : CLs := fun ρ M Φ => T ρ M fun ds M' => R ds fun z => Φ z M'
theorem xl_cb {r : List V → Hp → VK → Prop} {R : List D → (List D → Prop) → Prop} {t : TA} {T : CLs} (hr : RCL K [] r R) (h : XV K t T) : XL K (tCB r t) (cCBL R T) := by
  intro b σ H F ρ M Φ Q R0 hT k
  refine h b σ H F ρ M _ _ R0 hT fun xs H1 F1 M1 ds s1 R1 h1 hT => ?_
  exact hr _ σ H1 F1 _ xs ds _ Q R1.old h1 hT fun p ys H2 F2 z s2 R2 lo hx hd hΦ => k p ys H2 F2 M1 z (s1.trans s2) (R1.oldBack R2 s2) (loose_old (H' := H2) R1 lo) hx hd hΦ
def cIsi2 (Ta : CE) (m n : String) : CE := fun ρ M Φ => Ta ρ M fun x M1 => obG (isD x m) fun c => obG (isD x n) fun e => Φ (.bl (c || e)) M1
end
end HC
/-! Part 3: what is walked, targets, comprehensions, slices. -/
namespace HC
open PySem PySem.Spec PyProof.Rows L2 DL
section
variable [Tbs] {K : PySem.W.Frag} {b : HC.Bs} {σ : L2.St} {H F : Hp} {ρ : HC.Env} {M : Cells}
theorem XE.fr {t : TE} {T : CE} (h : XE K t T) (R : Rep K b σ H F ρ M) {Φ : D → Cells → Prop} {Q : VK} (hT : T ρ M Φ)
    (k : ∀ v H' F' M' d, Same F F' → Fr M H F H' F' M' → Rep K b σ H' F' ρ M' → Dr K F' v d → Φ d M' → Q v H') : t σ H Q :=
  h (HC.here H F M) σ H F ρ M Φ Q R.here hT fun v H' F' M' d s R' hd hΦ => k v H' F' M' d s (Rep.fr R') (R.back R') hd hΦ
theorem XT.fr {t : TT} {T : CTt} (h : XT K t T) (R : Rep K b σ H F ρ M) {Φ : Bool → Cells → Prop} {Q : Bool → Hp → Prop} (hT : T ρ M Φ)
    (k : ∀ c H' F' M', Same F F' → Fr M H F H' F' M' → Rep K b σ H' F' ρ M' → Φ c M' → Q c H') : t σ H Q :=
  h (HC.here H F M) σ H F ρ M Φ Q R.here hT fun c H' F' M' s R' hΦ => k c H' F' M' s (Rep.fr R') (R.back R') hΦ
end
section
variable [Tbs] (K : PySem.W.Frag)
def XI (wi : TI) (T : CLs) : Prop := ∀ (b : HC.Bs) (σ : L2.St) (H F : Hp) (ρ : HC.Env) (M : Cells) (Φ : List D → Cells → Prop) (R : It → Hp → Prop), Rep K b σ H F ρ M → T ρ M Φ →
  (∀ J H' F' M' ds, Same F F' → Rep K b σ H' F' ρ M' → Wk K F' J ds → Φ ds M' → R J H') → wi σ H R
end
abbrev CG := D → HC.Env → Cells → (HC.Env → Cells → Prop) → Prop
/-- a target; js: the slots that it stores into -/
def XG [Tbs] (K : PySem.W.Frag) (js : List Nat) (g : TG) (G : CG) : Prop := ∀ (b : HC.Bs) (σ : L2.St) (H F : Hp) (ρ : HC.Env) (M : Cells) (v : V) (d : D) (Φ : HC.Env → Cells → Prop) (Q : L2.St → Hp → Prop), Rep K b σ H F ρ M → Dr K F v d → G d ρ M Φ →
  (∀ σ' H' F' ρ' M', Same F F' → Rep K b σ' H' F' ρ' M' → (∀ ws, (∀ j ∈ js, j ∈ ws) → wipe σ' ws = wipe σ ws) → Φ ρ' M' → Q σ' H') → g v σ H Q
section
variable [Tbs] {K : PySem.W.Frag}
def cIL (T : CE) : CLs := fun ρ M Φ => T ρ M fun x M' => ∃ ds, x = .lst ds ∧ Φ ds M'
theorem xi_list {t : TE} {T : CE} (h : XE K t T) : XI K (iList K t) (cIL T) := by
  intro b σ H F ρ M Φ R R0 hT k
  refine h b σ H F ρ M _ _ R0 hT fun x H1 F1 M1 d s1 R1 h1 hT => ?_
  obtain ⟨ds, rfl, hT⟩ := hT
  obtain ⟨a, xs, rfl, ea, ha⟩ := h1.inv_lst
  exact ⟨a, rfl, ⟨xs, SqL.of (R1.sub _ _ ea)⟩, k _ H1 F1 M1 ds s1 R1 (wk_list ea ha) hT⟩
def cIT (T : CE) : CLs := fun ρ M Φ => T ρ M fun x M' => ∃ ds, x = .tup ds ∧ Φ ds M'
theorem xi_tup {t : TE} {T : CE} (h : XE K t T) : XI K (iTup K t) (cIT T) := by
  intro b σ H F ρ M Φ R R0 hT k
  refine h b σ H F ρ M _ _ R0 hT fun x H1 F1 M1 d s1 R1 h1 hT => ?_
  obtain ⟨ds, rfl, hT⟩ := hT
  obtain ⟨a, xs, rfl, ea, ha⟩ := h1.inv_tup
  exact ⟨a, rfl, ⟨xs, sqT_same R1.sub ea⟩, k _ H1 F1 M1 ds s1 R1 (wk_tup ea ha) hT⟩
def cIR1 (T : CLs) : CLs := fun ρ M Φ => T ρ M fun xs M' => ∃ j : Int, xs = [.int j] ∧ -(2 ^ 62) ≤ j ∧ j < 2 ^ 62 ∧ Φ (rngD 0 j.toNat) M'
theorem xi_range1 {t : TA} {T : CLs} (h : XV K t T) : XI K (iRng1 t) (cIR1 T) := by
  intro b σ H F ρ M Φ R R0 hT k
  refine h b σ H F ρ M _ _ R0 hT fun xs H1 F1 M1 ds s1 R1 h1 hT => ?_
  obtain ⟨j, rfl, b1, b2, hT⟩ := hT
  obtain ⟨v, r, rfl, h2, h3⟩ := h1.inv
  rw [h3.inv_nil, h2.inv_int]
  exact ⟨j, rfl, b1, b2, k _ H1 F1 M1 _ s1 R1 wk_range hT⟩
def cIR2 (T : CLs) : CLs := fun ρ M Φ => T ρ M fun xs M' => ∃ i j : Int, xs = [.int i, .int j] ∧ (-(2 ^ 62) ≤ i ∧ i < 2 ^ 62 ∧ -(2 ^ 62) ≤ j ∧ j < 2 ^ 62) ∧ Φ (rngD i (j - i).toNat) M'
theorem xi_range2 {t : TA} {T : CLs} (h : XV K t T) : XI K (iRng2 t) (cIR2 T) := by
  intro b σ H F ρ M Φ R R0 hT k
  refine h b σ H F ρ M _ _ R0 hT fun xs H1 F1 M1 ds s1 R1 h1 hT => ?_
  obtain ⟨i, j, rfl, bb, hT⟩ := hT
  obtain ⟨v, r, rfl, h2, h3⟩ := h1.inv
  obtain ⟨w, r2, rfl, h4, h5⟩ := h3.inv
  rw [h5.inv_nil, h2.inv_int, h4.inv_int]
  exact ⟨i, j, rfl, bb, k _ H1 F1 M1 _ s1 R1 wk_range hT⟩
def cIRd (T : CLs) : CLs := fun ρ M Φ => T ρ M fun xs M' => ∃ i j : Int, xs = [.int i, .int j, .int (-1)] ∧ (-(2 ^ 62) ≤ i ∧ i < 2 ^ 62 ∧ -(2 ^ 62) ≤ j ∧ j < 2 ^ 62) ∧ Φ (rngDn i (i - j).toNat) M'
theorem xi_range3 {t : TA} {T : CLs} (h : XV K t T) : XI K (iRng3 t) (cIRd T) := by
  intro b σ H F ρ M Φ R R0 hT k
  refine h b σ H F ρ M _ _ R0 hT fun xs H1 F1 M1 ds s1 R1 h1 hT => ?_
  obtain ⟨i, j, rfl, ⟨b1, b2, b3, b4⟩, hT⟩ := hT
  obtain ⟨v, r, rfl, h2, h3⟩ := h1.inv
  obtain ⟨w, r2, rfl, h4, h5⟩ := h3.inv
  obtain ⟨u, r3, rfl, h6, h7⟩ := h5.inv
  rw [h7.inv_nil, h2.inv_int, h4.inv_int, h6.inv_int]
  exact ⟨i, j, -1, _, rfl, RgC.neg b1 b2 b3 b4, k _ H1 F1 M1 _ s1 R1 wk_rangeDn hT⟩
def enumD (ds : List D) : List D := (List.range ds.length).map fun i => .tup [.int (i : Nat), ds.getD i .non]
theorem enumD_len (ds : List D) : (enumD ds).length = ds.length := by simp [enumD]
theorem enumD_get {ds : List D} {i : Nat} {d : D} (h : ds[i]? = some d) : (enumD ds)[i]? = some (.tup [.int (i : Nat), d]) := by
  have hi := (List.getElem?_eq_some_iff.mp h).1
  unfold enumD
  rw [List.getElem?_map, List.getElem?_range hi, Option.map_some, List.getD_eq_getElem?_getD, h]
  rfl
theorem wk_pair {F : Hp} {J : It} {G : Hp → Prop} {f g : Nat → Option V} {ds es : List D} {n : Nat} (hn : n ≤ ds.length ∧ n ≤ es.length) (w : Walk J n G (YPair f g)) (hG : ∀ H F', Same F F' → Sub F' H → G H) (hf : ∀ (i : Nat) v d, f i = some v → ds[i]? = some d → Dr K F v d) (hg : ∀ (i : Nat) v d, g i = some v → es[i]? = some d → Dr K F v d) {rs : List D} (hr : rs.length = n) (hrs : ∀ (i : Nat) d e, ds[i]? = some d → es[i]? = some e → i < n → rs[i]? = some (.tup [d, e])) : Wk K F J rs := by
  refine ⟨G, YPair f g, by rw [hr]; exact w, hG, ?_⟩
  intro i H x H' hy hi F' s sub
  rw [hr] at hi
  obtain ⟨T, u, v, h1, h2, h3, h4, h5⟩ := hy
  have e1 := List.getElem?_eq_getElem (show i < ds.length by omega)
  have e2 := List.getElem?_eq_getElem (show i < es.length by omega)
  have d1 := (hf i u _ h4 e1).up s
  have d2 := (hg i v _ h5 e2).up s
  have hF : F' T = none := by
    cases q : F' T with
    | none => rfl
    | some o => rw [sub _ _ q] at h2; cases h2
  have sF : Same F' (upd F' T (.tup [u, v])) := SX.same_upd hF
  have hda := (DA.cons d1 (.one d2)).up sF
  refine ⟨_, upd F' T (.tup [u, v]), hrs i _ _ e1 e2 hi, ?_, .inr ⟨T, .tup [u, v], h2, (by intro t z; cases z), rfl, h3⟩⟩
  rw [h1]
  exact .tup (SqT.of upd_same) hda.1 hda.2
theorem wk_enum {F : Hp} {a : Addr} {xs : List V} {ds : List D} (e : F a = some (.lst xs)) (h : DA K F xs ds) : Wk K F (Ite K a) (enumD ds) := by
  refine wk_pair (ds := (List.range ds.length).map fun i => .int (i : Nat)) (es := ds) (n := xs.length) ⟨by rw [List.length_map, List.length_range, h.1]; exact Nat.le_refl _, by rw [h.1]; exact Nat.le_refl _⟩ walk_enum (fun H F' s sub => SqL.of (sub _ _ (s _ _ e))) (fun i v d e1 e2 => ?_) (fun i v d e1 e2 => h.2 i v d e1 e2) (by rw [enumD_len, h.1]) fun i d e' e1 e2 hi => ?_
  · cases e1
    rw [List.getElem?_map] at e2
    obtain ⟨j, hj, rfl⟩ := Option.map_eq_some_iff.mp e2
    have hjl := (List.getElem?_eq_some_iff.mp hj).1
    rw [List.length_range] at hjl
    rw [List.getElem?_range hjl] at hj
    cases hj
    exact .int _
  · have hi' := (List.getElem?_eq_some_iff.mp e2).1
    rw [List.getElem?_map, List.getElem?_range hi'] at e1
    cases e1
    exact enumD_get e2
def cIEn (T : CE) : CLs := fun ρ M Φ => T ρ M fun x M' => ∃ ds, x = .lst ds ∧ Φ (enumD ds) M'
theorem xi_enum {t : TE} {T : CE} (h : XE K t T) : XI K (iEnum K (tCons t tNil)) (cIEn T) := by
  intro b σ H F ρ M Φ R R0 hT k
  refine h b σ H F ρ M _ _ R0 hT fun x H1 F1 M1 d s1 R1 h1 hT => ?_
  obtain ⟨ds, rfl, hT⟩ := hT
  obtain ⟨a, xs, rfl, ea, ha⟩ := h1.inv_lst
  exact ⟨a, xs, rfl, SqL.of (R1.sub _ _ ea), k _ H1 F1 M1 _ s1 R1 (wk_enum ea ha) hT⟩
/-! ### targets -/
def cName (j : Nat) : CG := fun d ρ M Φ => Φ (ρ.set j (some d)) M
theorem xg_name {j : Nat} : XG K [j] (gName j) (cName j) := by
  intro b σ H F ρ M v d Φ Q R hd hT k
  exact k _ H F _ M (Same.refl F) (R.setD hd) (fun ws hw => wipe_set (hw j (List.mem_singleton.mpr rfl))) hT
abbrev CGs := List D → HC.Env → Cells → (HC.Env → Cells → Prop) → Prop
def XGs (K : PySem.W.Frag) (js : List Nat) (g : TGs) (G : CGs) : Prop := ∀ (b : HC.Bs) (σ : L2.St) (H F : Hp) (ρ : HC.Env) (M : Cells) (vs : List V) (ds : List D) (Φ : HC.Env → Cells → Prop) (Q : L2.St → Hp → Prop), Rep K b σ H F ρ M → DA K F vs ds → G ds ρ M Φ →
  (∀ σ' H' F' ρ' M', Same F F' → Rep K b σ' H' F' ρ' M' → (∀ ws, (∀ j ∈ js, j ∈ ws) → wipe σ' ws = wipe σ ws) → Φ ρ' M' → Q σ' H') → g vs σ H Q
def cGNil : CGs := fun ds ρ M Φ => ds = [] ∧ Φ ρ M
theorem xgs_nil : XGs K [] gNil cGNil := by
  intro b σ H F ρ M vs ds Φ Q R hd hT k
  obtain ⟨rfl, hT⟩ := hT
  exact ⟨hd.inv_nil, k σ H F ρ M (Same.refl F) R (fun _ _ => rfl) hT⟩
def cGCons (G : CG) (Gs : CGs) : CGs := fun ds ρ M Φ => ∃ d r, ds = d :: r ∧ G d ρ M fun ρ1 M1 => Gs r ρ1 M1 Φ
theorem xgs_cons {js js' : List Nat} {g : TG} {gs : TGs} {G : CG} {Gs : CGs} (h : XG K js g G) (hs : XGs K js' gs Gs) : XGs K (js ++ js') (gCons g gs) (cGCons G Gs) := by
  intro b σ H F ρ M vs ds Φ Q R hd hT k
  obtain ⟨d, r, rfl, hT⟩ := hT
  obtain ⟨v, t, rfl, h1, h2⟩ := hd.inv
  refine ⟨v, t, rfl, h b σ H F ρ M v d _ _ R h1 hT fun σ1 H1 F1 ρ1 M1 s1 R1 w1 hT => ?_⟩
  refine hs b σ1 H1 F1 ρ1 M1 t r _ _ R1 (h2.up s1) hT fun σ2 H2 F2 ρ2 M2 s2 R2 w2 hT => k σ2 H2 F2 ρ2 M2 (s1.trans s2) R2 (fun ws hw => ?_) hT
  rw [w2 ws fun j hj => hw j (List.mem_append_right _ hj), w1 ws fun j hj => hw j (List.mem_append_left _ hj)]
def cGTup (n : Nat) (Gs : CGs) : CG := fun d ρ M Φ => ∃ ds, d = .tup ds ∧ ds.length = n ∧ Gs ds ρ M Φ
theorem xg_tup {n : Nat} {js : List Nat} {gs : TGs} {Gs : CGs} (hs : XGs K js gs Gs) : XG K js (gTup K n gs) (cGTup n Gs) := by
  intro b σ H F ρ M v d Φ Q R hd hT k
  obtain ⟨ds, rfl, hn, hT⟩ := hT
  obtain ⟨a, xs, rfl, ea, ha⟩ := hd.inv_tup
  exact ⟨a, xs, rfl, sqT_same R.sub ea, by rw [ha.1, hn], hs b σ H F ρ M xs ds Φ Q R ha hT k⟩
theorem XG.fr {js : List Nat} {g : TG} {G : CG} (h : XG K js g G) {b : HC.Bs} {σ : L2.St} {H F : Hp} {ρ : HC.Env} {M : Cells} {v : V} {d : D} {Φ : HC.Env → Cells → Prop} {Q : L2.St → Hp → Prop} (R : Rep K b σ H F ρ M) (hd : Dr K F v d) (hT : G d ρ M Φ)
    (k : ∀ σ' H' F' ρ' M', Same F F' → Fr M H F H' F' M' → Rep K b σ' H' F' ρ' M' → (∀ ws, (∀ j ∈ js, j ∈ ws) → wipe σ' ws = wipe σ ws) → Φ ρ' M' → Q σ' H') : g v σ H Q :=
  h (HC.here H F M) σ H F ρ M v d Φ Q R.here hd hT fun σ' H' F' ρ' M' s R' w hΦ => k σ' H' F' ρ' M' s (Rep.fr R') (R.back R') w hΦ
/-! ### comprehensions -/
def wipeC (ρ : HC.Env) : List Nat → HC.Env
  | [] => ρ
  | v :: vs => (wipeC ρ vs).set v none
theorem wipeC_len (ρ : HC.Env) : ∀ vs, (wipeC ρ vs).length = ρ.length
  | [] => rfl
  | v :: vs => by unfold wipeC; rw [List.length_set, wipeC_len ρ vs]
theorem wipeC_some {ρ : HC.Env} {i : Nat} {o : D} : ∀ {vs : List Nat}, (wipeC ρ vs)[i]? = some (some o) → ρ[i]? = some (some o) ∧ i ∉ vs
  | [], h => ⟨h, by simp⟩
  | v :: vs, h => by
    rcases set_some (show ((wipeC ρ vs).set v none)[i]? = some (some o) from h) with ⟨rfl, q⟩ | ⟨n, q⟩
    · cases q
    · obtain ⟨h1, h2⟩ := wipeC_some q
      exact ⟨h1, fun hm => (List.mem_cons.mp hm).elim n h2⟩
theorem Rep.block {b : HC.Bs} {σ : L2.St} {H F : Hp} {ρ : HC.Env} {M : Cells} (R : Rep K b σ H F ρ M) (vs : List Nat) : Rep K b (wipe σ vs) H F (wipeC ρ vs) M where
  sub := R.sub
  grow := R.grow
  keep := R.keep
  new := R.new
  nt := R.nt
  dom := R.dom
  tabs := R.tabs
  cell := R.cell
  slot := fun i o e => by
    obtain ⟨h1, h2⟩ := wipeC_some e
    rw [wipe_get h2]
    exact R.slot i o h1
  len := by rw [wipeC_len, wipe_length]; exact R.len
theorem Rep.unblock {b : HC.Bs} {σ : L2.St} {H F H0 F0 : Hp} {ρ0 ρ : HC.Env} {M0 M : Cells} {vs : List Nat} (R0 : Rep K b σ H0 F0 ρ0 M0) (s : Same F0 F) (R : Rep K b (wipe σ vs) H F ρ M) : Rep K b σ H F ρ0 M where
  sub := R.sub
  grow := R.grow
  keep := R.keep
  new := R.new
  nt := R.nt
  dom := R.dom
  tabs := R.tabs
  cell := R.cell
  slot := fun i o e => by
    obtain ⟨v, h1, h2⟩ := R0.slot i o e
    exact ⟨v, h1, h2.up s⟩
  len := R0.len
def cYes : CTt := fun ρ M Φ => Φ true M
theorem xt_yes : XT K tYes cYes := fun b σ H F ρ M Φ Q R hT k => k true H F M (Same.refl F) R hT
def cLc (Ti : CLs) (G : CG) (Tt : CTt) (Te : CE) (vs : List Nat) : CLs := fun ρ M Φ => Ti ρ M fun ds M1 => ∃ W : Nat → List D → Cells → Prop, W 0 [] M1 ∧
  (∀ k x acc M, ds[k]? = some x → W k acc M → G x (wipeC ρ vs) M fun ρ2 M2 => Tt ρ2 M2 fun c M3 => if c = true then Te ρ2 M3 fun e M4 => acc.length < sizeLine ∧ W (k + 1) (acc ++ [e]) M4 else W (k + 1) acc M3) ∧
  ∀ acc M, W ds.length acc M → Φ acc M
theorem xl_lc {js : List Nat} {wi : TI} {g : TG} {tt : TT} {te : TE} {vs : List Nat} {Ti : CLs} {G : CG} {Tt : CTt} {Te : CE} (hi : XI K wi Ti) (hg : XG K js g G) (ht : XT K tt Tt) (he : XE K te Te) (hj : ∀ j ∈ js, j ∈ vs := by decide) :
    XL K (tLc wi g tt te vs) (cLc Ti G Tt Te vs) := by
  intro b σ H F ρ M Φ Q R0 hT k
  refine hi b σ H F ρ M _ _ R0 hT fun J H1 F1 M1 ds s1 R1 hw hT => fun p hp => ?_
  obtain ⟨Gd, Y, hwk, hG, hY⟩ := hw
  obtain ⟨W, w0, wt, wd⟩ := hT
  have lo1 := R1.loose hp
  refine lc_it hwk (fun i H' => ∃ F' M' acc xs, Same F1 F' ∧ Rep K b (wipe σ vs) H' F' (wipeC ρ vs) M' ∧ H' p = some (.lst xs) ∧ DA K F' xs acc ∧ Loose b F' M' p ∧ W i acc M')
    ⟨F1, M1, [], [], Same.refl F1, (R1.block vs).lay hp, upd_same, .nil, lo1, w0⟩ ?_ ?_ ?_
  · rintro i H' _ ⟨F', M', acc, xs, s, R, _⟩
    exact hG H' F' s R.sub
  · rintro i x H2 H3 hin ⟨F2, M2, acc, xs, s, R2, ex, hx, lo2, hW⟩ y
    obtain ⟨d, F3, hd, hdr, hy⟩ := hY i H2 x H3 y hin F2 s R2.sub
    have st : Rep K b (wipe σ vs) H3 F3 (wipeC ρ vs) M2 ∧ H3 p = some (.lst xs) ∧ Loose b F3 M2 p ∧ Same F2 F3 := by
      rcases hy with ⟨rfl, rfl⟩ | ⟨q, o, hq, hqn, rfl, rfl⟩
      · exact ⟨R2, ex, lo2, Same.refl _⟩
      · have nq : p ≠ q := ne_of_none ex hq
        exact ⟨R2.alloc hq hqn, (upd_ne nq).trans ex, ⟨(upd_ne nq).trans lo2.1, lo2.2⟩, SX.same_upd (R2.fresh hq).1⟩
    obtain ⟨R3, ex3, lo3, s3⟩ := st
    refine hg.fr R3 hdr (wt i d acc M2 hd hW) fun σ4 H4 F4 ρ4 M4 s4 f4 R4 w4 hT => ?_
    have hwp : wipe σ4 vs = wipe σ vs := by rw [w4 vs hj, wipe_wipe]
    obtain ⟨ex4, lo4⟩ := f4.loose lo3 ex3
    refine ⟨hwp, ht.fr R4 hT fun c H5 F5 M5 s5 f5 R5 hT => ?_⟩
    obtain ⟨ex5, lo5⟩ := f5.loose lo4 ex4
    have s15 : Same F1 F5 := (((s.trans s3).trans s4).trans s5)
    have hx5 := (((hx.up s3).up s4).up s5)
    -- back to the block's slots
    have blk : ∀ {H' F' : Hp} {M' : Cells}, Same F2 F' → Rep K b σ4 H' F' ρ4 M' → Rep K b (wipe σ vs) H' F' (wipeC ρ vs) M' := fun {H' F' M'} sq R' => by
      have h1 := R'.block vs
      rw [hwp] at h1
      have h2 : Rep K b (wipe (wipe σ vs) []) H' F' (wipeC ρ4 vs) M' := h1
      exact Rep.unblock (vs := []) R2 sq h2
    cases c with
    | false => exact ⟨F5, M5, acc, xs, s15, blk ((s3.trans s4).trans s5) R5, ex5, hx5, lo5, hT⟩
    | true =>
      refine he.fr R5 hT fun u H6 F6 M6 e s6 f6 R6 hd6 hT => ?_
      obtain ⟨ex6, lo6⟩ := f6.loose lo5 ex5
      have hx6 := hx5.up s6
      exact ⟨xs, ex6, by rw [hx6.1]; exact hT.1, F6, M6, acc ++ [e], xs ++ [u], s15.trans s6, blk (((s3.trans s4).trans s5).trans s6) (R6.poke (o := .lst (xs ++ [u])) lo6 ex6), upd_same, hx6.app (.one hd6), lo6, hT.2⟩
  · rintro H' ⟨F', M', acc, xs, s, R, ex, hx, lo, hW⟩
    exact k p xs H' F' M' acc (s1.trans s) (R1.unblock s R) lo ex hx (wd acc M' hW)
def cDc (Ti : CLs) (G : CG) (Tt : CTt) (Tk Tv : CE) (vs : List Nat) : CDs := fun ρ M Φ => Ti ρ M fun ds M1 => ∃ W : Nat → List (Key × D) → Cells → Prop, W 0 [] M1 ∧
  (∀ k x acc M, ds[k]? = some x → W k acc M → G x (wipeC ρ vs) M fun ρ2 M2 => Tt ρ2 M2 fun c M3 => if c = true then Tk ρ2 M3 fun y M4 => Tv ρ2 M4 fun z M5 => ∃ key, keyD y = some key ∧ acc.length < sizeLine ∧ W (k + 1) (putD acc key z) M5 else W (k + 1) acc M3) ∧
  ∀ acc M, W ds.length acc M → Φ acc M
theorem xd_dc {js : List Nat} {wi : TI} {g : TG} {tt : TT} {tk tv : TE} {vs : List Nat} {Ti : CLs} {G : CG} {Tt : CTt} {Tk Tv : CE} (hi : XI K wi Ti) (hg : XG K js g G) (ht : XT K tt Tt) (hk : XE K tk Tk) (he : XE K tv Tv) (hj : ∀ j ∈ js, j ∈ vs := by decide) :
    XD K (tDc wi g tt tk tv vs) (cDc Ti G Tt Tk Tv vs) := by
  intro b σ H F ρ M Φ Q R0 hT k
  refine hi b σ H F ρ M _ _ R0 hT fun J H1 F1 M1 ds s1 R1 hw hT => fun p hp => ?_
  obtain ⟨Gd, Y, hwk, hG, hY⟩ := hw
  obtain ⟨W, w0, wt, wd⟩ := hT
  have lo1 := R1.loose hp
  let Pv : Nat → Hp → Prop := fun i H' => ∃ F' M' acc xs, Same F1 F' ∧ Rep K b (wipe σ vs) H' F' (wipeC ρ vs) M' ∧ H' p = some (.dK xs) ∧ DM K F' xs acc ∧ Loose b F' M' p ∧ W i acc M'
  refine ⟨fun i m H' => m = ds.length - i ∧ i ≤ ds.length ∧ Pv i H', ⟨ds.length, by simp, Nat.zero_le _, F1, M1, [], [], Same.refl F1, (R1.block vs).lay hp, upd_same, .nil, lo1, w0⟩, ?_⟩
  rintro i m H2 ⟨rfl, hle, F2, M2, acc, xs, s, R2, ex, hx, lo2, hW⟩
  have hgd := hG H2 F2 s R2.sub
  by_cases hin : i < ds.length
  · refine .inr ⟨hwk.goes i H2 hin hgd, Pv (i + 1), fun H' p' => ⟨ds.length - (i + 1), by omega, rfl, hin, p'⟩, fun x H3 y => ?_⟩
    obtain ⟨d, F3, hd, hdr, hy⟩ := hY i H2 x H3 (hwk.yields i H2 x H3 hin hgd y) hin F2 s R2.sub
    have st : Rep K b (wipe σ vs) H3 F3 (wipeC ρ vs) M2 ∧ H3 p = some (.dK xs) ∧ Loose b F3 M2 p ∧ Same F2 F3 := by
      rcases hy with ⟨rfl, rfl⟩ | ⟨q, o, hq, hqn, rfl, rfl⟩
      · exact ⟨R2, ex, lo2, Same.refl _⟩
      · have nq : p ≠ q := ne_of_none ex hq
        exact ⟨R2.alloc hq hqn, (upd_ne nq).trans ex, ⟨(upd_ne nq).trans lo2.1, lo2.2⟩, SX.same_upd (R2.fresh hq).1⟩
    obtain ⟨R3, ex3, lo3, s3⟩ := st
    refine hg.fr R3 hdr (wt i d acc M2 hd hW) fun σ4 H4 F4 ρ4 M4 s4 f4 R4 w4 hT => ?_
    have hwp : wipe σ4 vs = wipe σ vs := by rw [w4 vs hj, wipe_wipe]
    obtain ⟨ex4, lo4⟩ := f4.loose lo3 ex3
    refine ⟨hwp, ht.fr R4 hT fun c H5 F5 M5 s5 f5 R5 hT => ?_⟩
    obtain ⟨ex5, lo5⟩ := f5.loose lo4 ex4
    have s15 : Same F1 F5 := (((s.trans s3).trans s4).trans s5)
    have hx5 := (((hx.up s3).up s4).up s5)
    have blk : ∀ {H' F' : Hp} {M' : Cells}, Same F2 F' → Rep K b σ4 H' F' ρ4 M' → Rep K b (wipe σ vs) H' F' (wipeC ρ vs) M' := fun {H' F' M'} sq R' => by
      have h1 := R'.block vs
      rw [hwp] at h1
      have h2 : Rep K b (wipe (wipe σ vs) []) H' F' (wipeC ρ4 vs) M' := h1
      exact Rep.unblock (vs := []) R2 sq h2
    cases c with
    | false => exact ⟨F5, M5, acc, xs, s15, blk ((s3.trans s4).trans s5) R5, ex5, hx5, lo5, hT⟩
    | true =>
      refine hk.fr R5 hT fun u H6 F6 M6 e s6 f6 R6 hd6 hT => ?_
      obtain ⟨ex6, lo6⟩ := f6.loose lo5 ex5
      refine he.fr R6 hT fun u7 H7 F7 M7 e7 s7 f7 R7 hd7 hT => ?_
      obtain ⟨ex7, lo7⟩ := f7.loose lo6 ex6
      obtain ⟨key, hky, hz, hT⟩ := hT
      have hx7 := (hx5.up s6).up s7
      exact ⟨xs, key, keyD_ok hd6 hky, ex7, by rw [hx7.len]; exact hz, F7, M7, putD acc key e7, putK xs key u7, (s15.trans s6).trans s7, blk ((((s3.trans s4).trans s5).trans s6).trans s7) (R7.poke (o := .dK (putK xs key u7)) lo7 ex7), upd_same, hx7.put hd7, lo7, hT⟩
  · have e : i = ds.length := by omega
    subst e
    exact .inl ⟨hwk.stops H2 hgd, k p xs H2 F2 M2 acc (s1.trans s) (R1.unblock s R2) lo2 ex hx (wd acc M2 hW)⟩
/-! ### slices -/
abbrev COo := HC.Env → Cells → (Option Int → Cells → Prop) → Prop
def XP (K : PySem.W.Frag) (t : TO) (T : COo) : Prop := ∀ (b : HC.Bs) (σ : L2.St) (H F : Hp) (ρ : HC.Env) (M : Cells) (Φ : Option Int → Cells → Prop) (Q : Option Int → Hp → Prop), Rep K b σ H F ρ M → T ρ M Φ →
  (∀ o H' F' M', Same F F' → Rep K b σ H' F' ρ M' → Φ o M' → Q o H') → t σ H Q
def cNoPart : COo := fun ρ M Φ => Φ none M
theorem xp_none : XP K tNoPart cNoPart := fun b σ H F ρ M Φ Q R hT k => k none H F M (Same.refl F) R hT
def cPart (T : CE) : COo := fun ρ M Φ => T ρ M fun x M' => ∃ i, x = .int i ∧ Φ (some i) M'
theorem xp_some {t : TE} {T : CE} (h : XE K t T) : XP K (tPart t) (cPart T) := by
  intro b σ H F ρ M Φ Q R0 hT k
  refine h b σ H F ρ M _ _ R0 hT fun x H1 F1 M1 d s1 R1 h1 hT => ?_
  obtain ⟨i, rfl, hT⟩ := hT
  exact ⟨i, h1.inv_int, k _ H1 F1 M1 s1 R1 hT⟩
def cSlL (Te : CE) (Tl Th : COo) : CLs := fun ρ M Φ => Te ρ M fun x M1 => Tl ρ M1 fun l M2 => Th ρ M2 fun u M3 => ∃ ds, lstOf M3 x = some ds ∧ Φ (cutD ds l u) M3
theorem xl_slice {te : TE} {tl th : TO} {Te : CE} {Tl Th : COo} (he : XE K te Te) (hl : XP K tl Tl) (hh : XP K th Th) : XL K (tSl (rSlL K) te tl th) (cSlL Te Tl Th) := by
  intro b σ H F ρ M Φ Q R0 hT k
  refine he b σ H F ρ M _ _ R0 hT fun x H1 F1 M1 d s1 R1 h1 hA => ?_
  refine hl b σ H1 F1 ρ M1 _ _ R1 hA fun l H2 F2 M2 s2 R2 hB => ?_
  refine hh b σ H2 F2 ρ M2 _ _ R2 hB fun u H3 F3 M3 s3 R3 hC => ?_
  obtain ⟨ds, hl, hD⟩ := hC
  have s13 := s2.trans s3
  obtain ⟨a, xs, rfl, ea, ha⟩ := lst_at R3 (h1.up s13) hl
  exact ⟨a, xs, rfl, SqL.of ea, fun p hp => k p _ _ F3 M3 _ (s1.trans s13) (R3.lay hp) (R3.loose hp) upd_same (ha.cut l u) hD⟩
def cRevL (T : CE) : CLs := fun ρ M Φ => T ρ M fun x M1 => ∃ ds, lstOf M1 x = some ds ∧ Φ ds.reverse M1
theorem xl_rev {t : TE} {T : CE} (h : XE K t T) : XL K (tRevL K t) (cRevL T) := by
  intro b σ H F ρ M Φ Q R0 hT k
  refine h b σ H F ρ M _ _ R0 hT fun x H1 F1 M1 d s1 R1 h1 hT => ?_
  obtain ⟨ds, hl, hT⟩ := hT
  obtain ⟨a, xs, rfl, ea, ha⟩ := lst_at R1 h1 hl
  exact ⟨a, xs, rfl, SqL.of ea, fun p hp => k p _ _ F1 M1 _ s1 (R1.lay hp) (R1.loose hp) upd_same ha.rev hT⟩
def cRevT (T : CE) : CE := fun ρ M Φ => T ρ M fun x M1 => ∃ ds, x = .tup ds ∧ Φ (.tup ds.reverse) M1
theorem xe_revT {t : TE} {T : CE} (h : XE K t T) : XE K (SX.tRevT K t) (cRevT T) := by
  intro b σ H F ρ M Φ Q R0 hT k
  refine h b σ H F ρ M _ _ R0 hT fun x H1 F1 M1 d s1 R1 h1 hT => ?_
  obtain ⟨ds, rfl, hT⟩ := hT
  obtain ⟨a, xs, rfl, ea, ha⟩ := h1.inv_tup
  refine ⟨a, xs, rfl, sqT_same R1.sub ea, fun p hp => ?_⟩
  obtain ⟨hF, _⟩ := R1.fresh hp
  have sF : Same F1 (upd F1 p (.tup xs.reverse)) := SX.same_upd hF
  have h2 := ha.rev.up sF
  exact k _ _ _ M1 _ (s1.trans sF) (R1.alloc hp) (.tup (SqT.of upd_same) h2.1 h2.2) hT
/-- tuple(x) of a list -/
def cTupOf (T : CE) : CE := fun ρ M Φ => T ρ M fun x M1 => ∃ ds, seqOf M1 x = some ds ∧ Φ (.tup ds) M1
theorem xe_tupOf {t : TE} {T : CE} (h : XE K t T) : XE K (tCB (fun xs H Q => ∃ p ys, xs = [V.ref p] ∧ ((SqL K H p ys ∧ ∀ l, H l = none → Q (.ref l) (upd H l (.tup ys))) ∨ (SqT K H p ys ∧ Q (.ref p) H))) (tCons t tNil)) (cTupOf T) := by
  intro b σ H F ρ M Φ Q R0 hT k
  refine h b σ H F ρ M _ _ R0 hT fun x H1 F1 M1 d s1 R1 h1 hT => ?_
  obtain ⟨ds, hl, hΦ⟩ := hT
  by_cases hd : d = .tup ds
  · subst hd
    obtain ⟨a, xs, rfl, ea, ha⟩ := h1.inv_tup
    exact ⟨a, xs, rfl, .inr ⟨sqT_same R1.sub ea, k _ H1 F1 M1 _ s1 R1 h1 hΦ⟩⟩
  · have hl' : lstOf M1 d = some ds := by
      cases d with
      | tup l => cases hl; exact absurd rfl hd
      | _ => exact hl
    obtain ⟨a, xs, rfl, ea, ha⟩ := lst_at R1 h1 hl'
    refine ⟨a, xs, rfl, .inl ⟨SqL.of ea, fun p hp => ?_⟩⟩
    obtain ⟨hF, _⟩ := R1.fresh hp
    have sF : Same F1 (upd F1 p (.tup xs)) := SX.same_upd hF
    have h2 := ha.up sF
    exact k _ _ _ M1 _ (s1.trans sF) (R1.alloc hp) (.tup (SqT.of upd_same) h2.1 h2.2) hΦ
end
end HC
/-! Part 4: statements, promises, calls. -/
namespace HC
open PySem PySem.Spec PyProof.Rows L2 DL
structure CEn where
  nx : HC.Env → Cells → Prop
  rt : D → HC.Env → Cells → Prop
  bk : HC.Env → Cells → Prop
  ct : HC.Env → Cells → Prop
abbrev CS := CEn → HC.Env → Cells → Prop
def XS [Tbs] (K : PySem.W.Frag) (t : TS) (T : CS) : Prop := ∀ (b : HC.Bs) (σ : L2.St) (H F : Hp) (ρ : HC.Env) (M : Cells) (E : CEn) (D' : Ends), Rep K b σ H F ρ M → T E ρ M →
  (∀ σ' H' F' ρ' M', Same F F' → Rep K b σ' H' F' ρ' M' → E.nx ρ' M' → D'.nx σ' H') → (∀ v σ' H' F' ρ' M' d, Same F F' → Rep K b σ' H' F' ρ' M' → Dr K F' v d → E.rt d ρ' M' → D'.rt v H') →
  (∀ σ' H' F' ρ' M', Same F F' → Rep K b σ' H' F' ρ' M' → E.bk ρ' M' → D'.bk σ' H') → (∀ σ' H' F' ρ' M', Same F F' → Rep K b σ' H' F' ρ' M' → E.ct ρ' M' → D'.ct σ' H') → t D' σ H
section
variable [Tbs] {K : PySem.W.Frag}
def cNext : CS := fun E ρ M => E.nx ρ M
theorem xs_next : XS K tNext cNext := fun b σ H F ρ M E D' R hT n r bk ct => n σ H F ρ M (Same.refl F) R hT
def cSeq (T U : CS) : CS := fun E ρ M => T { E with nx := U E } ρ M
theorem xs_seq {t u : TS} {T U : CS} (h : XS K t T) (h2 : XS K u U) : XS K (tSeq t u) (cSeq T U) := by
  intro b σ H F ρ M E D' R hT n r bk ct
  refine h b σ H F ρ M _ _ R hT (fun σ1 H1 F1 ρ1 M1 s1 R1 hT => ?_) r bk ct
  exact h2 b σ1 H1 F1 ρ1 M1 E D' R1 hT (fun σ2 H2 F2 ρ2 M2 s2 => n σ2 H2 F2 ρ2 M2 (s1.trans s2)) (fun v σ2 H2 F2 ρ2 M2 d s2 => r v σ2 H2 F2 ρ2 M2 d (s1.trans s2)) (fun σ2 H2 F2 ρ2 M2 s2 => bk σ2 H2 F2 ρ2 M2 (s1.trans s2)) (fun σ2 H2 F2 ρ2 M2 s2 => ct σ2 H2 F2 ρ2 M2 (s1.trans s2))
def cBreak : CS := fun E ρ M => E.bk ρ M
theorem xs_break : XS K tBreak cBreak := fun b σ H F ρ M E D' R hT n r bk ct => bk σ H F ρ M (Same.refl F) R hT
def cCont : CS := fun E ρ M => E.ct ρ M
theorem xs_cont : XS K tCont cCont := fun b σ H F ρ M E D' R hT n r bk ct => ct σ H F ρ M (Same.refl F) R hT
def cRet (T : CE) : CS := fun E ρ M => T ρ M fun d M' => E.rt d ρ M'
theorem xs_ret {t : TE} {T : CE} (h : XE K t T) : XS K (tRet t) (cRet T) := by
  intro b σ H F ρ M E D' R hT n r bk ct
  exact h b σ H F ρ M _ _ R hT fun v H1 F1 M1 d s1 R1 hd hΦ => r v σ H1 F1 ρ M1 d s1 R1 hd hΦ
def cRetN : CS := fun E ρ M => E.rt .non ρ M
theorem xs_retN : XS K tRetN cRetN := fun b σ H F ρ M E D' R hT n r bk ct => r .non σ H F ρ M .non (Same.refl F) R .non hT
def cDrop (T : CE) : CS := fun E ρ M => T ρ M fun _ M' => E.nx ρ M'
theorem xs_drop {t : TE} {T : CE} (h : XE K t T) : XS K (tDrop t) (cDrop T) := by
  intro b σ H F ρ M E D' R hT n r bk ct
  exact h b σ H F ρ M _ _ R hT fun v H1 F1 M1 d s1 R1 hd hΦ => n σ H1 F1 ρ M1 s1 R1 hΦ
def cIfS (C : CTt) (T U : CS) : CS := fun E ρ M => C ρ M fun c M1 => if c = true then T E ρ M1 else U E ρ M1
theorem xs_if {c : TT} {t u : TS} {C : CTt} {T U : CS} (hc : XT K c C) (h : XS K t T) (h2 : XS K u U) : XS K (tIfS c t u) (cIfS C T U) := by
  intro b σ H F ρ M E D' R hT n r bk ct
  refine hc b σ H F ρ M _ _ R hT fun c H1 F1 M1 s1 R1 hT => ?_
  have n' := fun σ2 H2 F2 ρ2 M2 (s2 : Same F1 F2) => n σ2 H2 F2 ρ2 M2 (s1.trans s2)
  have r' := fun v σ2 H2 F2 ρ2 M2 d (s2 : Same F1 F2) => r v σ2 H2 F2 ρ2 M2 d (s1.trans s2)
  have b' := fun σ2 H2 F2 ρ2 M2 (s2 : Same F1 F2) => bk σ2 H2 F2 ρ2 M2 (s1.trans s2)
  have c' := fun σ2 H2 F2 ρ2 M2 (s2 : Same F1 F2) => ct σ2 H2 F2 ρ2 M2 (s1.trans s2)
  cases c with
  | true => exact h b σ H1 F1 ρ M1 E D' R1 hT n' r' b' c'
  | false => exact h2 b σ H1 F1 ρ M1 E D' R1 hT n' r' b' c'
def cAsg (T : CE) (G : CG) : CS := fun E ρ M => T ρ M fun d M1 => G d ρ M1 E.nx
theorem xs_asg {js : List Nat} {t : TE} {g : TG} {T : CE} {G : CG} (h : XE K t T) (hg : XG K js g G) : XS K (tAsg t g) (cAsg T G) := by
  intro b σ H F ρ M E D' R hT n r bk ct
  refine h b σ H F ρ M _ _ R hT fun v H1 F1 M1 d s1 R1 hd hΦ => ?_
  exact hg b σ H1 F1 ρ M1 v d _ _ R1 hd hΦ fun σ2 H2 F2 ρ2 M2 s2 R2 _ hn => n σ2 H2 F2 ρ2 M2 (s1.trans s2) R2 hn
def cAug (i : Nat) (T : CE) (R : DO) : CS := fun E ρ M => ∃ x, ρ[i]? = some (some x) ∧ T ρ M fun y M1 => R x y fun z => E.nx (ρ.set i (some z)) M1
theorem xs_augI {i : Nat} {t : TE} {T : CE} {f : Int → Int → Int} (h : XE K t T) : XS K (tAug i t (ipI f)) (cAug i T (oI0 fun a c => .int (f a c))) := by
  intro b σ H F ρ M E D' R hT n r bk ct
  obtain ⟨x, hx, hT⟩ := hT
  obtain ⟨v, h1, h2⟩ := R.slot i _ hx
  refine ⟨v, h1, h b σ H F ρ M _ _ R hT fun y H1 F1 M1 d s1 R1 hd hΦ => ?_⟩
  cases x <;> try exact hΦ.elim
  cases d <;> try exact hΦ.elim
  exact ⟨_, _, h2.inv_int, hd.inv_int, n _ H1 F1 _ M1 s1 (R1.setD (.int _)) hΦ⟩
/-! ### cells are changed -/
theorem Rep.writeL {b : HC.Bs} {σ : L2.St} {H F : Hp} {ρ : HC.Env} {M : Cells} {p : Addr} {ds ds' : List D} {xs ys : List V} (R : Rep K b σ H F ρ M) (e : look M p = some (.l ds)) (ex : H p = some (.lst xs)) (hy : DA K F ys ds') : Rep K b σ (upd H p (.lst ys)) F ρ (put M p (.l ds')) := by
  obtain ⟨hF, _⟩ := (R.cell p _ e).1
  exact R.write e hF ex (by intro t z; cases z) (lst_nc _) ⟨hF, ys, upd_same, hy⟩
theorem Rep.writeM {b : HC.Bs} {σ : L2.St} {H F : Hp} {ρ : HC.Env} {M : Cells} {p : Addr} {ds ds' : List (Key × D)} {xs ys : List (Key × V)} (R : Rep K b σ H F ρ M) (e : look M p = some (.m ds)) (ex : H p = some (.dK xs)) (hy : DM K F ys ds') : Rep K b σ (upd H p (.dK ys)) F ρ (put M p (.m ds')) := by
  obtain ⟨hF, _⟩ := (R.cell p _ e).1
  exact R.write e hF ex (by intro t z; cases z) (dK_nc _) ⟨hF, ys, upd_same, hy⟩
theorem l_at {b : HC.Bs} {σ : L2.St} {H F : Hp} {ρ : HC.Env} {M : Cells} (R : Rep K b σ H F ρ M) {p : Addr} {ds : List D} (e : look M p = some (.l ds)) : ∃ xs, H p = some (.lst xs) ∧ DA K F xs ds := (R.cell p _ e).1.2
theorem m_at {b : HC.Bs} {σ : L2.St} {H F : Hp} {ρ : HC.Env} {M : Cells} (R : Rep K b σ H F ρ M) {p : Addr} {ds : List (Key × D)} (e : look M p = some (.m ds)) : ∃ xs, H p = some (.dK xs) ∧ DM K F xs ds := (R.cell p _ e).1.2
/-- x.append(e) -/
def cApp (To T : CE) : CS := fun E ρ M => To ρ M fun x M1 => (∃ l0, lstOf M1 x = some l0) ∧ T ρ M1 fun d M2 => ∃ p ds, x = .fn p ∧ look M2 p = some (.l ds) ∧ ds.length < sizeLine ∧ E.nx ρ (put M2 p (.l (ds ++ [d])))
theorem xs_app {to t : TE} {To T : CE} (ho : XE K to To) (h : XE K t T) : XS K (tDrop (tBM K "list" rAppend to (tCons t tNil))) (cApp To T) := by
  intro b σ H F ρ M E D' R hT n r bk ct
  refine ho b σ H F ρ M _ _ R hT fun x H1 F1 M1 dx s1 R1 h1 hT => ?_
  obtain ⟨⟨l0, e0⟩, hT⟩ := hT
  obtain ⟨a, xs0, rfl, ea, _⟩ := lst_at R1 h1 e0
  refine ⟨.inl ⟨rfl, xs0, SqL.of ea⟩, h b σ H1 F1 ρ M1 _ _ R1 hT fun y H2 F2 M2 d s2 R2 hd hΦ => ?_⟩
  obtain ⟨p, ds, rfl, e1, hz, hΦ⟩ := hΦ
  cases h1.inv_fn
  obtain ⟨xs, ex, hx⟩ := l_at R2 e1
  exact ⟨_, xs, y, rfl, rfl, ex, by rw [hx.1]; exact hz, n σ _ F2 ρ _ (s1.trans s2) (R2.writeL e1 ex (hx.app (.one hd))) hΦ⟩
/-- x.extend(a new list) -/
def cExt (To : CE) (T : CLs) : CS := fun E ρ M => To ρ M fun x M1 => (∃ l0, lstOf M1 x = some l0) ∧ T ρ M1 fun es M2 => ∃ p ds, x = .fn p ∧ look M2 p = some (.l ds) ∧ ds.length + es.length ≤ sizeLine ∧ E.nx ρ (put M2 p (.l (ds ++ es)))
theorem xs_ext {to t : TE} {To : CE} {T : CLs} (ho : XE K to To) (h : XL K t T) : XS K (tDrop (tBM K "list" rExtend to (tCons t tNil))) (cExt To T) := by
  intro b σ H F ρ M E D' R hT n r bk ct
  refine ho b σ H F ρ M _ _ R hT fun x H1 F1 M1 dx s1 R1 h1 hT => ?_
  obtain ⟨⟨l0, e0⟩, hT⟩ := hT
  obtain ⟨a, xs0, rfl, ea, _⟩ := lst_at R1 h1 e0
  refine ⟨.inl ⟨rfl, xs0, SqL.of ea⟩, h b σ H1 F1 ρ M1 _ _ R1 hT fun q ys H2 F2 M2 es s2 R2 lo hy hes hΦ => ?_⟩
  obtain ⟨p, ds, rfl, e1, hz, hΦ⟩ := hΦ
  cases h1.inv_fn
  obtain ⟨xs, ex, hx⟩ := l_at R2 e1
  exact ⟨_, q, xs, ys, rfl, rfl, ex, hy, by rw [hx.1, hes.1]; exact hz, n σ _ F2 ρ _ (s1.trans s2) (R2.writeL e1 ex (hx.app hes)) hΦ⟩
/-- x.pop() -/
def cPop (To : CE) : CE := fun ρ M Φ => To ρ M fun x M1 => ∃ p ds d, x = .fn p ∧ look M1 p = some (.l ds) ∧ ds[ds.length - 1]? = some d ∧ Φ d (put M1 p (.l ds.dropLast))
theorem xe_pop {to : TE} {To : CE} (ho : XE K to To) : XE K (tBM0 K "list" rPop to) (cPop To) := by
  intro b σ H F ρ M Φ Q R hT k
  refine ho b σ H F ρ M _ _ R hT fun x H1 F1 M1 dx s1 R1 h1 hT => ?_
  obtain ⟨p, ds, d, rfl, e1, hd, hΦ⟩ := hT
  cases h1.inv_fn
  obtain ⟨xs, ex, hx⟩ := l_at R1 e1
  obtain ⟨v, hv, hdr⟩ := hx.get hd
  exact ⟨.inl ⟨rfl, xs, SqL.of ex⟩, p, xs, v, rfl, rfl, ex, by rw [hx.1]; exact hv, k v _ F1 _ d s1 (R1.writeL e1 ex hx.dropLast) hdr hΦ⟩
/-- x[e] = v in a list, in a dict -/
def cSubL (To Ti : CE) : CG := fun d ρ M Φ => To ρ M fun x M1 => Ti ρ M1 fun y M2 => ∃ p ds k j, x = .fn p ∧ look M2 p = some (.l ds) ∧ y = .int k ∧ ixN ds.length k = some j ∧ Φ ρ (put M2 p (.l (ds.set j d)))
theorem xg_subL {to ti : TE} {To Ti : CE} (ho : XE K to To) (hi : XE K ti Ti) : XG K [] (gSub to ti rSetL) (cSubL To Ti) := by
  intro b σ H F ρ M v d Φ Q R hd hT k
  refine ho b σ H F ρ M _ _ R hT fun x H1 F1 M1 dx s1 R1 h1 hT => ?_
  refine hi b σ H1 F1 ρ M1 _ _ R1 hT fun y H2 F2 M2 e s2 R2 h2 hΦ => ?_
  obtain ⟨p, ds, i, j, rfl, e1, rfl, hj, hΦ⟩ := hΦ
  cases h1.inv_fn
  obtain ⟨xs, ex, hx⟩ := l_at R2 e1
  exact ⟨p, xs, i, j, rfl, h2.inv_int, ex, by rw [hx.1]; exact hj, k σ _ F2 ρ _ (s1.trans s2) (R2.writeL e1 ex (hx.set (hd.up (s1.trans s2)))) (fun _ _ => rfl) hΦ⟩
def cSubM (To Ti : CE) : CG := fun d ρ M Φ => To ρ M fun x M1 => Ti ρ M1 fun y M2 => ∃ p ks key, x = .fn p ∧ look M2 p = some (.m ks) ∧ keyD y = some key ∧ ks.length < sizeLine ∧ Φ ρ (put M2 p (.m (putD ks key d)))
theorem xg_subM {to ti : TE} {To Ti : CE} (ho : XE K to To) (hi : XE K ti Ti) : XG K [] (gSub to ti rSetD) (cSubM To Ti) := by
  intro b σ H F ρ M v d Φ Q R hd hT k
  refine ho b σ H F ρ M _ _ R hT fun x H1 F1 M1 dx s1 R1 h1 hT => ?_
  refine hi b σ H1 F1 ρ M1 _ _ R1 hT fun y H2 F2 M2 e s2 R2 h2 hΦ => ?_
  obtain ⟨p, ks, key, rfl, e1, hk, hz, hΦ⟩ := hΦ
  cases h1.inv_fn
  obtain ⟨xs, ex, hx⟩ := m_at R2 e1
  rw [keyD_ok h2 hk]
  exact ⟨p, _, rfl, DPut.k ex (by rw [hx.len]; exact hz), k σ _ F2 ρ _ (s1.trans s2) (R2.writeM e1 ex (hx.put (hd.up (s1.trans s2)))) (fun _ _ => rfl) hΦ⟩
/-- x.f = v -/
theorem putF_eq (f : Str) (v : V) : ∀ fs : List (Str × V), (fs.map (·.1)).Nodup → putF f v fs = putK fs f v
  | [], _ => rfl
  | (g, x) :: r, h => by
    rw [List.map_cons] at h
    obtain ⟨h1, h2⟩ := List.nodup_cons.mp h
    unfold putF
    by_cases hg : g = f
    · subst hg
      rw [if_pos rfl]
      unfold putK
      rw [List.any_cons, decide_eq_true rfl, Bool.true_or, if_pos rfl, List.map_cons, if_pos rfl]
      congr 1
      have : ∀ l : List (Str × V), g ∉ l.map (·.1) → l.map (fun kv => if kv.1 = g then (kv.1, v) else kv) = l := by
        intro l
        induction l with
        | nil => intro _; rfl
        | cons q l ih =>
          intro hn
          rw [List.map_cons] at hn
          rw [List.map_cons, if_neg (fun z => hn (by rw [z]; exact List.mem_cons_self)), ih fun z => hn (List.mem_cons_of_mem _ z)]
      exact (this r h1).symm
    · rw [if_neg hg, putF_eq f v r h2]
      unfold putK
      rw [List.any_cons, decide_eq_false hg, Bool.false_or]
      split
      · rw [List.map_cons, if_neg hg]
      · rfl
def cFldS (C : Addr) (To : CE) (f : Str) : CG := fun d ρ M Φ => To ρ M fun x M1 => ∃ p fs, x = .fn p ∧ look M1 p = some (.o C fs) ∧ (fs.map (·.1)).Nodup ∧ fs.length < 1000 ∧ Φ ρ (put M1 p (.o C (putD fs f d)))
theorem xg_fld {C : Addr} {to : TE} {To : CE} {f : Str} (hc : Cls K C) (hn : NoAttr K C f) (ho : XE K to To) : XG K [] (SX.gFld K to f) (cFldS C To f) := by
  intro b σ H F ρ M v d Φ Q R hd hT k
  refine ho b σ H F ρ M _ _ R hT fun x H1 F1 M1 dx s1 R1 h1 hT => ?_
  obtain ⟨p, fs, rfl, e1, nd, hl, hΦ⟩ := hT
  cases h1.inv_fn
  obtain ⟨hF, dx, xs, ex, hx⟩ := (R1.cell p _ e1).1
  refine ⟨p, C, dx, xs, rfl, ex, hc, hn, by rw [hx.len]; exact hl, ?_⟩
  have e2 : putF f v xs = putK xs f v := putF_eq f v xs (by rw [hx.1]; exact nd)
  rw [e2]
  exact k σ _ F1 ρ _ s1 (R1.write (c' := .o C (putD fs f d)) e1 hF ex (by intro t z; cases z) (ins_nc _ _ _) ⟨hF, dx, _, upd_same, hx.put (hd.up s1)⟩) (fun _ _ => rfl) hΦ
/-! ### loops -/
def cFor (Ti : CLs) (G : CG) (Tb : CS) : CS := fun E ρ M => Ti ρ M fun ds M1 => ∃ W : Nat → HC.Env → Cells → Prop, W 0 ρ M1 ∧ (∀ k x ρ M, ds[k]? = some x → W k ρ M → G x ρ M fun ρ2 M2 => Tb ⟨W (k + 1), E.rt, E.nx, W (k + 1)⟩ ρ2 M2) ∧ ∀ ρ M, W ds.length ρ M → E.nx ρ M
theorem xs_for {js : List Nat} {wi : TI} {g : TG} {tb : TS} {Ti : CLs} {G : CG} {Tb : CS} (hi : XI K wi Ti) (hg : XG K js g G) (hb : XS K tb Tb) : XS K (tFor wi g tb) (cFor Ti G Tb) := by
  intro b σ H F ρ M E D' R0 hT n r bk ct
  refine hi b σ H F ρ M _ _ R0 hT fun J H1 F1 M1 ds s1 R1 hw hT => ?_
  obtain ⟨Gd, Y, hwk, hG, hY⟩ := hw
  obtain ⟨W, w0, wt, wd⟩ := hT
  refine for_it hwk (fun i σ' H' => ∃ F' ρ' M', Same F1 F' ∧ Rep K b σ' H' F' ρ' M' ∧ W i ρ' M') ⟨F1, ρ, M1, Same.refl F1, R1, w0⟩ ?_ ?_ ?_
  · rintro i σ' H' _ ⟨F', ρ', M', s, R, _⟩
    exact hG H' F' s R.sub
  · rintro i x σ2 H2 H3 hin ⟨F2, ρ2, M2, s, R2, hW⟩ y
    obtain ⟨d, F3, hd, hdr, hy⟩ := hY i H2 x H3 y hin F2 s R2.sub
    have st : Rep K b σ2 H3 F3 ρ2 M2 ∧ Same F2 F3 := by
      rcases hy with ⟨rfl, rfl⟩ | ⟨q, o, hq, hqn, rfl, rfl⟩
      · exact ⟨R2, Same.refl _⟩
      · exact ⟨R2.alloc hq hqn, SX.same_upd (R2.fresh hq).1⟩
    obtain ⟨R3, s3⟩ := st
    refine hg b σ2 H3 F3 ρ2 M2 x d _ _ R3 hdr (wt i d ρ2 M2 hd hW) fun σ4 H4 F4 ρ4 M4 s4 R4 _ hT => ?_
    have s14 := ((s.trans s3).trans s4)
    exact hb b σ4 H4 F4 ρ4 M4 _ _ R4 hT (fun σ5 H5 F5 ρ5 M5 s5 R5 h => ⟨F5, ρ5, M5, s14.trans s5, R5, h⟩) (fun v σ5 H5 F5 ρ5 M5 d s5 R5 hd h => r v σ5 H5 F5 ρ5 M5 d (s1.trans (s14.trans s5)) R5 hd h) (fun σ5 H5 F5 ρ5 M5 s5 R5 h => n σ5 H5 F5 ρ5 M5 (s1.trans (s14.trans s5)) R5 h)
      (fun σ5 H5 F5 ρ5 M5 s5 R5 h => ⟨F5, ρ5, M5, s14.trans s5, R5, h⟩)
  · rintro σ' H' ⟨F', ρ', M', s, R, hW⟩
    exact n σ' H' F' ρ' M' (s1.trans s) R (wd ρ' M' hW)
def cWhile (C : CTt) (Tb : CS) : CS := fun E ρ M => ∃ W : Nat → HC.Env → Cells → Prop, (∃ m, W m ρ M) ∧ ∀ m ρ M, W m ρ M → C ρ M fun c M1 => if c = true then Tb ⟨fun ρ2 M2 => ∃ m', m' < m ∧ W m' ρ2 M2, E.rt, E.nx, fun ρ2 M2 => ∃ m', m' < m ∧ W m' ρ2 M2⟩ ρ M1 else E.nx ρ M1
theorem xs_while {c : TT} {tb : TS} {C : CTt} {Tb : CS} (hc : XT K c C) (hb : XS K tb Tb) : XS K (tWhile c tb) (cWhile C Tb) := by
  intro b σ H F ρ M E D' R0 hT n r bk ct
  obtain ⟨W, ⟨m0, w0⟩, wt⟩ := hT
  refine ⟨fun m σ' H' => ∃ F' ρ' M', Same F F' ∧ Rep K b σ' H' F' ρ' M' ∧ W m ρ' M', ⟨m0, F, ρ, M, Same.refl F, R0, w0⟩, ?_⟩
  rintro m σ1 H1 ⟨F1, ρ1, M1, s1, R1, hW⟩
  refine hc b σ1 H1 F1 ρ1 M1 _ _ R1 (wt m ρ1 M1 hW) fun c H2 F2 M2 s2 R2 hT => ?_
  cases c with
  | false => exact n σ1 H2 F2 ρ1 M2 (s1.trans s2) R2 hT
  | true =>
    refine ⟨fun σ' H' => ∃ m', m' < m ∧ ∃ F' ρ' M', Same F F' ∧ Rep K b σ' H' F' ρ' M' ∧ W m' ρ' M', fun σ' H' h => h, ?_⟩
    exact hb b σ1 H2 F2 ρ1 M2 _ _ R2 hT (fun σ5 H5 F5 ρ5 M5 s5 R5 ⟨m', h1, h2⟩ => ⟨m', h1, F5, ρ5, M5, (s1.trans s2).trans s5, R5, h2⟩) (fun v σ5 H5 F5 ρ5 M5 d s5 R5 hd h => r v σ5 H5 F5 ρ5 M5 d ((s1.trans s2).trans s5) R5 hd h)
      (fun σ5 H5 F5 ρ5 M5 s5 R5 h => n σ5 H5 F5 ρ5 M5 ((s1.trans s2).trans s5) R5 h) (fun σ5 H5 F5 ρ5 M5 s5 R5 ⟨m', h1, h2⟩ => ⟨m', h1, F5, ρ5, M5, (s1.trans s2).trans s5, R5, h2⟩)
/-! ### promises -/
abbrev SC := List D → Cells → (D → Cells → Prop) → Prop
def spH (K : PySem.W.Frag) (S : SC) : Sp := fun vs H Q _ => ∃ (F : Hp) (M : Cells) (ds : List D) (Φ : D → Cells → Prop), (Sub F H ∧ (∀ a o, F a = some o → NT o) ∧ LamX.Tabs Tbs.T H ∧ Same Tbs.B F) ∧ (∀ p c, look M p = some c → At K F H p c) ∧ DA K F vs ds ∧ S ds M Φ ∧
  ∀ F' H' v M' d, Same F F' → (Sub F' H' ∧ (∀ a o, F' a = some o → NT o) ∧ LamX.Tabs Tbs.T H') → (∀ a o, H a = some o → look M a = none → NT o → H' a = some o) → (∀ a o, H a = some o → ∃ o', H' a = some o') → (∀ a o, F' a = some o → F a = some o ∨ H a = none ∨ look M a ≠ none) →
    (∀ p c, look M' p = some c → At K F' H' p c ∧ (look M p ≠ none ∨ H p = none)) → Dr K F' v d → Φ d M' → Q v H'
/-- nothing of cells -/
def pureH (s : List D → (D → Prop) → Prop) : SC := fun ds M Φ => s ds fun d => Φ d M
/-- cells may be forgotten -/
def Fewer (M' M : Cells) : Prop := ∀ p c, look M' p = some c → look M p = some c
def startC (n : Nat) (ds : List D) : HC.Env := ds.map some ++ List.replicate (n - ds.length) none
theorem fn_goC {N pr : List Str} {S : SC} {T : CS} {t : TS} {vs : List V} {H : Hp} {Q : VK} {E : XK} (hN : pr.length ≤ N.length) (h2 : XS K t T) (len : ∀ ds M Φ, S ds M Φ → ds.length = pr.length)
    (go : ∀ ds M Φ, S ds M Φ → T ⟨fun _ M' => ∃ M2, Fewer M2 M' ∧ Φ .non M2, fun d _ M' => ∃ M2, Fewer M2 M' ∧ Φ d M2, fun _ _ => False, fun _ _ => False⟩ (startC N.length ds) M)
    (h : spH K S vs H Q E) : t { nx := fun _ H' => Q .non H', rt := Q } (L2.start N vs) H := by
  obtain ⟨F, M, ds, Φ, ⟨hsub, hnt, htb, hB⟩, hM, hda, hS, q⟩ := h
  have hl := len ds M Φ hS
  have R : Rep K (HC.here H F M) (L2.start N vs) H F (startC N.length ds) M := by
    refine ⟨hsub, ⟨Same.refl F, hB⟩, fun a o e _ _ => e, fun a o e => .inl e, fun i d e => ?_, fun p c e => ⟨hM p c e, .inr (show look M p ≠ none by rw [e]; exact fun z => (by cases z))⟩, ?_, hnt, fun a o e => ⟨o, e⟩, htb⟩
    · unfold startC at e
      by_cases hi : i < ds.length
      · rw [List.getElem?_append_left (by rw [List.length_map]; exact hi), List.getElem?_map] at e
        obtain ⟨d', hd, e⟩ := Option.map_eq_some_iff.mp e
        cases e
        obtain ⟨v, hv, hr⟩ := hda.get hd
        refine ⟨v, ?_, hr⟩
        unfold L2.start
        rw [List.getElem?_append_left (by rw [List.length_map, hda.1]; exact hi), List.getElem?_map, hv]
        rfl
      · rw [List.getElem?_append_right (by rw [List.length_map]; omega)] at e
        have := List.mem_of_getElem? e
        rw [List.mem_replicate] at this
        cases this.2
    · unfold startC L2.start
      rw [List.length_append, List.length_append, List.length_map, List.length_map, List.length_replicate, List.length_replicate, hda.1]
  have fin : ∀ v σ' H' F' ρ' M' d, Same F F' → Rep K (HC.here H F M) σ' H' F' ρ' M' → Dr K F' v d → (∃ M2, Fewer M2 M' ∧ Φ d M2) → Q v H' := by
    intro v σ' H' F' ρ' M' d s R' hd ⟨M2, hf, hΦ⟩
    exact q F' H' v M2 d s ⟨R'.sub, R'.nt, R'.tabs⟩ (fun a o e n nz => R'.keep a o e (fun z => z n) nz) R'.dom R'.new (fun p c e => ⟨(R'.cell p c (hf p c e)).1, (R'.cell p c (hf p c e)).2.symm⟩) hd hΦ
  exact h2 _ _ H F _ M _ _ R (go ds M Φ hS) (fun σ' H' F' ρ' M' s R' hn => fin .non σ' H' F' ρ' M' .non s R' .non hn) fin (fun _ _ _ _ _ _ _ z => z.elim) (fun _ _ _ _ _ _ _ z => z.elim)
theorem fnC {P : Program} {w : World} {mg : Str → Option Value} {base : Heap} {x qual : Str} {st : Stmt} {f : Addr} {fd : FuncData} {N pr : List Str} {k : Nat} {S : SC} (Fn : Fun K x qual st f fd) (Sc : FnScope N pr (defScope st)) {T : CS}
    (body : ∀ (cdv : Value) (A : Around) (outer : List PySem.Env) (s : Shared) (H : Hp) (E : XK), Room k (A.deeper (envOfC qual (defScope st) s.heap.objs.size f cdv)) →
      ∃ t, PSs (cxOf CX0 P w K mg base N qual (defScope st) f cdv A outer s H E).nox (defBody st) t ∧ XS K t T)
    (len : ∀ ds M Φ, S ds M Φ → ds.length = pr.length)
    (go : ∀ ds M Φ, S ds M Φ → T ⟨fun _ M' => ∃ M2, Fewer M2 M' ∧ Φ .non M2, fun d _ M' => ∃ M2, Fewer M2 M' ∧ Φ d M2, fun _ _ => False, fun _ _ => False⟩ (startC N.length ds) M) :
    FnOk P w K mg base CX0 (k + 1) f fd pr (spH K S) := by
  refine Fn.ok Sc (fun vs H Q E h => ?_) (fun cdv A outer s H vs Q E hr h => ?_)
  · obtain ⟨F, M, ds, Φ, _, _, ha, hS, _⟩ := h
    rw [ha.1]
    exact len ds M Φ hS
  · obtain ⟨t, h1, h2⟩ := body cdv A outer s H E hr
    have hN : pr.length ≤ N.length := by
      have := congrArg List.length Sc.pre
      rw [List.length_take] at this
      omega
    exact ⟨t, h1, fn_goC hN h2 len go h⟩
theorem fnCC {P : Program} {w : World} {mg : Str → Option Value} {base : Heap} {x qual : Str} {st : Stmt} {f c : Addr} {fd : FuncData} {N pr : List Str} {k : Nat} {S : SC} (Fn : Fun K x qual st f fd) (hc : fd.code = .ref c) (Sc : FnScope N pr (defScope st)) {T : CS}
    (body : ∀ (A : Around) (outer : List PySem.Env) (s : Shared) (H : Hp) (E : XK), Room k (A.deeper (envOfC qual (defScope st) s.heap.objs.size f (.ref c))) →
      ∃ t, PSs (cxOf CX0 P w K mg base N qual (defScope st) f (.ref c) A outer s H E).nox (defBody st) t ∧ XS K t T)
    (len : ∀ ds M Φ, S ds M Φ → ds.length = pr.length)
    (go : ∀ ds M Φ, S ds M Φ → T ⟨fun _ M' => ∃ M2, Fewer M2 M' ∧ Φ .non M2, fun d _ M' => ∃ M2, Fewer M2 M' ∧ Φ d M2, fun _ _ => False, fun _ _ => False⟩ (startC N.length ds) M) :
    FnOk P w K mg base CX0 (k + 1) f fd pr (spH K S) := by
  refine okC Fn hc Sc (fun vs H Q E h => ?_) (fun A outer s H vs Q E hr h => ?_)
  · obtain ⟨F, M, ds, Φ, _, _, ha, hS, _⟩ := h
    rw [ha.1]
    exact len ds M Φ hS
  · obtain ⟨t, h1, h2⟩ := body A outer s H E hr
    have hN : pr.length ≤ N.length := by
      have := congrArg List.length Sc.pre
      rw [List.length_take] at this
      omega
    exact ⟨t, h1, fn_goC hN h2 len go h⟩
/-! ### calls -/
/-- what a call leaves, back to the caller -/
theorem Rep.called {b : HC.Bs} {σ : L2.St} {H F H' F' : Hp} {ρ : HC.Env} {M M' : Cells} (R : Rep K b σ H F ρ M) (s : Same F F') (x : Sub F' H' ∧ (∀ a o, F' a = some o → NT o) ∧ LamX.Tabs Tbs.T H') (kp : ∀ a o, H a = some o → look M a = none → NT o → H' a = some o) (dom : ∀ a o, H a = some o → ∃ o', H' a = some o')
    (nw : ∀ a o, F' a = some o → F a = some o ∨ H a = none ∨ look M a ≠ none) (cl : ∀ p c, look M' p = some c → At K F' H' p c ∧ (look M p ≠ none ∨ H p = none)) : Rep K b σ H' F' ρ M' where
  sub := x.1
  grow := R.grow.trans s
  nt := x.2.1
  tabs := x.2.2
  len := R.len
  keep := fun a o e n nz => by
    have e1 := R.keep a o e n nz
    refine kp a o e1 ?_ nz
    cases q : look M a with
    | none => rfl
    | some c =>
      rcases (R.cell a c q).2 with z | z
      · rw [z] at e; cases e
      · exact absurd z n
  dom := fun a o e => by
    obtain ⟨o', e'⟩ := R.dom a o e
    exact dom a o' e'
  new := fun a o e => by
    rcases nw a o e with h | h | h
    · exact R.new a o h
    · exact .inr (.inl (R.fresh h).2.1)
    · exact .inr (R.cellOf h).1
  slot := fun i d e => by
    obtain ⟨v, h1, h2⟩ := R.slot i d e
    exact ⟨v, h1, h2.up s⟩
  cell := fun p c e => by
    obtain ⟨h1, h2⟩ := cl p c e
    refine ⟨h1, ?_⟩
    rcases h2 with h | h
    · exact (R.cellOf h).1
    · exact .inl (R.fresh h).2.1
def cCall (S : SC) (Ta : CLs) : CE := fun ρ M Φ => Ta ρ M fun ds M1 => S ds M1 Φ
theorem xe_callAt {S : SC} {b : HC.Bs} {σ : L2.St} {H F : Hp} {ρ : HC.Env} {M : Cells} {vs : List V} {ds : List D} {Φ : D → Cells → Prop} {Q : VK} {E : XK} (R : Rep K b σ H F ρ M) (hd : DA K F vs ds) (hS : S ds M Φ)
    (k : ∀ v H' F' M' d, Same F F' → Rep K b σ H' F' ρ M' → Dr K F' v d → Φ d M' → Q v H') : spH K S vs H Q E :=
  ⟨F, M, ds, Φ, ⟨R.sub, R.nt, R.tabs, R.grow.b⟩, fun p c e => (R.cell p c e).1, hd, hS, fun F' H' v M' d s x kp dom nw cl hdr hΦ => k v H' F' M' d s (R.called s x kp dom nw cl) hdr hΦ⟩
theorem xe_call {S : SC} {t : TA} {Ta : CLs} {E : XK} (h : XV K t Ta) : XE K (tCall (spH K S) [] E t) (cCall S Ta) := by
  intro b σ H F ρ M Φ Q R0 hT k
  refine h b σ H F ρ M _ _ R0 hT fun vs H1 F1 M1 ds s1 R1 hr hS => ?_
  show spH K S (vs ++ []) H1 Q E
  rw [List.append_nil]
  exact xe_callAt R1 hr hS fun v H' F' M' d s R' hd hΦ => k v H' F' M' d (s1.trans s) R' hd hΦ
/-- the promise of the layer without cells -/
theorem xe_callO {s : List D → (D → Prop) → Prop} {t : TA} {Ta : CLs} {E : XK} (h : XV K t Ta) : XE K (tCall (spOf K (pureS s)) [] E t) (cCall (pureH s) Ta) := by
  intro b σ H F ρ M Φ Q R0 hT k
  refine h b σ H F ρ M _ _ R0 hT fun vs H1 F1 M1 ds s1 R1 hr hS => ?_
  have nO : ∀ a, ¬ OwnA vs (ds.map .d) a := fun a ⟨i, o, e1, e2, _⟩ => by
    rw [List.getElem?_map] at e1
    obtain ⟨d, _, rfl⟩ := Option.map_eq_some_iff.mp e1
    cases e2
  show spOf K (pureS s) (vs ++ []) H1 Q E
  rw [List.append_nil]
  refine ⟨F1, ds.map .d, fun d _ => Φ d M1, ⟨R1.sub, R1.nt, R1.tabs, R1.grow.b⟩, ⟨by rw [List.length_map]; exact hr.1, fun k v o e1 e2 => ?_, fun k l o u v n e1 o1 e2 o2 e3 e4 => ?_⟩, ⟨ds, rfl, hS⟩, fun F' H' v d os' s2 ⟨sub2, nt2, tb2⟩ kp th nw len2 hout hd hΦ => ?_⟩
  · rw [List.getElem?_map] at e2
    obtain ⟨d, hd, rfl⟩ := Option.map_eq_some_iff.mp e2
    exact hr.2 k v d e1 hd
  · rw [List.getElem?_map] at e1
    obtain ⟨d, _, rfl⟩ := Option.map_eq_some_iff.mp e1
    cases o1
  · exact k v H' F' M1 d (s1.trans s2) (R1.grownT (fun a o e nz => kp a o e (nO a) nz) th s2 sub2 (fun a o e => (nw a o e).elim .inl fun h => h.elim .inr fun z => absurd z (nO a)) nt2 tb2) hd hΦ
/-- a local name that holds a def -/
def cCallA (i : Nat) (SS : Addr → Option SC) (Ta : CLs) : CE := fun ρ M Φ => ∃ f s, ρ[i]? = some (some (.fn f)) ∧ SS f = some s ∧ Ta ρ M fun ds M1 => s ds M1 Φ
def spHA (K : PySem.W.Frag) (SS : Addr → Option SC) : Addr → Option Sp := fun f => (SS f).map fun s => spH K s
theorem xe_callA {i : Nat} {SS : Addr → Option SC} {t : TA} {Ta : CLs} (h : XV K t Ta) : XE K (tCallA i (spHA K SS) t) (cCallA i SS Ta) := by
  intro b σ H F ρ M Φ Q R hT k
  obtain ⟨f, s, e, hs, hT⟩ := hT
  obtain ⟨v, h1, h2⟩ := R.slot i _ e
  cases h2.inv_fn
  refine ⟨f, spH K s, h1, by unfold spHA; rw [hs]; rfl, h b σ H F ρ M _ _ R hT fun vs H1 F1 M1 ds s1 R1 hr hS => ?_⟩
  exact xe_callAt R1 hr hS fun v H' F' M' d s R' hd hΦ => k v H' F' M' d (s1.trans s) R' hd hΦ
/-- C(..) -/
def cMake (C : Addr) (S : SC) (Ta : CLs) : CE := fun ρ M Φ => Ta ρ M fun ds M1 => ∀ p, look M1 p = none → S (.fn p :: ds) ((p, .o C []) :: M1) fun d M2 => d = .non ∧ Φ (.fn p) M2
theorem xe_make {C : Addr} {S : SC} {t : TA} {Ta : CLs} {E : XK} (h : XV K t Ta) : XE K (tMake C (spH K S) [] E t) (cMake C S Ta) := by
  intro b σ H F ρ M Φ Q R0 hT k
  refine h b σ H F ρ M _ _ R0 hT fun vs H1 F1 M1 ds s1 R1 hr hS => fun x dx hx hdx ne => ?_
  rw [List.append_nil]
  have R2 := R1.lay (o := .own x) hdx
  have hx2 : upd H1 dx (.own x) x = none := by rw [upd_ne (Ne.symm ne)]; exact hx
  have lo := R2.loose hx2
  have R3 := (R2.lay (o := .ins C dx []) hx2).add (c := .o C []) lo ⟨lo.1, dx, [], upd_same, .nil⟩
  exact xe_callAt R3 (.cons (.fn x) hr) (hS x lo.2.2) fun v H' F' M' d s R' hd ⟨ed, hΦ⟩ => by
    subst ed
    exact ⟨hd.inv_non, k _ H' F' M' _ (s1.trans s) R' (.fn x) hΦ⟩
/-- x.m(..) -/
def cMeth (C : Addr) (m : Str) (S : SC) (To : CE) (Ta : CLs) : CE := fun ρ M Φ => To ρ M fun x M1 => (∃ fs, objOf M1 x = some (C, fs) ∧ valD fs m = none) ∧ Ta ρ M1 fun ds M2 => S (x :: ds) M2 Φ
theorem xe_meth {C : Addr} {m : Str} {S : SC} {to : TE} {To : CE} {t : TA} {Ta : CLs} {E : XK} (ho : XE K to To) (h : XV K t Ta) : XE K (tMeth C m (spH K S) [] E to t) (cMeth C m S To Ta) := by
  intro b σ H F ρ M Φ Q R0 hT k
  refine ho b σ H F ρ M _ _ R0 hT fun x H1 F1 M1 dx s1 R1 h1 hT => ?_
  obtain ⟨⟨fs, e1, e2⟩, hT⟩ := hT
  obtain ⟨a, dd, xs, rfl, ea, hm⟩ := obj_at R1 h1 e1
  have hv := hm.val (k := m)
  rw [e2] at hv
  refine ⟨a, dd, xs, rfl, ea, by rw [lookup_valV]; exact hv, h b σ H1 F1 ρ M1 _ _ R1 hT fun vs H2 F2 M2 ds s2 R2 hr hS => ?_⟩
  rw [List.append_nil]
  exact xe_callAt R2 (.cons (h1.up s2) hr) hS fun v H' F' M' d s R' hd hΦ => k v H' F' M' d ((s1.trans s2).trans s) R' hd hΦ
end
end HC
/-! Part 5: what simp knows; freezing all that hangs on a cell; loops. -/
namespace HC
open PySem PySem.Spec PyProof.Rows L2 DL
@[simp] theorem cRaw_ (i : Nat) (ρ : HC.Env) (M : Cells) (Φ : D → Cells → Prop) : cRaw i ρ M Φ = (∃ d, ρ[i]? = some (some d) ∧ Φ d M) := Eq.trans rfl rfl
@[simp] theorem cFz_ (T : CE) (ρ : HC.Env) (M : Cells) (Φ : D → Cells → Prop) : cFz T ρ M Φ = (T ρ M fun d M' => frzG M' d Φ) := Eq.trans rfl rfl
@[simp] theorem cC_ (d : D) (ρ : HC.Env) (M : Cells) (Φ : D → Cells → Prop) : cC d ρ M Φ = (Φ d M) := Eq.trans rfl rfl
@[simp] theorem cK_ (T : CLs) (ρ : HC.Env) (M : Cells) (Φ : D → Cells → Prop) : cK T ρ M Φ = (T ρ M fun ds M' => Φ (.lst ds) M') := Eq.trans rfl rfl
@[simp] theorem cKc_ (T : CLs) (ρ : HC.Env) (M : Cells) (Φ : D → Cells → Prop) : cKc T ρ M Φ = (T ρ M fun ds M' => ∀ p, look M' p = none → Φ (.fn p) ((p, .l ds) :: M')) := Eq.trans rfl rfl
@[simp] theorem cKd_ (T : CDs) (ρ : HC.Env) (M : Cells) (Φ : D → Cells → Prop) : cKd T ρ M Φ = (T ρ M fun ds M' => Φ (.dct ds) M') := Eq.trans rfl rfl
@[simp] theorem cKdc_ (T : CDs) (ρ : HC.Env) (M : Cells) (Φ : D → Cells → Prop) : cKdc T ρ M Φ = (T ρ M fun ds M' => ∀ p, look M' p = none → Φ (.fn p) ((p, .m ds) :: M')) := Eq.trans rfl rfl
@[simp] theorem cOp_ (R : DO) (Ta Tb : CE) (ρ : HC.Env) (M : Cells) (Φ : D → Cells → Prop) : cOp R Ta Tb ρ M Φ = (Ta ρ M fun x M1 => Tb ρ M1 fun y M2 => R x y fun z => Φ z M2) := Eq.trans rfl rfl
@[simp] theorem cOpL_ (R : D → D → (List D → Prop) → Prop) (Ta Tb : CE) (ρ : HC.Env) (M : Cells) (Φ : List D → Cells → Prop) : cOpL R Ta Tb ρ M Φ = (Ta ρ M fun x M1 => Tb ρ M1 fun y M2 => R x y fun z => Φ z M2) := Eq.trans rfl rfl
@[simp] theorem cNil_ (ρ : HC.Env) (M : Cells) (Φ : List D → Cells → Prop) : cNil ρ M Φ = (Φ [] M) := Eq.trans rfl rfl
@[simp] theorem cCons_ (Ta : CE) (Tr : CLs) (ρ : HC.Env) (M : Cells) (Φ : List D → Cells → Prop) : cCons Ta Tr ρ M Φ = (Ta ρ M fun x M1 => Tr ρ M1 fun xs M2 => Φ (x :: xs) M2) := Eq.trans rfl rfl
@[simp] theorem cTup_ (T : CLs) (ρ : HC.Env) (M : Cells) (Φ : D → Cells → Prop) : cTup T ρ M Φ = (T ρ M fun ds M' => ds.length ≤ sizeLine ∧ Φ (.tup ds) M') := Eq.trans rfl rfl
@[simp] theorem cLst_ (T : CLs) (ρ : HC.Env) (M : Cells) (Φ : List D → Cells → Prop) : cLst T ρ M Φ = (T ρ M fun ds M' => ds.length ≤ sizeLine ∧ Φ ds M') := Eq.trans rfl rfl
@[simp] theorem cNewD_ (ρ : HC.Env) (M : Cells) (Φ : List (Key × D) → Cells → Prop) : cNewD ρ M Φ = (Φ [] M) := Eq.trans rfl rfl
@[simp] theorem cIxL_ (Ta Tb : CE) (ρ : HC.Env) (M : Cells) (Φ : D → Cells → Prop) : cIxL Ta Tb ρ M Φ = (Ta ρ M fun x M1 => Tb ρ M1 fun y M2 => ∃ ds j z, lstOf M2 x = some ds ∧ y = .int j ∧ atI ds j = some z ∧ Φ z M2) := Eq.trans rfl rfl
@[simp] theorem cIx_ (Ta Tb : CE) (ρ : HC.Env) (M : Cells) (Φ : D → Cells → Prop) : cIx Ta Tb ρ M Φ = (Ta ρ M fun x M1 => Tb ρ M1 fun y M2 => ∃ ds j z, seqOf M2 x = some ds ∧ y = .int j ∧ atI ds j = some z ∧ Φ z M2) := Eq.trans rfl rfl
@[simp] theorem cLen_ (Ta : CE) (ρ : HC.Env) (M : Cells) (Φ : D → Cells → Prop) : cLen Ta ρ M Φ = (Ta ρ M fun x M1 => lenG M1 x fun n => Φ (.int (n : Nat)) M1) := Eq.trans rfl rfl
@[simp] theorem cIn_ (neg : Bool) (Ta Tb : CE) (ρ : HC.Env) (M : Cells) (Φ : D → Cells → Prop) : cIn neg Ta Tb ρ M Φ = (Ta ρ M fun x M1 => Tb ρ M1 fun y M2 => ∃ ds, seqOf M2 y = some ds ∧ flatD x = true ∧ ds.all flatD = true ∧ Φ (.bl (if neg then !inD x ds else inD x ds)) M2) := Eq.trans rfl rfl
@[simp] theorem cInD_ (neg : Bool) (Ta Tb : CE) (ρ : HC.Env) (M : Cells) (Φ : D → Cells → Prop) : cInD neg Ta Tb ρ M Φ = (Ta ρ M fun x M1 => Tb ρ M1 fun y M2 => ∃ ds key, dctOf M2 y = some ds ∧ keyD x = some key ∧ Φ (.bl (if neg then !(valD ds key).isSome else (valD ds key).isSome)) M2) := Eq.trans rfl rfl
@[simp] theorem cDGet_ (Td Ty : CE) (ρ : HC.Env) (M : Cells) (Φ : D → Cells → Prop) : cDGet Td Ty ρ M Φ = (Td ρ M fun x M1 => Ty ρ M1 fun y M2 => ∃ ds key z, dctOf M2 x = some ds ∧ keyD y = some key ∧ valD ds key = some z ∧ Φ z M2) := Eq.trans rfl rfl
@[simp] theorem cGet1_ (Td Ty : CE) (ρ : HC.Env) (M : Cells) (Φ : D → Cells → Prop) : cGet1 Td Ty ρ M Φ = (Td ρ M fun x M1 => (∃ ds, dctOf M1 x = some ds) ∧ Ty ρ M1 fun y M2 => ∃ ds key, dctOf M2 x = some ds ∧ keyD y = some key ∧ Φ ((valD ds key).getD .non) M2) := Eq.trans rfl rfl
@[simp] theorem cGet2_ (Td Ty Tz : CE) (ρ : HC.Env) (M : Cells) (Φ : D → Cells → Prop) : cGet2 Td Ty Tz ρ M Φ = (Td ρ M fun x M1 => (∃ ds, dctOf M1 x = some ds) ∧ Ty ρ M1 fun y M2 => Tz ρ M2 fun z M3 => ∃ ds key, dctOf M3 x = some ds ∧ keyD y = some key ∧ Φ ((valD ds key).getD z) M3) := Eq.trans rfl rfl
@[simp] theorem cFld_ (C : Addr) (T : CE) (f : Str) (ρ : HC.Env) (M : Cells) (Φ : D → Cells → Prop) : cFld C T f ρ M Φ = (T ρ M fun x M1 => ∃ fs d, objOf M1 x = some (C, fs) ∧ valD fs f = some d ∧ Φ d M1) := Eq.trans rfl rfl
@[simp] theorem cTest_ (T : CE) (ρ : HC.Env) (M : Cells) (Φ : Bool → Cells → Prop) : cTest T ρ M Φ = (T ρ M fun x M' => blG x fun c => Φ c M') := Eq.trans rfl rfl
@[simp] theorem cTruth_ (T : CE) (ρ : HC.Env) (M : Cells) (Φ : Bool → Cells → Prop) : cTruth T ρ M Φ = (T ρ M fun x M' => truG M' x fun c => Φ c M') := Eq.trans rfl rfl
@[simp] theorem cAnd_ (T U : CTt) (ρ : HC.Env) (M : Cells) (Φ : Bool → Cells → Prop) : cAnd T U ρ M Φ = (T ρ M fun c M1 => if c = true then U ρ M1 Φ else Φ false M1) := Eq.trans rfl rfl
@[simp] theorem cOr_ (T U : CTt) (ρ : HC.Env) (M : Cells) (Φ : Bool → Cells → Prop) : cOr T U ρ M Φ = (T ρ M fun c M1 => if c = true then Φ true M1 else U ρ M1 Φ) := Eq.trans rfl rfl
@[simp] theorem cNot_ (T : CTt) (ρ : HC.Env) (M : Cells) (Φ : Bool → Cells → Prop) : cNot T ρ M Φ = (T ρ M fun c M1 => Φ (!c) M1) := Eq.trans rfl rfl
@[simp] theorem cAndV_ (T U : CE) (ρ : HC.Env) (M : Cells) (Φ : D → Cells → Prop) : cAndV T U ρ M Φ = (T ρ M fun x M1 => blG x fun c => if c = true then U ρ M1 Φ else Φ (.bl false) M1) := Eq.trans rfl rfl
@[simp] theorem cOrV_ (T U : CE) (ρ : HC.Env) (M : Cells) (Φ : D → Cells → Prop) : cOrV T U ρ M Φ = (T ρ M fun x M1 => blG x fun c => if c = true then Φ (.bl true) M1 else U ρ M1 Φ) := Eq.trans rfl rfl
@[simp] theorem cNotV_ (T : CE) (ρ : HC.Env) (M : Cells) (Φ : D → Cells → Prop) : cNotV T ρ M Φ = (T ρ M fun x M1 => blG x fun c => Φ (.bl (!c)) M1) := Eq.trans rfl rfl
@[simp] theorem cIf_ (T : CTt) (U W : CE) (ρ : HC.Env) (M : Cells) (Φ : D → Cells → Prop) : cIf T U W ρ M Φ = (T ρ M fun c M1 => if c = true then U ρ M1 Φ else W ρ M1 Φ) := Eq.trans rfl rfl
@[simp] theorem cIfL_ (T : CTt) (U W : CLs) (ρ : HC.Env) (M : Cells) (Φ : List D → Cells → Prop) : cIfL T U W ρ M Φ = (T ρ M fun c M1 => if c = true then U ρ M1 Φ else W ρ M1 Φ) := Eq.trans rfl rfl
@[simp] theorem cNeg_ (T : CE) (ρ : HC.Env) (M : Cells) (Φ : D → Cells → Prop) : cNeg T ρ M Φ = (T ρ M fun x M1 => ∃ i, x = .int i ∧ Φ (.int (-i)) M1) := Eq.trans rfl rfl
@[simp] theorem cCB_ (R : List D → (D → Prop) → Prop) (T : CLs) (ρ : HC.Env) (M : Cells) (Φ : D → Cells → Prop) : cCB R T ρ M Φ = (T ρ M fun ds M' => R ds fun z => Φ z M') := Eq.trans rfl rfl
@[simp] theorem cCBL_ (R : List D → (List D → Prop) → Prop) (T : CLs) (ρ : HC.Env) (M : Cells) (Φ : List D → Cells → Prop) : cCBL R T ρ M Φ = (T ρ M fun ds M' => R ds fun z => Φ z M') := Eq.trans rfl rfl
@[simp] theorem cIsi2_ (Ta : CE) (m n : String) (ρ : HC.Env) (M : Cells) (Φ : D → Cells → Prop) : cIsi2 Ta m n ρ M Φ = (Ta ρ M fun x M1 => obG (isD x m) fun c => obG (isD x n) fun e => Φ (.bl (c || e)) M1) := Eq.trans rfl rfl
@[simp] theorem cIL_ (T : CE) (ρ : HC.Env) (M : Cells) (Φ : List D → Cells → Prop) : cIL T ρ M Φ = (T ρ M fun x M' => ∃ ds, x = .lst ds ∧ Φ ds M') := Eq.trans rfl rfl
@[simp] theorem cIT_ (T : CE) (ρ : HC.Env) (M : Cells) (Φ : List D → Cells → Prop) : cIT T ρ M Φ = (T ρ M fun x M' => ∃ ds, x = .tup ds ∧ Φ ds M') := Eq.trans rfl rfl
@[simp] theorem cIR1_ (T : CLs) (ρ : HC.Env) (M : Cells) (Φ : List D → Cells → Prop) : cIR1 T ρ M Φ = (T ρ M fun xs M' => ∃ j : Int, xs = [.int j] ∧ -(2 ^ 62) ≤ j ∧ j < 2 ^ 62 ∧ Φ (rngD 0 j.toNat) M') := Eq.trans rfl rfl
@[simp] theorem cIR2_ (T : CLs) (ρ : HC.Env) (M : Cells) (Φ : List D → Cells → Prop) : cIR2 T ρ M Φ = (T ρ M fun xs M' => ∃ i j : Int, xs = [.int i, .int j] ∧ (-(2 ^ 62) ≤ i ∧ i < 2 ^ 62 ∧ -(2 ^ 62) ≤ j ∧ j < 2 ^ 62) ∧ Φ (rngD i (j - i).toNat) M') := Eq.trans rfl rfl
@[simp] theorem cIRd_ (T : CLs) (ρ : HC.Env) (M : Cells) (Φ : List D → Cells → Prop) : cIRd T ρ M Φ = (T ρ M fun xs M' => ∃ i j : Int, xs = [.int i, .int j, .int (-1)] ∧ (-(2 ^ 62) ≤ i ∧ i < 2 ^ 62 ∧ -(2 ^ 62) ≤ j ∧ j < 2 ^ 62) ∧ Φ (rngDn i (i - j).toNat) M') := Eq.trans rfl rfl
@[simp] theorem cIEn_ (T : CE) (ρ : HC.Env) (M : Cells) (Φ : List D → Cells → Prop) : cIEn T ρ M Φ = (T ρ M fun x M' => ∃ ds, x = .lst ds ∧ Φ (enumD ds) M') := Eq.trans rfl rfl
@[simp] theorem cName_ (j : Nat) (d : D) (ρ : HC.Env) (M : Cells) (Φ : HC.Env → Cells → Prop) : cName j d ρ M Φ = (Φ (ρ.set j (some d)) M) := Eq.trans rfl rfl
@[simp] theorem cYes_ (ρ : HC.Env) (M : Cells) (Φ : Bool → Cells → Prop) : cYes ρ M Φ = (Φ true M) := Eq.trans rfl rfl
@[simp] theorem cNoPart_ (ρ : HC.Env) (M : Cells) (Φ : Option Int → Cells → Prop) : cNoPart ρ M Φ = (Φ none M) := Eq.trans rfl rfl
@[simp] theorem cPart_ (T : CE) (ρ : HC.Env) (M : Cells) (Φ : Option Int → Cells → Prop) : cPart T ρ M Φ = (T ρ M fun x M' => ∃ i, x = .int i ∧ Φ (some i) M') := Eq.trans rfl rfl
@[simp] theorem cSlL_ (Te : CE) (Tl Th : COo) (ρ : HC.Env) (M : Cells) (Φ : List D → Cells → Prop) : cSlL Te Tl Th ρ M Φ = (Te ρ M fun x M1 => Tl ρ M1 fun l M2 => Th ρ M2 fun u M3 => ∃ ds, lstOf M3 x = some ds ∧ Φ (cutD ds l u) M3) := Eq.trans rfl rfl
@[simp] theorem cRevL_ (T : CE) (ρ : HC.Env) (M : Cells) (Φ : List D → Cells → Prop) : cRevL T ρ M Φ = (T ρ M fun x M1 => ∃ ds, lstOf M1 x = some ds ∧ Φ ds.reverse M1) := Eq.trans rfl rfl
@[simp] theorem cRevT_ (T : CE) (ρ : HC.Env) (M : Cells) (Φ : D → Cells → Prop) : cRevT T ρ M Φ = (T ρ M fun x M1 => ∃ ds, x = .tup ds ∧ Φ (.tup ds.reverse) M1) := Eq.trans rfl rfl
@[simp] theorem cTupOf_ (T : CE) (ρ : HC.Env) (M : Cells) (Φ : D → Cells → Prop) : cTupOf T ρ M Φ = (T ρ M fun x M1 => ∃ ds, seqOf M1 x = some ds ∧ Φ (.tup ds) M1) := Eq.trans rfl rfl
@[simp] theorem cNext_ (E : CEn) (ρ : HC.Env) (M : Cells) : cNext E ρ M = (E.nx ρ M) := Eq.trans rfl rfl
@[simp] theorem cSeq_ (T U : CS) (E : CEn) (ρ : HC.Env) (M : Cells) : cSeq T U E ρ M = (T { E with nx := U E } ρ M) := Eq.trans rfl rfl
@[simp] theorem cBreak_ (E : CEn) (ρ : HC.Env) (M : Cells) : cBreak E ρ M = (E.bk ρ M) := Eq.trans rfl rfl
@[simp] theorem cCont_ (E : CEn) (ρ : HC.Env) (M : Cells) : cCont E ρ M = (E.ct ρ M) := Eq.trans rfl rfl
@[simp] theorem cRet_ (T : CE) (E : CEn) (ρ : HC.Env) (M : Cells) : cRet T E ρ M = (T ρ M fun d M' => E.rt d ρ M') := Eq.trans rfl rfl
@[simp] theorem cRetN_ (E : CEn) (ρ : HC.Env) (M : Cells) : cRetN E ρ M = (E.rt .non ρ M) := Eq.trans rfl rfl
@[simp] theorem cDrop_ (T : CE) (E : CEn) (ρ : HC.Env) (M : Cells) : cDrop T E ρ M = (T ρ M fun _ M' => E.nx ρ M') := Eq.trans rfl rfl
@[simp] theorem cIfS_ (C : CTt) (T U : CS) (E : CEn) (ρ : HC.Env) (M : Cells) : cIfS C T U E ρ M = (C ρ M fun c M1 => if c = true then T E ρ M1 else U E ρ M1) := Eq.trans rfl rfl
@[simp] theorem cAsg_ (T : CE) (G : CG) (E : CEn) (ρ : HC.Env) (M : Cells) : cAsg T G E ρ M = (T ρ M fun d M1 => G d ρ M1 E.nx) := Eq.trans rfl rfl
@[simp] theorem cAug_ (i : Nat) (T : CE) (R : DO) (E : CEn) (ρ : HC.Env) (M : Cells) : cAug i T R E ρ M = (∃ x, ρ[i]? = some (some x) ∧ T ρ M fun y M1 => R x y fun z => E.nx (ρ.set i (some z)) M1) := Eq.trans rfl rfl
@[simp] theorem cApp_ (To T : CE) (E : CEn) (ρ : HC.Env) (M : Cells) : cApp To T E ρ M = (To ρ M fun x M1 => (∃ l0, lstOf M1 x = some l0) ∧ T ρ M1 fun d M2 => ∃ p ds, x = .fn p ∧ look M2 p = some (.l ds) ∧ ds.length < sizeLine ∧ E.nx ρ (put M2 p (.l (ds ++ [d])))) := Eq.trans rfl rfl
@[simp] theorem cExt_ (To : CE) (T : CLs) (E : CEn) (ρ : HC.Env) (M : Cells) : cExt To T E ρ M = (To ρ M fun x M1 => (∃ l0, lstOf M1 x = some l0) ∧ T ρ M1 fun es M2 => ∃ p ds, x = .fn p ∧ look M2 p = some (.l ds) ∧ ds.length + es.length ≤ sizeLine ∧ E.nx ρ (put M2 p (.l (ds ++ es)))) := Eq.trans rfl rfl
@[simp] theorem cPop_ (To : CE) (ρ : HC.Env) (M : Cells) (Φ : D → Cells → Prop) : cPop To ρ M Φ = (To ρ M fun x M1 => ∃ p ds d, x = .fn p ∧ look M1 p = some (.l ds) ∧ ds[ds.length - 1]? = some d ∧ Φ d (put M1 p (.l ds.dropLast))) := Eq.trans rfl rfl
@[simp] theorem cSubL_ (To Ti : CE) (d : D) (ρ : HC.Env) (M : Cells) (Φ : HC.Env → Cells → Prop) : cSubL To Ti d ρ M Φ = (To ρ M fun x M1 => Ti ρ M1 fun y M2 => ∃ p ds k j, x = .fn p ∧ look M2 p = some (.l ds) ∧ y = .int k ∧ ixN ds.length k = some j ∧ Φ ρ (put M2 p (.l (ds.set j d)))) := Eq.trans rfl rfl
@[simp] theorem cSubM_ (To Ti : CE) (d : D) (ρ : HC.Env) (M : Cells) (Φ : HC.Env → Cells → Prop) : cSubM To Ti d ρ M Φ = (To ρ M fun x M1 => Ti ρ M1 fun y M2 => ∃ p ks key, x = .fn p ∧ look M2 p = some (.m ks) ∧ keyD y = some key ∧ ks.length < sizeLine ∧ Φ ρ (put M2 p (.m (putD ks key d)))) := Eq.trans rfl rfl
@[simp] theorem cFldS_ (C : Addr) (To : CE) (f : Str) (d : D) (ρ : HC.Env) (M : Cells) (Φ : HC.Env → Cells → Prop) : cFldS C To f d ρ M Φ = (To ρ M fun x M1 => ∃ p fs, x = .fn p ∧ look M1 p = some (.o C fs) ∧ (fs.map (·.1)).Nodup ∧ fs.length < 1000 ∧ Φ ρ (put M1 p (.o C (putD fs f d)))) := Eq.trans rfl rfl
@[simp] theorem cCall_ (S : SC) (Ta : CLs) (ρ : HC.Env) (M : Cells) (Φ : D → Cells → Prop) : cCall S Ta ρ M Φ = (Ta ρ M fun ds M1 => S ds M1 Φ) := Eq.trans rfl rfl
@[simp] theorem cCallA_ (i : Nat) (SS : Addr → Option SC) (Ta : CLs) (ρ : HC.Env) (M : Cells) (Φ : D → Cells → Prop) : cCallA i SS Ta ρ M Φ = (∃ f s, ρ[i]? = some (some (.fn f)) ∧ SS f = some s ∧ Ta ρ M fun ds M1 => s ds M1 Φ) := Eq.trans rfl rfl
@[simp] theorem cMake_ (C : Addr) (S : SC) (Ta : CLs) (ρ : HC.Env) (M : Cells) (Φ : D → Cells → Prop) : cMake C S Ta ρ M Φ = (Ta ρ M fun ds M1 => ∀ p, look M1 p = none → S (.fn p :: ds) ((p, .o C []) :: M1) fun d M2 => d = .non ∧ Φ (.fn p) M2) := Eq.trans rfl rfl
@[simp] theorem cMeth_ (C : Addr) (m : Str) (S : SC) (To : CE) (Ta : CLs) (ρ : HC.Env) (M : Cells) (Φ : D → Cells → Prop) : cMeth C m S To Ta ρ M Φ = (To ρ M fun x M1 => (∃ fs, objOf M1 x = some (C, fs) ∧ valD fs m = none) ∧ Ta ρ M1 fun ds M2 => S (x :: ds) M2 Φ) := Eq.trans rfl rfl
@[simp] theorem cVar_ (i : Nat) (ρ : HC.Env) (M : Cells) (Φ : D → Cells → Prop) : cVar i ρ M Φ = ∃ d, ρ[i]? = some (some d) ∧ frzG M d Φ := Eq.trans rfl rfl
@[simp] theorem cGNil_ (ρ : HC.Env) (M : Cells) (Φ : HC.Env → Cells → Prop) : cGNil [] ρ M Φ = Φ ρ M := by unfold cGNil; simp
@[simp] theorem cGCons_ (G : CG) (Gs : CGs) (d : D) (r : List D) (ρ : HC.Env) (M : Cells) (Φ : HC.Env → Cells → Prop) : cGCons G Gs (d :: r) ρ M Φ = G d ρ M fun ρ1 M1 => Gs r ρ1 M1 Φ := by
  unfold cGCons
  refine propext ⟨?_, fun h => ⟨_, _, rfl, h⟩⟩
  rintro ⟨d', r', h, g⟩
  cases h
  exact g
@[simp] theorem cGTup_ (n : Nat) (Gs : CGs) (ds : List D) (ρ : HC.Env) (M : Cells) (Φ : HC.Env → Cells → Prop) : cGTup n Gs (.tup ds) ρ M Φ = (ds.length = n ∧ Gs ds ρ M Φ) := by
  unfold cGTup
  refine propext ⟨?_, fun h => ⟨_, rfl, h⟩⟩
  rintro ⟨d', h, g⟩
  cases h
  exact g
@[simp] theorem look_cons (q : Addr) (c : Cell) (M : Cells) (p : Addr) : look ((q, c) :: M) p = if q = p then some c else look M p := Eq.trans rfl rfl
@[simp] theorem put_cons (q : Addr) (c : Cell) (M : Cells) (p : Addr) (x : Cell) : put ((q, c) :: M) p x = if q = p then (q, x) :: M else (q, c) :: put M p x := Eq.trans rfl rfl
theorem look_putI {p : Addr} {x c : Cell} {M : Cells} (h : look M p = some c) (a : Addr) : look (put M p x) a = if a = p then some x else look M a := look_put (by rw [h]; exact fun z => (by cases z))
@[simp] theorem lstOf_l (M : Cells) (l : List D) : lstOf M (.lst l) = some l := Eq.trans rfl rfl
@[simp] theorem dctOf_l (M : Cells) (l : List (Key × D)) : dctOf M (.dct l) = some l := Eq.trans rfl rfl
@[simp] theorem objOf_l (M : Cells) (C : Addr) (l : List (Str × D)) : objOf M (.obj C l) = some (C, l) := Eq.trans rfl rfl
@[simp] theorem seqOf_t (M : Cells) (l : List D) : seqOf M (.tup l) = some l := Eq.trans rfl rfl
@[simp] theorem seqOf_l (M : Cells) (l : List D) : seqOf M (.lst l) = some l := Eq.trans rfl rfl
@[simp] theorem seqOf_f (M : Cells) (p : Addr) : seqOf M (.fn p) = lstOf M (.fn p) := Eq.trans rfl rfl
def lstC : Option Cell → Option (List D)
  | some (.l ds) => some ds
  | some (.z (.lst ds)) => some ds
  | _ => none
def dctC : Option Cell → Option (List (Key × D))
  | some (.m ds) => some ds
  | some (.z (.dct ds)) => some ds
  | _ => none
def objC : Option Cell → Option (Addr × List (Str × D))
  | some (.o C ds) => some (C, ds)
  | some (.z (.obj C ds)) => some (C, ds)
  | _ => none
@[simp] theorem lstOf_f (M : Cells) (p : Addr) : lstOf M (.fn p) = lstC (look M p) := by
  cases e : look M p with
  | none => simp only [lstOf, lstC, e]
  | some c => cases c with
    | z d => cases d <;> simp only [lstOf, lstC, e]
    | _ => simp only [lstOf, lstC, e]
@[simp] theorem dctOf_f (M : Cells) (p : Addr) : dctOf M (.fn p) = dctC (look M p) := by
  cases e : look M p with
  | none => simp only [dctOf, dctC, e]
  | some c => cases c with
    | z d => cases d <;> simp only [dctOf, dctC, e]
    | _ => simp only [dctOf, dctC, e]
@[simp] theorem objOf_f (M : Cells) (p : Addr) : objOf M (.fn p) = objC (look M p) := by
  cases e : look M p with
  | none => simp only [objOf, objC, e]
  | some c => cases c with
    | z d => cases d <;> simp only [objOf, objC, e]
    | _ => simp only [objOf, objC, e]
@[simp] theorem lstC_l (l : List D) : lstC (some (.l l)) = some l := Eq.trans rfl rfl
@[simp] theorem lstC_z (l : List D) : lstC (some (.z (.lst l))) = some l := Eq.trans rfl rfl
@[simp] theorem dctC_l (l : List (Key × D)) : dctC (some (.m l)) = some l := Eq.trans rfl rfl
@[simp] theorem dctC_z (l : List (Key × D)) : dctC (some (.z (.dct l))) = some l := Eq.trans rfl rfl
@[simp] theorem objC_o (C : Addr) (l : List (Str × D)) : objC (some (.o C l)) = some (C, l) := Eq.trans rfl rfl
@[simp] theorem objC_z (C : Addr) (l : List (Str × D)) : objC (some (.z (.obj C l))) = some (C, l) := Eq.trans rfl rfl
@[simp] theorem lenG_s (M : Cells) (x : Str) (Φ : Nat → Prop) : lenG M (.str x) Φ = (x.length ≤ sizeLine ∧ Φ x.length) := Eq.trans rfl rfl
@[simp] theorem lenG_t (M : Cells) (l : List D) (Φ : Nat → Prop) : lenG M (.tup l) Φ = Φ l.length := by unfold lenG; simp
@[simp] theorem lenG_l (M : Cells) (l : List D) (Φ : Nat → Prop) : lenG M (.lst l) Φ = Φ l.length := by unfold lenG; simp
@[simp] theorem lenG_f (M : Cells) (p : Addr) (Φ : Nat → Prop) : lenG M (.fn p) Φ = ∃ ds, lstC (look M p) = some ds ∧ Φ ds.length := by unfold lenG; simp
@[simp] theorem truG_n (M : Cells) (Φ : Bool → Prop) : truG M .non Φ = Φ false := Eq.trans rfl rfl
@[simp] theorem truG_b (M : Cells) (c : Bool) (Φ : Bool → Prop) : truG M (.bl c) Φ = Φ c := Eq.trans rfl rfl
@[simp] theorem truG_i (M : Cells) (c : Int) (Φ : Bool → Prop) : truG M (.int c) Φ = Φ (c != 0) := Eq.trans rfl rfl
@[simp] theorem truG_t (M : Cells) (c : List D) (Φ : Bool → Prop) : truG M (.tup c) Φ = Φ (!c.isEmpty) := Eq.trans rfl rfl
theorem dctOf_lst (M : Cells) (c : List D) : dctOf M (.lst c) = none := rfl
theorem lstOf_dct (M : Cells) (c : List (Key × D)) : lstOf M (.dct c) = none := rfl
@[simp] theorem truG_l (M : Cells) (c : List D) (Φ : Bool → Prop) : truG M (.lst c) Φ = Φ (!c.isEmpty) := by unfold truG; simp [dctOf_lst]
@[simp] theorem truG_d (M : Cells) (c : List (Key × D)) (Φ : Bool → Prop) : truG M (.dct c) Φ = Φ (!c.isEmpty) := by unfold truG; simp [lstOf_dct]
@[simp] theorem truG_f (M : Cells) (p : Addr) (Φ : Bool → Prop) : truG M (.fn p) Φ = ((∃ ds, lstC (look M p) = some ds ∧ Φ (!ds.isEmpty)) ∨ ∃ ds, dctC (look M p) = some ds ∧ Φ (!ds.isEmpty)) := by unfold truG; simp
def frzC (p : Addr) (M : Cells) (Φ : D → Cells → Prop) : Option Cell → Prop
  | some (.l ds) => Φ (.lst ds) (put M p (.z (.lst ds)))
  | some (.m ks) => Φ (.dct ks) (put M p (.z (.dct ks)))
  | some (.o C fs) => Φ (.obj C fs) (put M p (.z (.obj C fs)))
  | some (.z d) => Φ d M
  | _ => Φ (.fn p) M
@[simp] theorem frzG_f (M : Cells) (p : Addr) (Φ : D → Cells → Prop) : frzG M (.fn p) Φ = frzC p M Φ (look M p) := by
  cases e : look M p with
  | none => simp only [frzG, frzC, e]
  | some c => cases c <;> simp only [frzG, frzC, e]
@[simp] theorem frzG_n (M : Cells) (Φ : D → Cells → Prop) : frzG M .non Φ = Φ .non M := Eq.trans rfl rfl
@[simp] theorem frzG_b (M : Cells) (x : Bool) (Φ : D → Cells → Prop) : frzG M (.bl x) Φ = Φ (.bl x) M := Eq.trans rfl rfl
@[simp] theorem frzG_i (M : Cells) (x : Int) (Φ : D → Cells → Prop) : frzG M (.int x) Φ = Φ (.int x) M := Eq.trans rfl rfl
@[simp] theorem frzG_s (M : Cells) (x : Str) (Φ : D → Cells → Prop) : frzG M (.str x) Φ = Φ (.str x) M := Eq.trans rfl rfl
@[simp] theorem frzG_t (M : Cells) (x : List D) (Φ : D → Cells → Prop) : frzG M (.tup x) Φ = Φ (.tup x) M := Eq.trans rfl rfl
@[simp] theorem frzG_l (M : Cells) (x : List D) (Φ : D → Cells → Prop) : frzG M (.lst x) Φ = Φ (.lst x) M := Eq.trans rfl rfl
@[simp] theorem frzG_o (M : Cells) (C : Addr) (x : List (Str × D)) (Φ : D → Cells → Prop) : frzG M (.obj C x) Φ = Φ (.obj C x) M := Eq.trans rfl rfl
@[simp] theorem wipeC_0 (ρ : HC.Env) : wipeC ρ [] = ρ := Eq.trans rfl rfl
@[simp] theorem wipeC_1 (ρ : HC.Env) (v : Nat) (vs : List Nat) : wipeC ρ (v :: vs) = (wipeC ρ vs).set v none := Eq.trans rfl rfl
@[simp] theorem startC_ (n : Nat) (ds : List D) : startC n ds = ds.map some ++ List.replicate (n - ds.length) none := Eq.trans rfl rfl
theorem Fewer.refl (M : Cells) : Fewer M M := fun _ _ h => h
/-! ### all that hangs on a cell is kept for good -/
def frzL (f : Cells → D → D × Cells) : Cells → List D → List D × Cells
  | M, [] => ([], M)
  | M, d :: ds => ((f M d).1 :: (frzL f (f M d).2 ds).1, (frzL f (f M d).2 ds).2)
def frzF {κ : Type} (f : Cells → D → D × Cells) : Cells → List (κ × D) → List (κ × D) × Cells
  | M, [] => ([], M)
  | M, d :: ds => ((d.1, (f M d.2).1) :: (frzF f (f M d.2).2 ds).1, (frzF f (f M d.2).2 ds).2)
def zL (p : Addr) (r : List D × Cells) : D × Cells := match look r.2 p with
  | some (.l _) => (.lst r.1, put r.2 p (.z (.lst r.1)))
  | _ => (.fn p, r.2)
def zM (p : Addr) (r : List (Key × D) × Cells) : D × Cells := match look r.2 p with
  | some (.m _) => (.dct r.1, put r.2 p (.z (.dct r.1)))
  | _ => (.fn p, r.2)
def zO (p : Addr) (r : List (Str × D) × Cells) : D × Cells := match look r.2 p with
  | some (.o C _) => (.obj C r.1, put r.2 p (.z (.obj C r.1)))
  | _ => (.fn p, r.2)
def frzN : Nat → Cells → D → D × Cells
  | 0, M, d => (d, M)
  | n + 1, M, d => match d with
    | .fn p => match look M p with
      | some (.l ds) => zL p (frzL (frzN n) M ds)
      | some (.m ks) => zM p (frzF (frzN n) M ks)
      | some (.o _ fs) => zO p (frzF (frzN n) M fs)
      | some (.z d) => (d, M)
      | _ => (.fn p, M)
    | d => (d, M)
section
variable [Tbs] {K : PySem.W.Frag} {b : HC.Bs} {σ : L2.St} {ρ : HC.Env}
def FzOk (K : PySem.W.Frag) (b : HC.Bs) (σ : L2.St) (ρ : HC.Env) (f : Cells → D → D × Cells) : Prop := ∀ (H F : Hp) (M : Cells) (v : V) (d : D), Rep K b σ H F ρ M → Dr K F v d → ∃ F', Same F F' ∧ Rep K b σ H F' ρ (f M d).2 ∧ Dr K F' v (f M d).1
theorem frzL_ok {f : Cells → D → D × Cells} (hf : FzOk K b σ ρ f) : ∀ (ds : List D) (H F : Hp) (M : Cells) (xs : List V), Rep K b σ H F ρ M → DA K F xs ds → ∃ F', Same F F' ∧ Rep K b σ H F' ρ (frzL f M ds).2 ∧ DA K F' xs (frzL f M ds).1
  | [], H, F, M, xs, R, h => ⟨F, Same.refl F, R, h⟩
  | d :: ds, H, F, M, xs, R, h => by
    obtain ⟨v, r, rfl, h1, h2⟩ := h.inv
    obtain ⟨F1, s1, R1, d1⟩ := hf H F M v d R h1
    obtain ⟨F2, s2, R2, d2⟩ := frzL_ok hf ds H F1 _ r R1 (h2.up s1)
    exact ⟨F2, s1.trans s2, R2, .cons (d1.up s2) d2⟩
theorem frzF_ok {κ : Type} {f : Cells → D → D × Cells} (hf : FzOk K b σ ρ f) : ∀ (ds : List (κ × D)) (H F : Hp) (M : Cells) (xs : List (κ × V)), Rep K b σ H F ρ M → DM K F xs ds → ∃ F', Same F F' ∧ Rep K b σ H F' ρ (frzF f M ds).2 ∧ DM K F' xs (frzF f M ds).1
  | [], H, F, M, xs, R, h => ⟨F, Same.refl F, R, h⟩
  | d :: ds, H, F, M, xs, R, h => by
    obtain ⟨v, r, rfl, h1, h2⟩ := h.inv
    obtain ⟨F1, s1, R1, d1⟩ := hf H F M v d.2 R h1
    obtain ⟨F2, s2, R2, d2⟩ := frzF_ok hf ds H F1 _ r R1 (h2.up s1)
    exact ⟨F2, s1.trans s2, R2, .cons (d1.up s2) d2⟩
theorem frzN_ok : ∀ n : Nat, FzOk K b σ ρ (frzN n)
  | 0 => fun H F M v d R h => ⟨F, Same.refl F, R, h⟩
  | n + 1 => fun H F M v d R h => by
    have ih := frzN_ok n
    by_cases hd : ∃ p, d = .fn p
    · obtain ⟨p, rfl⟩ := hd
      cases h.inv_fn
      unfold frzN
      cases q : look M p with
      | none => simp only [q]; exact ⟨F, Same.refl F, R, h⟩
      | some c =>
        have hc := (R.cell p c q).1
        cases c with
        | l ds =>
          simp only [q]
          obtain ⟨_, xs, e1, e2⟩ := hc
          obtain ⟨F1, s1, R1, d1⟩ := frzL_ok ih ds H F M xs R e2
          unfold zL
          cases q1 : look (frzL (frzN n) M ds).2 p with
          | none => simp only [q1]; exact ⟨F1, s1, R1, .fn p⟩
          | some c1 =>
            cases c1 with
            | l ds1 =>
              simp only [q1]
              obtain ⟨hF, _, _, _⟩ := (R1.cell p _ q1).1
              have d2 := d1.up (SX.same_upd (o := .lst xs) hF)
              obtain ⟨s2, R2⟩ := R1.frz (d := .lst (frzL (frzN n) M ds).1) q1 hF e1 (by intro t z; cases z) (.lst upd_same d2.1 d2.2)
              exact ⟨_, s1.trans s2, R2, .lst upd_same d2.1 d2.2⟩
            | _ => simp only [q1]; exact ⟨F1, s1, R1, .fn p⟩
        | m ds =>
          simp only [q]
          obtain ⟨_, xs, e1, e2⟩ := hc
          obtain ⟨F1, s1, R1, d1⟩ := frzF_ok ih ds H F M xs R e2
          unfold zM
          cases q1 : look (frzF (frzN n) M ds).2 p with
          | none => simp only [q1]; exact ⟨F1, s1, R1, .fn p⟩
          | some c1 =>
            cases c1 with
            | m ds1 =>
              simp only [q1]
              obtain ⟨hF, _, _, _⟩ := (R1.cell p _ q1).1
              have d2 := d1.up (SX.same_upd (o := .dK xs) hF)
              obtain ⟨s2, R2⟩ := R1.frz (d := .dct (frzF (frzN n) M ds).1) q1 hF e1 (by intro t z; cases z) (.dct upd_same d2.1 d2.2)
              exact ⟨_, s1.trans s2, R2, .dct upd_same d2.1 d2.2⟩
            | _ => simp only [q1]; exact ⟨F1, s1, R1, .fn p⟩
        | o C ds =>
          simp only [q]
          obtain ⟨_, dx, xs, e1, e2⟩ := hc
          obtain ⟨F1, s1, R1, d1⟩ := frzF_ok ih ds H F M xs R e2
          unfold zO
          cases q1 : look (frzF (frzN n) M ds).2 p with
          | none => simp only [q1]; exact ⟨F1, s1, R1, .fn p⟩
          | some c1 =>
            cases c1 with
            | o C1 ds1 =>
              simp only [q1]
              obtain ⟨hF, dx1, xs1, e3, _⟩ := (R1.cell p _ q1).1
              rw [e1] at e3
              cases e3
              have d2 := d1.up (SX.same_upd (o := .ins C dx xs) hF)
              obtain ⟨s2, R2⟩ := R1.frz (d := .obj C (frzF (frzN n) M ds).1) q1 hF e1 (by intro t z; cases z) (.obj upd_same d2.1 d2.2)
              exact ⟨_, s1.trans s2, R2, .obj upd_same d2.1 d2.2⟩
            | _ => simp only [q1]; exact ⟨F1, s1, R1, .fn p⟩
        | draw => simp only [q]; exact ⟨F, Same.refl F, R, h⟩
        | z d => simp only [q]; exact ⟨F, Same.refl F, R, hc.1⟩
    · have e : frzN (n + 1) M d = (d, M) := by
        cases d with
        | fn p => exact absurd ⟨p, rfl⟩ hd
        | _ => rfl
      rw [e]
      exact ⟨F, Same.refl F, R, h⟩
def cDeep (n : Nat) (T : CE) : CE := fun ρ M Φ => T ρ M fun d M' => Φ (frzN n M' d).1 (frzN n M' d).2
theorem xe_deep {n : Nat} {t : TE} {T : CE} (h : XE K t T) : XE K t (cDeep n T) := by
  intro b σ H F ρ M Φ Q R hT k
  refine h b σ H F ρ M _ Q R hT fun v H' F' M' d s R' hd hΦ => ?_
  obtain ⟨F2, s2, R2, hd2⟩ := frzN_ok n H' F' M' v d R' hd
  exact k v H' F2 _ _ (s.trans s2) R2 hd2 hΦ
end
@[simp] theorem cDeep_ (n : Nat) (T : CE) (ρ : HC.Env) (M : Cells) (Φ : D → Cells → Prop) : cDeep n T ρ M Φ = T ρ M fun d M' => Φ (frzN n M' d).1 (frzN n M' d).2 := Eq.trans rfl rfl
/-! ### loops -/
theorem for_inv {Ti : CLs} {G : CG} {Tb : CS} {E : CEn} {ρ : HC.Env} {M : Cells} (ds : List D) (M1 : Cells) (W : Nat → HC.Env → Cells → Prop) (hI : ∀ Ψ : List D → Cells → Prop, Ψ ds M1 → Ti ρ M Ψ) (h0 : W 0 ρ M1)
    (hs : ∀ k x ρ M, ds[k]? = some x → W k ρ M → G x ρ M fun ρ2 M2 => Tb ⟨W (k + 1), E.rt, E.nx, W (k + 1)⟩ ρ2 M2) (hd : ∀ ρ M, W ds.length ρ M → E.nx ρ M) : cFor Ti G Tb E ρ M := hI _ ⟨W, h0, hs, hd⟩
theorem while_inv {C : CTt} {Tb : CS} {E : CEn} {ρ : HC.Env} {M : Cells} (W : Nat → HC.Env → Cells → Prop) (h0 : ∃ m, W m ρ M)
    (hs : ∀ m ρ M, W m ρ M → C ρ M fun c M1 => if c = true then Tb ⟨fun ρ2 M2 => ∃ m', m' < m ∧ W m' ρ2 M2, E.rt, E.nx, fun ρ2 M2 => ∃ m', m' < m ∧ W m' ρ2 M2⟩ ρ M1 else E.nx ρ M1) : cWhile C Tb E ρ M := ⟨W, h0, hs⟩
theorem lc_inv {Ti : CLs} {G : CG} {Tt : CTt} {Te : CE} {vs : List Nat} {ρ : HC.Env} {M : Cells} {Φ : List D → Cells → Prop} (ds : List D) (M1 : Cells) (W : Nat → List D → Cells → Prop) (hI : ∀ Ψ : List D → Cells → Prop, Ψ ds M1 → Ti ρ M Ψ) (h0 : W 0 [] M1)
    (hs : ∀ k x acc M, ds[k]? = some x → W k acc M → G x (wipeC ρ vs) M fun ρ2 M2 => Tt ρ2 M2 fun c M3 => if c = true then Te ρ2 M3 fun e M4 => acc.length < sizeLine ∧ W (k + 1) (acc ++ [e]) M4 else W (k + 1) acc M3)
    (hd : ∀ acc M, W ds.length acc M → Φ acc M) : cLc Ti G Tt Te vs ρ M Φ := hI _ ⟨W, h0, hs, hd⟩
/-- a comprehension that leaves the cells as they are -/
theorem lc_fp {Ti : CLs} {G : CG} {Tt : CTt} {Te : CE} {vs : List Nat} {ρ ρw : HC.Env} {M : Cells} {Φ : List D → Cells → Prop} (ds : List D) (M1 : Cells) (p : D → Bool) (f : D → D) (hI : ∀ Ψ : List D → Cells → Prop, Ψ ds M1 → Ti ρ M Ψ) (hw : wipeC ρ vs = ρw) (hz : ds.length ≤ 16000000)
    (hs : ∀ x, x ∈ ds → ∀ (A : D → Cells → Prop) (B : Cells → Prop), (p x = true → A (f x) M1) → (p x = false → B M1) → G x ρw M1 fun ρ2 M2 => Tt ρ2 M2 fun c M3 => if c = true then Te ρ2 M3 A else B M3)
    (hd : Φ ((ds.filter p).map f) M1) : cLc Ti G Tt Te vs ρ M Φ := by
  subst hw
  refine lc_inv ds M1 (fun k acc M => acc = ((ds.take k).filter p).map f ∧ M = M1) hI ⟨rfl, rfl⟩ ?_ ?_
  · rintro k x acc _ hx ⟨rfl, rfl⟩
    have hk := (List.getElem?_eq_some_iff.mp hx).1
    have ht : ds.take (k + 1) = ds.take k ++ [x] := by rw [List.take_add_one, hx]; rfl
    refine hs x (List.mem_of_getElem? hx) _ _ (fun hp => ⟨?_, ?_, rfl⟩) (fun hp => ⟨?_, rfl⟩)
    · have h1 : (((ds.take k).filter p).map f).length ≤ k := by
        rw [List.length_map]
        exact Nat.le_trans (List.length_filter_le _ _) (by rw [List.length_take]; omega)
      show _ < 16777216
      omega
    · rw [ht, List.filter_append, List.filter_cons, hp]
      simp
    · rw [ht, List.filter_append, List.filter_cons, hp]
      simp
  · rintro acc _ ⟨rfl, rfl⟩
    rw [List.take_length]
    exact hd
theorem lc_f {Ti : CLs} {G : CG} {Te : CE} {vs : List Nat} {ρ ρw : HC.Env} {M : Cells} {Φ : List D → Cells → Prop} (ds : List D) (M1 : Cells) (f : D → D) (hI : ∀ Ψ : List D → Cells → Prop, Ψ ds M1 → Ti ρ M Ψ) (hw : wipeC ρ vs = ρw) (hz : ds.length ≤ 16000000)
    (hs : ∀ x, x ∈ ds → ∀ (A : D → Cells → Prop), A (f x) M1 → G x ρw M1 fun ρ2 M2 => Te ρ2 M2 A)
    (hd : Φ (ds.map f) M1) : cLc Ti G cYes Te vs ρ M Φ := by
  refine lc_fp ds M1 (fun _ => true) f hI hw hz (fun x hx A B h1 h2 => ?_) ?_
  · exact hs x hx A (h1 rfl)
  · have e : ds.filter (fun _ => true) = ds := List.filter_eq_self.mpr fun _ _ => rfl
    rw [e]
    exact hd
theorem lc_z {Ti : CLs} {G : CG} {Te : CE} {vs : List Nat} {ρ ρw : HC.Env} {M : Cells} {Φ : List D → Cells → Prop} (ds es : List D) (M1 : Cells) (hI : ∀ Ψ : List D → Cells → Prop, Ψ ds M1 → Ti ρ M Ψ) (hw : wipeC ρ vs = ρw) (hz : ds.length ≤ 16000000) (hl : es.length = ds.length)
    (hs : ∀ (k : Nat) x e, ds[k]? = some x → es[k]? = some e → ∀ (A : D → Cells → Prop), A e M1 → G x ρw M1 fun ρ2 M2 => Te ρ2 M2 A)
    (hd : Φ es M1) : cLc Ti G cYes Te vs ρ M Φ := by
  subst hw
  refine lc_inv ds M1 (fun k acc M => acc = es.take k ∧ M = M1) hI ⟨rfl, rfl⟩ ?_ ?_
  · rintro k x acc _ hx ⟨rfl, rfl⟩
    have hk := (List.getElem?_eq_some_iff.mp hx).1
    have ge := List.getElem?_eq_getElem (show k < es.length by omega)
    refine hs k x _ hx ge _ ⟨?_, ?_, rfl⟩
    · show _ < 16777216
      rw [List.length_take]
      omega
    · rw [List.take_add_one, ge]
      rfl
  · rintro acc _ ⟨rfl, rfl⟩
    rw [← hl, List.take_length]
    exact hd
theorem put_put {p : Addr} {x y : Cell} : ∀ {M : Cells}, put (put M p x) p y = put M p y
  | [] => rfl
  | (q, c) :: M => by
    rw [put_cons, put_cons]
    by_cases h : q = p
    · rw [if_pos h, if_pos h, put_cons, if_pos h]
    · rw [if_neg h, if_neg h, put_cons, if_neg h, put_put]
theorem look_self {p : Addr} {x c : Cell} {M : Cells} (h : look M p = some c) : look (put M p x) p = some x := by rw [look_putI h, if_pos rfl]
theorem look_other {p a : Addr} {x c : Cell} {M : Cells} (h : look M p = some c) (n : a ≠ p) : look (put M p x) a = look M a := by rw [look_putI h, if_neg n]
@[simp] theorem frzN_l (n : Nat) (M : Cells) (l : List D) : frzN (n + 1) M (.lst l) = (.lst l, M) := rfl
@[simp] theorem frzN_t (n : Nat) (M : Cells) (l : List D) : frzN (n + 1) M (.tup l) = (.tup l, M) := rfl
@[simp] theorem frzN_i (n : Nat) (M : Cells) (l : Int) : frzN (n + 1) M (.int l) = (.int l, M) := rfl
@[simp] theorem frzN_s (n : Nat) (M : Cells) (l : Str) : frzN (n + 1) M (.str l) = (.str l, M) := rfl
@[simp] theorem frzN_b (n : Nat) (M : Cells) (l : Bool) : frzN (n + 1) M (.bl l) = (.bl l, M) := rfl
@[simp] theorem frzN_n (n : Nat) (M : Cells) : frzN (n + 1) M .non = (.non, M) := rfl
theorem frzN_cl {n : Nat} {M : Cells} {p : Addr} {l : List D} (h : look M p = some (.l l)) : frzN (n + 1) M (.fn p) = zL p (frzL (frzN n) M l) := by
  unfold frzN
  simp only [h]
theorem frzN_co {n : Nat} {M : Cells} {p C : Addr} {l : List (Str × D)} (h : look M p = some (.o C l)) : frzN (n + 1) M (.fn p) = zO p (frzF (frzN n) M l) := by
  unfold frzN
  simp only [h]
theorem frzN_cm {n : Nat} {M : Cells} {p : Addr} {l : List (Key × D)} (h : look M p = some (.m l)) : frzN (n + 1) M (.fn p) = zM p (frzF (frzN n) M l) := by
  unfold frzN
  simp only [h]
theorem frzN_cz {n : Nat} {M : Cells} {p : Addr} {d : D} (h : look M p = some (.z d)) : frzN (n + 1) M (.fn p) = (d, M) := by
  unfold frzN
  simp only [h]
theorem zL_l {p : Addr} {r : List D × Cells} {l : List D} (h : look r.2 p = some (.l l)) : zL p r = (.lst r.1, put r.2 p (.z (.lst r.1))) := by
  unfold zL
  simp only [h]
theorem zO_o {p C : Addr} {r : List (Str × D) × Cells} {l : List (Str × D)} (h : look r.2 p = some (.o C l)) : zO p r = (.obj C r.1, put r.2 p (.z (.obj C r.1))) := by
  unfold zO
  simp only [h]
theorem frzL_flat {f : Cells → D → D × Cells} : ∀ {l : List D} {M : Cells}, (∀ d ∈ l, ∀ M, f M d = (d, M)) → frzL f M l = (l, M)
  | [], M, h => rfl
  | d :: l, M, h => by
    unfold frzL
    rw [h d List.mem_cons_self M, frzL_flat fun d hd => h d (List.mem_cons_of_mem _ hd)]
@[simp] theorem frzF_nil {κ : Type} (f : Cells → D → D × Cells) (M : Cells) : frzF f M ([] : List (κ × D)) = ([], M) := rfl
@[simp] theorem frzF_cons {κ : Type} (f : Cells → D → D × Cells) (M : Cells) (d : κ × D) (l : List (κ × D)) : frzF f M (d :: l) = ((d.1, (f M d.2).1) :: (frzF f (f M d.2).2 l).1, (frzF f (f M d.2).2 l).2) := rfl
@[simp] theorem frzL_nil (f : Cells → D → D × Cells) (M : Cells) : frzL f M [] = ([], M) := rfl
@[simp] theorem frzL_cons (f : Cells → D → D × Cells) (M : Cells) (d : D) (l : List D) : frzL f M (d :: l) = ((f M d).1 :: (frzL f (f M d).2 l).1, (frzL f (f M d).2 l).2) := rfl
end HC
/-! Part 6: between the layers; draws; the written dicts of a module; enumerate. -/
namespace HC
open PySem PySem.Spec PyProof.Rows L2 DL
section
variable [Tbs] {K : PySem.W.Frag} {ps : List Nat}
/-- C(..), and what was made is kept as data -/
def dMakeH (C : Addr) (S : SC) (Ta : DLs) : DE := fun ρ Φ => Ta ρ fun ds ρ1 => ∀ p, S (.fn p :: ds) [(p, .o C [])] fun d M2 => d = .non ∧ Φ (frzN 4 M2 (.fn p)).1 ρ1
theorem re_makeH {C : Addr} {S : SC} {t : TA} {Ta : DLs} {E : XK} (h : DL.RV K ps t Ta) : DL.RE K ps (tMake C (spH K S) [] E t) (dMakeH C S Ta) := by
  intro b σ H F ρ Φ Q R0 hT k
  refine h b σ H F ρ _ _ R0 hT fun vs H1 F1 ρ1 ds s1 R1 hr hS => fun x dx hx hdx ne => ?_
  rw [List.append_nil]
  have Z : HC.Rep K (HC.here H1 F1 []) [] H1 F1 [] [] := ⟨R1.sub, ⟨Same.refl F1, R1.grow.b⟩, fun a o e _ _ => e, fun a o e => .inl e, fun i d e => (by cases e), fun p c e => (by cases e), rfl, R1.nt, fun a o e => ⟨o, e⟩, R1.tabs⟩
  have R2 := Z.lay (o := .own x) hdx
  have hx2 : upd H1 dx (.own x) x = none := by rw [upd_ne (Ne.symm ne)]; exact hx
  have lo := R2.loose hx2
  have R3 := (R2.lay (o := .ins C dx []) hx2).add (c := .o C []) lo ⟨lo.1, dx, [], upd_same, .nil⟩
  refine xe_callAt R3 (.cons (.fn x) hr) (hS x) fun v H' F' M' d s R' hd ⟨ed, hΦ⟩ => ?_
  subst ed
  obtain ⟨F2, s2, R4, hd2⟩ := frzN_ok 4 H' F' M' (.ref x) (.fn x) R' (.fn x)
  have nO : ∀ a, ¬ (HC.here H1 F1 []).O a := fun a z => z rfl
  exact ⟨hd.inv_non, k _ H' F2 ρ1 _ ((s1.trans s).trans s2) (R1.grownT (fun a o e nz => R4.keep a o e (nO a) nz) (fun a o e => R4.dom a o e) (s.trans s2) R4.sub (fun a o e => (R4.new a o e).elim .inl fun z => z.elim .inr fun z => absurd z (nO a)) R4.nt R4.tabs) hd2 hΦ⟩
def dIEn (T : DE) : DLs := fun ρ Φ => T ρ fun x ρ' => ∃ ds, x = .lst ds ∧ Φ (enumD ds) ρ'
theorem ri_enum {t : TE} {T : DE} (h : DL.RE K ps t T) : DL.RI K ps (iEnum K (tCons t tNil)) (dIEn T) := by
  intro b σ H F ρ Φ R R0 hT k
  refine h b σ H F ρ _ _ R0 hT fun x H1 F1 ρ1 d s1 R1 h1 hT => ?_
  obtain ⟨ds, rfl, hT⟩ := hT
  obtain ⟨a, xs, rfl, ea, ha⟩ := h1.inv_lst
  exact ⟨a, xs, rfl, SqL.of (R1.sub _ _ ea), k _ H1 F1 ρ1 _ s1 R1 (wk_enum ea ha) hT⟩
end
/-! ### the written dicts of a module -/
def vD : V → Option D
  | .ref a => some (.fn a)
  | .int i => some (.int i)
  | .str s => some (.str s)
  | _ => none
theorem vD_ok {K : PySem.W.Frag} {F : Hp} {v : V} {d : D} (h : vD v = some d) : Dr K F v d := by
  cases v <;> cases h
  · exact .int _
  · exact .str _
  · exact .fn _
def oInW (a : Addr) (kvs : List (Str × V)) : DO := fun x y Φ => ∃ z, x = .str z ∧ y = .fn a ∧ Φ (.bl (kvs.lookup z).isSome)
def oNotInW (a : Addr) (kvs : List (Str × V)) : DO := fun x y Φ => ∃ z, x = .str z ∧ y = .fn a ∧ Φ (.bl (!(kvs.lookup z).isSome))
def oIxW (a : Addr) (kvs : List (Str × V)) : DO := fun x y Φ => ∃ z v d, x = .fn a ∧ y = .str z ∧ kvs.lookup z = some v ∧ vD v = some d ∧ Φ d
section
variable [Tbs] {K : PySem.W.Frag} {ps : List Nat} {a : Addr} {kvs : List (Str × V)}
theorem ro_inW : RO K ps (fun x y H Q => ∃ z : Str, x = .str z ∧ y = .ref a ∧ Q (.bl (kvs.lookup z).isSome) H) (oInW a kvs) := by
  intro b σ H F ρ x y d e Φ Q R hx hy hT k
  obtain ⟨z, rfl, rfl, hT⟩ := hT
  exact ⟨z, hx.inv_str, hy.inv_fn, k _ H F _ (Same.refl F) R (.bl _) hT⟩
theorem ro_notInW : RO K ps (fun x y H Q => ∃ z : Str, x = .str z ∧ y = .ref a ∧ Q (.bl (!(kvs.lookup z).isSome)) H) (oNotInW a kvs) := by
  intro b σ H F ρ x y d e Φ Q R hx hy hT k
  obtain ⟨z, rfl, rfl, hT⟩ := hT
  exact ⟨z, hx.inv_str, hy.inv_fn, k _ H F _ (Same.refl F) R (.bl _) hT⟩
theorem ro_ixW : RO K ps (fun x y H Q => ∃ (z : Str) (v : V), x = .ref a ∧ y = .str z ∧ kvs.lookup z = some v ∧ Q v H) (oIxW a kvs) := by
  intro b σ H F ρ x y d e Φ Q R hx hy hT k
  obtain ⟨z, v, d, rfl, rfl, h1, h2, hT⟩ := hT
  exact ⟨z, v, hx.inv_fn, hy.inv_str, h1, k v H F d (Same.refl F) R (vD_ok h2) hT⟩
end
/-! ### draws -/
structure DrawAt (H : Hp) (d sc : Addr) : Prop where
  ex : ∃ (ns : List Int) (i : Nat) (b s : Int), H d = some (.lst [.ref sc, .int (i : Nat), .int b, .int s]) ∧ H sc = some (.lst (ns.map V.int)) ∧ sc ≠ d ∧ ns.length ≤ 63 ∧ 0 ≤ b ∧ 0 ≤ s ∧ s < 2147483648
/-- the making of a draw -/
def spDraw (K : PySem.W.Frag) : Sp := fun vs H Q _ => ∃ (a : Addr) (ns : List Int), vs = [.ref a] ∧ SqL K H a (ns.map V.int) ∧ ns.length ≤ 63 ∧ ∀ H' d sc, Same H H' → H d = none → H sc = none → DrawAt H' d sc → Q (.ref d) H'
section
variable [Tbs] {K : PySem.W.Frag}
def cDraw (i : Nat) : CE := fun ρ M Φ => ∃ ns, ρ[i]? = some (some (.scr ns)) ∧ ns.length ≤ 63 ∧ ∀ p, look M p = none → Φ (.fn p) ((p, .draw) :: M)
theorem xe_draw {i : Nat} {E : XK} : XE K (tCall (spDraw K) [] E (tCons (tVar i) tNil)) (cDraw i) := by
  intro b σ H F ρ M Φ Q R hT k
  obtain ⟨ns, e, hn, hT⟩ := hT
  obtain ⟨v, h1, h2⟩ := R.slot i _ e
  obtain ⟨a, rfl, hs⟩ := Dr.inv_scr h2
  refine ⟨_, h1, a, ns, rfl, sqL_same R.sub hs, hn, fun H' d sc sm hd hsc DA' => ?_⟩
  obtain ⟨ns', i', b', s', e1, e2, e3, e4, e5, e6, e7⟩ := DA'
  obtain ⟨hFd, h0d, hMd⟩ := R.fresh hd
  obtain ⟨hFs, h0s, hMs⟩ := R.fresh hsc
  have sF : Same F (upd F sc (.lst (ns'.map V.int))) := SX.same_upd hFs
  have R2 : Rep K b σ H' (upd F sc (.lst (ns'.map V.int))) ρ M := R.grown sm sF (fun x o eo => by
    by_cases hx : x = sc
    · subst hx
      rw [upd_same] at eo
      rw [e2]
      exact eo
    · rw [upd_ne hx] at eo
      exact sm _ _ (R.sub _ _ eo)) (fun x o eo => by
    by_cases hx : x = sc
    · subst hx
      exact .inr hsc
    · rw [upd_ne hx] at eo
      exact .inl eo) (fun x o eo => by
    by_cases hx : x = sc
    · subst hx
      rw [upd_same] at eo
      cases eo
      exact .inr (fun t z => by cases z)
    · rw [upd_ne hx] at eo
      exact .inl eo)
  have hF2 : upd F sc (.lst (ns'.map V.int)) d = none := by rw [upd_ne (Ne.symm e3)]; exact hFd
  exact k _ H' _ _ (.fn d) sF (R2.add (c := .draw) ⟨hF2, h0d, hMd⟩ ⟨hF2, sc, ns', i', b', s', e1, upd_same, e4, e5, e6, e7⟩) (.fn d) (hT d hMd)
@[simp] theorem cDraw_ (i : Nat) (ρ : HC.Env) (M : Cells) (Φ : D → Cells → Prop) : cDraw i ρ M Φ = ∃ ns, ρ[i]? = some (some (.scr ns)) ∧ ns.length ≤ 63 ∧ ∀ p, look M p = none → Φ (.fn p) ((p, .draw) :: M) := Eq.trans rfl rfl
/-- f(draw, ..), by a promise of the layer without cells -/
def cCallD (S : SD) (Ta : CLs) : CE := fun ρ M Φ => Ta ρ M fun ds M1 => ∃ p rest, ds = .fn p :: rest ∧ look M1 p = some .draw ∧ S (.draw :: rest.map .d) fun d os => os[0]? = some .draw ∧ Φ d M1
theorem xe_callD {S : SD} {t : TA} {Ta : CLs} {E : XK} (h : XV K t Ta) : XE K (tCall (spOf K S) [] E t) (cCallD S Ta) := by
  intro b σ H F ρ M Φ Q R0 hT k
  refine h b σ H F ρ M _ _ R0 hT fun vs H1 F1 M1 ds s1 R1 hr hT => ?_
  obtain ⟨p, rest, rfl, hp, hS⟩ := hT
  obtain ⟨v, r, rfl, hv, hr2⟩ := hr.inv
  cases hv.inv_fn
  have hc := (R1.cell p _ hp).1
  have rd : ∀ (i : Nat) (o : OV), (rest.map OV.d)[i]? = some o → o.own = true → False := fun i o e ho => by
    rw [List.getElem?_map] at e
    obtain ⟨d, _, rfl⟩ := Option.map_eq_some_iff.mp e
    cases ho
  have ow : ∀ a, OwnA (.ref p :: r) (.draw :: rest.map .d) a → a = p := fun a ⟨i, o, e1, e2, e3⟩ => by
    cases i with
    | zero => cases e3; rfl
    | succ i => exact (rd i o e1 e2).elim
  show spOf K S ((.ref p :: r) ++ []) H1 Q E
  rw [List.append_nil]
  refine ⟨F1, _, fun d os => os[0]? = some .draw ∧ Φ d M1, ⟨R1.sub, R1.nt, R1.tabs, R1.grow.b⟩, ⟨by rw [List.length_cons, List.length_cons, List.length_map, hr2.1], fun i v o e1 e2 => ?_, fun i j o u v n e1 o1 e2 o2 e3 e4 => ?_⟩, hS, fun F' H' v d os' s2 ⟨sub2, nt2, tb2⟩ kp th nw len2 hout hd ⟨h0, hΦ⟩ => ?_⟩
  · cases i with
    | zero =>
      cases e1
      cases e2
      exact Ok0.mk rfl rfl hc.1 hc.2
    | succ i =>
      rw [List.getElem?_cons_succ] at e1 e2
      rw [List.getElem?_map] at e2
      obtain ⟨d, hd, rfl⟩ := Option.map_eq_some_iff.mp e2
      exact hr2.2 i v d e1 hd
  · cases i with
    | zero =>
      cases j with
      | zero => exact n rfl
      | succ j => exact (rd j u e2 o2).elim
    | succ i => exact (rd i o e1 o1).elim
  · have hne : look M1 p ≠ none := by rw [hp]; exact fun z => (by cases z)
    refine k v H' F' M1 d (s1.trans s2) (R1.called s2 ⟨sub2, nt2, tb2⟩ (fun a o e n nz => kp a o e (fun z => hne (by rw [← ow a z]; exact n)) nz) th (fun a o e => (nw a o e).elim .inl fun h => h.elim (fun z => .inr (.inl z)) fun z => .inr (.inr (by rw [ow a z]; exact hne))) fun q c e => ?_) hd hΦ
    refine ⟨?_, .inl (by rw [e]; exact fun z => (by cases z))⟩
    by_cases hq : q = p
    · subst hq
      rw [hp] at e
      cases e
      obtain ⟨p', e1, e2, e3⟩ := (hout 0 .draw .draw (.ref q) rfl rfl h0 rfl).inv rfl
      cases e1
      exact ⟨e2, e3⟩
    · have h1 := (R1.cell q c e).1
      obtain ⟨u, eu, nu⟩ := h1.kind R1.sub R1.nt
      refine h1.up s2 ((kp q u eu (fun z => hq (ow q z)) nu).trans eu.symm) fun hF => ?_
      cases e' : F' q with
      | none => rfl
      | some o =>
        rcases nw q o e' with h | h | h
        · rw [hF] at h; cases h
        · rw [eu] at h; cases h
        · exact absurd (ow q h) hq
end
@[simp] theorem cCallD_ (S : SD) (Ta : CLs) (ρ : HC.Env) (M : Cells) (Φ : D → Cells → Prop) : cCallD S Ta ρ M Φ = Ta ρ M fun ds M1 => ∃ p rest, ds = .fn p :: rest ∧ look M1 p = some .draw ∧ S (.draw :: rest.map .d) fun d os => os[0]? = some .draw ∧ Φ d M1 := Eq.trans rfl rfl
@[simp] theorem dMakeH_ (C : Addr) (S : SC) (Ta : DLs) (ρ : DL.Env) (Φ : D → DL.Env → Prop) : dMakeH C S Ta ρ Φ = Ta ρ fun ds ρ1 => ∀ p, S (.fn p :: ds) [(p, .o C [])] fun d M2 => d = .non ∧ Φ (frzN 4 M2 (.fn p)).1 ρ1 := Eq.trans rfl rfl
@[simp] theorem dIEn_ (T : DE) (ρ : DL.Env) (Φ : List D → DL.Env → Prop) : dIEn T ρ Φ = T ρ fun x ρ' => ∃ ds, x = .lst ds ∧ Φ (enumD ds) ρ' := Eq.trans rfl rfl
end HC
/-! Families of numbered nodes: looks. Nothing of programs. -/
namespace MF
/-- numbers: the rows of numbers, what each one hangs on -/
structure Fam where
  rows : List (List Nat)
  par : List (Option Nat)
def Fam.n (F : Fam) : Nat := F.rows.length
def kids (F : Fam) (k : Nat) : List Nat := (F.rows[k]?).getD []
def par (F : Fam) (k : Nat) : Option Nat := (F.par[k]?).getD none
structure GF (F : Fam) : Prop where
  plen : F.par.length = F.n
  up : ∀ k c, c ∈ kids F k → k < c ∧ c < F.n
  pk : ∀ k c, c ∈ kids F k ↔ par F c = some k
  sorted : ∀ k, (kids F k).Pairwise (· < ·)
  has : ∀ k, 0 < k → k < F.n → ∃ p, par F k = some p
  pos : 0 < F.n
theorem GF.lt {F : Fam} (g : GF F) {k p : Nat} (h : par F k = some p) : p < k ∧ k < F.n := g.up p k ((g.pk p k).mpr h)
theorem GF.zero {F : Fam} (g : GF F) : par F 0 = none := by
  cases e : par F 0 with
  | none => rfl
  | some p => exact absurd (g.lt e).1 (Nat.not_lt_zero _)
theorem kids_out {F : Fam} {k : Nat} (h : F.n ≤ k) : kids F k = [] := by
  unfold kids
  rw [List.getElem?_eq_none h]
  rfl
theorem kids_get {F : Fam} {k : Nat} {r : List Nat} (h : F.rows[k]? = some r) : kids F k = r := by
  unfold kids
  rw [h]
  rfl
/-! ### looks -/
def bel (F : Fam) (h : Nat → Bool) : Nat → Nat → Bool
  | 0, _ => false
  | m + 1, k => (kids F k).any fun c => h c || bel F h m c
def abv (F : Fam) (h : Nat → Bool) : Nat → Nat → Bool
  | 0, _ => false
  | m + 1, k => match par F k with
    | some p => h p || abv F h m p
    | none => false
def prt (F : Fam) (h : Nat → Bool) (k : Nat) : Bool := match par F k with
  | some p => h p
  | none => false
def bef (rows : List (List Nat)) (h : Nat → Bool) (k : Nat) : Bool := match rows.find? fun r => decide (k ∈ r) with
  | some r => (r.takeWhile fun c => decide (c ≠ k)).any h
  | none => false
inductive Lk where
  | child | below | parent | above | earlier | later
def lk (F : Fam) : Lk → (Nat → Bool) → Nat → Bool
  | .child, h, k => (kids F k).any h
  | .below, h, k => bel F h F.n k
  | .parent, h, k => prt F h k
  | .above, h, k => abv F h F.n k
  | .earlier, h, k => bef F.rows h k
  | .later, h, k => bef (F.rows.map List.reverse) h k
theorem bel_fix {F : Fam} (g : GF F) (h : Nat → Bool) : ∀ (m k : Nat), F.n ≤ m + k → bel F h (m + 1) k = bel F h m k
  | 0, k, hm => by
    rw [bel, bel, kids_out (by omega)]
    rfl
  | m + 1, k, hm => by
    rw [bel, bel]
    refine Bool.eq_iff_iff.mpr ?_
    rw [List.any_eq_true, List.any_eq_true]
    constructor
    · rintro ⟨c, hc, e⟩
      refine ⟨c, hc, ?_⟩
      rwa [bel_fix g h m c (by have := g.up k c hc; omega)] at e
    · rintro ⟨c, hc, e⟩
      refine ⟨c, hc, ?_⟩
      rwa [bel_fix g h m c (by have := g.up k c hc; omega)]
theorem bel_n {F : Fam} (g : GF F) (h : Nat → Bool) (k : Nat) : bel F h F.n k = (kids F k).any fun c => h c || bel F h F.n c := by
  rw [← bel_fix g h F.n k (by omega), bel]
theorem abv_fix {F : Fam} (g : GF F) (h : Nat → Bool) : ∀ (m k : Nat), k ≤ m → abv F h (m + 1) k = abv F h m k
  | 0, k, hm => by
    rw [abv, abv, show k = 0 by omega, g.zero]
  | m + 1, k, hm => by
    rw [abv, abv]
    cases e : par F k with
    | none => rfl
    | some p =>
      have := (g.lt e).1
      show (h p || _) = (h p || _)
      rw [abv_fix g h m p (by omega)]
theorem abv_n {F : Fam} (g : GF F) (h : Nat → Bool) {k : Nat} (hk : k < F.n) : abv F h F.n k = match par F k with
    | some p => h p || abv F h F.n p
    | none => false := by
  conv => lhs; rw [← abv_fix g h F.n k (by omega), abv]
/-! ### as loops find them -/
def gb (l : List Bool) (k : Nat) : Bool := (l[k]?).getD false
theorem gb_set (l : List Bool) (i : Nat) (v : Bool) (k : Nat) : gb (l.set i v) k = if i = k ∧ k < l.length then v else gb l k := by
  unfold gb
  rw [List.getElem?_set]
  by_cases h : i = k
  · subst h
    by_cases hl : i < l.length
    · rw [if_pos rfl, if_pos hl, if_pos ⟨rfl, hl⟩]
      rfl
    · rw [if_pos rfl, if_neg hl, if_neg (fun z => hl z.2), List.getElem?_eq_none (by omega)]
  · rw [if_neg h, if_neg (fun z => h z.1)]
theorem gb_rep (n k : Nat) : gb (List.replicate n false) k = false := by
  unfold gb
  rw [List.getElem?_replicate]
  split <;> rfl
def vec (n : Nat) (f : Nat → Bool) : List Bool := (List.range n).map f
theorem vec_len (n : Nat) (f : Nat → Bool) : (vec n f).length = n := by unfold vec; rw [List.length_map, List.length_range]
theorem vec_get {n : Nat} {f : Nat → Bool} {k : Nat} (h : k < n) : (vec n f)[k]? = some (f k) := by
  unfold vec
  rw [List.getElem?_map, List.getElem?_range h]
  rfl
theorem vec_of {n : Nat} {f : Nat → Bool} {l : List Bool} (hl : l.length = n) (h : ∀ k, k < n → gb l k = f k) : l = vec n f := by
  apply List.ext_getElem?
  intro k
  by_cases hk : k < n
  · rw [vec_get hk, ← h k hk]
    unfold gb
    rw [List.getElem?_eq_getElem (by omega)]
    rfl
  · rw [List.getElem?_eq_none (by omega), List.getElem?_eq_none (by rw [vec_len]; omega)]
/-- below: after j turns -/
structure BelI (F : Fam) (h : Nat → Bool) (j : Nat) (l : List Bool) : Prop where
  len : l.length = F.n
  val : ∀ k, k < F.n → gb l k = (kids F k).any fun c => decide (F.n ≤ c + j) && (h c || bel F h F.n c)
theorem any_off {l : List Nat} {p : Nat → Bool} (h : ∀ c ∈ l, p c = false) : l.any p = false := by
  rw [List.any_eq_false]
  exact fun c hc => by rw [h c hc]; exact Bool.false_ne_true
theorem BelI.start {F : Fam} (g : GF F) (h : Nat → Bool) : BelI F h 0 (List.replicate F.n false) := by
  refine ⟨List.length_replicate, fun k hk => ?_⟩
  rw [gb_rep, any_off]
  intro c hc
  have := (g.up k c hc).2
  rw [decide_eq_false (by omega), Bool.false_and]
theorem BelI.at {F : Fam} {h : Nat → Bool} {j : Nat} {l : List Bool} (g : GF F) (I : BelI F h j l) {k : Nat} (hk : F.n ≤ k + j + 1) (hn : k < F.n) : gb l k = bel F h F.n k := by
  rw [I.val k hn, bel_n g]
  refine Bool.eq_iff_iff.mpr ?_
  rw [List.any_eq_true, List.any_eq_true]
  constructor
  · rintro ⟨c, hc, e⟩
    exact ⟨c, hc, (Bool.and_eq_true_iff.mp e).2⟩
  · rintro ⟨c, hc, e⟩
    have := (g.up k c hc).1
    exact ⟨c, hc, Bool.and_eq_true_iff.mpr ⟨decide_eq_true (by omega), e⟩⟩
theorem BelI.step {F : Fam} {h : Nat → Bool} {j c p : Nat} {l : List Bool} (g : GF F) (I : BelI F h j l) (hc : c + j + 1 = F.n) (hp : par F c = some p) : BelI F h (j + 1) (if (h c || bel F h F.n c) = true then l.set p true else l) := by
  have hpn := g.lt hp
  refine ⟨by split <;> simp [I.len], fun k hk => ?_⟩
  have key : ∀ x ∈ kids F k, decide (F.n ≤ x + (j + 1)) = (decide (F.n ≤ x + j) || decide (x = c)) := fun x hx => by
    by_cases e : x = c
    · subst e
      rw [decide_eq_true (show F.n ≤ x + (j + 1) by omega), decide_eq_true (show x = x from rfl), Bool.or_true]
    · rw [decide_eq_false e, Bool.or_false]
      by_cases e2 : F.n ≤ x + j
      · rw [decide_eq_true e2, decide_eq_true (by omega)]
      · rw [decide_eq_false e2, decide_eq_false (by omega)]
  have split : (kids F k).any (fun x => decide (F.n ≤ x + (j + 1)) && (h x || bel F h F.n x)) = ((kids F k).any (fun x => decide (F.n ≤ x + j) && (h x || bel F h F.n x)) || (decide (p = k) && (h c || bel F h F.n c))) := by
    refine Bool.eq_iff_iff.mpr ?_
    rw [Bool.or_eq_true_iff, List.any_eq_true, List.any_eq_true, Bool.and_eq_true_iff, decide_eq_true_iff]
    constructor
    · rintro ⟨x, hx, e⟩
      rw [key x hx] at e
      obtain ⟨e1, e2⟩ := Bool.and_eq_true_iff.mp e
      rcases Bool.or_eq_true_iff.mp e1 with z | z
      · exact .inl ⟨x, hx, Bool.and_eq_true_iff.mpr ⟨z, e2⟩⟩
      · have z := of_decide_eq_true z
        subst z
        have := (g.pk k x).mp hx
        rw [hp] at this
        cases this
        exact .inr ⟨rfl, e2⟩
    · rintro (⟨x, hx, e⟩ | ⟨rfl, e⟩)
      · obtain ⟨e1, e2⟩ := Bool.and_eq_true_iff.mp e
        exact ⟨x, hx, Bool.and_eq_true_iff.mpr ⟨by rw [key x hx, e1, Bool.true_or], e2⟩⟩
      · have hx := (g.pk p c).mpr hp
        exact ⟨c, hx, Bool.and_eq_true_iff.mpr ⟨decide_eq_true (by omega), e⟩⟩
  rw [split, ← I.val k hk]
  by_cases e : (h c || bel F h F.n c) = true
  · rw [if_pos e, e, Bool.and_true, gb_set, I.len]
    by_cases hk2 : p = k
    · subst hk2
      rw [if_pos ⟨rfl, hk⟩, decide_eq_true rfl, Bool.or_true]
    · rw [if_neg (fun z => hk2 z.1), decide_eq_false hk2, Bool.or_false]
  · rw [if_neg e]
    have e' : (h c || bel F h F.n c) = false := by
      cases q : (h c || bel F h F.n c) with
      | true => exact absurd q e
      | false => rfl
    rw [e', Bool.and_false, Bool.or_false]
theorem BelI.done {F : Fam} {h : Nat → Bool} {l : List Bool} (g : GF F) (I : BelI F h (F.n - 1) l) : l = vec F.n (lk F .below h) :=
  vec_of I.len fun k hk => I.at g (by have := g.pos; omega) hk
/-- above: after j turns -/
structure AbvI (F : Fam) (h : Nat → Bool) (j : Nat) (l : List Bool) : Prop where
  len : l.length = F.n
  val : ∀ k, k < F.n → gb l k = if k < j + 1 then abv F h F.n k else false
theorem AbvI.start {F : Fam} (g : GF F) (h : Nat → Bool) : AbvI F h 0 (List.replicate F.n false) := by
  refine ⟨List.length_replicate, fun k hk => ?_⟩
  rw [gb_rep]
  split
  · rw [abv_n g h hk, show k = 0 by omega, g.zero]
  · rfl
theorem AbvI.step {F : Fam} {h : Nat → Bool} {j p : Nat} {l : List Bool} (g : GF F) (I : AbvI F h j l) (hj : j + 1 < F.n) (hp : par F (j + 1) = some p) : AbvI F h (j + 1) (l.set (j + 1) (h p || gb l p)) := by
  have hpn := g.lt hp
  refine ⟨by simp [I.len], fun k hk => ?_⟩
  rw [gb_set, I.len]
  by_cases e : j + 1 = k
  · subst e
    rw [if_pos ⟨rfl, hk⟩, if_pos (by omega), abv_n g h hk, hp, I.val p (by omega), if_pos (by omega)]
  · rw [if_neg (fun z => e z.1), I.val k hk]
    by_cases h2 : k < j + 1
    · rw [if_pos h2, if_pos (by omega)]
    · rw [if_neg h2, if_neg (by omega)]
theorem AbvI.done {F : Fam} {h : Nat → Bool} {l : List Bool} (g : GF F) (I : AbvI F h (F.n - 1) l) : l = vec F.n (lk F .above h) :=
  vec_of I.len fun k hk => by rw [I.val k hk, if_pos (by have := g.pos; omega)]; rfl
/-! ### rows one after the other -/
/-- rows in which no number stands twice -/
def Apart (rows : List (List Nat)) : Prop := (∀ r ∈ rows, r.Nodup) ∧ rows.Pairwise fun r s => ∀ k, k ∈ r → k ∉ s
theorem bef_app {rows : List (List Nat)} {r : List Nat} {h : Nat → Bool} {k : Nat} (ap : Apart (rows ++ [r])) : bef (rows ++ [r]) h k = if k ∈ r then (r.takeWhile fun c => decide (c ≠ k)).any h else bef rows h k := by
  unfold bef
  rw [List.find?_append]
  by_cases hk : k ∈ r
  · rw [if_pos hk]
    have : rows.find? (fun r => decide (k ∈ r)) = none := by
      rw [List.find?_eq_none]
      intro s hs e
      have := (List.pairwise_append.mp ap.2).2.2 s hs r (List.mem_singleton.mpr rfl) k (of_decide_eq_true e)
      exact this hk
    rw [this]
    show (match [r].find? (fun r => decide (k ∈ r)) with | some r => (r.takeWhile fun c => decide (c ≠ k)).any h | none => false) = _
    rw [List.find?_cons, decide_eq_true hk]
  · rw [if_neg hk]
    have : [r].find? (fun r => decide (k ∈ r)) = none := by
      rw [List.find?_cons, decide_eq_false hk]
      rfl
    rw [this, Option.or_none]
theorem takeW {r : List Nat} (nd : r.Nodup) {m k : Nat} (e : r[m]? = some k) : r.takeWhile (fun c => decide (c ≠ k)) = r.take m := by
  induction r generalizing m with
  | nil => cases e
  | cons a r ih =>
    rw [List.nodup_cons] at nd
    cases m with
    | zero =>
      cases e
      rw [List.takeWhile_cons, decide_eq_false (by simp)]
      rfl
    | succ m =>
      have hm : k ∈ r := List.mem_of_getElem? e
      have ne : a ≠ k := fun z => nd.1 (by rw [z]; exact hm)
      rw [List.takeWhile_cons, decide_eq_true ne, if_pos rfl, ih nd.2 e]
      rfl
/-- in a row: after m turns -/
structure RowI (n : Nat) (r : List Nat) (h : Nat → Bool) (l0 : List Bool) (m : Nat) (l : List Bool) : Prop where
  len : l.length = n
  val : ∀ k, k < n → gb l k = if k ∈ r.take m then (r.takeWhile fun c => decide (c ≠ k)).any h else gb l0 k
theorem RowI.start {n : Nat} {r : List Nat} {h : Nat → Bool} {l0 : List Bool} (hl : l0.length = n) : RowI n r h l0 0 l0 := ⟨hl, fun k _ => by simp⟩
theorem RowI.step {n : Nat} {r : List Nat} {h : Nat → Bool} {l0 l : List Bool} {m c : Nat} (I : RowI n r h l0 m l) (nd : r.Nodup) (e : r[m]? = some c) (hc : c < n) : RowI n r h l0 (m + 1) (l.set c ((r.take m).any h)) := by
  refine ⟨by simp [I.len], fun k hk => ?_⟩
  have ht : r.take (m + 1) = r.take m ++ [c] := by rw [List.take_add_one, e]; rfl
  rw [gb_set, I.len, ht]
  by_cases hkc : c = k
  · subst hkc
    rw [if_pos ⟨rfl, hk⟩, if_pos (by simp), takeW nd e]
  · rw [if_neg (fun z => hkc z.1), I.val k hk]
    have : (k ∈ r.take m ++ [c]) ↔ k ∈ r.take m := by
      rw [List.mem_append, List.mem_singleton]
      exact ⟨fun z => z.elim id fun z => absurd z.symm hkc, .inl⟩
    by_cases h2 : k ∈ r.take m
    · rw [if_pos h2, if_pos (this.mpr h2)]
    · rw [if_neg h2, if_neg (fun z => h2 (this.mp z))]
structure BefI (n : Nat) (rows : List (List Nat)) (h : Nat → Bool) (j : Nat) (l : List Bool) : Prop where
  len : l.length = n
  val : ∀ k, k < n → gb l k = bef (rows.take j) h k
theorem BefI.start {n : Nat} {rows : List (List Nat)} {h : Nat → Bool} : BefI n rows h 0 (List.replicate n false) := ⟨List.length_replicate, fun k _ => gb_rep n k⟩
theorem Apart.take {rows : List (List Nat)} (h : Apart rows) (j : Nat) : Apart (rows.take j) := ⟨fun r hr => h.1 r (List.mem_of_mem_take hr), h.2.sublist (List.take_sublist _ _)⟩
theorem BefI.step {n : Nat} {rows : List (List Nat)} {h : Nat → Bool} {j : Nat} {l0 l : List Bool} {r : List Nat} (I : BefI n rows h j l0) (ap : Apart rows) (e : rows[j]? = some r) (J : RowI n r h l0 r.length l) : BefI n rows h (j + 1) l := by
  refine ⟨J.len, fun k hk => ?_⟩
  have ht : rows.take (j + 1) = rows.take j ++ [r] := by rw [List.take_add_one, e]; rfl
  have ap' := ap.take (j + 1)
  rw [ht] at ap' ⊢
  rw [bef_app ap', J.val k hk, List.take_length, I.val k hk]
theorem BefI.done {n : Nat} {rows : List (List Nat)} {h : Nat → Bool} {l : List Bool} (I : BefI n rows h rows.length l) : l = vec n (bef rows h) :=
  vec_of I.len fun k hk => by rw [I.val k hk, List.take_length]
theorem GF.apart {F : Fam} (g : GF F) : Apart F.rows := by
  refine ⟨fun r hr => ?_, ?_⟩
  · obtain ⟨i, hi, rfl⟩ := List.mem_iff_getElem.mp hr
    have := g.sorted i
    rw [kids_get (List.getElem?_eq_getElem hi)] at this
    exact this.imp fun {a b} h => by omega
  · rw [List.pairwise_iff_getElem]
    intro i j hi hj hij k h1 h2
    have e1 := (g.pk i k).mp (by rw [kids_get (List.getElem?_eq_getElem hi)]; exact h1)
    have e2 := (g.pk j k).mp (by rw [kids_get (List.getElem?_eq_getElem hj)]; exact h2)
    rw [e1] at e2
    cases e2
    omega
theorem Apart.rev {rows : List (List Nat)} (h : Apart rows) : Apart (rows.map List.reverse) := by
  refine ⟨fun r hr => ?_, ?_⟩
  · obtain ⟨s, hs, rfl⟩ := List.mem_map.mp hr
    exact List.pairwise_reverse.mpr ((h.1 s hs).imp fun h z => h z.symm)
  · rw [List.pairwise_map]
    exact h.2.imp fun {r s} h k h1 h2 => h k (List.mem_reverse.mp h1) (List.mem_reverse.mp h2)
theorem sorted_len {n : Nat} : ∀ (l : List Nat) (a : Nat), l.Pairwise (· < ·) → (∀ c ∈ l, a ≤ c ∧ c < n) → l.length ≤ n - a
  | [], a, _, _ => Nat.zero_le _
  | x :: l, a, h, hc => by
    obtain ⟨h1, h2⟩ := List.pairwise_cons.mp h
    have hx := hc x List.mem_cons_self
    have := sorted_len l (x + 1) h2 fun c hm => ⟨h1 c hm, (hc c (List.mem_cons_of_mem _ hm)).2⟩
    rw [List.length_cons]
    omega
theorem GF.row {F : Fam} (g : GF F) {r : List Nat} (hr : r ∈ F.rows) : r.length ≤ F.n ∧ ∀ c ∈ r, c < F.n := by
  obtain ⟨i, hi, rfl⟩ := List.mem_iff_getElem.mp hr
  have s := g.sorted i
  rw [kids_get (List.getElem?_eq_getElem hi)] at s
  have hu : ∀ c ∈ F.rows[i], c < F.n := fun c hc => (g.up i c (by rw [kids_get (List.getElem?_eq_getElem hi)]; exact hc)).2
  exact ⟨sorted_len _ 0 s fun c hc => ⟨Nat.zero_le _, hu c hc⟩, hu⟩
end MF
/-! Trees: by induction, folded, labelled with what hangs below. -/
namespace TR
variable {α β : Type}
mutual
theorem Tr.ind {P : Tr α → Prop} (h : ∀ d ks, (∀ k ∈ ks, P k) → P (.nd d ks)) : ∀ t, P t
  | .nd d ks => h d ks (Tr.inds h ks)
theorem Tr.inds {P : Tr α → Prop} (h : ∀ d ks, (∀ k ∈ ks, P k) → P (.nd d ks)) : ∀ ks : List (Tr α), (∀ k ∈ ks, P k)
  | [] => fun k hk => nomatch hk
  | x :: ks => by
    have h1 := Tr.ind h x
    have h2 := Tr.inds h ks
    intro k hk
    rcases List.mem_cons.mp hk with e | hk
    · rw [e]
      exact h1
    · exact h2 k hk
end
mutual
def fold (f : α → List β → β) : Tr α → β
  | .nd d ks => f d (folds f ks)
def folds (f : α → List β → β) : List (Tr α) → List β
  | [] => []
  | k :: ks => fold f k :: folds f ks
end
theorem folds_map (f : α → List β → β) (ks : List (Tr α)) : folds f ks = ks.map (fold f) := by
  induction ks with
  | nil => rw [folds]; rfl
  | cons k ks ih => rw [folds, ih]; rfl
theorem fold_nd (f : α → List β → β) (d : α) (ks : List (Tr α)) : fold f (.nd d ks) = f d (ks.map (fold f)) := by rw [fold, folds_map]
theorem fold_of (f : α → List β → β) (t : Tr α) : fold f t = f t.d (t.ks.map (fold f)) := by
  cases t with
  | nd d ks => rw [fold_nd]; rfl
mutual
/-- each node labelled with its tree -/
def subs : Tr α → Tr (Tr α)
  | .nd d ks => .nd (.nd d ks) (subss ks)
def subss : List (Tr α) → List (Tr (Tr α))
  | [] => []
  | k :: ks => subs k :: subss ks
end
theorem subss_map (ks : List (Tr α)) : subss ks = ks.map subs := by
  induction ks with
  | nil => rw [subss]; rfl
  | cons k ks ih => rw [subss, ih]; rfl
theorem subs_d (t : Tr α) : (subs t).d = t := by cases t; rw [subs]; rfl
theorem subs_ks (t : Tr α) : (subs t).ks = t.ks.map subs := by cases t; rw [subs, ks_nd, subss_map]; rfl
mutual
theorem subs_sz : ∀ t : Tr α, sz (subs t) = sz t
  | .nd d ks => by rw [subs, sz, sz, subss_sz ks]
theorem subss_sz : ∀ ks : List (Tr α), szs (subss ks) = szs ks
  | [] => by rw [subss, szs, szs]
  | k :: ks => by rw [subss, szs, szs, subs_sz k, subss_sz ks]
end
mutual
theorem subs_map : ∀ t : Tr α, mapT Tr.d (subs t) = t
  | .nd d ks => by rw [subs, mapT, subss_mapT ks]; rfl
theorem subss_mapT : ∀ ks : List (Tr α), mapTs Tr.d (subss ks) = ks
  | [] => by rw [subss, mapTs]
  | k :: ks => by rw [subss, mapTs, subs_map k, subss_mapT ks]
end
mutual
theorem subs_pre : ∀ (t : Tr α) (s : Tr (Tr α)), s ∈ pre (subs t) → s = subs s.d ∧ s.d ∈ pre t
  | .nd d ks, s, h => by
    rw [subs, pre] at h
    rcases List.mem_cons.mp h with rfl | h
    · refine ⟨by rw [d_nd, subs], ?_⟩
      rw [d_nd, pre]
      exact List.mem_cons_self
    · obtain ⟨h1, h2⟩ := subss_pre ks s h
      exact ⟨h1, by rw [pre]; exact List.mem_cons_of_mem _ h2⟩
theorem subss_pre : ∀ (ks : List (Tr α)) (s : Tr (Tr α)), s ∈ pres (subss ks) → s = subs s.d ∧ s.d ∈ pres ks
  | [], s, h => by rw [subss, pres] at h; cases h
  | k :: ks, s, h => by
    rw [subss, pres] at h
    rw [pres]
    rcases List.mem_append.mp h with h | h
    · obtain ⟨h1, h2⟩ := subs_pre k s h
      exact ⟨h1, List.mem_append_left _ h2⟩
    · obtain ⟨h1, h2⟩ := subss_pre ks s h
      exact ⟨h1, List.mem_append_right _ h2⟩
end
theorem pre_nd (d : α) (ks : List (Tr α)) : pre (.nd d ks) = .nd d ks :: ks.flatMap pre := by
  rw [pre]
  congr 1
  induction ks with
  | nil => rw [pres]; rfl
  | cons k ks ih => rw [pres, ih]; rfl
/-- what holds of a tree and goes down to its children holds of all in it -/
theorem pre_all {P : Tr α → Prop} (hk : ∀ t, P t → ∀ k ∈ t.ks, P k) : ∀ t, P t → ∀ s ∈ pre t, P s := by
  intro t
  refine Tr.ind (P := fun t => P t → ∀ s ∈ pre t, P s) (fun d ks ih hP s hs => ?_) t
  rw [pre_nd] at hs
  rcases List.mem_cons.mp hs with rfl | hs
  · exact hP
  · obtain ⟨k, hk', hs⟩ := List.mem_flatMap.mp hs
    exact ih k hk' (hk _ hP k hk') s hs
theorem sz_nd (d : α) (ks : List (Tr α)) : sz (.nd d ks) = 1 + (ks.map sz).sum := by
  rw [sz]
  congr 1
  induction ks with
  | nil => rw [szs]; rfl
  | cons k ks ih => rw [szs, ih]; rfl
end TR
/-! Part 7: an __init__ whose first row is super().__init__(..), over cells. -/
namespace HC
open PySem PySem.Spec PyProof.Rows L2 DL NdefX
section
variable [Tbs] {P : Program} {w : World} {K : PySem.W.Frag} {mg : Str → Option Value} {base : Heap} {k k2 : Nat} {D f f2 cda cc : Addr} {qual : Str} {params : Arguments} {scope : Scope} {fd fd2 : FuncData} {N ps ps2 : List Str}
  {p0 p1 p2 p3 p4 : Pos} {e : Expr} {es : List Expr} {rest : List Stmt} {ar : Arg} {S S2 : SC} {Ta : CLs} {Tr : CS}
theorem init_su (T : SU.Txt P K D f f2 cda cc qual params (SU.sb p0 p1 p2 p3 p4 e es rest) scope fd)
    (Sc : NScope N ps ["__class__"] scope) (hks : scope.names.lookup ("super" : Str) = some .globalImplicit) (hp : (params.posonlyargs ++ params.args).head? = some ar) (hps : ps.head? = some ar.arg) (hN : ps.length + 1 ≤ N.length)
    (F2 : FnOk P w K mg base C8.CX0 k2 f2 fd2 ps2 (spH K S2)) (hk : k2 ≤ k) (hb2 : Binds K fd2 ps2 [])
    (body : ∀ (A : Around) (outer : List PySem.Env) (s : Shared) (H : Hp) (E : XK), Room k (A.deeper (envF (SU.nf qual params (SU.sb p0 p1 p2 p3 p4 e es rest) scope cda cc) f s.heap.objs.size)) →
      ∃ t tr, PA (ncx C8.CX0 P w K mg base N (SU.nf qual params (SU.sb p0 p1 p2 p3 p4 e es rest) scope cda cc) f A outer s H E) (e :: es) t ∧
        PSs (ncx C8.CX0 P w K mg base N (SU.nf qual params (SU.sb p0 p1 p2 p3 p4 e es rest) scope cda cc) f A outer s H E) rest tr ∧ XV K t Ta ∧ XS K tr Tr)
    (len : ∀ ds M Φ, S ds M Φ → ds.length = ps.length)
    (go : ∀ ds M Φ, S ds M Φ → ∃ p ds', ds = .fn p :: ds' ∧ (∃ fs, look M p = some (.o D fs)) ∧ Ta (startC N.length ds) M fun as M1 => S2 (.fn p :: as) M1 fun _ M2 =>
      Tr ⟨fun _ M' => ∃ M3, Fewer M3 M' ∧ Φ .non M3, fun d _ M' => ∃ M3, Fewer M3 M' ∧ Φ d M3, fun _ _ => False, fun _ _ => False⟩ (startC N.length ds) M2)
    {pl : PySem.Env → Sem Bool} (he : ∀ env, eval (.Call (.Attribute (.Call (.Name "super" p0) [] [] p1) "__init__" p2) (e :: es) [] p3) env = (do
      let ov ← attributeBase (.Call (.Name "super" p0) [] [] p1) "__init__" env (eval (.Call (.Name "super" p0) [] [] p1) env)
      standAt p2.atName
      let (f, first) ← holding [ov] (getMethod ov "__init__" (pl env))
      callWith p3 f first (backTo p3 (starEach (e :: es) env)) []))
    (hst : ∀ env, starEach (e :: es) env = (false, eval e env) :: starEach es env) (hpl : ∀ env, (backTo p3 (starEach es env)).any (·.1) = false) :
    FnOk P w K mg base C8.CX0 (k + 1) f fd ps (spH K S) := by
  refine SU.init_of T Sc hks hp hps F2 hk hb2 (fun vs H Q E h => ?_) (fun A outer s H vs Q E hr h => ?_) he hst hpl
  · obtain ⟨F, M, ds, Φ, _, _, hda, hS, _⟩ := h
    rw [hda.1]
    exact len ds M Φ hS
  · obtain ⟨F, M, ds, Φ, ⟨hsub, hnt, htb, hB⟩, hM, hda, hS, q⟩ := h
    have hl := len ds M Φ hS
    obtain ⟨p, ds', rfl, ⟨fs, hpo⟩, hT⟩ := go ds M Φ hS
    obtain ⟨v, ws, rfl, hv, _⟩ := hda.inv
    cases hv.inv_fn
    obtain ⟨t, tr, b1, b2, b3, b4⟩ := body A outer s H E hr
    obtain ⟨hF, dx, xs, ex, hx⟩ := hM p _ hpo
    have R : Rep K (HC.here H F M) (startF N (.ref p :: ws) [none]) H F (startC N.length (.fn p :: ds')) M := by
      refine ⟨hsub, ⟨Same.refl F, hB⟩, fun a o e _ _ => e, fun a o e => .inl e, fun i d e => ?_, fun p c e => ⟨hM p c e, .inr (show look M p ≠ none by rw [e]; exact fun z => (by cases z))⟩, ?_, hnt, fun a o e => ⟨o, e⟩, htb⟩
      · unfold startC at e
        by_cases hi : i < (DL.D.fn p :: ds').length
        · rw [List.getElem?_append_left (by rw [List.length_map]; exact hi), List.getElem?_map] at e
          obtain ⟨d', hd, e⟩ := Option.map_eq_some_iff.mp e
          cases e
          obtain ⟨v, hv, hr⟩ := hda.get hd
          refine ⟨v, ?_, hr⟩
          unfold startF
          rw [List.getElem?_append_left (by rw [List.length_map, hda.1]; exact hi), List.getElem?_map, hv]
          rfl
        · rw [List.getElem?_append_right (by rw [List.length_map]; omega)] at e
          have := List.mem_of_getElem? e
          rw [List.mem_replicate] at this
          cases this.2
      · have h1 := hda.1
        rw [hl] at h1
        unfold startC startF
        rw [List.length_append, List.length_append, List.length_append, List.length_map, List.length_map, List.length_replicate, List.length_replicate, h1, hl, List.length_singleton]
        omega
    refine ⟨p, dx, xs, ws, CLX.E0, t, tr, rfl, ex, b1, b2, pass0, ?_⟩
    refine b3 _ _ _ _ _ _ _ _ R hT fun us H1 F1 M1 as s1 R1 hr1 hS2 => ?_
    refine xe_callAt R1 (.cons (.fn p) hr1) hS2 fun v H2 F2 M2 d s2 R2 hd hTr => ?_
    have fin : ∀ v σ' H' F' ρ' M' d, Same F F' → Rep K (HC.here H F M) σ' H' F' ρ' M' → Dr K F' v d → (∃ M2, Fewer M2 M' ∧ Φ d M2) → Q v H' := by
      intro v σ' H' F' ρ' M' d s R' hd ⟨M2, hf, hΦ⟩
      exact q F' H' v M2 d s ⟨R'.sub, R'.nt, R'.tabs⟩ (fun a o e n nz => R'.keep a o e (fun z => z n) nz) R'.dom R'.new (fun p c e => ⟨(R'.cell p c (hf p c e)).1, (R'.cell p c (hf p c e)).2.symm⟩) hd hΦ
    exact b4 _ _ _ _ _ _ _ _ R2 hTr (fun σ' H' F' ρ' M' s R' hn => fin .non σ' H' F' ρ' M' .non ((s1.trans s2).trans s) R' .non hn) (fun v σ' H' F' ρ' M' d s R' hd hn => fin v σ' H' F' ρ' M' d ((s1.trans s2).trans s) R' hd hn) (fun _ _ _ _ _ _ _ z => z.elim) (fun _ _ _ _ _ _ _ z => z.elim)
end
end HC
/-! Texts; raises that are not reached; fields that grow. -/
namespace DS
open PySem PySem.Spec PyProof.Rows L2 DL
def oIxC : DO := fun x y Φ => ∃ z i c, x = .str z ∧ y = .int i ∧ z.length ≤ sizeLine ∧ atI z.cps.toList i = some c ∧ Φ (.str ⟨#[c]⟩)
def oInC (neg : Bool) : DO := fun x y Φ => ∃ (c : Nat) (z : Str), x = .str ⟨#[c]⟩ ∧ y = .str z ∧ Φ (.bl (if neg then !decide (c ∈ z.cps.toList) else decide (c ∈ z.cps.toList)))
section
variable [Tbs] {K : PySem.W.Frag} {ps : List Nat}
theorem ro_ixC : RO K ps rIxS oIxC := by
  intro b σ H F ρ x y d e Φ Q R hx hy hT k
  obtain ⟨z, i, c, rfl, rfl, h1, h2, hT⟩ := hT
  exact ⟨z, i, c, hx.inv_str, hy.inv_int, h1, h2, k _ H F _ (Same.refl F) R (.str _) hT⟩
theorem ro_inC : RO K ps (fun x y H Q => ∃ (c : Nat) (z : Str), x = .str ⟨#[c]⟩ ∧ y = .str z ∧ Q (.bl (decide (c ∈ z.cps.toList))) H) (oInC false) := by
  intro b σ H F ρ x y d e Φ Q R hx hy hT k
  obtain ⟨c, z, rfl, rfl, hT⟩ := hT
  exact ⟨c, z, hx.inv_str, hy.inv_str, k _ H F _ (Same.refl F) R (.bl _) hT⟩
theorem ro_notInC : RO K ps (fun x y H Q => ∃ (c : Nat) (z : Str), x = .str ⟨#[c]⟩ ∧ y = .str z ∧ Q (.bl (!decide (c ∈ z.cps.toList))) H) (oInC true) := by
  intro b σ H F ρ x y d e Φ Q R hx hy hT k
  obtain ⟨c, z, rfl, rfl, hT⟩ := hT
  exact ⟨c, z, hx.inv_str, hy.inv_str, k _ H F _ (Same.refl F) R (.bl _) hT⟩
/-! ### slices of texts -/
def dSlS (Te : DE) (Tl Th : DOo) : DE := fun ρ Φ => Te ρ fun x ρ1 => Tl ρ1 fun l ρ2 => Th ρ2 fun u ρ3 => ∃ z, x = .str z ∧ z.length ≤ sizeLine ∧ Φ (.str (cutS z l u)) ρ3
theorem re_sliceS {te : TE} {tl th : TO} {Te : DE} {Tl Th : DOo} (he : DL.RE K ps te Te) (hl : DL.RP K ps tl Tl) (hh : DL.RP K ps th Th) : DL.RE K ps (tSl rSlS te tl th) (dSlS Te Tl Th) := by
  intro b σ H F ρ Φ Q R0 hT k
  refine he b σ H F ρ _ _ R0 hT fun x H1 F1 ρ1 d s1 R1 h1 hA => ?_
  refine hl b σ H1 F1 ρ1 _ _ R1 hA fun l H2 F2 ρ2 s2 R2 hB => ?_
  refine hh b σ H2 F2 ρ2 _ _ R2 hB fun u H3 F3 ρ3 s3 R3 hC => ?_
  obtain ⟨z, rfl, hz, hD⟩ := hC
  exact ⟨z, h1.inv_str, hz, k _ H3 F3 ρ3 _ ((s1.trans s2).trans s3) R3 (.str _) hD⟩
def cSlS (Te : HC.CE) (Tl Th : HC.COo) : HC.CE := fun ρ M Φ => Te ρ M fun x M1 => Tl ρ M1 fun l M2 => Th ρ M2 fun u M3 => ∃ z, x = .str z ∧ z.length ≤ sizeLine ∧ Φ (.str (cutS z l u)) M3
theorem xe_sliceS {te : TE} {tl th : TO} {Te : HC.CE} {Tl Th : HC.COo} (he : HC.XE K te Te) (hl : HC.XP K tl Tl) (hh : HC.XP K th Th) : HC.XE K (tSl rSlS te tl th) (cSlS Te Tl Th) := by
  intro b σ H F ρ M Φ Q R0 hT k
  refine he b σ H F ρ M _ _ R0 hT fun x H1 F1 M1 d s1 R1 h1 hA => ?_
  refine hl b σ H1 F1 ρ M1 _ _ R1 hA fun l H2 F2 M2 s2 R2 hB => ?_
  refine hh b σ H2 F2 ρ M2 _ _ R2 hB fun u H3 F3 M3 s3 R3 hC => ?_
  obtain ⟨z, rfl, hz, hD⟩ := hC
  exact ⟨z, h1.inv_str, hz, k _ H3 F3 M3 _ ((s1.trans s2).trans s3) R3 (.str _) hD⟩
/-! ### x.isalpha() -/
def dAlpha (T : DE) : DE := fun ρ Φ => T ρ fun x ρ1 => ∃ z, x = .str z ∧ Φ (.bl (Txt.isalpha z)) ρ1
theorem re_alpha {t : TE} {T : DE} (h : DL.RE K ps t T) : DL.RE K ps (tM0 (fun x xs H Q => ∃ a, x = .str a ∧ xs = [] ∧ True ∧ Q (.bl (Txt.isalpha a)) H) t) (dAlpha T) := by
  intro b σ H F ρ Φ Q R0 hT k
  refine h b σ H F ρ _ _ R0 hT fun x H1 F1 ρ1 d s1 R1 h1 hA => ?_
  obtain ⟨z, rfl, hA⟩ := hA
  exact ⟨⟨z, h1.inv_str⟩, z, h1.inv_str, rfl, trivial, k _ H1 F1 ρ1 _ s1 R1 (.bl _) hA⟩
def cAlpha (T : HC.CE) : HC.CE := fun ρ M Φ => T ρ M fun x M1 => ∃ z, x = .str z ∧ Φ (.bl (Txt.isalpha z)) M1
theorem xe_alpha {t : TE} {T : HC.CE} (h : HC.XE K t T) : HC.XE K (tM0 (fun x xs H Q => ∃ a, x = .str a ∧ xs = [] ∧ True ∧ Q (.bl (Txt.isalpha a)) H) t) (cAlpha T) := by
  intro b σ H F ρ M Φ Q R0 hT k
  refine h b σ H F ρ M _ _ R0 hT fun x H1 F1 M1 d s1 R1 h1 hA => ?_
  obtain ⟨z, rfl, hA⟩ := hA
  exact ⟨⟨z, h1.inv_str⟩, z, h1.inv_str, rfl, trivial, k _ H1 F1 M1 _ s1 R1 (.bl _) hA⟩
/-! ### x.extend(a tuple) -/
def dExtT (i : Nat) (T : DE) : DS := fun E ρ => (∃ ds0, ρ[i]? = some (some (.l ds0))) ∧ T ρ fun d ρ1 => ∃ es ds, d = .tup es ∧ ρ1[i]? = some (some (.l ds)) ∧ ds.length + es.length ≤ sizeLine ∧ E.nx (ρ1.set i (some (.l (ds ++ es))))
theorem rs_extT {i : Nat} {t : TE} {T : DE} (h : DL.RE K ps t T) : DL.RS K ps (tDrop (tBM K "list" (SX.rExtendT K) (tVar i) (tCons t tNil))) (dExtT i T) := by
  intro b σ H F ρ E D' R hT n r bk ct
  obtain ⟨⟨ds0, e0⟩, hT⟩ := hT
  obtain ⟨p, hp, _, _, xs0, ex0, _⟩ := R.own e0 rfl
  refine ⟨_, hp, .inl ⟨rfl, xs0, SqL.of ex0⟩, h b σ H F ρ _ _ R hT fun y H1 F1 ρ1 d s1 R1 hd hΦ => ?_⟩
  obtain ⟨es, ds, rfl, e1, hz, hΦ⟩ := hΦ
  obtain ⟨q, ys, rfl, eq, hes⟩ := hd.inv_tup
  obtain ⟨p', hp', hF1, _, xs, ex, hx⟩ := R1.own e1 rfl
  rw [hp] at hp'
  cases hp'
  refine ⟨p, q, xs, ys, rfl, rfl, ex, sqT_same R1.sub eq, by rw [hx.1, hes.1]; exact hz, n σ _ F1 _ s1 (R1.write e1 rfl rfl hp (fun a u na e => (upd_ne na).trans e) (Same.refl F1) (fun a o e => ?_) (fun a o e => .inl e) (fun a o e => .inl e) (at_l upd_same (hx.app hes))) hΦ⟩
  rw [upd_ne (fun z => by rw [z, hF1] at e; cases e)]
  exact R1.sub a o e
/-! ### x.f += n -/
def cFldAug (C : Addr) (To Tv : HC.CE) (g : Int → Int → Int) (f : Str) : HC.CS := fun E ρ M => To ρ M fun x M1 => ∃ p fs i, x = .fn p ∧ HC.look M1 p = some (.o C fs) ∧ valD fs f = some (.int i) ∧ Tv ρ M1 fun y M2 => ∃ fs2 j, HC.look M2 p = some (.o C fs2) ∧ y = .int j ∧ (fs2.map (·.1)).Nodup ∧ fs2.length < 1000 ∧ E.nx ρ (HC.put M2 p (.o C (putD fs2 f (.int (g i j)))))
theorem xs_fldaug {C : Addr} {to tv : TE} {To Tv : HC.CE} {f : Str} {rd : V → V → Hp → VK → Prop} {g : Int → Int → Int} (hrd : ∀ (i j : Int) (H : Hp) (Q : VK), Q (.int (g i j)) H → rd (.int i) (.int j) H Q) (hc : Cls K C) (hn : NoAttr K C f) (ho : HC.XE K to To) (hv : HC.XE K tv Tv) : HC.XS K (sFldAug K to tv rd f) (cFldAug C To Tv g f) := by
  intro b σ H F ρ M E D' R hT n r bk ct
  refine ho b σ H F ρ M _ _ R hT fun x H1 F1 M1 d s1 R1 h1 hT => ?_
  obtain ⟨p, fs, i, rfl, e1, hi, hT⟩ := hT
  cases h1.inv_fn
  obtain ⟨hF, dx, xs, ex, hx⟩ := (R1.cell p _ e1).1
  have m := hx.val (k := f)
  rw [hi] at m
  obtain ⟨v, hv1, hd⟩ := m
  cases hd.inv_int
  refine ⟨p, C, dx, xs, .int i, rfl, ex, hc, hn, by rw [lookup_valV]; exact hv1, hv b σ H1 F1 ρ M1 _ _ R1 hT fun y H2 F2 M2 e s2 R2 h2 hT => ?_⟩
  obtain ⟨fs2, j, e2, rfl, nd, hl, hT⟩ := hT
  rw [h2.inv_int]
  obtain ⟨hF2, dx2, xs2, ex2, hx2⟩ := (R2.cell p _ e2).1
  refine hrd i j H2 _ ⟨dx2, xs2, ex2, by rw [hx2.len]; exact hl, ?_⟩
  rw [HC.putF_eq f _ xs2 (by rw [hx2.1]; exact nd)]
  exact n σ _ F2 ρ _ (s1.trans s2) (R2.write (c' := .o C (putD fs2 f (.int (g i j)))) e2 hF2 ex2 (by intro t z; cases z) (HC.ins_nc _ _ _) ⟨hF2, dx2, _, upd_same, hx2.put (.int _)⟩) hT
theorem rd_add : ∀ (i j : Int) (H : Hp) (Q : VK), Q (.int (i + j)) H → rAdd (.int i) (.int j) H Q := fun i j H Q h => ⟨i, j, rfl, rfl, h⟩
theorem rd_sub : ∀ (i j : Int) (H : Hp) (Q : VK), Q (.int (i - j)) H → rSub (.int i) (.int j) H Q := fun i j H Q h => ⟨i, j, rfl, rfl, h⟩
/-! ### what is not reached -/
theorem ps_never {X : Cx} {st : Stmt} : PS X st (fun _ _ _ => False) := ⟨fun _ _ _ _ _ _ h => h.elim⟩
def dNever : DS := fun _ _ => False
theorem rs_never : DL.RS K ps (fun _ _ _ => False) dNever := fun b σ H F ρ E D' R hT _ _ _ _ => hT.elim
def cNever : HC.CS := fun _ _ _ => False
theorem xs_never : HC.XS K (fun _ _ _ => False) cNever := fun b σ H F ρ M E D' R hT _ _ _ _ => hT.elim
end
@[simp] theorem oIxC_ (z : Str) (i : Int) (Φ : D → Prop) : oIxC (.str z) (.int i) Φ = (z.length ≤ sizeLine ∧ ∃ c, atI z.cps.toList i = some c ∧ Φ (.str ⟨#[c]⟩)) := by
  refine propext ⟨?_, fun ⟨h1, c, h2, h3⟩ => ⟨z, i, c, rfl, rfl, h1, h2, h3⟩⟩
  rintro ⟨z', i', c, e1, e2, h1, h2, h3⟩
  cases e1
  cases e2
  exact ⟨h1, c, h2, h3⟩
@[simp] theorem oInC_ (neg : Bool) (c : Nat) (z : Str) (Φ : D → Prop) : oInC neg (.str ⟨#[c]⟩) (.str z) Φ = Φ (.bl (if neg then !decide (c ∈ z.cps.toList) else decide (c ∈ z.cps.toList))) := by
  refine propext ⟨?_, fun h => ⟨c, z, rfl, rfl, h⟩⟩
  rintro ⟨c', z', e1, e2, h⟩
  cases e1
  cases e2
  exact h
@[simp] theorem dSlS_ (Te : DE) (Tl Th : DOo) (ρ : DL.Env) (Φ : D → DL.Env → Prop) : dSlS Te Tl Th ρ Φ = Te ρ fun x ρ1 => Tl ρ1 fun l ρ2 => Th ρ2 fun u ρ3 => ∃ z, x = .str z ∧ z.length ≤ sizeLine ∧ Φ (.str (cutS z l u)) ρ3 := Eq.trans rfl rfl
@[simp] theorem cSlS_ (Te : HC.CE) (Tl Th : HC.COo) (ρ : HC.Env) (M : HC.Cells) (Φ : D → HC.Cells → Prop) : cSlS Te Tl Th ρ M Φ = Te ρ M fun x M1 => Tl ρ M1 fun l M2 => Th ρ M2 fun u M3 => ∃ z, x = .str z ∧ z.length ≤ sizeLine ∧ Φ (.str (cutS z l u)) M3 := Eq.trans rfl rfl
@[simp] theorem dAlpha_ (T : DE) (ρ : DL.Env) (Φ : D → DL.Env → Prop) : dAlpha T ρ Φ = T ρ fun x ρ1 => ∃ z, x = .str z ∧ Φ (.bl (Txt.isalpha z)) ρ1 := Eq.trans rfl rfl
@[simp] theorem cAlpha_ (T : HC.CE) (ρ : HC.Env) (M : HC.Cells) (Φ : D → HC.Cells → Prop) : cAlpha T ρ M Φ = T ρ M fun x M1 => ∃ z, x = .str z ∧ Φ (.bl (Txt.isalpha z)) M1 := Eq.trans rfl rfl
@[simp] theorem cFldAug_ (C : Addr) (To Tv : HC.CE) (g : Int → Int → Int) (f : Str) (E : HC.CEn) (ρ : HC.Env) (M : HC.Cells) : cFldAug C To Tv g f E ρ M = To ρ M fun x M1 => ∃ p fs i, x = .fn p ∧ HC.look M1 p = some (.o C fs) ∧ valD fs f = some (.int i) ∧ Tv ρ M1 fun y M2 => ∃ fs2 j, HC.look M2 p = some (.o C fs2) ∧ y = .int j ∧ (fs2.map (·.1)).Nodup ∧ fs2.length < 1000 ∧ E.nx ρ (HC.put M2 p (.o C (putD fs2 f (.int (g i j))))) := Eq.trans rfl rfl
@[simp] theorem dExtT_ (i : Nat) (T : DE) (E : DEn) (ρ : DL.Env) : dExtT i T E ρ = ((∃ ds0, ρ[i]? = some (some (.l ds0))) ∧ T ρ fun d ρ1 => ∃ es ds, d = .tup es ∧ ρ1[i]? = some (some (.l ds)) ∧ ds.length + es.length ≤ sizeLine ∧ E.nx (ρ1.set i (some (.l (ds ++ es))))) := Eq.trans rfl rfl
@[simp] theorem dNever_ (E : DEn) (ρ : DL.Env) : dNever E ρ = False := Eq.trans rfl rfl
@[simp] theorem cNever_ (E : HC.CEn) (ρ : HC.Env) (M : HC.Cells) : cNever E ρ M = False := Eq.trans rfl rfl
end DS
/-! Written tuples of texts; d.get(k, x) of a written dict. -/
namespace DT
open PySem PySem.Spec PyProof.Rows L2 DL SX
/-- at a a written tuple of these texts -/
structure TD (K : PySem.W.Frag) (a : Addr) (ds : List Str) : Prop where
  ex : ∃ (o : Obj) (its : Array Value) (n : Nat), K.lookup a = some o ∧ o.cls = .type "tuple" ∧ o.data = .seq its n ∧ its.size ≤ sizeLine ∧ Vals (ds.map V.str) its.toList
theorem TD.dr {K : PySem.W.Frag} {a : Addr} {ds : List Str} (h : TD K a ds) (F : Hp) : Dr K F (.ref a) (.tup (ds.map .str)) := by
  refine .tup (xs := ds.map V.str) (.inr h.ex) (by simp) fun i v d e1 e2 => ?_
  rw [List.getElem?_map] at e1 e2
  obtain ⟨s, hs, rfl⟩ := Option.map_eq_some_iff.mp e1
  rw [hs] at e2
  cases e2
  exact .str s
theorem td_of {K : PySem.W.Frag} {a : Addr} {ds : List Str} {od : Option Addr} {its : Array Value} {n : Nat} {sl : Array (Option Value)} (hl : K.lookup a = some ⟨.type "tuple", od, .seq its n, sl⟩) (hz : its.size ≤ sizeLine) (hv : Vals (ds.map V.str) its.toList) : TD K a ds :=
  ⟨_, its, n, hl, rfl, rfl, hz, hv⟩
def tGetW (d : Addr) (kvs : List (Str × V)) (td ty tx : TE) : TE := fun σ H Q => td σ H fun x H1 => x = .ref d ∧ ty σ H1 fun y H2 => tx σ H2 fun z H3 => ∃ s, y = .str s ∧ Q ((kvs.lookup s).getD z) H3
theorem relO_getD {o : Option V} {r : Option Value} {z : V} {w : Value} (h : RelO o r) (hz : RelV z w) : RelV (o.getD z) (r.getD w) := by
  cases o <;> cases r <;> first | exact hz | exact h | exact (show False from h).elim
theorem pe_getW {X : Cx} {d : Addr} {kvs : List (Str × V)} {o e f : Expr} {apos cpos : Pos} {td ty tx : TE} (D : WD X.K X.w d kvs) (ho : PE X o td) (he : PE X e ty) (hf : PE X f tx) (m : M2 X o "get" apos e f cpos) :
    PE X (.Call (.Attribute o "get" apos) [e, f] [] cpos) (tGetW d kvs td ty tx) := by
  obtain ⟨es, n, D', fz⟩ := D.ex
  refine ⟨fun pins s σ H Q I h => ?_⟩
  refine wpAny_Call_method m.base m.few m.line PySem.F.plainAttrs_dict PySem.F.slot_dict_get PySem.F.type_dict_get (thn (ho.run pins s σ H _ I h) fun u s1 ⟨x, H1, I1, rx, ex, q1⟩ => ?_)
  subst ex
  obtain rfl : u = Value.ref d := rx
  refine ⟨kd_type D' I1, fun b q => ?_, ?_⟩
  · cases q
    exact ⟨_, I1.kIn d _ D'.at_, rfl⟩
  rw [m.trees]
  refine Calls.callWith_builtin rfl (Calls.evalArgs_plain (Calls.spliced_cons (thn (he.run pins s1 σ H1 _ I1 q1) fun iv s2 ⟨y, H2, I2, ry, q2⟩ =>
    Calls.spliced_cons (thn (hf.run pins s2 σ H2 _ I2 q2) fun fv s3 ⟨z, H3, I3, rz, s, hy, q3⟩ => Calls.spliced_nil ?_))))
  subst hy
  obtain ⟨t, rfl⟩ := ry
  obtain ⟨r, er, rel⟩ := fz s
  refine call_meetsIn PySem.F.slot_dict_get (kd_type D' I3) PySem.F.entry_dict_get (PySem.F.args_dict_get_3 _ _ _) (PySem.meets_dict_get_default (PySem.strKind X.prog X.w) d (PySem.strKind_is X.prog X.w s t) D'.low fv) ⟨_, PySem.W.mapOf_K (prog := X.prog) I3.kIn D'.at_ D'.lit, ?_⟩
  rw [PySem.W.find_K D'.at_ er]
  exact ⟨_, H3, I3.tok _, relO_getD rel rz, q3⟩
def dGetW (d : Addr) (kvs : List (Str × V)) (Td Ty Tx : DE) : DE := fun ρ Φ => Td ρ fun x ρ1 => x = .fn d ∧ Ty ρ1 fun y ρ2 => Tx ρ2 fun z ρ3 => ∃ s w, y = .str s ∧ (match kvs.lookup s with | some v => HC.vD v | none => some z) = some w ∧ Φ w ρ3
theorem re_getW [Tbs] {K : PySem.W.Frag} {ps : List Nat} {d : Addr} {kvs : List (Str × V)} {td ty tx : TE} {Td Ty Tx : DE} (h1 : DL.RE K ps td Td) (h2 : DL.RE K ps ty Ty) (h3 : DL.RE K ps tx Tx) : DL.RE K ps (tGetW d kvs td ty tx) (dGetW d kvs Td Ty Tx) := by
  intro b σ H F ρ Φ Q R0 hT k
  refine h1 b σ H F ρ _ _ R0 hT fun x H1 F1 ρ1 dx s1 R1 hx hA => ?_
  obtain ⟨rfl, hA⟩ := hA
  refine ⟨hx.inv_fn, h2 b σ H1 F1 ρ1 _ _ R1 hA fun y H2 F2 ρ2 dy s2 R2 hy hB => ?_⟩
  refine h3 b σ H2 F2 ρ2 _ _ R2 hB fun z H3 F3 ρ3 dz s3 R3 hz hC => ?_
  obtain ⟨s, w, rfl, hw, hD⟩ := hC
  refine ⟨s, hy.inv_str, ?_⟩
  cases e : kvs.lookup s with
  | none =>
    rw [e] at hw
    cases hw
    exact k _ H3 F3 ρ3 _ ((s1.trans s2).trans s3) R3 hz hD
  | some v =>
    rw [e] at hw
    exact k _ H3 F3 ρ3 _ ((s1.trans s2).trans s3) R3 (HC.vD_ok hw) hD
@[simp] theorem dGetW_ (d : Addr) (kvs : List (Str × V)) (Td Ty Tx : DE) (ρ : DL.Env) (Φ : D → DL.Env → Prop) : dGetW d kvs Td Ty Tx ρ Φ = Td ρ fun x ρ1 => x = .fn d ∧ Ty ρ1 fun y ρ2 => Tx ρ2 fun z ρ3 => ∃ s w, y = .str s ∧ (match kvs.lookup s with | some v => HC.vD v | none => some z) = some w ∧ Φ w ρ3 := Eq.trans rfl rfl
/-! ### sep.join(texts), f-strings -/
theorem da_strs {K : PySem.W.Frag} {F : Hp} : ∀ {ys : List Str} {xs : List V}, DA K F xs (ys.map .str) → xs = ys.map V.str
  | [], xs, h => h.inv_nil
  | y :: ys, xs, h => by
    obtain ⟨v, r, rfl, h1, h2⟩ := h.inv
    rw [h1.inv_str, da_strs h2]
    rfl
def dJoin (To Te : DE) : DE := fun ρ Φ => To ρ fun x ρ1 => (∃ a, x = .str a) ∧ Te ρ1 fun y ρ2 => ∃ (a : Str) (ys : List Str), x = .str a ∧ (y = .lst (ys.map .str) ∨ y = .tup (ys.map .str)) ∧ (ys.map (·.length)).sum + ys.length * a.length ≤ 16777216 ∧ Φ (.str (Txt.join a ys)) ρ2
theorem re_join [Tbs] {K : PySem.W.Frag} {ps : List Nat} {to te : TE} {To Te : DE} (h1 : DL.RE K ps to To) (h2 : DL.RE K ps te Te) :
    DL.RE K ps (tM1 (fun x xs H Q => ∃ a p, ∃ ys : List Str, x = .str a ∧ xs = [.ref p] ∧ (SqL K H p (ys.map V.str) ∨ SqT K H p (ys.map V.str)) ∧ (ys.map (·.length)).sum + ys.length * a.length ≤ 16777216 ∧ Q (.str (Txt.join a ys)) H) to te) (dJoin To Te) := by
  intro b σ H F ρ Φ Q R0 hT k
  refine h1 b σ H F ρ _ _ R0 hT fun x H1 F1 ρ1 dx s1 R1 hx hA => ?_
  obtain ⟨⟨a0, rfl⟩, hA⟩ := hA
  refine ⟨⟨a0, hx.inv_str⟩, h2 b σ H1 F1 ρ1 _ _ R1 hA fun y H2 F2 ρ2 dy s2 R2 hy hB => ?_⟩
  obtain ⟨a, ys, ea, hy', hz, hD⟩ := hB
  cases ea
  rcases hy' with rfl | rfl
  · obtain ⟨p, xs, rfl, ep, hp⟩ := hy.inv_lst
    rw [da_strs hp] at ep
    exact ⟨a0, p, ys, hx.inv_str, rfl, .inl (SqL.of (R2.sub _ _ ep)), hz, k _ H2 F2 ρ2 _ (s1.trans s2) R2 (.str _) hD⟩
  · obtain ⟨p, xs, rfl, ep, hp⟩ := hy.inv_tup
    rw [da_strs hp] at ep
    exact ⟨a0, p, ys, hx.inv_str, rfl, .inr (sqT_same R2.sub ep), hz, k _ H2 F2 ρ2 _ (s1.trans s2) R2 (.str _) hD⟩
@[simp] theorem dJoin_ (To Te : DE) (ρ : DL.Env) (Φ : D → DL.Env → Prop) : dJoin To Te ρ Φ = To ρ fun x ρ1 => (∃ a, x = .str a) ∧ Te ρ1 fun y ρ2 => ∃ (a : Str) (ys : List Str), x = .str a ∧ (y = .lst (ys.map .str) ∨ y = .tup (ys.map .str)) ∧ (ys.map (·.length)).sum + ys.length * a.length ≤ 16777216 ∧ Φ (.str (Txt.join a ys)) ρ2 := Eq.trans rfl rfl
/-- {x} of a text -/
def dFmt (T : DE) : DE := fun ρ Φ => T ρ fun x ρ1 => ∃ y : Str, x = .str y ∧ y.length ≤ sizeLine ∧ Φ (.str y) ρ1
theorem re_fmt [Tbs] {K : PySem.W.Frag} {ps : List Nat} {t : TE} {T : DE} (h : DL.RE K ps t T) : DL.RE K ps (tFmt t) (dFmt T) := by
  intro b σ H F ρ Φ Q R0 hT k
  refine h b σ H F ρ _ _ R0 hT fun x H1 F1 ρ1 dx s1 R1 hx hA => ?_
  obtain ⟨y, rfl, hz, hD⟩ := hA
  exact .inl ⟨y, hx.inv_str, hz, k _ H1 F1 ρ1 _ s1 R1 (.str _) hD⟩
@[simp] theorem dFmt_ (T : DE) (ρ : DL.Env) (Φ : D → DL.Env → Prop) : dFmt T ρ Φ = T ρ fun x ρ1 => ∃ y : Str, x = .str y ∧ y.length ≤ sizeLine ∧ Φ (.str y) ρ1 := Eq.trans rfl rfl
inductive RJ [Tbs] (K : PySem.W.Frag) (ps : List Nat) : List TE → List DE → Prop where
  | nil : RJ K ps [] []
  | cons {t : TE} {T : DE} {ts : List TE} {Ts : List DE} (h : DL.RE K ps t T) (r : RJ K ps ts Ts) : RJ K ps (t :: ts) (T :: Ts)
theorem rj_nil [Tbs] {K : PySem.W.Frag} {ps : List Nat} : RJ K ps [] [] := .nil
theorem rj_cons [Tbs] {K : PySem.W.Frag} {ps : List Nat} {t : TE} {T : DE} {ts : List TE} {Ts : List DE} (h : DL.RE K ps t T) (r : RJ K ps ts Ts) : RJ K ps (t :: ts) (T :: Ts) := .cons h r
def dJs : List DE → Str → DL.Env → (Str → DL.Env → Prop) → Prop
  | [], acc, ρ, Φ => Φ acc ρ
  | T :: Ts, acc, ρ, Φ => T ρ fun x ρ1 => ∃ y : Str, x = .str y ∧ (acc ++ y).length ≤ sizeLine ∧ dJs Ts (acc ++ y) ρ1 Φ
theorem rj_run [Tbs] {K : PySem.W.Frag} {ps : List Nat} {ts : List TE} {Ts : List DE} (h : RJ K ps ts Ts) : ∀ (acc : Str) (b : DL.Bs) (σ : L2.St) (H F : Hp) (ρ : DL.Env) (Φ : Str → DL.Env → Prop) (Q : Str → Hp → Prop), DL.Rep K ps b σ H F ρ → dJs Ts acc ρ Φ →
    (∀ z H' F' ρ', Same F F' → DL.Rep K ps b σ H' F' ρ' → Φ z ρ' → Q z H') → tJs ts acc σ H Q := by
  induction h with
  | nil => exact fun acc b σ H F ρ Φ Q R hT k => k acc H F ρ (Same.refl F) R hT
  | cons h r ih =>
    intro acc b σ H F ρ Φ Q R hT k
    refine h b σ H F ρ _ _ R hT fun x H1 F1 ρ1 dx s1 R1 hx hA => ?_
    obtain ⟨y, rfl, hz, hD⟩ := hA
    exact ⟨y, hx.inv_str, hz, ih _ b σ H1 F1 ρ1 _ _ R1 hD fun z H' F' ρ' s R' hΦ => k z H' F' ρ' (s1.trans s) R' hΦ⟩
def dJoined (Ts : List DE) : DE := fun ρ Φ => dJs Ts Str.empty ρ fun z ρ1 => Φ (.str z) ρ1
theorem re_joined [Tbs] {K : PySem.W.Frag} {ps : List Nat} {ts : List TE} {Ts : List DE} (h : RJ K ps ts Ts) : DL.RE K ps (fun σ H Q => tJs ts Str.empty σ H fun out H1 => Q (.str out) H1) (dJoined Ts) := by
  intro b σ H F ρ Φ Q R hT k
  exact rj_run h _ b σ H F ρ _ _ R hT fun z H' F' ρ' s R' hΦ => k _ H' F' ρ' _ s R' (.str z) hΦ
@[simp] theorem dJoined_ (Ts : List DE) (ρ : DL.Env) (Φ : D → DL.Env → Prop) : dJoined Ts ρ Φ = dJs Ts Str.empty ρ fun z ρ1 => Φ (.str z) ρ1 := Eq.trans rfl rfl
@[simp] theorem dJs_nil (acc : Str) (ρ : DL.Env) (Φ : Str → DL.Env → Prop) : dJs [] acc ρ Φ = Φ acc ρ := Eq.trans rfl rfl
@[simp] theorem dJs_cons (T : DE) (Ts : List DE) (acc : Str) (ρ : DL.Env) (Φ : Str → DL.Env → Prop) : dJs (T :: Ts) acc ρ Φ = T ρ fun x ρ1 => ∃ y : Str, x = .str y ∧ (acc ++ y).length ≤ sizeLine ∧ dJs Ts (acc ++ y) ρ1 Φ := Eq.trans rfl rfl
end DT
/-! A promise over cells told as one over data; what a stack of pieces writes. -/
namespace DH
open PySem PySem.Spec PyProof.Rows L2 DL
theorem of_pure [Tbs] {K : PySem.W.Frag} {s : NB.SV} {S : HC.SC} (hs : ∀ ds (Φ : D → Prop), s ds Φ → S ds [] fun d _ => Φ d) {vs : List V} {H : Hp} {Q : VK} {E : XK} (h : spOf K (pureS s) vs H Q E) : HC.spH K S vs H Q E := by
  obtain ⟨F, os, Φ, ⟨hsub, hnt, htb, hB⟩, ha, ⟨ds, rfl, hs'⟩, q⟩ := h
  have nO : ∀ a, ¬ OwnA vs (ds.map .d) a := fun a ⟨i, o, e1, e2, _⟩ => by
    rw [List.getElem?_map] at e1
    obtain ⟨d, _, rfl⟩ := Option.map_eq_some_iff.mp e1
    cases e2
  refine ⟨F, [], ds, fun d _ => Φ d (ds.map .d), ⟨hsub, hnt, htb, hB⟩, fun p c e => (nomatch e), ⟨by have := ha.len; rwa [List.length_map] at this, fun i v d e1 e2 => ha.ok i v (.d d) e1 (by rw [List.getElem?_map, e2]; rfl)⟩, hs _ _ hs', fun F' H' v M' d s x kp dom nw cl hdr hΦ => ?_⟩
  refine q F' H' v d (ds.map .d) s x (fun a o e n nz => kp a o e rfl nz) dom (fun a o e => (nw a o e).elim .inl fun z => z.elim (fun z => .inr (.inl z)) fun z => absurd rfl z) rfl (fun i o o' v e1 e2 => ?_) hdr hΦ
  rw [List.getElem?_map] at e1
  obtain ⟨d, _, rfl⟩ := Option.map_eq_some_iff.mp e1
  cases e2
/-! ### the draw into its slot -/
def dDraw (i j : Nat) : DL.DS := fun E ρ => ∃ ns, ρ[i]? = some (some (.d (.scr ns))) ∧ ns.length ≤ 63 ∧ E.nx (ρ.set j (some .draw))
theorem rs_draw [Tbs] {K : PySem.W.Frag} {ps : List Nat} {i j : Nat} {E : XK} (hj : j ∉ ps := by decide) : DL.RS K ps (tAsg (tCall (HC.spDraw K) [] E (tCons (tVar i) tNil)) (gName j)) (dDraw i j) := by
  intro b σ H F ρ E' D' R hT n r bk ct
  obtain ⟨ns, e, hn, hT⟩ := hT
  obtain ⟨v, h1, h2⟩ := R.slot i _ e
  obtain ⟨a, rfl, hs⟩ := Dr.inv_scr h2
  refine ⟨_, h1, a, ns, rfl, sqL_same R.sub hs, hn, fun H' d sc sm hd hsc DA' => ?_⟩
  obtain ⟨ns', i', b', s', e1, e2, e3, e4, e5, e6, e7⟩ := DA'
  obtain ⟨hFd, h0d, _⟩ := R.fresh hd
  obtain ⟨hFs, h0s, _⟩ := R.fresh hsc
  have lo := R.loose hd
  have sF : Same F (upd F sc (.lst (ns'.map V.int))) := SX.same_upd hFs
  have R2 : DL.Rep K ps b σ H' (upd F sc (.lst (ns'.map V.int))) ρ := R.grown sm sF (fun x o eo => by
    by_cases hx : x = sc
    · subst hx
      rw [upd_same] at eo
      rw [e2]
      exact eo
    · rw [upd_ne hx] at eo
      exact sm _ _ (R.sub _ _ eo)) (fun x o eo => by
    by_cases hx : x = sc
    · subst hx
      exact .inr hsc
    · rw [upd_ne hx] at eo
      exact .inl eo) (fun x o eo => by
    by_cases hx : x = sc
    · subst hx
      rw [upd_same] at eo
      cases eo
      exact .inr (fun t z => by cases z)
    · rw [upd_ne hx] at eo
      exact .inl eo)
  refine n _ H' _ _ sF (R2.setO (o := .draw) hj rfl ⟨by rw [upd_ne (Ne.symm e3)]; exact hFd, h0d, lo.2.2⟩ ⟨sc, ns', i', b', s', e1, upd_same, e4, e5, e6, e7⟩) hT
@[simp] theorem dDraw_ (i j : Nat) (E : DEn) (ρ : DL.Env) : dDraw i j E ρ = (∃ ns, ρ[i]? = some (some (.d (.scr ns))) ∧ ns.length ≤ 63 ∧ E.nx (ρ.set j (some .draw))) := Eq.trans rfl rfl
/-- what a stack of pieces writes, the first one next, in so many steps -/
inductive WrL (s : NB.SV) : List D → List Str → Nat → Prop
  | nil : WrL s [] [] 0
  | txt {x : Str} {r : List D} {ts : List Str} {n : Nat} (h : WrL s r ts n) : WrL s (.str x :: r) (x :: ts) (n + 1)
  | tree {t : D} {pl : Int} {ps r : List D} {ts : List Str} {n : Nat} (hs : ∀ Φ : D → Prop, Φ (.lst ps) → s [t, .int pl] Φ) (h : WrL s (ps ++ r) ts n) : WrL s (.tup [t, .int pl] :: r) ts (n + 1)
theorem WrL.len {s : NB.SV} {st : List D} {ts : List Str} {n : Nat} (h : WrL s st ts n) : st.length ≤ n ∧ ts.length ≤ n := by
  induction h with
  | nil => exact ⟨Nat.le_refl _, Nat.le_refl _⟩
  | txt h ih => rw [List.length_cons, List.length_cons]; omega
  | tree hs h ih => rw [List.length_append] at ih; rw [List.length_cons]; omega
def sWr (SP : Addr → Option NB.SV) : NB.SV := fun ds Φ => ∃ (t : D) (f : Addr) (s : NB.SV) (ts : List Str) (n : Nat), ds = [t, .fn f] ∧ SP f = some s ∧ WrL s [.tup [t, .int 0]] ts n ∧ n ≤ 1000000 ∧ (ts.map (·.length)).sum ≤ 1000000 ∧ Φ (.str (Txt.join "" ts))
end DH
namespace K45
open PySem PySem.Spec PyProof.Rows L2 DL
def top (i : Nat) : Stmt := PySem.Challenge.pw_soonsettled_k45_conditions_are_read_and.main.body.getD i (.Pass ⟨0, 0, 0, 0⟩)
abbrev s_word_end : Stmt := top 7
theorem sc_word_end : FnScope ["text", "start", "at"] ["text", "start"] (defScope s_word_end) := ⟨rfl, rfl, rfl, by decide +kernel, rfl, by decide +kernel, by decide +kernel⟩
abbrev s_tokens_of : Stmt := top 8
theorem sc_tokens_of : FnScope ["text", "signs", "tokens", "at", "behind"] ["text", "signs"] (defScope s_tokens_of) := ⟨rfl, rfl, rfl, by decide +kernel, rfl, by decide +kernel, by decide +kernel⟩
abbrev s_Reader___init__ : Stmt := inClass (top 9) 0
theorem sc_Reader___init__ : FnScope ["self", "text", "signs"] ["self", "text", "signs"] (defScope s_Reader___init__) := ⟨rfl, rfl, rfl, by decide +kernel, rfl, by decide +kernel, by decide +kernel⟩
abbrev s_Reader_step : Stmt := inClass (top 9) 1
theorem sc_Reader_step : FnScope ["self"] ["self"] (defScope s_Reader_step) := ⟨rfl, rfl, rfl, by decide +kernel, rfl, by decide +kernel, by decide +kernel⟩
abbrev s_Reader_refuse : Stmt := inClass (top 9) 2
theorem sc_Reader_refuse : FnScope ["self"] ["self"] (defScope s_Reader_refuse) := ⟨rfl, rfl, rfl, by decide +kernel, rfl, by decide +kernel, by decide +kernel⟩
abbrev s_Reader_read_name : Stmt := inClass (top 9) 3
theorem sc_Reader_read_name : FnScope ["self", "word"] ["self"] (defScope s_Reader_read_name) := ⟨rfl, rfl, rfl, by decide +kernel, rfl, by decide +kernel, by decide +kernel⟩
abbrev s_parts_of : Stmt := top 12
theorem sc_parts_of : FnScope ["tree"] ["tree"] (defScope s_parts_of) := ⟨rfl, rfl, rfl, by decide +kernel, rfl, by decide +kernel, by decide +kernel⟩
abbrev s_numbered : Stmt := top 13
theorem sc_numbered : FnScope ["root", "inner_of", "nodes", "waiting", "node", "outer", "number", "inner"] ["root", "inner_of"] (defScope s_numbered) := ⟨rfl, rfl, rfl, by decide +kernel, rfl, by decide +kernel, by decide +kernel⟩
abbrev s_joined : Stmt := top 14
theorem sc_joined : FnScope ["kind", "trees", "parts", "tree"] ["kind", "trees"] (defScope s_joined) := ⟨rfl, rfl, rfl, by decide +kernel, rfl, by decide +kernel, by decide +kernel⟩
abbrev s_separated : Stmt := top 15
theorem sc_separated : FnScope ["trees", "sign", "place", "pieces", "tree"] ["trees", "sign", "place"] (defScope s_separated) := ⟨rfl, rfl, rfl, by decide +kernel, rfl, by decide +kernel, by decide +kernel⟩
abbrev s_written : Stmt := top 16
theorem sc_written : FnScope ["tree", "pieces_of", "texts", "waiting", "piece"] ["tree", "pieces_of"] (defScope s_written) := ⟨rfl, rfl, rfl, by decide +kernel, rfl, by decide +kernel, by decide +kernel⟩
abbrev s_Group___init__ : Stmt := inClass (top 24) 0
theorem sc_Group___init__ : FnScope ["self"] ["self"] (defScope s_Group___init__) := ⟨rfl, rfl, rfl, by decide +kernel, rfl, by decide +kernel, by decide +kernel⟩
abbrev s_Group_take_word : Stmt := inClass (top 24) 1
theorem sc_Group_take_word : FnScope ["self", "word"] ["self", "word"] (defScope s_Group_take_word) := ⟨rfl, rfl, rfl, by decide +kernel, rfl, by decide +kernel, by decide +kernel⟩
abbrev s_Group_take_factor : Stmt := inClass (top 24) 2
theorem sc_Group_take_factor : FnScope ["self", "factor"] ["self", "factor"] (defScope s_Group_take_factor) := ⟨rfl, rfl, rfl, by decide +kernel, rfl, by decide +kernel, by decide +kernel⟩
abbrev s_Group_begin_term : Stmt := inClass (top 24) 3
theorem sc_Group_begin_term : FnScope ["self"] ["self"] (defScope s_Group_begin_term) := ⟨rfl, rfl, rfl, by decide +kernel, rfl, by decide +kernel, by decide +kernel⟩
abbrev s_Group_condition : Stmt := inClass (top 24) 4
theorem sc_Group_condition : FnScope ["self", "factors"] ["self"] (defScope s_Group_condition) := ⟨rfl, rfl, rfl, by decide +kernel, rfl, by decide +kernel, by decide +kernel⟩
abbrev s_ConditionReader___init__ : Stmt := inClass (top 25) 0
theorem sc_ConditionReader___init__ : NdefX.NScope ["self", "text", "__class__"] ["self", "text"] ["__class__"] (defScope s_ConditionReader___init__) := NdefX.nscope_by (by decide +kernel)
abbrev s_ConditionReader_read_condition : Stmt := inClass (top 25) 1
theorem sc_ConditionReader_read_condition : FnScope ["self"] ["self"] (defScope s_ConditionReader_read_condition) := ⟨rfl, rfl, rfl, by decide +kernel, rfl, by decide +kernel, by decide +kernel⟩
abbrev s_ConditionReader_read_plain : Stmt := inClass (top 25) 2
theorem sc_ConditionReader_read_plain : FnScope ["self", "kind"] ["self"] (defScope s_ConditionReader_read_plain) := ⟨rfl, rfl, rfl, by decide +kernel, rfl, by decide +kernel, by decide +kernel⟩
abbrev s_ConditionReader_read_closed : Stmt := inClass (top 25) 3
theorem sc_ConditionReader_read_closed : FnScope ["self", "closed"] ["self"] (defScope s_ConditionReader_read_closed) := ⟨rfl, rfl, rfl, by decide +kernel, rfl, by decide +kernel, by decide +kernel⟩
abbrev s_ConditionReader_read_joint : Stmt := inClass (top 25) 4
theorem sc_ConditionReader_read_joint : FnScope ["self"] ["self"] (defScope s_ConditionReader_read_joint) := ⟨rfl, rfl, rfl, by decide +kernel, rfl, by decide +kernel, by decide +kernel⟩
abbrev s_ConditionReader_check_size : Stmt := inClass (top 25) 5
theorem sc_ConditionReader_check_size : FnScope ["self", "condition", "parts", "looks", "part", "_"] ["self", "condition"] (defScope s_ConditionReader_check_size) := ⟨rfl, rfl, rfl, by decide +kernel, rfl, by decide +kernel, by decide +kernel⟩
abbrev s_parse_condition : Stmt := top 26
theorem sc_parse_condition : FnScope ["text", "reader", "condition"] ["text"] (defScope s_parse_condition) := ⟨rfl, rfl, rfl, by decide +kernel, rfl, by decide +kernel, by decide +kernel⟩
abbrev s_pieces_of : Stmt := top 27
theorem sc_pieces_of : FnScope ["condition", "place", "kind"] ["condition", "place"] (defScope s_pieces_of) := ⟨rfl, rfl, rfl, by decide +kernel, rfl, by decide +kernel, by decide +kernel⟩
abbrev s_print_condition : Stmt := top 28
theorem sc_print_condition : FnScope ["condition"] ["condition"] (defScope s_print_condition) := ⟨rfl, rfl, rfl, by decide +kernel, rfl, by decide +kernel, by decide +kernel⟩
abbrev s_law_draw : Stmt := top 30
theorem sc_law_draw : FnScope ["script"] ["script"] (defScope s_law_draw) := ⟨rfl, rfl, rfl, by decide +kernel, rfl, by decide +kernel, by decide +kernel⟩
abbrev s_law_next : Stmt := top 31
theorem sc_law_next : FnScope ["draw", "many", "found", "cell"] ["draw", "many"] (defScope s_law_next) := ⟨rfl, rfl, rfl, by decide +kernel, rfl, by decide +kernel, by decide +kernel⟩
abbrev s_law_same : Stmt := top 32
theorem sc_law_same : FnScope ["actual", "due", "k"] ["actual", "due"] (defScope s_law_same) := ⟨rfl, rfl, rfl, by decide +kernel, rfl, by decide +kernel, by decide +kernel⟩
abbrev s_law_tree : Stmt := top 33
theorem sc_law_tree : FnScope ["draw", "depth", "form", "shapes", "look", "kind", "parts", "k", "part"] ["draw", "depth"] (defScope s_law_tree) := ⟨rfl, rfl, rfl, by decide +kernel, rfl, by decide +kernel, by decide +kernel⟩
abbrev s_law_parts : Stmt := top 34
theorem sc_law_parts : FnScope ["tree", "inner", "part"] ["tree"] (defScope s_law_parts) := ⟨rfl, rfl, rfl, by decide +kernel, rfl, by decide +kernel, by decide +kernel⟩
abbrev s_law_looks : Stmt := top 35
theorem sc_law_looks : FnScope ["tree", "inner", "part"] ["tree"] (defScope s_law_looks) := ⟨rfl, rfl, rfl, by decide +kernel, rfl, by decide +kernel, by decide +kernel⟩
abbrev s_law_condition : Stmt := top 36
theorem sc_law_condition : FnScope ["draw", "depth", "tree"] ["draw", "depth"] (defScope s_law_condition) := ⟨rfl, rfl, rfl, by decide +kernel, rfl, by decide +kernel, by decide +kernel⟩
abbrev s_law_text : Stmt := top 37
theorem sc_law_text : FnScope ["draw", "tokens", "text", "places", "token"] ["draw", "tokens"] (defScope s_law_text) := ⟨rfl, rfl, rfl, by decide +kernel, rfl, by decide +kernel, by decide +kernel⟩
abbrev s_law_bracket : Stmt := top 39
theorem sc_law_bracket : FnScope ["draw", "tokens", "needed"] ["draw", "tokens", "needed"] (defScope s_law_bracket) := ⟨rfl, rfl, rfl, by decide +kernel, rfl, by decide +kernel, by decide +kernel⟩
abbrev s_law_condition_tokens : Stmt := top 40
theorem sc_law_condition_tokens : FnScope ["draw", "tree", "within", "found", "part"] ["draw", "tree", "within"] (defScope s_law_condition_tokens) := ⟨rfl, rfl, rfl, by decide +kernel, rfl, by decide +kernel, by decide +kernel⟩
abbrev s_law_print : Stmt := top 41
theorem sc_law_print : FnScope ["tree", "within", "text", "part"] ["tree", "within"] (defScope s_law_print) := ⟨rfl, rfl, rfl, by decide +kernel, rfl, by decide +kernel, by decide +kernel⟩
abbrev s_law : Stmt := top 42
theorem sc_law : FnScope ["script", "draw", "turn", "tree", "text", "noisy", "places"] ["script"] (defScope s_law) := ⟨rfl, rfl, rfl, by decide +kernel, rfl, by decide +kernel, by decide +kernel⟩
structure Txt (prog : Program) (K : PySem.W.Frag) (mg : Str → Option Value) (w : World) where
  a_word_end : Addr
  fd_word_end : FuncData
  F_word_end : Fun K "word_end" "word_end" s_word_end a_word_end fd_word_end
  g_word_end : mg "word_end" = some (.ref a_word_end)
  a_tokens_of : Addr
  fd_tokens_of : FuncData
  F_tokens_of : Fun K "tokens_of" "tokens_of" s_tokens_of a_tokens_of fd_tokens_of
  g_tokens_of : mg "tokens_of" = some (.ref a_tokens_of)
  a_Reader___init__ : Addr
  fd_Reader___init__ : FuncData
  F_Reader___init__ : Fun K "__init__" "Reader.__init__" s_Reader___init__ a_Reader___init__ fd_Reader___init__
  a_Reader_step : Addr
  fd_Reader_step : FuncData
  F_Reader_step : Fun K "step" "Reader.step" s_Reader_step a_Reader_step fd_Reader_step
  a_Reader_refuse : Addr
  fd_Reader_refuse : FuncData
  F_Reader_refuse : Fun K "refuse" "Reader.refuse" s_Reader_refuse a_Reader_refuse fd_Reader_refuse
  a_Reader_read_name : Addr
  fd_Reader_read_name : FuncData
  F_Reader_read_name : Fun K "read_name" "Reader.read_name" s_Reader_read_name a_Reader_read_name fd_Reader_read_name
  a_parts_of : Addr
  fd_parts_of : FuncData
  F_parts_of : Fun K "parts_of" "parts_of" s_parts_of a_parts_of fd_parts_of
  g_parts_of : mg "parts_of" = some (.ref a_parts_of)
  a_numbered : Addr
  fd_numbered : FuncData
  F_numbered : Fun K "numbered" "numbered" s_numbered a_numbered fd_numbered
  g_numbered : mg "numbered" = some (.ref a_numbered)
  a_joined : Addr
  fd_joined : FuncData
  F_joined : Fun K "joined" "joined" s_joined a_joined fd_joined
  g_joined : mg "joined" = some (.ref a_joined)
  a_separated : Addr
  fd_separated : FuncData
  F_separated : Fun K "separated" "separated" s_separated a_separated fd_separated
  g_separated : mg "separated" = some (.ref a_separated)
  a_written : Addr
  fd_written : FuncData
  F_written : Fun K "written" "written" s_written a_written fd_written
  g_written : mg "written" = some (.ref a_written)
  a_Group___init__ : Addr
  fd_Group___init__ : FuncData
  F_Group___init__ : Fun K "__init__" "Group.__init__" s_Group___init__ a_Group___init__ fd_Group___init__
  a_Group_take_word : Addr
  fd_Group_take_word : FuncData
  F_Group_take_word : Fun K "take_word" "Group.take_word" s_Group_take_word a_Group_take_word fd_Group_take_word
  a_Group_take_factor : Addr
  fd_Group_take_factor : FuncData
  F_Group_take_factor : Fun K "take_factor" "Group.take_factor" s_Group_take_factor a_Group_take_factor fd_Group_take_factor
  a_Group_begin_term : Addr
  fd_Group_begin_term : FuncData
  F_Group_begin_term : Fun K "begin_term" "Group.begin_term" s_Group_begin_term a_Group_begin_term fd_Group_begin_term
  a_Group_condition : Addr
  fd_Group_condition : FuncData
  F_Group_condition : Fun K "condition" "Group.condition" s_Group_condition a_Group_condition fd_Group_condition
  a_ConditionReader_read_condition : Addr
  fd_ConditionReader_read_condition : FuncData
  F_ConditionReader_read_condition : Fun K "read_condition" "ConditionReader.read_condition" s_ConditionReader_read_condition a_ConditionReader_read_condition fd_ConditionReader_read_condition
  a_ConditionReader_read_plain : Addr
  fd_ConditionReader_read_plain : FuncData
  F_ConditionReader_read_plain : Fun K "read_plain" "ConditionReader.read_plain" s_ConditionReader_read_plain a_ConditionReader_read_plain fd_ConditionReader_read_plain
  a_ConditionReader_read_closed : Addr
  fd_ConditionReader_read_closed : FuncData
  F_ConditionReader_read_closed : Fun K "read_closed" "ConditionReader.read_closed" s_ConditionReader_read_closed a_ConditionReader_read_closed fd_ConditionReader_read_closed
  a_ConditionReader_read_joint : Addr
  fd_ConditionReader_read_joint : FuncData
  F_ConditionReader_read_joint : Fun K "read_joint" "ConditionReader.read_joint" s_ConditionReader_read_joint a_ConditionReader_read_joint fd_ConditionReader_read_joint
  a_ConditionReader_check_size : Addr
  fd_ConditionReader_check_size : FuncData
  F_ConditionReader_check_size : Fun K "check_size" "ConditionReader.check_size" s_ConditionReader_check_size a_ConditionReader_check_size fd_ConditionReader_check_size
  a_parse_condition : Addr
  fd_parse_condition : FuncData
  F_parse_condition : Fun K "parse_condition" "parse_condition" s_parse_condition a_parse_condition fd_parse_condition
  g_parse_condition : mg "parse_condition" = some (.ref a_parse_condition)
  a_pieces_of : Addr
  fd_pieces_of : FuncData
  F_pieces_of : Fun K "pieces_of" "pieces_of" s_pieces_of a_pieces_of fd_pieces_of
  g_pieces_of : mg "pieces_of" = some (.ref a_pieces_of)
  a_print_condition : Addr
  fd_print_condition : FuncData
  F_print_condition : Fun K "print_condition" "print_condition" s_print_condition a_print_condition fd_print_condition
  g_print_condition : mg "print_condition" = some (.ref a_print_condition)
  a_law_draw : Addr
  fd_law_draw : FuncData
  F_law_draw : Fun K "_law_draw" "_law_draw" s_law_draw a_law_draw fd_law_draw
  g_law_draw : mg "_law_draw" = some (.ref a_law_draw)
  a_law_next : Addr
  fd_law_next : FuncData
  F_law_next : Fun K "_law_next" "_law_next" s_law_next a_law_next fd_law_next
  g_law_next : mg "_law_next" = some (.ref a_law_next)
  a_law_same : Addr
  fd_law_same : FuncData
  F_law_same : Fun K "_law_same" "_law_same" s_law_same a_law_same fd_law_same
  g_law_same : mg "_law_same" = some (.ref a_law_same)
  a_law_tree : Addr
  fd_law_tree : FuncData
  F_law_tree : Fun K "_law_tree" "_law_tree" s_law_tree a_law_tree fd_law_tree
  g_law_tree : mg "_law_tree" = some (.ref a_law_tree)
  a_law_parts : Addr
  fd_law_parts : FuncData
  F_law_parts : Fun K "_law_parts" "_law_parts" s_law_parts a_law_parts fd_law_parts
  g_law_parts : mg "_law_parts" = some (.ref a_law_parts)
  a_law_looks : Addr
  fd_law_looks : FuncData
  F_law_looks : Fun K "_law_looks" "_law_looks" s_law_looks a_law_looks fd_law_looks
  g_law_looks : mg "_law_looks" = some (.ref a_law_looks)
  a_law_condition : Addr
  fd_law_condition : FuncData
  F_law_condition : Fun K "_law_condition" "_law_condition" s_law_condition a_law_condition fd_law_condition
  g_law_condition : mg "_law_condition" = some (.ref a_law_condition)
  a_law_text : Addr
  fd_law_text : FuncData
  F_law_text : Fun K "_law_text" "_law_text" s_law_text a_law_text fd_law_text
  g_law_text : mg "_law_text" = some (.ref a_law_text)
  a_law_bracket : Addr
  fd_law_bracket : FuncData
  F_law_bracket : Fun K "_law_bracket" "_law_bracket" s_law_bracket a_law_bracket fd_law_bracket
  g_law_bracket : mg "_law_bracket" = some (.ref a_law_bracket)
  a_law_condition_tokens : Addr
  fd_law_condition_tokens : FuncData
  F_law_condition_tokens : Fun K "_law_condition_tokens" "_law_condition_tokens" s_law_condition_tokens a_law_condition_tokens fd_law_condition_tokens
  g_law_condition_tokens : mg "_law_condition_tokens" = some (.ref a_law_condition_tokens)
  a_law_print : Addr
  fd_law_print : FuncData
  F_law_print : Fun K "_law_print" "_law_print" s_law_print a_law_print fd_law_print
  g_law_print : mg "_law_print" = some (.ref a_law_print)
  a_law : Addr
  fd_law : FuncData
  F_law : Fun K "law" "law" s_law a_law fd_law
  g_law : mg "law" = some (.ref a_law)
  C_Group : Addr
  cl_Group : Cls K C_Group
  g_Group : mg "Group" = some (.ref C_Group)
  M_Group : Mk K C_Group a_Group___init__
  m_Group_take_word : Meth K C_Group "take_word" a_Group_take_word
  m_Group_take_factor : Meth K C_Group "take_factor" a_Group_take_factor
  m_Group_begin_term : Meth K C_Group "begin_term" a_Group_begin_term
  m_Group_condition : Meth K C_Group "condition" a_Group_condition
  n_Group_terms : NoAttr K C_Group "terms"
  n_Group_words : NoAttr K C_Group "words"
  C_ConditionReader : Addr
  cl_ConditionReader : Cls K C_ConditionReader
  g_ConditionReader : mg "ConditionReader" = some (.ref C_ConditionReader)
  a_ConditionReader___init__ : Addr
  fd_ConditionReader___init__ : FuncData
  cda_ConditionReader___init__ : Addr
  cc_ConditionReader___init__ : Addr
  su_ConditionReader___init__ : SU.Txt prog K C_ConditionReader a_ConditionReader___init__ a_Reader___init__ cda_ConditionReader___init__ cc_ConditionReader___init__ "ConditionReader.__init__" (defArgs s_ConditionReader___init__) (defBody s_ConditionReader___init__) (defScope s_ConditionReader___init__) fd_ConditionReader___init__
  M_ConditionReader : Mk K C_ConditionReader a_ConditionReader___init__
  m_ConditionReader_step : Meth K C_ConditionReader "step" a_Reader_step
  m_ConditionReader_refuse : Meth K C_ConditionReader "refuse" a_Reader_refuse
  m_ConditionReader_read_name : Meth K C_ConditionReader "read_name" a_Reader_read_name
  m_ConditionReader_read_condition : Meth K C_ConditionReader "read_condition" a_ConditionReader_read_condition
  m_ConditionReader_read_plain : Meth K C_ConditionReader "read_plain" a_ConditionReader_read_plain
  m_ConditionReader_read_closed : Meth K C_ConditionReader "read_closed" a_ConditionReader_read_closed
  m_ConditionReader_read_joint : Meth K C_ConditionReader "read_joint" a_ConditionReader_read_joint
  m_ConditionReader_check_size : Meth K C_ConditionReader "check_size" a_ConditionReader_check_size
  n_ConditionReader_tokens : NoAttr K C_ConditionReader "tokens"
  n_ConditionReader_at : NoAttr K C_ConditionReader "at"
  n_ConditionReader_token : NoAttr K C_ConditionReader "token"
  n_ConditionReader_place : NoAttr K C_ConditionReader "place"
  n_ConditionReader_first : NoAttr K C_ConditionReader "first"
  n_ConditionReader_groups : NoAttr K C_ConditionReader "groups"
  t_LETTERS : Tok
  g_LETTERS : mg "LETTERS" = some (.str "abcdefghijklmnopqrstuvwxyz" t_LETTERS)
  t_LONGEST_NAME : Tok
  g_LONGEST_NAME : mg "LONGEST_NAME" = some (.int 8 t_LONGEST_NAME)
  t_ALONE : Tok
  g_ALONE : mg "ALONE" = some (.int 0 t_ALONE)
  t_MOST_PARTS : Tok
  g_MOST_PARTS : mg "MOST_PARTS" = some (.int 12 t_MOST_PARTS)
  t_MOST_LOOKS : Tok
  g_MOST_LOOKS : mg "MOST_LOOKS" = some (.int 4 t_MOST_LOOKS)
  t_FACTOR : Tok
  g_FACTOR : mg "FACTOR" = some (.int 2 t_FACTOR)
  t_TERM : Tok
  g_TERM : mg "TERM" = some (.int 1 t_TERM)
  d_LOOKS : Addr
  g_LOOKS : mg "LOOKS" = some (.ref d_LOOKS)
  D_LOOKS : DT.TD K d_LOOKS [("child" : Str), ("below" : Str), ("parent" : Str), ("above" : Str), ("earlier" : Str), ("later" : Str)]
  d_TIGHTEST : Addr
  g_TIGHTEST : mg "TIGHTEST" = some (.ref d_TIGHTEST)
  D_TIGHTEST : SX.WD K w d_TIGHTEST [(("or" : Str), V.int 0), (("and" : Str), V.int 1)]
  n_len : mg "len" = none
  n_isinstance : mg "isinstance" = none
  n_str : mg "str" = none
  n_tuple : mg "tuple" = none
  n_list : mg "list" = none
  n_abs : mg "abs" = none
  n_int : mg "int" = none
  n_all : mg "all" = none
  n_bool : mg "bool" = none
  n_range : mg "range" = none
  n_sum : mg "sum" = none
section
variable {prog : Program} {K : PySem.W.Frag} {mg : Str → Option Value} {w : World}
theorem Txt.b_word_end (T : Txt prog K mg w) : Binds K T.fd_word_end ["text", "start"] [] := T.F_word_end.binds (ps := ["text", "start"]) fun _ _ _ _ _ _ us hl => match us, hl with | [_, _], _ => rfl
theorem Txt.b_tokens_of (T : Txt prog K mg w) : Binds K T.fd_tokens_of ["text", "signs"] [] := T.F_tokens_of.binds (ps := ["text", "signs"]) fun _ _ _ _ _ _ us hl => match us, hl with | [_, _], _ => rfl
theorem Txt.b_Reader___init__ (T : Txt prog K mg w) : Binds K T.fd_Reader___init__ ["self", "text", "signs"] [] := T.F_Reader___init__.binds (ps := ["self", "text", "signs"]) fun _ _ _ _ _ _ us hl => match us, hl with | [_, _, _], _ => rfl
theorem Txt.b_Reader_step (T : Txt prog K mg w) : Binds K T.fd_Reader_step ["self"] [] := T.F_Reader_step.binds (ps := ["self"]) fun _ _ _ _ _ _ us hl => match us, hl with | [_], _ => rfl
theorem Txt.b_Reader_refuse (T : Txt prog K mg w) : Binds K T.fd_Reader_refuse ["self"] [] := T.F_Reader_refuse.binds (ps := ["self"]) fun _ _ _ _ _ _ us hl => match us, hl with | [_], _ => rfl
theorem Txt.b_Reader_read_name (T : Txt prog K mg w) : Binds K T.fd_Reader_read_name ["self"] [] := T.F_Reader_read_name.binds (ps := ["self"]) fun _ _ _ _ _ _ us hl => match us, hl with | [_], _ => rfl
theorem Txt.b_parts_of (T : Txt prog K mg w) : Binds K T.fd_parts_of ["tree"] [] := T.F_parts_of.binds (ps := ["tree"]) fun _ _ _ _ _ _ us hl => match us, hl with | [_], _ => rfl
theorem Txt.b_numbered (T : Txt prog K mg w) : Binds K T.fd_numbered ["root", "inner_of"] [] := T.F_numbered.binds (ps := ["root", "inner_of"]) fun _ _ _ _ _ _ us hl => match us, hl with | [_, _], _ => rfl
theorem Txt.b_joined (T : Txt prog K mg w) : Binds K T.fd_joined ["kind", "trees"] [] := T.F_joined.binds (ps := ["kind", "trees"]) fun _ _ _ _ _ _ us hl => match us, hl with | [_, _], _ => rfl
theorem Txt.b_separated (T : Txt prog K mg w) : Binds K T.fd_separated ["trees", "sign", "place"] [] := T.F_separated.binds (ps := ["trees", "sign", "place"]) fun _ _ _ _ _ _ us hl => match us, hl with | [_, _, _], _ => rfl
theorem Txt.b_written (T : Txt prog K mg w) : Binds K T.fd_written ["tree", "pieces_of"] [] := T.F_written.binds (ps := ["tree", "pieces_of"]) fun _ _ _ _ _ _ us hl => match us, hl with | [_, _], _ => rfl
theorem Txt.b_Group___init__ (T : Txt prog K mg w) : Binds K T.fd_Group___init__ ["self"] [] := T.F_Group___init__.binds (ps := ["self"]) fun _ _ _ _ _ _ us hl => match us, hl with | [_], _ => rfl
theorem Txt.b_Group_take_word (T : Txt prog K mg w) : Binds K T.fd_Group_take_word ["self", "word"] [] := T.F_Group_take_word.binds (ps := ["self", "word"]) fun _ _ _ _ _ _ us hl => match us, hl with | [_, _], _ => rfl
theorem Txt.b_Group_take_factor (T : Txt prog K mg w) : Binds K T.fd_Group_take_factor ["self", "factor"] [] := T.F_Group_take_factor.binds (ps := ["self", "factor"]) fun _ _ _ _ _ _ us hl => match us, hl with | [_, _], _ => rfl
theorem Txt.b_Group_begin_term (T : Txt prog K mg w) : Binds K T.fd_Group_begin_term ["self"] [] := T.F_Group_begin_term.binds (ps := ["self"]) fun _ _ _ _ _ _ us hl => match us, hl with | [_], _ => rfl
theorem Txt.b_Group_condition (T : Txt prog K mg w) : Binds K T.fd_Group_condition ["self"] [] := T.F_Group_condition.binds (ps := ["self"]) fun _ _ _ _ _ _ us hl => match us, hl with | [_], _ => rfl
theorem Txt.b_ConditionReader___init__ (T : Txt prog K mg w) : Binds K T.fd_ConditionReader___init__ ["self", "text"] [] := by
  obtain ⟨_, _, _, _, _, _, _, _, _, _, _, _, _, _, _, _, _, hfd, _⟩ := T.su_ConditionReader___init__.fn
  rw [hfd]
  exact Binds.all fun us hl => match us, hl with | [_, _], _ => rfl
theorem Txt.b_ConditionReader_read_condition (T : Txt prog K mg w) : Binds K T.fd_ConditionReader_read_condition ["self"] [] := T.F_ConditionReader_read_condition.binds (ps := ["self"]) fun _ _ _ _ _ _ us hl => match us, hl with | [_], _ => rfl
theorem Txt.b_ConditionReader_read_plain (T : Txt prog K mg w) : Binds K T.fd_ConditionReader_read_plain ["self"] [] := T.F_ConditionReader_read_plain.binds (ps := ["self"]) fun _ _ _ _ _ _ us hl => match us, hl with | [_], _ => rfl
theorem Txt.b_ConditionReader_read_closed (T : Txt prog K mg w) : Binds K T.fd_ConditionReader_read_closed ["self"] [] := T.F_ConditionReader_read_closed.binds (ps := ["self"]) fun _ _ _ _ _ _ us hl => match us, hl with | [_], _ => rfl
theorem Txt.b_ConditionReader_read_joint (T : Txt prog K mg w) : Binds K T.fd_ConditionReader_read_joint ["self"] [] := T.F_ConditionReader_read_joint.binds (ps := ["self"]) fun _ _ _ _ _ _ us hl => match us, hl with | [_], _ => rfl
theorem Txt.b_ConditionReader_check_size (T : Txt prog K mg w) : Binds K T.fd_ConditionReader_check_size ["self", "condition"] [] := T.F_ConditionReader_check_size.binds (ps := ["self", "condition"]) fun _ _ _ _ _ _ us hl => match us, hl with | [_, _], _ => rfl
theorem Txt.b_parse_condition (T : Txt prog K mg w) : Binds K T.fd_parse_condition ["text"] [] := T.F_parse_condition.binds (ps := ["text"]) fun _ _ _ _ _ _ us hl => match us, hl with | [_], _ => rfl
theorem Txt.b_pieces_of (T : Txt prog K mg w) : Binds K T.fd_pieces_of ["condition", "place"] [] := T.F_pieces_of.binds (ps := ["condition", "place"]) fun _ _ _ _ _ _ us hl => match us, hl with | [_, _], _ => rfl
theorem Txt.b_print_condition (T : Txt prog K mg w) : Binds K T.fd_print_condition ["condition"] [] := T.F_print_condition.binds (ps := ["condition"]) fun _ _ _ _ _ _ us hl => match us, hl with | [_], _ => rfl
theorem Txt.b_law_draw (T : Txt prog K mg w) : Binds K T.fd_law_draw ["script"] [] := T.F_law_draw.binds (ps := ["script"]) fun _ _ _ _ _ _ us hl => match us, hl with | [_], _ => rfl
theorem Txt.b_law_next (T : Txt prog K mg w) : Binds K T.fd_law_next ["draw", "many"] [] := T.F_law_next.binds (ps := ["draw", "many"]) fun _ _ _ _ _ _ us hl => match us, hl with | [_, _], _ => rfl
theorem Txt.b_law_same (T : Txt prog K mg w) : Binds K T.fd_law_same ["actual", "due"] [] := T.F_law_same.binds (ps := ["actual", "due"]) fun _ _ _ _ _ _ us hl => match us, hl with | [_, _], _ => rfl
theorem Txt.b_law_tree (T : Txt prog K mg w) : Binds K T.fd_law_tree ["draw", "depth"] [] := T.F_law_tree.binds (ps := ["draw", "depth"]) fun _ _ _ _ _ _ us hl => match us, hl with | [_, _], _ => rfl
theorem Txt.b_law_parts (T : Txt prog K mg w) : Binds K T.fd_law_parts ["tree"] [] := T.F_law_parts.binds (ps := ["tree"]) fun _ _ _ _ _ _ us hl => match us, hl with | [_], _ => rfl
theorem Txt.b_law_looks (T : Txt prog K mg w) : Binds K T.fd_law_looks ["tree"] [] := T.F_law_looks.binds (ps := ["tree"]) fun _ _ _ _ _ _ us hl => match us, hl with | [_], _ => rfl
theorem Txt.b_law_condition (T : Txt prog K mg w) : Binds K T.fd_law_condition ["draw", "depth"] [] := T.F_law_condition.binds (ps := ["draw", "depth"]) fun _ _ _ _ _ _ us hl => match us, hl with | [_, _], _ => rfl
theorem Txt.b_law_text (T : Txt prog K mg w) : Binds K T.fd_law_text ["draw", "tokens"] [] := T.F_law_text.binds (ps := ["draw", "tokens"]) fun _ _ _ _ _ _ us hl => match us, hl with | [_, _], _ => rfl
theorem Txt.b_law_bracket (T : Txt prog K mg w) : Binds K T.fd_law_bracket ["draw", "tokens", "needed"] [] := T.F_law_bracket.binds (ps := ["draw", "tokens", "needed"]) fun _ _ _ _ _ _ us hl => match us, hl with | [_, _, _], _ => rfl
theorem Txt.b_law_condition_tokens (T : Txt prog K mg w) : Binds K T.fd_law_condition_tokens ["draw", "tree", "within"] [] := T.F_law_condition_tokens.binds (ps := ["draw", "tree", "within"]) fun _ _ _ _ _ _ us hl => match us, hl with | [_, _, _], _ => rfl
theorem Txt.b_law_print (T : Txt prog K mg w) : Binds K T.fd_law_print ["tree", "within"] [] := T.F_law_print.binds (ps := ["tree", "within"]) fun _ _ _ _ _ _ us hl => match us, hl with | [_, _], _ => rfl
theorem Txt.b_law (T : Txt prog K mg w) : Binds K T.fd_law ["script"] [] := T.F_law.binds (ps := ["script"]) fun _ _ _ _ _ _ us hl => match us, hl with | [_], _ => rfl
end
end K45
namespace K45
open PySem PySem.Spec PyProof.Rows L2 DL
/-- the trees directly in a tree -/
inductive PartsT : D → List D → Prop
  | one (k : D) : PartsT (.tup [k]) []
  | str (k : D) (x : Str) : PartsT (.tup [k, .str x]) []
  | sub (k : D) (s : Str) (r : List D) : PartsT (.tup [k, .tup (.str s :: r)]) [.tup (.str s :: r)]
  | sq (k : D) (q : List D) (r : List D) : PartsT (.tup [k, .tup (.tup q :: r)]) (.tup q :: r)
def sParts : List D → (D → Prop) → Prop := fun ds Φ => ∃ t l, ds = [t] ∧ PartsT t l ∧ Φ (.tup l)
section
variable [Tbs] {P : Program} {w : World} {K : PySem.W.Frag} {mg : Str → Option Value} {base : Heap}
theorem ok_parts (T : Txt P K mg w) : FnOk P w K mg base CX0 1 T.a_parts_of T.fd_parts_of ["tree"] (spOf K (pureS sParts)) := by
  refine fnD T.F_parts_of sc_parts_of [] (k := 0) (fun cdv A outer s H E hr => ⟨_, (pss_cons (ps_if (PW.pt (pw_or (pt_cmpR op_eq (pe_callB call_len (by rfl) T.n_len boot_len (pa_cons (pv 0) pa_nil)) pe_int (nomark _)) (pw_or1 (pt_val (pe_callB call_isi (by rfl) T.n_isinstance (by decide +kernel) (pa_cons (pe_ix (show IxR _ (rIxT K) from ix_tup) (pv 0) pe_int (fun _ _ => rfl)) (pa_cons (pe_bltn (v := .ty "str") (by rfl) T.n_str (by decide +kernel) rfl) pa_nil))))))) (pss_one (ps_ret (pe_tup pa_nil))) pss_nil)
      (pss_cons (ps_if (pt_val (pe_callB call_isi (by rfl) T.n_isinstance (by decide +kernel) (pa_cons (pe_ix (show IxR _ (rIx K) from ix_seq) (pe_ix (show IxR _ (rIxT K) from ix_tup) (pv 0) pe_int (fun _ _ => rfl)) pe_int (fun _ _ => rfl)) (pa_cons (pe_bltn (v := .ty "str") (by rfl) T.n_str (by decide +kernel) rfl) pa_nil)))) (pss_one (ps_ret (pe_tup (pa_cons (pe_ix (show IxR _ (rIxT K) from ix_tup) (pv 0) pe_int (fun _ _ => rfl)) pa_nil)))) pss_nil)
      (pss_one (ps_ret (pe_ix (show IxR _ (rIxT K) from ix_tup) (pv 0) pe_int (fun _ _ => rfl)))))), (rs_seq (rs_if (rt_or (rt_test (re_op ro_eq (re_cb rc_len (rv_cons (re_var 0) rv_nil)) re_int)) (rt_B (re_cb rc_isi (rv_cons (re_op ro_ixT (re_var 0) re_int) (rv_cons re_ty rv_nil))))) (rs_ret (re_tup rv_nil)) rs_next)
      (rs_seq (rs_if (rt_B (re_cb rc_isi (rv_cons (re_op ro_ix (re_op ro_ixT (re_var 0) re_int) re_int) (rv_cons re_ty rv_nil)))) (rs_ret (re_tup (rv_cons (re_op ro_ixT (re_var 0) re_int) rv_nil))) rs_next)
      (rs_ret (re_op ro_ixT (re_var 0) re_int))))⟩) (pure_len fun ds Φ h => ?_) (fun os Φ h => ?_)
  · obtain ⟨t, l, rfl, _⟩ := h
    rfl
  · obtain ⟨ds, rfl, t, l, rfl, hp, hΦ⟩ := h
    cases hp <;> simp <;> exact hΦ
end
end K45
namespace K45
open PySem PySem.Spec PyProof.Rows L2 SX DL
open HC (DrawAt spDraw)
theorem tx_dummy : True := trivial
def But (d : Addr) (H H' : Hp) : Prop := ∀ x o, x ≠ d → H x = some o → H' x = some o
theorem small {n : Nat} (h : n ≤ 1100000) : n ≤ sizeLine := Nat.le_trans h (by decide)
/-! ### the law's draws: any number below the bound may come -/
def spNext : Sp := fun vs H Q _ => ∃ (d sc : Addr) (many : Nat), vs = [.ref d, .int (many : Nat)] ∧ DrawAt H d sc ∧ 0 < many ∧ many ≤ 1000000 ∧ ∀ (r : Nat) H', r < many → DrawAt H' d sc → But d H H' → Q (.int (r : Nat)) H'
section
variable [Tbs] {P : Program} {w : World} {K : PySem.W.Frag} {mg : Str → Option Value} {base : Heap}
theorem ok_draw (T : Txt P K mg w) : FnOk P w K mg base CX0 1 T.a_law_draw T.fd_law_draw ["script"] (spDraw K) := by
  refine T.F_law_draw.ok sc_law_draw (fun vs H Q E h => ?_) (fun cdv A outer s H vs Q E hr h => ?_)
  · obtain ⟨_, _, rfl, _⟩ := h
    rfl
  · obtain ⟨a, ns, rfl, hS, hn, q⟩ := h
    refine ⟨_, (pss_one (ps_ret (pe_lst (pa_cons (pe_callTy call_list_of (by rfl) T.n_list (by decide +kernel) (pa_cons (pv 0) pa_nil)) (pa_cons pe_int (pa_cons pe_int (pa_cons pe_int pa_nil))))))), ?_⟩
    refine ⟨_, rfl, a, _, rfl, .inl hS, fun sc nsc => ⟨small (show 4 ≤ 1100000 by decide), fun d nd => ?_⟩⟩
    have ne : sc ≠ d := ne_of_none upd_same nd
    have s1 : Same H (upd H sc (.lst (ns.map V.int))) := same_upd nsc
    have nHd : H d = none := by
      rw [upd_ne ne.symm] at nd
      exact nd
    refine q _ d sc (s1.trans (same_upd nd)) nHd nsc ⟨ns, 0, 0, 17, upd_same, (upd_ne ne).trans upd_same, ne, hn, by decide, by decide, by decide⟩
theorem mod_nat {x : Int} {m : Nat} (h : 0 < m) : ∃ r : Nat, r < m ∧ x.fmod (m : Int) = (r : Nat) := by
  have h1 : 0 ≤ x.fmod (m : Int) := Int.fmod_nonneg_of_pos x (by omega)
  have h2 : x.fmod (m : Int) < m := Int.fmod_lt_of_pos x (by omega)
  exact ⟨(x.fmod m).toNat, by omega, by omega⟩
theorem div_nn {x : Int} {m : Nat} (h : 0 < m) (hx : 0 ≤ x) : 0 ≤ x.fdiv (m : Int) := Int.fdiv_nonneg hx (by omega)
theorem at4 {α : Type} (a b c d : α) : atI [a, b, c, d] 0 = some a ∧ atI [a, b, c, d] 1 = some b ∧ atI [a, b, c, d] 2 = some c ∧ atI [a, b, c, d] 3 = some d := ⟨rfl, rfl, rfl, rfl⟩
theorem ok_next (T : Txt P K mg w) : FnOk P w K mg base CX0 1 T.a_law_next T.fd_law_next ["draw", "many"] spNext := by
  refine T.F_law_next.ok sc_law_next (fun vs H Q E h => ?_) (fun cdv A outer s H vs Q E hr h => ?_)
  · obtain ⟨_, _, _, rfl, _⟩ := h
    rfl
  · obtain ⟨d, sc, m, rfl, ⟨ns, i, b, sd, hd, hsc, nsd, hn, hb, hs0, hs1⟩, hm0, hm1, q⟩ := h
    refine ⟨_, (pss_cons (ps_if (pt_cmpR op_gt (pe_ix (show IxR _ (rIxL K) from ix_list) (pv 0) pe_int (fun _ _ => rfl)) pe_int (nomark _)) (pss_cons (ps_set (i := 2) sc_law_next.nd rfl (by first | exact Or.inl rfl | exact Or.inr rfl) (pe_op op_modN (pe_callTy call_int1 (by rfl) T.n_int (by decide +kernel) (pa_cons (pe_ix (show IxR _ (rIxL K) from ix_list) (pv 0) pe_int (fun _ _ => rfl)) pa_nil)) (pv 1)))
      (pss_cons (ps_asg (pe_op op_fdivN (pe_ix (show IxR _ (rIxL K) from ix_list) (pv 0) pe_int (fun _ _ => rfl)) (pv 1)) (pg_sub (pv 0) pe_int set_list))
      (pss_one (ps_ret (pv 2))))) pss_nil)
      (pss_cons (ps_if (pt_cmpR op_lt (pe_ix (show IxR _ (rIxL K) from ix_list) (pv 0) pe_int (fun _ _ => rfl)) (pe_callB call_len (by rfl) T.n_len boot_len (pa_cons (pe_ix (show IxR _ (rIxL K) from ix_list) (pv 0) pe_int (fun _ _ => rfl)) pa_nil)) (nomark _)) (pss_cons (ps_set (i := 3) sc_law_next.nd rfl (by first | exact Or.inl rfl | exact Or.inr rfl) (pe_callB call_abs (by rfl) T.n_abs (by decide +kernel) (pa_cons (pe_ix (show IxR _ (rIx K) from ix_seq) (pe_ix (show IxR _ (rIxL K) from ix_list) (pv 0) pe_int (fun _ _ => rfl)) (pe_ix (show IxR _ (rIxL K) from ix_list) (pv 0) pe_int (fun _ _ => rfl)) (fun _ _ => rfl)) pa_nil)))
      (pss_cons (ps_asg (pe_op op_add (pe_ix (show IxR _ (rIxL K) from ix_list) (pv 0) pe_int (fun _ _ => rfl)) pe_int) (pg_sub (pv 0) pe_int set_list))
      (pss_cons (ps_if (pt_cmpR op_ge (pv 3) (pe_op op_pow pe_int pe_int) (nomark _)) (pss_cons (ps_asg (pe_op op_fdivN (pv 3) (pv 1)) (pg_sub (pv 0) pe_int set_list))
      (pss_one (ps_ret (pe_op op_modN (pe_callTy call_int1 (by rfl) T.n_int (by decide +kernel) (pa_cons (pv 3) pa_nil)) (pv 1))))) pss_nil)
      (pss_one (ps_asg (pe_op op_modN (pe_callTy call_int1 (by rfl) T.n_int (by decide +kernel) (pa_cons (pe_op op_add (pe_op op_add (pe_op op_mul (pe_ix (show IxR _ (rIxL K) from ix_list) (pv 0) pe_int (fun _ _ => rfl)) pe_int) (pv 3)) pe_int) pa_nil)) pe_int) (pg_sub (pv 0) pe_int set_list)))))) (pss_one (ps_asg (pe_op op_modN (pe_callTy call_int1 (by rfl) T.n_int (by decide +kernel) (pa_cons (pe_op op_add (pe_op op_mul (pe_ix (show IxR _ (rIxL K) from ix_list) (pv 0) pe_int (fun _ _ => rfl)) pe_int) pe_int) pa_nil)) pe_int) (pg_sub (pv 0) pe_int set_list))))
      (pss_one (ps_ret (pe_op op_modN (pe_op op_fdivN (pe_callTy call_int1 (by rfl) T.n_int (by decide +kernel) (pa_cons (pe_op op_modN (pe_op op_mul (pe_ix (show IxR _ (rIxL K) from ix_list) (pv 0) pe_int (fun _ _ => rfl)) pe_int) pe_int) pa_nil)) pe_int) (pv 1)))))), ?_⟩
    have j0 : (m : Int) ≠ 0 := by omega
    have jd : (m : Int) ≠ 0 ∧ (m : Int).natAbs < 1073741824 := ⟨j0, by omega⟩
    -- if draw[2] > 0
    refine ⟨_, rfl, d, _, _, _, rfl, rfl, SqL.of hd, rfl, _, _, rfl, rfl, _, rfl, ?_⟩
    by_cases hb0 : 0 < b
    · refine iT (decide_eq_true hb0) ?_
      refine ⟨_, rfl, d, _, _, _, rfl, rfl, SqL.of hd, rfl, .inl ⟨_, rfl, _, rfl, _, _, rfl, rfl, j0, ?_⟩⟩
      refine ⟨_, rfl, d, _, _, _, rfl, rfl, SqL.of hd, rfl, _, rfl, _, _, rfl, rfl, jd, _, rfl, d, _, _, 2, rfl, rfl, hd, rfl, ?_⟩
      obtain ⟨r, hr1, er⟩ := mod_nat (x := b) hm0
      have qq := q r (upd H d (.lst [.ref sc, .int (i : Nat), .int (b.fmod (m : Int) * 0 + b.fdiv (m : Int)), .int sd])) hr1 ⟨ns, i, _, sd, upd_same, (upd_ne nsd).trans hsc, nsd, hn, by rw [Int.mul_zero, Int.zero_add]; exact div_nn hm0 hb, hs0, hs1⟩ fun x o hx h => (upd_ne hx).trans h
      rw [← er, Int.mul_zero, Int.zero_add] at qq
      exact ⟨_, rfl, qq⟩
    · refine iF (decide_eq_false hb0) ?_
      -- if draw[1] < len(draw[0])
      refine ⟨_, rfl, d, _, _, _, rfl, rfl, SqL.of hd, rfl, _, rfl, d, _, _, _, rfl, rfl, SqL.of hd, rfl, _, _, rfl, .inl ⟨_, SqL.of hsc, rfl⟩, _, _, rfl, rfl, _, rfl, ?_⟩
      have last : ∀ {s' : Int}, 0 ≤ s' → s' < 2147483648 → ∃ r : Nat, r < m ∧ (((s' * 69621).fmod 2147483629).fdiv 7).fmod (m : Int) = (r : Nat) := fun _ _ => mod_nat hm0
      have big : ∀ x : Int, 0 ≤ x.fmod 2147483647 ∧ x.fmod 2147483647 < 2147483648 := fun x => by
        have h1 := Int.fmod_nonneg_of_pos x (show (0 : Int) < 2147483647 by decide)
        have h2 := Int.fmod_lt_of_pos x (show (0 : Int) < 2147483647 by decide)
        omega
      have fits : ∀ {s' : Int}, 0 ≤ s' → s' < 2147483648 → -(2 ^ 64) < s' ∧ s' < 2 ^ 64 := fun h1 h2 => by
        constructor <;> omega
      by_cases hi : i < ns.length
      · refine iT (decide_eq_true (by rw [List.length_map]; omega)) ?_
        have ga : (ns.map V.int)[i]? = some (.int ns[i]) := by
          rw [List.getElem?_map, List.getElem?_eq_getElem hi]
          rfl
        -- cell = abs(draw[0][draw[1]])
        refine ⟨_, rfl, d, _, _, _, rfl, rfl, SqL.of hd, rfl, _, rfl, d, _, _, _, rfl, rfl, SqL.of hd, rfl, .inl ⟨sc, _, _, _, rfl, rfl, SqL.of hsc, atI_nat ga, _, rfl, ?_⟩⟩
        have hc0 : 0 ≤ (if ns[i] < 0 then -ns[i] else ns[i]) := by split <;> omega
        generalize (if ns[i] < 0 then -ns[i] else ns[i]) = c at hc0
        -- draw[1] = draw[1] + 1
        refine ⟨_, rfl, d, _, _, _, rfl, rfl, SqL.of hd, rfl, _, _, rfl, rfl, _, rfl, d, _, _, 1, rfl, rfl, hd, rfl, ?_⟩
        have sc1 : ∀ {o : HO}, upd H d o sc = some (.lst (ns.map V.int)) := fun {o} => (upd_ne nsd).trans hsc
        have e1 : ∀ {o : HO}, upd H d o d = some o := fun {o} => upd_same
        -- if cell >= 10 ** 18
        refine ⟨_, rfl, _, _, rfl, rfl, ⟨by decide, by decide, by decide⟩, _, _, rfl, rfl, _, rfl, ?_⟩
        refine ite2 (fun _ => ?_) (fun _ => ?_)
        · refine ⟨_, rfl, _, rfl, _, _, rfl, rfl, jd, _, rfl, d, _, _, 2, rfl, rfl, e1, rfl, ?_⟩
          obtain ⟨r, hr1, er⟩ := mod_nat (x := c) hm0
          have qq := q r (upd (upd H d (.lst [.ref sc, .int ((i : Int) + 1), .int b, .int sd])) d (.lst [.ref sc, .int ((i : Int) + 1), .int (c.fdiv (m : Int)), .int sd])) hr1 ⟨ns, i + 1, _, sd, upd_same, (upd_ne nsd).trans sc1, nsd, hn, div_nn hm0 hc0, hs0, hs1⟩
            fun x o hx h => (upd_ne hx).trans ((upd_ne hx).trans h)
          rw [← er] at qq
          exact ⟨_, rfl, .inl ⟨_, rfl, _, rfl, _, _, rfl, rfl, j0, qq⟩⟩
        · refine ⟨_, rfl, d, _, _, _, rfl, rfl, SqL.of e1, rfl, _, _, rfl, rfl, .inl (fits hs0 hs1), _, rfl, _, _, rfl, rfl, _, _, rfl, rfl, .inl ⟨_, rfl, _, _, rfl, rfl, (show (2147483647 : Int) ≠ 0 by decide), _, rfl, d, _, _, 3, rfl, rfl, e1, rfl, ?_⟩⟩
          obtain ⟨b1, b2⟩ := big (sd * 48271 + c + 11)
          obtain ⟨r, hr1, er⟩ := last b1 b2
          have qq := q r (upd (upd H d (.lst [.ref sc, .int ((i : Int) + 1), .int b, .int sd])) d (.lst [.ref sc, .int ((i : Int) + 1), .int b, .int ((sd * 48271 + c + 11).fmod 2147483647)])) hr1 ⟨ns, i + 1, _, _, upd_same, (upd_ne nsd).trans sc1, nsd, hn, hb, b1, b2⟩
            fun x o hx h => (upd_ne hx).trans ((upd_ne hx).trans h)
          rw [← er] at qq
          exact ⟨_, rfl, d, _, _, _, rfl, rfl, SqL.of upd_same, rfl, _, _, rfl, rfl, .inl (fits b1 b2), _, _, rfl, rfl, (show (2147483629 : Int) ≠ 0 by decide), .inl ⟨_, rfl, _, _, rfl, rfl, (show (7 : Int) ≠ 0 ∧ (7 : Int).natAbs < 1073741824 from ⟨by decide, by decide⟩), _, rfl, _, _, rfl, rfl, j0, qq⟩⟩
      · refine iF (decide_eq_false (by rw [List.length_map]; omega)) ?_
        have e1 : ∀ {o : HO}, upd H d o d = some o := fun {o} => upd_same
        refine ⟨_, rfl, d, _, _, _, rfl, rfl, SqL.of hd, rfl, _, _, rfl, rfl, .inl (fits hs0 hs1), _, _, rfl, rfl, .inl ⟨_, rfl, _, _, rfl, rfl, (show (2147483647 : Int) ≠ 0 by decide), _, rfl, d, _, _, 3, rfl, rfl, hd, rfl, ?_⟩⟩
        obtain ⟨b1, b2⟩ := big (sd * 48271 + 12345)
        obtain ⟨r, hr1, er⟩ := last b1 b2
        have qq := q r (upd H d (.lst [.ref sc, .int (i : Nat), .int b, .int ((sd * 48271 + 12345).fmod 2147483647)])) hr1 ⟨ns, i, _, _, upd_same, (upd_ne nsd).trans hsc, nsd, hn, hb, b1, b2⟩ fun x o hx h => (upd_ne hx).trans h
        rw [← er] at qq
        exact ⟨_, rfl, d, _, _, _, rfl, rfl, SqL.of upd_same, rfl, _, _, rfl, rfl, .inl (fits b1 b2), _, _, rfl, rfl, (show (2147483629 : Int) ≠ 0 by decide), .inl ⟨_, rfl, _, _, rfl, rfl, (show (7 : Int) ≠ 0 ∧ (7 : Int).natAbs < 1073741824 from ⟨by decide, by decide⟩), _, rfl, _, _, rfl, rfl, j0, qq⟩⟩
/-- a draw: any number below the bound -/
def sNext : SD := fun os Φ => ∃ many : Nat, os = [.draw, .d (.int (many : Nat))] ∧ 0 < many ∧ many ≤ 1000000 ∧ ∀ r : Nat, r < many → Φ (.int (r : Nat)) [.draw, .d (.int (many : Nat))]
theorem ok_nextD (T : Txt P K mg w) : FnOk P w K mg base CX0 1 T.a_law_next T.fd_law_next ["draw", "many"] (spOf K sNext) := by
  refine (ok_next T).imp ?_
  rintro vs H Q E ⟨F, os, Φ, ⟨hsub, hnt, htb, hB⟩, ha, ⟨many, rfl, h0, h1, hΦ⟩, q⟩
  match vs, ha.len with
  | [v1, v2], _ =>
    obtain ⟨d, rfl, hF, sc, ns, i, b, s, e1, e2, hn, hb, hs0, hs1⟩ := (ha.ok 0 v1 .draw rfl rfl).inv rfl
    have hv2 : Dr K F v2 (.int (many : Nat)) := ha.ok 1 v2 _ rfl rfl
    rw [hv2.inv_int]
    have nsd : sc ≠ d := fun z => by rw [z, hF] at e2; cases e2
    refine ⟨d, sc, many, rfl, ⟨ns, i, b, s, e1, hsub _ _ e2, nsd, hn, hb, hs0, hs1⟩, h0, h1, fun r H' hr D' b' => ?_⟩
    have keepF : Sub F H' := fun a o e => b' a o (fun z => by rw [z, hF] at e; cases e) (hsub a o e)
    obtain ⟨ns', i', b2, s2, g1, g2, g3, g4, g5, g6, g7⟩ := D'
    have own : ∀ {a : Addr}, ¬ OwnA [V.ref d, v2] [OV.draw, .d (.int (many : Nat))] a → a ≠ d := fun {a} n z => n ⟨0, .draw, rfl, rfl, by rw [z]; rfl⟩
    refine q F H' _ (.int (r : Nat)) [.draw, .d (.int (many : Nat))] (Same.refl F) ⟨keepF, hnt, tabs_but htb e1 (fun t z => by cases z) (lst_nc _) fun a u na e => b' a u na e⟩ (fun a o e n _ => b' a o (own n) e) (fun a o e => ?_) (fun a o e => .inl e) rfl (fun j o o' v z1 z2 z3 z4 => ?_) (.int _) (hΦ r hr)
    · by_cases z : a = d
      · rw [z]
        exact ⟨_, g1⟩
      · exact ⟨o, b' a o z e⟩
    · match j, z1, z3, z4 with
      | 0, z1, z3, z4 =>
        cases z3
        cases z4
        have e3 : some (HO.lst (ns'.map V.int)) = some (.lst (ns.map V.int)) := g2.symm.trans (keepF _ _ e2)
        have e4 : ns'.map V.int = ns.map V.int := HO.lst.inj (Option.some.inj e3)
        exact ⟨d, rfl, hF, sc, ns', i', b2, s2, g1, by rw [e4]; exact e2, g4, g5, g6, g7⟩
      | 1, z1, z3, z4 => cases z1; cases z2
/-- the draw is made -/
theorem ok_drawS (T : Txt P K mg w) : FnOk P w K mg base CX0 1 T.a_law_draw T.fd_law_draw ["script"] (spDraw K) := ok_draw T
end
end K45
namespace K45
open PySem PySem.Spec PyProof.Rows L2 DL
/-! ### _law_same -/
/-- numbers, texts, lists and tuples of these, below n deep -/
def plain : Nat → D → Prop
  | 0, _ => False
  | n + 1, d => match d with
    | .non => True
    | .bl _ => True
    | .int _ => True
    | .str _ => True
    | .lst l => l.length ≤ 1000000 ∧ ∀ x ∈ l, plain n x
    | .tup l => l.length ≤ 1000000 ∧ ∀ x ∈ l, plain n x
    | _ => False
def sSame (n : Nat) : List D → (D → Prop) → Prop := fun ds Φ => ∃ d, ds = [d, d] ∧ plain n d ∧ Φ (.bl true)
section
variable [Tbs] {P : Program} {w : World} {K : PySem.W.Frag} {mg : Str → Option Value} {base : Heap}
theorem bls_rep (n : Nat) : blsD (List.replicate n (.bl true)) = some (List.replicate n true) := by
  induction n with
  | zero => rfl
  | succ n ih =>
    show (blsD (List.replicate n (.bl true))).map (true :: ·) = _
    rw [ih]
    rfl
theorem ok_same (T : Txt P K mg w) : ∀ n : Nat, FnOk P w K mg base CX0 (n + 1) T.a_law_same T.fd_law_same ["actual", "due"] (spOf K (pureS (sSame n))) := by
  intro n
  induction n with
  | zero =>
    refine ⟨fun vs H Q E h => ?_, fun A outer s H args us vs Q E hr e0 hb r h => ?_⟩
    all_goals
      obtain ⟨F, os, Φ, _, _, ⟨ds, _, d, _, h, _⟩, _⟩ := h
      exact h.elim
  | succ n ih =>
    have G_law_same : FnOk P w K mg base CX0 (n + 1) T.a_law_same T.fd_law_same ["actual", "due"] (spOf K (pureS (sSame n))) := ih
    refine fnD T.F_law_same sc_law_same [] (k := n + 1) (fun cdv A outer s H E hr => ⟨_, (pss_cons (ps_if (pt_val (pe_callB call_isiT (by rfl) T.n_isinstance (by decide +kernel) (pa_cons (pv 1) (pa_cons (pe_tup (pa_cons (pe_bltn (v := .ty "list") (by rfl) T.n_list (by decide +kernel) rfl) (pa_cons (pe_bltn (v := .ty "tuple") (by rfl) T.n_tuple (by decide +kernel) rfl) pa_nil))) pa_nil)))) (pss_cons (ps_if (PW.pt (pw_or (pt_cmpR op_ne (pe_callB call_isi (by rfl) T.n_isinstance (by decide +kernel) (pa_cons (pv 1) (pa_cons (pe_bltn (v := .ty "list") (by rfl) T.n_list (by decide +kernel) rfl) pa_nil))) (pe_callB call_isi (by rfl) T.n_isinstance (by decide +kernel) (pa_cons (pv 0) (pa_cons (pe_bltn (v := .ty "list") (by rfl) T.n_list (by decide +kernel) rfl) pa_nil))) (nomark _)) (pw_or1 (pt_cmpR op_ne (pe_callB call_isi (by rfl) T.n_isinstance (by decide +kernel) (pa_cons (pv 1) (pa_cons (pe_bltn (v := .ty "tuple") (by rfl) T.n_tuple (by decide +kernel) rfl) pa_nil))) (pe_callB call_isi (by rfl) T.n_isinstance (by decide +kernel) (pa_cons (pv 0) (pa_cons (pe_bltn (v := .ty "tuple") (by rfl) T.n_tuple (by decide +kernel) rfl) pa_nil))) (nomark _))))) (pss_one (ps_ret pe_bl)) pss_nil)
      (pss_cons (ps_if (pt_cmpR op_ne (pe_callB call_len (by rfl) T.n_len boot_len (pa_cons (pv 0) pa_nil)) (pe_callB call_len (by rfl) T.n_len boot_len (pa_cons (pv 1) pa_nil)) (nomark _)) (pss_one (ps_ret pe_bl)) pss_nil)
      (pss_one (ps_ret (pe_callB (cr_all rfl) (by rfl) T.n_all (by decide +kernel) (pa_cons (pe_lc (own := [("k", 2)]) (g := gName 2) (by rfl) sc_law_same.nd  (pi_range1 (by rfl) T.n_range (pa_cons (pe_callB call_len (by rfl) T.n_len boot_len (pa_cons (pv 1) pa_nil)) pa_nil)) (blkOk_by (own := [("k", 2)]) (N := ["actual", "due", "k"]) (sc := defScope s_law_same) (by decide +kernel)) (fun _ _ _ _ _ => (pg_name (i := 2) sc_law_same.nd rfl (by first | exact Or.inl rfl | exact Or.inr rfl))) (fun _ _ _ _ _ => pts_nil) (fun _ _ _ _ _ => (pe_call G_law_same (hr.mono (by omega)) (by rfl) T.g_law_same T.F_law_same.kp T.b_law_same .nil pass0 (pa_cons (pe_ix (show IxR _ (rIx K) from ix_seq) (pv 0) (pv 2) (fun _ _ => rfl)) (pa_cons (pe_ix (show IxR _ (rIx K) from ix_seq) (pv 1) (pv 2) (fun _ _ => rfl)) pa_nil))))) pa_nil)))))) pss_nil)
      (pss_cons (ps_if (pt_cmpR op_isN (pv 1) pe_non (nomark _)) (pss_one (ps_ret (pe_cmpR op_isN (pv 0) pe_non (nomark _)))) pss_nil)
      (pss_cons (ps_if (pt_cmpR op_ne (pe_callB call_isi (by rfl) T.n_isinstance (by decide +kernel) (pa_cons (pv 1) (pa_cons (pe_bltn (v := .ty "bool") (by rfl) T.n_bool (by decide +kernel) rfl) pa_nil))) (pe_callB call_isi (by rfl) T.n_isinstance (by decide +kernel) (pa_cons (pv 0) (pa_cons (pe_bltn (v := .ty "bool") (by rfl) T.n_bool (by decide +kernel) rfl) pa_nil))) (nomark _)) (pss_one (ps_ret pe_bl)) pss_nil)
      (pss_cons (ps_if (pt_val (pe_callB call_isi (by rfl) T.n_isinstance (by decide +kernel) (pa_cons (pv 1) (pa_cons (pe_bltn (v := .ty "str") (by rfl) T.n_str (by decide +kernel) rfl) pa_nil)))) (pss_one (ps_ret (pe_and (pe_callB call_isi (by rfl) T.n_isinstance (by decide +kernel) (pa_cons (pv 0) (pa_cons (pe_bltn (v := .ty "str") (by rfl) T.n_str (by decide +kernel) rfl) pa_nil))) (pe_one (pe_cmpR op_eq (pv 0) (pv 1) (nomark _)))))) pss_nil)
      (pss_one (ps_ret (pe_and (pe_callB call_isi (by rfl) T.n_isinstance (by decide +kernel) (pa_cons (pv 0) (pa_cons (pe_bltn (v := .ty "int") (by rfl) T.n_int (by decide +kernel) rfl) pa_nil))) (pe_one (pe_cmpR op_eq (pv 0) (pv 1) (nomark _)))))))))), (rs_seq (rs_if (rt_B (re_isi2 (re_var 1))) (rs_seq (rs_if (rt_or (rt_test (re_op ro_ne (re_cb rc_isi (rv_cons (re_var 1) (rv_cons re_ty rv_nil))) (re_cb rc_isi (rv_cons (re_var 0) (rv_cons re_ty rv_nil))))) (rt_test (re_op ro_ne (re_cb rc_isi (rv_cons (re_var 1) (rv_cons re_ty rv_nil))) (re_cb rc_isi (rv_cons (re_var 0) (rv_cons re_ty rv_nil)))))) (rs_ret re_bl) rs_next)
      (rs_seq (rs_if (rt_test (re_op ro_ne (re_cb rc_len (rv_cons (re_var 0) rv_nil)) (re_cb rc_len (rv_cons (re_var 1) rv_nil)))) (rs_ret re_bl) rs_next)
      (rs_ret (re_cb rc_all (rv_cons (RL.re (rl_lc (ri_range1 (rv_cons (re_cb rc_len (rv_cons (re_var 1) rv_nil)) rv_nil)) rg_name rt_yes (re_callV (rv_cons (re_op ro_ix (re_var 0) (re_var 2)) (rv_cons (re_op ro_ix (re_var 1) (re_var 2)) rv_nil))))) rv_nil))))) rs_next)
      (rs_seq (rs_if (rt_test (re_op ro_isN (re_var 1) re_non)) (rs_ret (re_op ro_isN (re_var 0) re_non)) rs_next)
      (rs_seq (rs_if (rt_test (re_op ro_ne (re_cb rc_isi (rv_cons (re_var 1) (rv_cons re_ty rv_nil))) (re_cb rc_isi (rv_cons (re_var 0) (rv_cons re_ty rv_nil))))) (rs_ret re_bl) rs_next)
      (rs_seq (rs_if (rt_B (re_cb rc_isi (rv_cons (re_var 1) (rv_cons re_ty rv_nil)))) (rs_ret (re_and (re_cb rc_isi (rv_cons (re_var 0) (rv_cons re_ty rv_nil))) (re_op ro_eq (re_var 0) (re_var 1)))) rs_next)
      (rs_ret (re_and (re_cb rc_isi (rv_cons (re_var 0) (rv_cons re_ty rv_nil))) (re_op ro_eq (re_var 0) (re_var 1))))))))⟩) (pure_len fun ds Φ h => ?_) (fun os Φ h => ?_)
    · obtain ⟨d, rfl, _⟩ := h
      rfl
    · obtain ⟨ds, rfl, d, rfl, hp, hΦ⟩ := h
      have sq : ∀ (l : List D) (d : D) (Ω : List D → DL.Env → Prop), (d = .lst l ∨ d = .tup l) → l.length ≤ 1000000 → (∀ x ∈ l, plain n x) → Ω (List.replicate l.length (.bl true)) [some (.d d), some (.d d), none] →
          dLc (dIR1 (dCons (dCB oLen (dCons (dVar 1) dNil)) dNil)) (dName 2) dYes (dCallV (sSame n) (dCons (dOp oIx (dVar 0) (dVar 2)) (dCons (dOp oIx (dVar 1) (dVar 2)) dNil))) [2] [some (.d d), some (.d d), none] Ω := by
        intro l d Ω hd hl hx hE
        refine lc_f (rngD 0 l.length) [some (.d d), some (.d d), none] [some (.d d), some (.d d), none] (fun _ => .bl true) (fun Ψ h => ?_) rfl (by rw [rngD_len]; omega) (fun x hx' A hA => ?_) ?_
        · rcases hd with rfl | rfl <;> simp <;> exact ⟨by omega, h⟩
        · obtain ⟨i, hi, rfl⟩ := mem_rng hx'
          have g := List.getElem?_eq_getElem hi
          have hp := hx _ (List.getElem_mem hi)
          rcases hd with rfl | rfl <;> simp [g] <;> exact ⟨_, rfl, hp, hA _ rfl⟩
        · have e : (rngD 0 l.length).map (fun _ => D.bl true) = List.replicate l.length (.bl true) := by
            rw [List.map_const', rngD_len]
          rw [e]
          exact hE
      cases d <;> try exact hp.elim
      · simp; exact hΦ
      · simp; exact hΦ
      · simp; exact hΦ
      · simp; exact hΦ
      · obtain ⟨hl, hx⟩ := hp
        simp
        refine sq _ _ _ (.inr rfl) hl hx ?_
        simp [bls_rep]
        exact hΦ
      · obtain ⟨hl, hx⟩ := hp
        simp
        refine sq _ _ _ (.inl rfl) hl hx ?_
        simp [bls_rep]
        exact hΦ
end
end K45
namespace K45
open PySem PySem.Spec PyProof.Rows L2 DL
section
variable {P : Program} {w : World} {K : PySem.W.Frag} {mg : Str → Option Value} {base : Heap}
theorem ok_numbered [Tbs] (T : Txt P K mg w) (SI : Addr → Option NB.SV) (HA : ∀ f sp, NB.spA K SI f = some sp → Held P w K mg base 1 f sp) : FnOk P w K mg base CX0 2 T.a_numbered T.fd_numbered ["root", "inner_of"] (spOf K (pureS (FD.sNum SI))) := by
  refine fnD T.F_numbered sc_numbered [] (k := 1) (fun cdv A outer s H E hr => ⟨_, (pss_cons (ps_set (i := 2) sc_numbered.nd rfl (by first | exact Or.inl rfl | exact Or.inr rfl) (pe_lst pa_nil))
      (pss_cons (ps_set (i := 3) sc_numbered.nd rfl (by first | exact Or.inl rfl | exact Or.inr rfl) (pe_lst (pa_cons (pe_tup (pa_cons (pv 0) (pa_cons pe_non pa_nil))) pa_nil)))
      (pss_cons (ps_while PassesOwn.never (pt_truth (pv 3) (by intro _; rfl)) (pss_cons (ps_asg (pe_bm0 PySem.F.plainAttrs_list PySem.F.slot_list_pop PySem.F.type_list_pop mt_pop (pv 3)) (pg_tup (n := 2) (by rfl) (pgs_cons (pg_name (i := 4) sc_numbered.nd rfl (by first | exact Or.inl rfl | exact Or.inr rfl)) (pgs_cons (pg_name (i := 5) sc_numbered.nd rfl (by first | exact Or.inl rfl | exact Or.inr rfl)) pgs_nil))))
      (pss_cons (ps_set (i := 6) sc_numbered.nd rfl (by first | exact Or.inl rfl | exact Or.inr rfl) (pe_callB call_len (by rfl) T.n_len boot_len (pa_cons (pv 2) pa_nil)))
      (pss_cons (ps_expr (pe_bm PySem.F.plainAttrs_list PySem.F.slot_list_append PySem.F.type_list_append mt_append (pv 2) (pa_cons (pe_tup (pa_cons (pv 4) (pa_cons (pe_lst pa_nil) pa_nil))) pa_nil)))
      (pss_cons (ps_if (pt_cmpR op_notN (pv 5) pe_non (nomark _)) (pss_one (ps_expr (pe_bm PySem.F.plainAttrs_list PySem.F.slot_list_append PySem.F.type_list_append mt_append (pe_ix (show IxR _ (rIxT K) from ix_tup) (pe_ix (show IxR _ (rIxL K) from ix_list) (pv 2) (pv 5) (fun _ _ => rfl)) pe_int (fun _ _ => rfl)) (pa_cons (pv 6) pa_nil)))) pss_nil)
      (pss_one (ps_expr (pe_bm PySem.F.plainAttrs_list PySem.F.slot_list_extend PySem.F.type_list_extend mt_extend (pv 3) (pa_cons (pe_lc (own := [("inner", 7)]) (g := gName 7) (by rfl) sc_numbered.nd  (pi_tup (SX.pe_revT (pe_callA (i := 1) (S := NB.spA K SI) HA (hr.mono (by omega)) rfl (by first | exact Or.inl rfl | exact Or.inr (Or.inl rfl) | exact Or.inr (Or.inr rfl)) (pa_cons (pv 4) pa_nil)))) (blkOk_by (own := [("inner", 7)]) (N := ["root", "inner_of", "nodes", "waiting", "node", "outer", "number", "inner"]) (sc := defScope s_numbered) (by decide +kernel)) (fun _ _ _ _ _ => (pg_name (i := 7) sc_numbered.nd rfl (by first | exact Or.inl rfl | exact Or.inr rfl))) (fun _ _ _ _ _ => pts_nil) (fun _ _ _ _ _ => (pe_tup (pa_cons (pv 7) (pa_cons (pv 6) pa_nil))))) pa_nil)))))))))
      (pss_one (ps_ret (pv 2)))))), NB.rs_numbered⟩) (pure_len fun ds Φ h => ?_) (fun os Φ h => ?_)
  · obtain ⟨t, f, s, rfl, _⟩ := h
    rfl
  · obtain ⟨ds, rfl, t, f, s, rfl, h1, h2, h3, hΦ⟩ := h
    exact ⟨t, f, s, rfl, h1, h2, h3, fun o2 o4 o5 o6 o7 => ⟨fun i hi => (nomatch hi), hΦ⟩⟩
end
end K45
namespace K45
open PySem PySem.Spec PyProof.Rows L2 DL FD MF TR
/-! ### conditions -/
inductive CL where
  | all | none | is (x : Str) | not | look (l : Lk) | conj (b : Bool)
def lkS : Lk → Str
  | .child => "child" | .below => "below" | .parent => "parent" | .above => "above" | .earlier => "earlier" | .later => "later"
def wrap : CL → List D → D
  | .all, _ => .tup [.str "all"]
  | .none, _ => .tup [.str "none"]
  | .is x, _ => .tup [.str "is", .str x]
  | .not, l => .tup [.str "not", l.head?.getD .non]
  | .look k, l => .tup [.str (lkS k), l.head?.getD .non]
  | .conj b, l => .tup [.str (if b then "and" else "or"), .tup l]
def cnD : Tr CL → D := fold wrap
/-- the names that the law writes -/
def Nam (x : Str) : Prop := x = "a" ∨ x = "b" ∨ x = "ab" ∨ x = "is"
/-- how many parts a condition has, and its name -/
def Ar : CL → Nat → Prop
  | .all, m => m = 0
  | .none, m => m = 0
  | .is x, m => m = 0 ∧ Nam x
  | .not, m => m = 1
  | .look _, m => m = 1
  | .conj _, m => m = 2
inductive WC : Nat → Tr CL → Prop
  | nd {n : Nat} {d : CL} {ks : List (Tr CL)} (ha : Ar d ks.length) (hb : ∀ k ∈ ks, ∀ b, d = .conj b → k.d ≠ .conj b) (hk : ∀ k ∈ ks, WC n k) : WC (n + 1) (.nd d ks)
theorem WC.up {n : Nat} {c : Tr CL} (h : WC n c) : WC (n + 1) c := by
  induction h with
  | nd ha hb hk ih => exact .nd ha hb ih
theorem WC.le {n m : Nat} {c : Tr CL} (h : WC n c) (hm : n ≤ m) : WC m c := by
  induction hm with
  | refl => exact h
  | step _ ih => exact ih.up
theorem Ar.le {d : CL} {m : Nat} (h : Ar d m) : m ≤ 2 := by
  cases d with
  | is x => have h := h.1; omega
  | _ => simp only [Ar] at h; omega
theorem WC.sz {n : Nat} {c : Tr CL} (h : WC n c) : TR.sz c + 1 ≤ 2 ^ n := by
  induction h with
  | @nd n d ks ha hb hk ih =>
    rw [sz_nd, Nat.pow_succ]
    match ks, ha.le, ih with
    | [], _, _ =>
      have : 0 < 2 ^ n := Nat.pow_pos (by decide)
      simp
      omega
    | [a], _, ih =>
      have := ih a (by simp)
      simp
      omega
    | [a, b], _, ih =>
      have h1 := ih a (by simp)
      have h2 := ih b (by simp)
      simp
      omega
    | a :: b :: c :: r, hl, _ => simp only [List.length_cons] at hl; omega
theorem WC.ar {n : Nat} {c : Tr CL} (h : WC n c) : Ar c.d c.ks.length ∧ ∀ k ∈ c.ks, ∃ m, WC m k := by
  cases h with
  | nd ha hb hk => exact ⟨ha, fun k hm => ⟨_, hk k hm⟩⟩
theorem WC.pre {n : Nat} {c : Tr CL} (h : WC n c) : ∀ s ∈ TR.pre c, Ar s.d s.ks.length := fun s hs => by
  obtain ⟨m, hm⟩ := pre_all (P := fun c => ∃ n, WC n c) (fun t ⟨n, ht⟩ k hk => ht.ar.2 k hk) c ⟨n, h⟩ s hs
  exact hm.ar.1
theorem cn_of (c : Tr CL) : cnD c = wrap c.d (c.ks.map cnD) := fold_of wrap c
def cjS (b : Bool) : Str := if b then "and" else "or"
def kindS : CL → Str
  | .all => "all" | .none => "none" | .is _ => "is" | .not => "not" | .look q => lkS q | .conj b => cjS b
theorem wrap_kind (d : CL) (l : List D) : ∃ r, wrap d l = .tup (.str (kindS d) :: r) := by
  cases d <;> exact ⟨_, rfl⟩
theorem cn_kind (c : Tr CL) : ∃ r, cnD c = .tup (.str (kindS c.d) :: r) := by
  rw [cn_of]
  exact wrap_kind _ _
theorem kind_conj {d : CL} {b : Bool} (h : kindS d = cjS b) : d = .conj b := by
  cases d with
  | conj c => cases b <;> cases c <;> first | rfl | (exact absurd h (by decide +kernel))
  | look q => cases b <;> cases q <;> exact absurd h (by decide +kernel)
  | is x => cases b <;> exact absurd (show ("is" : Str) = _ from h) (by decide +kernel)
  | _ => cases b <;> exact absurd h (by decide +kernel)
/-- how many looks -/
def isLk : CL → Bool
  | .look _ => true
  | _ => false
def lks : Tr CL → Nat := fold fun d l => l.sum + if isLk d then 1 else 0
theorem lks_nd (d : CL) (ks : List (Tr CL)) : lks (.nd d ks) = (ks.map lks).sum + if isLk d then 1 else 0 := fold_nd _ d ks
theorem cn_tup (c : Tr CL) : ∃ s r, cnD c = .tup (.str s :: r) := by
  rw [cn_of]
  cases c.d <;> exact ⟨_, _, rfl⟩
theorem parts_cn {c : Tr CL} (h : Ar c.d c.ks.length) : PartsT (cnD c) (c.ks.map cnD) := by
  rw [cn_of]
  cases c with
  | nd d ks =>
    rw [d_nd, ks_nd] at *
    cases d with
    | all => cases List.length_eq_zero_iff.mp h; exact .one _
    | none => cases List.length_eq_zero_iff.mp h; exact .one _
    | is x => cases List.length_eq_zero_iff.mp h.1; exact .str _ _
    | not =>
      match ks, h with
      | [k], _ =>
        obtain ⟨s, r, e⟩ := cn_tup k
        show PartsT (.tup [.str "not", cnD k]) [cnD k]
        rw [e]
        exact .sub _ _ _
    | look q =>
      match ks, h with
      | [k], _ =>
        obtain ⟨s, r, e⟩ := cn_tup k
        show PartsT (.tup [.str (lkS q), cnD k]) [cnD k]
        rw [e]
        exact .sub _ _ _
    | conj b =>
      match ks, h with
      | [k, k2], _ =>
        obtain ⟨s, r, e⟩ := cn_tup k
        show PartsT (.tup [_, .tup [cnD k, cnD k2]]) [cnD k, cnD k2]
        rw [e]
        exact .sq _ _ _
theorem good_cn {n : Nat} {c : Tr CL} (h : WC n c) : NB.Good sParts (mapT cnD (subs c)) := by
  induction h with
  | @nd n d ks ha hb hk ih =>
    have e : mapT cnD (subs (.nd d ks)) = .nd (cnD (.nd d ks)) (ks.map fun k => mapT cnD (subs k)) := by
      rw [subs, mapT, subss_map, mapTs_map, List.map_map]
      rfl
    rw [e]
    refine .nd (fun Φ h => ⟨_, ks.map cnD, rfl, parts_cn (c := .nd d ks) ha, ?_⟩) (fun k hm => ?_)
    · rw [List.map_map] at h
      have e2 : ks.map (Tr.d ∘ fun k => mapT cnD (subs k)) = ks.map cnD := by
        refine List.map_congr_left fun k _ => ?_
        show (mapT cnD (subs k)).d = _
        rw [mapT_d, subs_d]
      rw [e2] at h
      exact h
    · obtain ⟨k', hk', rfl⟩ := List.mem_map.mp hm
      exact ih k' hk'
theorem draw_len {n : Nat} {S : SD} (h : ∀ os Φ, S os Φ → ∃ ds : List D, os = .draw :: ds.map .d ∧ ds.length + 1 = n) : ∀ os Φ, S os Φ → os.length = n ∧ (∀ (i : Nat) o, os[i]? = some o → o.own = true → i ∈ [0]) ∧ ∀ i ∈ [0], i < os.length := by
  intro os Φ hS
  obtain ⟨ds, rfl, hl⟩ := h os Φ hS
  refine ⟨by simpa using hl, fun i o e ho => ?_, fun i hi => by rw [List.mem_singleton.mp hi]; simp⟩
  match i, e with
  | 0, _ => simp
  | i + 1, e =>
    have e : (ds.map OV.d)[i]? = some o := e
    rw [List.getElem?_map] at e
    obtain ⟨d, _, rfl⟩ := Option.map_eq_some_iff.mp e
    cases ho
end K45
namespace K45
open PySem PySem.Spec PyProof.Rows L2 DL FD MF TR
def sTree (n : Nat) : SD := fun os Φ => ∃ k : Nat, os = [.draw, .d (.int (k : Nat))] ∧ k < n ∧ ∀ c, WC (2 * n) c → Φ (cnD c) [.draw, .d (.int (k : Nat))]
theorem cn_nd (d : CL) (ks : List (Tr CL)) : cnD (.nd d ks) = wrap d (ks.map cnD) := fold_nd wrap d ks
section
variable [Tbs] {P : Program} {w : World} {K : PySem.W.Frag} {mg : Str → Option Value} {base : Heap}
theorem ok_tree (T : Txt P K mg w) : ∀ n : Nat, FnOk P w K mg base CX0 (n + 2) T.a_law_tree T.fd_law_tree ["draw", "depth"] (spOf K (sTree n)) := by
  intro n
  induction n with
  | zero =>
    refine ⟨fun vs H Q E h => ?_, fun A outer s H args us vs Q E hr e0 hb r h => ?_⟩
    all_goals
      obtain ⟨F, os, Φ, _, _, ⟨k, _, h, _⟩, _⟩ := h
      exact absurd h (Nat.not_lt_zero _)
  | succ n ih =>
    have G_law_tree : FnOk P w K mg base CX0 (n + 2) T.a_law_tree T.fd_law_tree ["draw", "depth"] (spOf K (sTree n)) := ih
    have G_law_next : FnOk P w K mg base CX0 1 T.a_law_next T.fd_law_next ["draw", "many"] (spOf K sNext) := ok_nextD T
    refine fnD T.F_law_tree sc_law_tree [0] (k := n + 2) (fun cdv A outer s H E hr => ⟨_, (pss_cons (ps_set (i := 2) sc_law_tree.nd rfl (by first | exact Or.inl rfl | exact Or.inr rfl) (pe_call G_law_next (hr.mono (by omega)) (by rfl) T.g_law_next T.F_law_next.kp T.b_law_next .nil pass0 (pa_cons (pv 0) (pa_cons pe_int pa_nil))))
      (pss_cons (ps_if (PW.pt (pw_or (pt_cmpR op_eq (pv 1) pe_int (nomark _)) (pw_or1 (pt_cmpR op_lt (pv 2) pe_int (nomark _))))) (pss_cons (ps_set (i := 3) sc_law_tree.nd rfl (by first | exact Or.inl rfl | exact Or.inr rfl) (pe_lst (pa_cons (pe_tup (pa_cons pe_str pa_nil)) (pa_cons (pe_tup (pa_cons pe_str pa_nil)) (pa_cons (pe_tup (pa_cons pe_str (pa_cons pe_str pa_nil))) (pa_cons (pe_tup (pa_cons pe_str (pa_cons pe_str pa_nil))) (pa_cons (pe_tup (pa_cons pe_str (pa_cons pe_str pa_nil))) (pa_cons (pe_tup (pa_cons pe_str (pa_cons pe_str pa_nil))) pa_nil))))))))
      (pss_one (ps_ret (pe_ix (show IxR _ (rIxL K) from ix_list) (pv 3) (pe_call G_law_next (hr.mono (by omega)) (by rfl) T.g_law_next T.F_law_next.kp T.b_law_next .nil pass0 (pa_cons (pv 0) (pa_cons pe_int pa_nil))) (fun _ _ => rfl))))) pss_nil)
      (pss_cons (ps_if (pt_cmpR op_lt (pv 2) pe_int (nomark _)) (pss_one (ps_ret (pe_tup (pa_cons pe_str (pa_cons (pe_call G_law_tree (hr.mono (by omega)) (by rfl) T.g_law_tree T.F_law_tree.kp T.b_law_tree .nil pass0 (pa_cons (pv 0) (pa_cons (pe_op op_sub (pv 1) pe_int) pa_nil))) pa_nil))))) pss_nil)
      (pss_cons (ps_if (pt_cmpR op_gt (pv 2) pe_int (nomark _)) (pss_cons (ps_set (i := 4) sc_law_tree.nd rfl (by first | exact Or.inl rfl | exact Or.inr rfl) (pe_ix (show IxR _ (rIxL K) from ix_list) (pe_lst (pa_cons pe_str (pa_cons pe_str (pa_cons pe_str (pa_cons pe_str (pa_cons pe_str (pa_cons pe_str pa_nil))))))) (pe_call G_law_next (hr.mono (by omega)) (by rfl) T.g_law_next T.F_law_next.kp T.b_law_next .nil pass0 (pa_cons (pv 0) (pa_cons pe_int pa_nil))) (fun _ _ => rfl)))
      (pss_one (ps_ret (pe_tup (pa_cons (pv 4) (pa_cons (pe_call G_law_tree (hr.mono (by omega)) (by rfl) T.g_law_tree T.F_law_tree.kp T.b_law_tree .nil pass0 (pa_cons (pv 0) (pa_cons (pe_op op_sub (pv 1) pe_int) pa_nil))) pa_nil)))))) pss_nil)
      (pss_cons (ps_set (i := 5) sc_law_tree.nd rfl (by first | exact Or.inl rfl | exact Or.inr rfl) (pe_ix (show IxR _ (rIxL K) from ix_list) (pe_lst (pa_cons pe_str (pa_cons pe_str pa_nil))) (pe_op op_modN (pv 2) pe_int) (fun _ _ => rfl)))
      (pss_cons (ps_set (i := 6) sc_law_tree.nd rfl (by first | exact Or.inl rfl | exact Or.inr rfl) (pe_lst pa_nil))
      (pss_cons (ps_for PassesOwn.never rfl (pi_range1 (by rfl) T.n_range (pa_cons pe_int pa_nil)) (pg_name (i := 7) sc_law_tree.nd rfl (by first | exact Or.inl rfl | exact Or.inr rfl)) (pss_cons (ps_set (i := 8) sc_law_tree.nd rfl (by first | exact Or.inl rfl | exact Or.inr rfl) (pe_call G_law_tree (hr.mono (by omega)) (by rfl) T.g_law_tree T.F_law_tree.kp T.b_law_tree .nil pass0 (pa_cons (pv 0) (pa_cons (pe_op op_sub (pv 1) pe_int) pa_nil))))
      (pss_one (ps_expr (pe_bm PySem.F.plainAttrs_list PySem.F.slot_list_append PySem.F.type_list_append mt_append (pv 6) (pa_cons (pe_ifExp (pt_cmpR op_eq (pe_ix (show IxR _ (rIxT K) from ix_tup) (pv 8) pe_int (fun _ _ => rfl)) (pv 5) (nomark _)) (pe_tup (pa_cons pe_str (pa_cons (pv 8) pa_nil))) (pv 8)) pa_nil))))))
      (pss_one (ps_ret (pe_tup (pa_cons (pv 5) (pa_cons (pe_callTy call_tuple_of (by rfl) T.n_tuple (by decide +kernel) (pa_cons (pv 6) pa_nil)) pa_nil)))))))))))), (rs_seq (rs_asg (re_call (ra_slot (i := 0) (ra_cons re_int ra_nil))) rg_name)
      (rs_seq (rs_if (rt_or (rt_test (re_op ro_eq (re_var 1) re_int)) (rt_test (re_op ro_B0 (re_var 2) re_int))) (rs_seq (rs_setL (rl_lst (rv_cons (re_tup (rv_cons re_str rv_nil)) (rv_cons (re_tup (rv_cons re_str rv_nil)) (rv_cons (re_tup (rv_cons re_str (rv_cons re_str rv_nil))) (rv_cons (re_tup (rv_cons re_str (rv_cons re_str rv_nil))) (rv_cons (re_tup (rv_cons re_str (rv_cons re_str rv_nil))) (rv_cons (re_tup (rv_cons re_str (rv_cons re_str rv_nil))) rv_nil))))))))
      (rs_ret (re_ixS (i := 3) (re_call (ra_slot (i := 0) (ra_cons re_int ra_nil)))))) rs_next)
      (rs_seq (rs_if (rt_test (re_op ro_B0 (re_var 2) re_int)) (rs_ret (re_tup (rv_cons re_str (rv_cons (re_call (ra_slot (i := 0) (ra_cons (re_op ro_I0 (re_var 1) re_int) ra_nil))) rv_nil)))) rs_next)
      (rs_seq (rs_if (rt_test (re_op ro_B0 (re_var 2) re_int)) (rs_seq (rs_asg (re_op ro_ixL (RL.re (rl_lst (rv_cons re_str (rv_cons re_str (rv_cons re_str (rv_cons re_str (rv_cons re_str (rv_cons re_str rv_nil)))))))) (re_call (ra_slot (i := 0) (ra_cons re_int ra_nil)))) rg_name)
      (rs_ret (re_tup (rv_cons (re_var 4) (rv_cons (re_call (ra_slot (i := 0) (ra_cons (re_op ro_I0 (re_var 1) re_int) ra_nil))) rv_nil))))) rs_next)
      (rs_seq (rs_asg (re_op ro_ixL (RL.re (rl_lst (rv_cons re_str (rv_cons re_str rv_nil)))) (re_op ro_I (re_var 2) re_int)) rg_name)
      (rs_seq (rs_setL (rl_lst rv_nil))
      (rs_seq (rs_for (ri_range1 (rv_cons re_int rv_nil)) rg_name (rs_seq (rs_asg (re_call (ra_slot (i := 0) (ra_cons (re_op ro_I0 (re_var 1) re_int) ra_nil))) rg_name)
      (rs_app (i := 6) (re_if (rt_test (re_op ro_eq (re_op ro_ixT (re_var 8) re_int) (re_var 5))) (re_tup (rv_cons re_str (rv_cons (re_var 8) rv_nil))) (re_var 8)))))
      (rs_ret (re_tup (rv_cons (re_var 5) (rv_cons (re_cb rc_tuple (rv_cons (re_var 6) rv_nil)) rv_nil)))))))))))⟩) (draw_len fun os Φ h => ?_) (fun os Φ h => ?_)
    · obtain ⟨k, rfl, _⟩ := h
      exact ⟨[_], rfl, rfl⟩
    · obtain ⟨k, rfl, hk, hΦ⟩ := h
      simp
      refine ⟨13, rfl, by decide, by decide, fun form hf => ?_⟩
      simp
      have lf : ∀ d : CL, Ar d 0 → Φ (wrap d []) [.draw, .d (.int (k : Nat))] := fun d hd => by
        have := hΦ (.nd d []) ((WC.nd (n := 0) hd (fun k h => (List.not_mem_nil h).elim) (fun k h => (List.not_mem_nil h).elim)).le (by omega))
        rwa [cn_nd] at this
      have leaf : ∀ r : Nat, r < 6 → ∃ x, ([.tup [.str "all"], .tup [.str "none"], .tup [.str "is", .str "a"], .tup [.str "is", .str "b"], .tup [.str "is", .str "ab"], .tup [.str "is", .str "is"]] : List D)[r]? = some x ∧ Φ x [.draw, .d (.int (k : Nat))] := fun r hr => by
        match r, hr with
        | 0, _ => exact ⟨_, rfl, lf .all rfl⟩
        | 1, _ => exact ⟨_, rfl, lf .none rfl⟩
        | 2, _ => exact ⟨_, rfl, lf (.is "a") ⟨rfl, by simp [Nam]⟩⟩
        | 3, _ => exact ⟨_, rfl, lf (.is "b") ⟨rfl, by simp [Nam]⟩⟩
        | 4, _ => exact ⟨_, rfl, lf (.is "ab") ⟨rfl, by simp [Nam]⟩⟩
        | 5, _ => exact ⟨_, rfl, lf (.is "is") ⟨rfl, by simp [Nam]⟩⟩
      have un : ∀ (d : CL) (c : Tr CL), Ar d 1 → (∀ b, d ≠ .conj b) → WC (2 * n) c → Φ (wrap d [cnD c]) [.draw, .d (.int (k : Nat))] := fun d c hd hd2 hc => by
        have := hΦ (.nd d [c]) ((WC.nd (n := 2 * n) hd (fun k h b e => absurd e (hd2 b)) (fun k h => by rw [List.mem_singleton.mp h]; exact hc)).le (by omega))
        rwa [cn_nd] at this
      refine (fun (leafs : ?X) => ?main) ?sec
      case main =>
        by_cases h0 : k = 0
        · rw [if_pos h0]
          exact leafs
        · rw [if_neg h0]
          by_cases h3 : form < 3
          · rw [if_pos (by omega)]
            exact leafs
          · rw [if_neg (by omega)]
            have sub : ((k : Int) - 1) = ((k - 1 : Nat) : Int) := by omega
            by_cases h6 : form < 6
            · rw [if_pos (by omega)]
              refine ⟨k - 1, by rw [sub], by omega, fun c hc => ?_⟩
              have := un .not c rfl (fun b z => by cases z) hc
              simpa [wrap] using this
            · rw [if_neg (by omega)]
              by_cases h8 : 8 < form
              · rw [if_pos (by omega)]
                refine ⟨6, rfl, by decide, by decide, fun r hr => ?_⟩
                obtain ⟨q, hq⟩ : ∃ q : Lk, ([.str "child", .str "below", .str "parent", .str "above", .str "earlier", .str "later"] : List D)[r]? = some (.str (lkS q)) := by
                  match r, hr with
                  | 0, _ => exact ⟨.child, rfl⟩
                  | 1, _ => exact ⟨.below, rfl⟩
                  | 2, _ => exact ⟨.parent, rfl⟩
                  | 3, _ => exact ⟨.above, rfl⟩
                  | 4, _ => exact ⟨.earlier, rfl⟩
                  | 5, _ => exact ⟨.later, rfl⟩
                simp [hq]
                refine ⟨k - 1, by rw [sub], by omega, fun c hc => ?_⟩
                have := un (.look q) c rfl (fun b z => by cases z) hc
                simpa [wrap] using this
              · rw [if_neg (by omega)]
                have rest : ∀ (b : Bool) (E : DEn), (∀ cs : List (Tr CL), cs.length = 2 → (∀ c ∈ cs, WC (2 * n + 1) c ∧ c.d ≠ .conj b) → ∀ o7 o8, E.nx [some .draw, some (.d (.int (k : Nat))), some (.d (.int (form : Nat))), none, none, some (.d (.str (cjS b))), some (.l (cs.map cnD)), o7, o8]) →
                    dFor (dIR1 (dCons (dC (D.int 2)) dNil)) (dName 7) (dSeq (dAsg (dCall (sTree n) (dASlot 0 (dACons (dOp (oI0 fun i j => D.int (i - j)) (dVar 1) (dC (D.int 1))) dANil))) (dName 8))
                      (dApp 6 (dIf (dTest (dOp oEq (dOp oIxT (dVar 8) (dC (D.int 0))) (dVar 5))) (dTup (dCons (dC (D.str "not")) (dCons (dVar 8) dNil))) (dVar 8)))) E
                      [some .draw, some (.d (.int (k : Nat))), some (.d (.int (form : Nat))), none, none, some (.d (.str (cjS b))), some (.l []), none, none] := by
                  intro b E hE
                  refine for_inv (rngD 0 2) _ (fun j ρ => ∃ (cs : List (Tr CL)) (o7 o8 : Option OV), ρ = [some .draw, some (.d (.int (k : Nat))), some (.d (.int (form : Nat))), none, none, some (.d (.str (cjS b))), some (.l (cs.map cnD)), o7, o8] ∧ cs.length = j ∧ ∀ c ∈ cs, WC (2 * n + 1) c ∧ c.d ≠ .conj b)
                    (fun Ψ h => ?_) ⟨[], none, none, rfl, rfl, fun c h => (List.not_mem_nil h).elim⟩ ?_ ?_
                  · simp
                    exact h
                  · rintro j x ρ hx ⟨cs, o7, o8, rfl, hl, hc⟩
                    have hj : j < 2 := by
                      have := (List.getElem?_eq_some_iff.mp hx).1
                      rwa [rngD_len] at this
                    simp
                    refine ⟨k - 1, by rw [sub], by omega, fun c hc1 => ?_⟩
                    obtain ⟨r, hr⟩ := cn_kind c
                    generalize hs : kindS c.d = s at hr
                    simp [hr]
                    by_cases hk : s = cjS b
                    · simp [hk]
                      refine ⟨by omega, cs ++ [.nd .not [c]], ?_, by simp [hl], ?_⟩
                      · simp [cn_nd, wrap, hr, hk]
                      · intro c' h
                        rcases List.mem_append.mp h with h | h
                        · exact hc c' h
                        · rw [List.mem_singleton.mp h]
                          exact ⟨.nd rfl (fun x h b e => by cases e) (fun x h => by rw [List.mem_singleton.mp h]; exact hc1), fun e => by cases e⟩
                    · simp [hk]
                      refine ⟨by omega, cs ++ [c], ?_, by simp [hl], ?_⟩
                      · simp [hr]
                      · intro c' h
                        rcases List.mem_append.mp h with h | h
                        · exact hc c' h
                        · rw [List.mem_singleton.mp h]
                          exact ⟨hc1.up, fun e => hk (by rw [← hs, e]; rfl)⟩
                  · rintro ρ ⟨cs, o7, o8, rfl, hl, hc⟩
                    rw [rngD_len] at hl
                    exact hE cs hl hc o7 o8
                have fin : ∀ (b : Bool) (cs : List (Tr CL)), cs.length = 2 → (∀ c ∈ cs, WC (2 * n + 1) c ∧ c.d ≠ .conj b) → Φ (.tup [.str (cjS b), .tup (cs.map cnD)]) [.draw, .d (.int (k : Nat))] := fun b cs hl hc => by
                  have := hΦ (.nd (.conj b) cs) ((WC.nd (n := 2 * n + 1) (d := .conj b) hl (fun k hk b' e => by cases e; exact (hc k hk).2) (fun k hk => (hc k hk).1)).le (by omega))
                  rwa [cn_nd] at this
                have go : ∃ b, atI ([.str "and", .str "or"] : List D) ((form : Int).fmod 2) = some (.str (cjS b)) := by
                  obtain rfl | rfl | rfl : form = 6 ∨ form = 7 ∨ form = 8 := by omega
                  · exact ⟨true, rfl⟩
                  · exact ⟨false, rfl⟩
                  · exact ⟨true, rfl⟩
                obtain ⟨b, hb⟩ := go
                refine ⟨_, hb, ?_⟩
                refine rest b _ fun cs hl hc o7 o8 => ?_
                simp
                exact fin b cs hl hc
      case sec =>
        refine ⟨6, rfl, by decide, by decide, fun r hr => ?_⟩
        obtain ⟨x, hx, hX⟩ := leaf r hr
        simp [hx]
        exact hX
end
end K45
namespace K45
open PySem PySem.Spec PyProof.Rows L2 DL FD MF TR
def sInt (f : Tr CL → Nat) (n : Nat) : NB.SV := fun ds Φ => ∃ c : Tr CL, ds = [cnD c] ∧ WC n c ∧ Φ (.int (f c : Nat))
theorem sum_cast (f : Tr CL → Nat) : ∀ ks : List (Tr CL), (ks.map fun c => ((f c : Nat) : Int)).sum = ((ks.map f).sum : Nat)
  | [] => rfl
  | c :: r => by
    rw [List.map_cons, List.map_cons, List.sum_cons, List.sum_cons, sum_cast f r]
    omega
section
variable [Tbs] {P : Program} {w : World} {K : PySem.W.Frag} {mg : Str → Option Value} {base : Heap}
theorem cmp_int {f : Tr CL → Nat} {n : Nat} (tree : D) (ls : List (Tr CL)) (hl : ls.length ≤ 2) (hc : ∀ c ∈ ls, WC n c) (Ω : List D → DL.Env → Prop) (h : Ω ((ls.map fun c => ((f c : Nat) : Int)).map .int) [some (.d tree), some (.d (.tup (ls.map cnD))), none]) :
    dLc (dIT (dVar 1)) (dName 2) dYes (dCallV (sInt f n) (dCons (dVar 2) dNil)) [2] [some (.d tree), some (.d (.tup (ls.map cnD))), none] Ω := by
  refine lc_inv (ls.map cnD) [some (.d tree), some (.d (.tup (ls.map cnD))), none] (fun k acc ρ => ρ = [some (.d tree), some (.d (.tup (ls.map cnD))), none] ∧ acc = ((ls.take k).map fun c => ((f c : Nat) : Int)).map .int) (fun Ψ q => ?_) ⟨rfl, rfl⟩ ?_ ?_
  · simp
    exact q
  · rintro k x acc ρ hx ⟨rfl, rfl⟩
    rw [List.getElem?_map] at hx
    obtain ⟨c, ec, rfl⟩ := Option.map_eq_some_iff.mp hx
    have hlt := (List.getElem?_eq_some_iff.mp ec).1
    have ht : ls.take (k + 1) = ls.take k ++ [c] := by rw [List.take_add_one, ec]; rfl
    have hk : (ls.take k).length ≤ 2 := by rw [List.length_take]; omega
    simp
    refine ⟨c, rfl, hc c (List.mem_of_getElem? ec), ?_⟩
    simp
    exact ⟨by omega, by rw [← List.map_take, ← List.map_take, ht]; simp⟩
  · rintro acc ρ ⟨rfl, rfl⟩
    rw [List.length_map, List.take_length]
    simp
    simpa using h
theorem ok_lparts (T : Txt P K mg w) : ∀ n : Nat, FnOk P w K mg base CX0 (n + 1) T.a_law_parts T.fd_law_parts ["tree"] (spOf K (pureS (sInt sz n))) := by
  intro n
  induction n with
  | zero =>
    refine ⟨fun vs H Q E h => ?_, fun A outer s H args us vs Q E hr e0 hb r h => ?_⟩
    all_goals
      obtain ⟨F, os, Φ, _, _, ⟨ds, _, c, _, h, _⟩, _⟩ := h
      cases h
  | succ n ih =>
    have G_law_parts : FnOk P w K mg base CX0 (n + 1) T.a_law_parts T.fd_law_parts ["tree"] (spOf K (pureS (sInt sz n))) := ih
    refine fnD T.F_law_parts sc_law_parts [] (k := n + 1) (fun cdv A outer s H E hr => ⟨_, (pss_cons (ps_if (pt_cmpR op_in_seq (pe_ix (show IxR _ (rIxT K) from ix_tup) (pv 0) pe_int (fun _ _ => rfl)) (pe_tup (pa_cons pe_str (pa_cons pe_str (pa_cons pe_str pa_nil)))) rfl) (pss_one (ps_ret pe_int)) pss_nil)
      (pss_cons (ps_set (i := 1) sc_law_parts.nd rfl (by first | exact Or.inl rfl | exact Or.inr rfl) (pe_ifExp (pt_cmpR op_in_seq (pe_ix (show IxR _ (rIxT K) from ix_tup) (pv 0) pe_int (fun _ _ => rfl)) (pe_tup (pa_cons pe_str (pa_cons pe_str pa_nil))) rfl) (pe_ix (show IxR _ (rIxT K) from ix_tup) (pv 0) pe_int (fun _ _ => rfl)) (pe_tup (pa_cons (pe_ix (show IxR _ (rIxT K) from ix_tup) (pv 0) pe_int (fun _ _ => rfl)) pa_nil))))
      (pss_one (ps_ret (pe_op op_add pe_int (pe_callB (cr_sum rfl) (by rfl) T.n_sum (by decide +kernel) (pa_cons (pe_lc (own := [("part", 2)]) (g := gName 2) (by rfl) sc_law_parts.nd  (pi_tup (pv 1)) (blkOk_by (own := [("part", 2)]) (N := ["tree", "inner", "part"]) (sc := defScope s_law_parts) (by decide +kernel)) (fun _ _ _ _ _ => (pg_name (i := 2) sc_law_parts.nd rfl (by first | exact Or.inl rfl | exact Or.inr rfl))) (fun _ _ _ _ _ => pts_nil) (fun _ _ _ _ _ => (pe_call G_law_parts (hr.mono (by omega)) (by rfl) T.g_law_parts T.F_law_parts.kp T.b_law_parts .nil pass0 (pa_cons (pv 2) pa_nil)))) pa_nil))))))), (rs_seq (rs_if (rt_test (re_op ro_in (re_op ro_ixT (re_var 0) re_int) (re_tup (rv_cons re_str (rv_cons re_str (rv_cons re_str rv_nil)))))) (rs_ret re_int) rs_next)
      (rs_seq (rs_asg (re_if (rt_test (re_op ro_in (re_op ro_ixT (re_var 0) re_int) (re_tup (rv_cons re_str (rv_cons re_str rv_nil))))) (re_op ro_ixT (re_var 0) re_int) (re_tup (rv_cons (re_op ro_ixT (re_var 0) re_int) rv_nil))) rg_name)
      (rs_ret (re_op ro_I0 re_int (re_cb rc_sum (rv_cons (RL.re (rl_lc (ri_tup (re_var 1)) rg_name rt_yes (re_callV (rv_cons (re_var 2) rv_nil)))) rv_nil))))))⟩) (pure_len fun ds Φ h => ?_) (fun os Φ h => ?_)
    · obtain ⟨c, rfl, _⟩ := h
      rfl
    · obtain ⟨ds, rfl, c, rfl, hw, hΦ⟩ := h
      cases hw with
      | @nd n d ks ha hb hk =>
        have ev : (((sz (.nd d ks) : Nat)) : Int) = 1 + (ks.map fun c => ((sz c : Nat) : Int)).sum := by
          rw [sum_cast, sz_nd]
          omega
        rw [ev] at hΦ
        clear ev
        have hv := hΦ
        clear hΦ
        simp only [cn_nd] at hv
        simp only [cn_nd]
        cases d with
        | all => cases List.length_eq_zero_iff.mp ha; simp (decide := true) [wrap]; simpa [isLk, wrap] using hv
        | none => cases List.length_eq_zero_iff.mp ha; simp (decide := true) [wrap]; simpa [isLk, wrap] using hv
        | is x => cases List.length_eq_zero_iff.mp ha.1; simp (decide := true) [wrap]; simpa [isLk, wrap] using hv
        | not =>
          match ks, ha, hk, hv with
          | [k], _, hk, hv =>
            simp (decide := true) [wrap]
            refine cmp_int _ [k] (by simp) hk _ ?_
            simp (decide := true)
            exact ⟨[((sz k : Nat) : Int)], intsD_map [_], by simpa [isLk, wrap, lkS] using hv⟩
        | look q =>
          match ks, ha, hk, hv with
          | [k], _, hk, hv =>
            cases q <;>
              (simp (decide := true) [wrap, lkS]
               refine cmp_int _ [k] (by simp) hk _ ?_
               simp (decide := true)
               exact ⟨[((sz k : Nat) : Int)], intsD_map [_], by simpa [isLk, wrap, lkS] using hv⟩)
        | conj b =>
          cases b <;>
            (simp (decide := true) [wrap]
             refine cmp_int _ ks ha.le hk _ ?_
             simp (decide := true)
             exact ⟨ks.map fun c => ((sz c : Nat) : Int), by simpa using intsD_map (ks.map fun c => ((sz c : Nat) : Int)), by simpa [isLk, wrap, lkS] using hv⟩)
theorem ok_llooks (T : Txt P K mg w) : ∀ n : Nat, FnOk P w K mg base CX0 (n + 1) T.a_law_looks T.fd_law_looks ["tree"] (spOf K (pureS (sInt lks n))) := by
  intro n
  induction n with
  | zero =>
    refine ⟨fun vs H Q E h => ?_, fun A outer s H args us vs Q E hr e0 hb r h => ?_⟩
    all_goals
      obtain ⟨F, os, Φ, _, _, ⟨ds, _, c, _, h, _⟩, _⟩ := h
      cases h
  | succ n ih =>
    have G_law_looks : FnOk P w K mg base CX0 (n + 1) T.a_law_looks T.fd_law_looks ["tree"] (spOf K (pureS (sInt lks n))) := ih
    refine fnD T.F_law_looks sc_law_looks [] (k := n + 1) (fun cdv A outer s H E hr => ⟨_, (pss_cons (ps_if (pt_cmpR op_in_seq (pe_ix (show IxR _ (rIxT K) from ix_tup) (pv 0) pe_int (fun _ _ => rfl)) (pe_tup (pa_cons pe_str (pa_cons pe_str (pa_cons pe_str pa_nil)))) rfl) (pss_one (ps_ret pe_int)) pss_nil)
      (pss_cons (ps_set (i := 1) sc_law_looks.nd rfl (by first | exact Or.inl rfl | exact Or.inr rfl) (pe_ifExp (pt_cmpR op_in_seq (pe_ix (show IxR _ (rIxT K) from ix_tup) (pv 0) pe_int (fun _ _ => rfl)) (pe_tup (pa_cons pe_str (pa_cons pe_str pa_nil))) rfl) (pe_ix (show IxR _ (rIxT K) from ix_tup) (pv 0) pe_int (fun _ _ => rfl)) (pe_tup (pa_cons (pe_ix (show IxR _ (rIxT K) from ix_tup) (pv 0) pe_int (fun _ _ => rfl)) pa_nil))))
      (pss_one (ps_ret (pe_op op_add (pe_callB (cr_sum rfl) (by rfl) T.n_sum (by decide +kernel) (pa_cons (pe_lc (own := [("part", 2)]) (g := gName 2) (by rfl) sc_law_looks.nd  (pi_tup (pv 1)) (blkOk_by (own := [("part", 2)]) (N := ["tree", "inner", "part"]) (sc := defScope s_law_looks) (by decide +kernel)) (fun _ _ _ _ _ => (pg_name (i := 2) sc_law_looks.nd rfl (by first | exact Or.inl rfl | exact Or.inr rfl))) (fun _ _ _ _ _ => pts_nil) (fun _ _ _ _ _ => (pe_call G_law_looks (hr.mono (by omega)) (by rfl) T.g_law_looks T.F_law_looks.kp T.b_law_looks .nil pass0 (pa_cons (pv 2) pa_nil)))) pa_nil)) (pe_ifExp (pt_cmpR op_in_seq (pe_ix (show IxR _ (rIxT K) from ix_tup) (pv 0) pe_int (fun _ _ => rfl)) (pe_tup (pa_cons pe_str (pa_cons pe_str (pa_cons pe_str pa_nil)))) rfl) pe_int pe_int)))))), (rs_seq (rs_if (rt_test (re_op ro_in (re_op ro_ixT (re_var 0) re_int) (re_tup (rv_cons re_str (rv_cons re_str (rv_cons re_str rv_nil)))))) (rs_ret re_int) rs_next)
      (rs_seq (rs_asg (re_if (rt_test (re_op ro_in (re_op ro_ixT (re_var 0) re_int) (re_tup (rv_cons re_str (rv_cons re_str rv_nil))))) (re_op ro_ixT (re_var 0) re_int) (re_tup (rv_cons (re_op ro_ixT (re_var 0) re_int) rv_nil))) rg_name)
      (rs_ret (re_op ro_I0 (re_cb rc_sum (rv_cons (RL.re (rl_lc (ri_tup (re_var 1)) rg_name rt_yes (re_callV (rv_cons (re_var 2) rv_nil)))) rv_nil)) (re_if (rt_test (re_op ro_in (re_op ro_ixT (re_var 0) re_int) (re_tup (rv_cons re_str (rv_cons re_str (rv_cons re_str rv_nil)))))) re_int re_int)))))⟩) (pure_len fun ds Φ h => ?_) (fun os Φ h => ?_)
    · obtain ⟨c, rfl, _⟩ := h
      rfl
    · obtain ⟨ds, rfl, c, rfl, hw, hΦ⟩ := h
      cases hw with
      | @nd n d ks ha hb hk =>
        have ev : (((lks (.nd d ks) : Nat)) : Int) = (ks.map fun c => ((lks c : Nat) : Int)).sum + if isLk d then 1 else 0 := by
          rw [sum_cast, lks_nd]
          split <;> omega
        rw [ev] at hΦ
        clear ev
        have hv := hΦ
        clear hΦ
        simp only [cn_nd] at hv
        simp only [cn_nd]
        cases d with
        | all => cases List.length_eq_zero_iff.mp ha; simp (decide := true) [wrap]; simpa [isLk, wrap] using hv
        | none => cases List.length_eq_zero_iff.mp ha; simp (decide := true) [wrap]; simpa [isLk, wrap] using hv
        | is x => cases List.length_eq_zero_iff.mp ha.1; simp (decide := true) [wrap]; simpa [isLk, wrap] using hv
        | not =>
          match ks, ha, hk, hv with
          | [k], _, hk, hv =>
            simp (decide := true) [wrap]
            refine cmp_int _ [k] (by simp) hk _ ?_
            simp (decide := true)
            exact ⟨[((lks k : Nat) : Int)], intsD_map [_], by simpa [isLk, wrap, lkS] using hv⟩
        | look q =>
          match ks, ha, hk, hv with
          | [k], _, hk, hv =>
            cases q <;>
              (simp (decide := true) [wrap, lkS]
               refine cmp_int _ [k] (by simp) hk _ ?_
               simp (decide := true)
               exact ⟨[((lks k : Nat) : Int)], intsD_map [_], by simpa [isLk, wrap, lkS] using hv⟩)
        | conj b =>
          cases b <;>
            (simp (decide := true) [wrap]
             refine cmp_int _ ks ha.le hk _ ?_
             simp (decide := true)
             exact ⟨ks.map fun c => ((lks c : Nat) : Int), by simpa using intsD_map (ks.map fun c => ((lks c : Nat) : Int)), by simpa [isLk, wrap, lkS] using hv⟩)
/-- any condition of this height may come -/
def sCond : SD := fun os Φ => ∃ k : Nat, os = [.draw, .d (.int (k : Nat))] ∧ k < 4 ∧ ∀ c, WC 8 c → sz c ≤ 12 → lks c ≤ 4 → Φ (cnD c) [.draw, .d (.int (k : Nat))]
theorem ok_cond (T : Txt P K mg w) : FnOk P w K mg base CX0 10 T.a_law_condition T.fd_law_condition ["draw", "depth"] (spOf K sCond) := by
  have G_law_tree : FnOk P w K mg base CX0 6 T.a_law_tree T.fd_law_tree ["draw", "depth"] (spOf K (sTree 4)) := ok_tree T 4
  have G_law_parts : FnOk P w K mg base CX0 9 T.a_law_parts T.fd_law_parts ["tree"] (spOf K (pureS (sInt sz 8))) := ok_lparts T 8
  have G_law_looks : FnOk P w K mg base CX0 9 T.a_law_looks T.fd_law_looks ["tree"] (spOf K (pureS (sInt lks 8))) := ok_llooks T 8
  refine fnD T.F_law_condition sc_law_condition [0] (k := 9) (fun cdv A outer s H E hr => ⟨_, (pss_cons (ps_set (i := 2) sc_law_condition.nd rfl (by first | exact Or.inl rfl | exact Or.inr rfl) (pe_call G_law_tree (hr.mono (by omega)) (by rfl) T.g_law_tree T.F_law_tree.kp T.b_law_tree .nil pass0 (pa_cons (pv 0) (pa_cons (pv 1) pa_nil))))
      (pss_one (ps_ret (pe_ifExp (PW.pt (pw_and (pt_cmpR op_le (pe_call G_law_parts (hr.mono (by omega)) (by rfl) T.g_law_parts T.F_law_parts.kp T.b_law_parts .nil pass0 (pa_cons (pv 2) pa_nil)) pe_int (nomark _)) (pw_and1 (pt_cmpR op_le (pe_call G_law_looks (hr.mono (by omega)) (by rfl) T.g_law_looks T.F_law_looks.kp T.b_law_looks .nil pass0 (pa_cons (pv 2) pa_nil)) pe_int (nomark _))))) (pv 2) (pe_tup (pa_cons pe_str (pa_cons (pe_tup (pa_cons pe_str (pa_cons pe_str pa_nil))) pa_nil))))))), (rs_seq (rs_asg (re_call (ra_slot (i := 0) (ra_cons (re_var 1) ra_nil))) rg_name)
      (rs_ret (re_if (rt_and (rt_test (re_op ro_B0 (re_callV (rv_cons (re_var 2) rv_nil)) re_int)) (rt_test (re_op ro_B0 (re_callV (rv_cons (re_var 2) rv_nil)) re_int))) (re_var 2) (re_tup (rv_cons re_str (rv_cons (re_tup (rv_cons re_str (rv_cons re_str rv_nil))) rv_nil))))))⟩) (draw_len fun os Φ h => ?_) (fun os Φ h => ?_)
  · obtain ⟨k, rfl, _⟩ := h
    exact ⟨[_], rfl, rfl⟩
  · obtain ⟨k, rfl, hk, hΦ⟩ := h
    simp
    refine ⟨k, rfl, hk, fun c hc => ?_⟩
    have dflt : Φ (.tup [.str "below", .tup [.str "is", .str "a"]]) [.draw, .d (.int (k : Nat))] := by
      have := hΦ (.nd (.look .below) [.nd (.is "a") []]) ((WC.nd (n := 1) (d := .look .below) (ks := [.nd (.is "a") []]) (show Ar (.look .below) 1 from rfl) (fun x hx b e => by cases e) (fun x hx => by
        rw [List.mem_singleton.mp hx]
        exact .nd (n := 0) (d := .is "a") (ks := []) (show Ar (.is "a") 0 from ⟨rfl, by simp [Nam]⟩) (fun k h => (List.not_mem_nil h).elim) (fun k h => (List.not_mem_nil h).elim))).le (by decide)) (by decide +kernel) (by decide +kernel)
      rw [cn_nd] at this
      exact this
    simp
    refine ⟨c, rfl, hc, ?_⟩
    simp
    by_cases h1 : sz c ≤ 12
    · rw [if_pos (by omega)]
      refine ⟨c, rfl, hc, ?_⟩
      simp
      by_cases h2 : lks c ≤ 4
      · rw [if_pos (by omega)]
        exact hΦ c hc h1 h2
      · rw [if_neg (by omega)]
        exact dflt
    · rw [if_neg (by omega)]
      exact dflt
end
end K45
namespace K45
open PySem PySem.Spec PyProof.Rows L2 SX DL
/-! ### tokens -/
def wEnd (l : List Nat) (i : Nat) : Nat := i + ((l.drop i).takeWhile SS.isLow).length
theorem wEnd_step {l : List Nat} {i c : Nat} (h : l[i]? = some c) (hc : SS.isLow c = true) : wEnd l i = wEnd l (i + 1) := by
  obtain ⟨hi, e⟩ := List.getElem?_eq_some_iff.mp h
  unfold wEnd
  rw [List.drop_eq_getElem_cons hi, e, List.takeWhile_cons, if_pos hc, List.length_cons]
  omega
theorem wEnd_stop {l : List Nat} {i : Nat} (h : ∀ c, l[i]? = some c → SS.isLow c = false) : wEnd l i = i := by
  unfold wEnd
  by_cases hi : i < l.length
  · rw [List.drop_eq_getElem_cons hi, List.takeWhile_cons, if_neg (by rw [h _ (List.getElem?_eq_getElem hi)]; decide)]
    rfl
  · rw [List.drop_eq_nil_of_le (by omega)]
    rfl
theorem cut_eq {z : Str} {i j : Nat} (h1 : i ≤ j) (h2 : j ≤ (cd z).length) : cutS z (some (i : Nat)) (some (j : Nat)) = ⟨(((cd z).drop i).take (j - i)).toArray⟩ := by
  unfold cutS
  rw [HT.sIx_nat, HT.sIx_nat, len_cd, Nat.min_eq_left h2, Nat.min_eq_left (Nat.le_trans h1 h2)]
theorem wEnd_word {l v s : List Nat} {i : Nat} (h : l.drop i = v ++ s) (h1 : ∀ c ∈ v, SS.isLow c = true) (h2 : ∀ c, s.head? = some c → SS.isLow c = false) : wEnd l i = i + v.length := by
  unfold wEnd
  rw [h, List.takeWhile_append_of_pos h1]
  have e : s.takeWhile SS.isLow = [] := by
    cases s with
    | nil => rfl
    | cons a b => rw [List.takeWhile_cons, if_neg (by rw [h2 a rfl]; decide)]
  rw [e, List.append_nil]
theorem wEnd_none {l s : List Nat} {i c : Nat} (h : l.drop i = c :: s) (h1 : SS.isLow c = false) : wEnd l i = i := by
  unfold wEnd
  rw [h, List.takeWhile_cons, if_neg (by rw [h1]; decide)]
  rfl
theorem drop_get {l s : List Nat} {i c : Nat} (h : l.drop i = c :: s) : l[i]? = some c ∧ l.drop (i + 1) = s := by
  constructor
  · have e : (l.drop i)[0]? = some c := by rw [h]; rfl
    rwa [List.getElem?_drop, Nat.add_zero] at e
  · rw [← List.drop_drop, h]
    rfl
theorem lex_nil {sg : List Nat} {i : Nat} {l : List (List Nat × Nat)} {e : Option Nat} (h : SS.Lex sg [] i l e) : l = [([], i)] ∧ e = none := by
  generalize hx : ([] : List Nat) = x at h
  cases h with
  | done => exact ⟨rfl, rfl⟩
  | word h0 =>
    exact absurd (List.append_eq_nil_iff.mp hx.symm).1 h0
  | sign => cases hx
  | space => cases hx
  | bad => cases hx
def tkD (t : List Nat × Nat) : D := .tup [.str ⟨t.1.toArray⟩, .int (t.2 : Nat)]
def sWE : NB.SV := fun ds Φ => ∃ (z : Str) (i : Nat), ds = [.str z, .int (i : Nat)] ∧ i ≤ (cd z).length ∧ (cd z).length ≤ 1000000 ∧ Φ (.int (wEnd (cd z) i : Nat))
def sTok : NB.SV := fun ds Φ => ∃ (z sg : Str) (l : List (List Nat × Nat)), ds = [.str z, .str sg] ∧ (cd z).length ≤ 1000000 ∧ SS.Lex (cd sg) (cd z) 0 l none ∧ Φ (.lst (l.map tkD))
section
variable [I : Tbs] {P : Program} {w : World} {K : PySem.W.Frag} {mg : Str → Option Value} {base : Heap}
theorem ok_word_end (T : Txt P K mg w) : FnOk P w K mg base CX0 1 T.a_word_end T.fd_word_end ["text", "start"] (spOf K (pureS sWE)) := by
  refine fnD T.F_word_end sc_word_end [] (k := 0) (fun cdv A outer s H E hr => ⟨_, (pss_cons (ps_set (i := 2) sc_word_end.nd rfl (by first | exact Or.inl rfl | exact Or.inr rfl) (pv 1))
      (pss_cons (ps_while PassesOwn.never (PW.pt (pw_and (pt_cmpR op_lt (pv 2) (pe_callB call_len (by rfl) T.n_len boot_len (pa_cons (pv 0) pa_nil)) (nomark _)) (pw_and1 (pt_cmpR op_in_sign (pe_ix (show IxR _ rIxS from ix_str) (pv 0) (pv 2) (fun _ _ => rfl)) (pe_glob (v := .str "abcdefghijklmnopqrstuvwxyz") (by rfl) T.g_LETTERS ⟨_, rfl⟩) rfl)))) (pss_one (ps_aug (i := 2) sc_word_end.nd rfl (by first | exact Or.inl rfl | exact Or.inr rfl) pe_int ip_add)))
      (pss_one (ps_ret (pv 2))))), (rs_seq (rs_asg (re_var 1) rg_name)
      (rs_seq (rs_while (rt_and (rt_test (re_op ro_B0 (re_var 2) (re_cb rc_len (rv_cons (re_var 0) rv_nil)))) (rt_test (re_op DS.ro_inC (re_op DS.ro_ixC (re_var 0) (re_var 2)) re_str))) (rs_augI re_int))
      (rs_ret (re_var 2))))⟩) (pure_len fun ds Φ h => ?_) (fun os Φ h => ?_)
  · obtain ⟨z, i, rfl, _⟩ := h
    rfl
  · obtain ⟨ds, rfl, z, i, rfl, hi, hz, hΦ⟩ := h
    simp
    have hzl : z.length = (cd z).length := len_cd z
    refine while_inv (fun m ρ => ∃ j : Nat, ρ = [some (.d (.str z)), some (.d (.int (i : Nat))), some (.d (.int (j : Nat)))] ∧ i ≤ j ∧ j + m = (cd z).length ∧ wEnd (cd z) j = wEnd (cd z) i) ⟨(cd z).length - i, i, rfl, Nat.le_refl _, by omega, rfl⟩ ?_
    rintro m ρ ⟨j, rfl, hj, hm, e⟩
    simp
    refine ⟨by omega, ?_⟩
    by_cases c : j < (cd z).length
    · rw [if_pos (by omega)]
      have g := List.getElem?_eq_getElem c
      have g' : z.cps.toList[j]? = some (cd z)[j] := g
      have g2 : z.cps[j]? = some (cd z)[j] := by simpa using g
      refine ⟨by omega, (cd z)[j], g2, ?_⟩
      generalize (cd z)[j] = ch at g g2
      have lt : ch ∈ (Str.ofString "abcdefghijklmnopqrstuvwxyz").cps ↔ SS.isLow ch = true := by
        rw [← letters_in ch]
        exact Array.mem_toList_iff.symm
      by_cases hl : SS.isLow ch = true
      · rw [if_pos (lt.mpr hl)]
        exact ⟨m - 1, by omega, j + 1, by omega, by omega, by have := hm; show j + 1 + (m - 1) = _; simp at this ⊢; omega, (wEnd_step g hl).symm.trans e⟩
      · rw [if_neg (fun x => hl (lt.mp x))]
        rw [← e, wEnd_stop (fun c' h' => by
          rw [g] at h'
          cases h'
          simpa using hl)] at hΦ
        exact hΦ
    · rw [if_neg (by omega)]
      rw [← e, wEnd_stop (fun c' h' => by
        rw [List.getElem?_eq_none (by omega)] at h'
        cases h')] at hΦ
      exact hΦ
theorem ok_tokens (T : Txt P K mg w) : FnOk P w K mg base CX0 2 T.a_tokens_of T.fd_tokens_of ["text", "signs"] (spOf K (pureS sTok)) := by
  have G_word_end : FnOk P w K mg base CX0 1 T.a_word_end T.fd_word_end ["text", "start"] (spOf K (pureS sWE)) := ok_word_end T
  refine fnD T.F_tokens_of sc_tokens_of [] (k := 1) (fun cdv A outer s H E hr => ⟨_, (pss_cons (ps_set (i := 2) sc_tokens_of.nd rfl (by first | exact Or.inl rfl | exact Or.inr rfl) (pe_lst pa_nil))
      (pss_cons (ps_set (i := 3) sc_tokens_of.nd rfl (by first | exact Or.inl rfl | exact Or.inr rfl) pe_int)
      (pss_cons (ps_while PassesOwn.never (pt_cmpR op_lt (pv 3) (pe_callB call_len (by rfl) T.n_len boot_len (pa_cons (pv 0) pa_nil)) (nomark _)) (pss_cons (ps_set (i := 4) sc_tokens_of.nd rfl (by first | exact Or.inl rfl | exact Or.inr rfl) (pe_call G_word_end (hr.mono (by omega)) (by rfl) T.g_word_end T.F_word_end.kp T.b_word_end .nil pass0 (pa_cons (pv 0) (pa_cons (pv 3) pa_nil))))
      (pss_one (ps_if (pt_cmpR op_gt (pv 4) (pv 3) (nomark _)) (pss_cons (ps_expr (pe_bm PySem.F.plainAttrs_list PySem.F.slot_list_append PySem.F.type_list_append mt_append (pv 2) (pa_cons (pe_tup (pa_cons (pe_slice sl_str (pv 0) (po_some (pv 3)) (po_some (pv 4))) (pa_cons (pv 3) pa_nil))) pa_nil)))
      (pss_one (ps_set (i := 3) sc_tokens_of.nd rfl (by first | exact Or.inl rfl | exact Or.inr rfl) (pv 4)))) (pss_one (ps_if (pt_cmpR op_in_sign (pe_ix (show IxR _ rIxS from ix_str) (pv 0) (pv 3) (fun _ _ => rfl)) (pv 1) rfl) (pss_cons (ps_expr (pe_bm PySem.F.plainAttrs_list PySem.F.slot_list_append PySem.F.type_list_append mt_append (pv 2) (pa_cons (pe_tup (pa_cons (pe_ix (show IxR _ rIxS from ix_str) (pv 0) (pv 3) (fun _ _ => rfl)) (pa_cons (pv 3) pa_nil))) pa_nil)))
      (pss_one (ps_aug (i := 3) sc_tokens_of.nd rfl (by first | exact Or.inl rfl | exact Or.inr rfl) pe_int ip_add))) (pss_one (ps_if (pt_cmpR op_in_sign (pe_ix (show IxR _ rIxS from ix_str) (pv 0) (pv 3) (fun _ _ => rfl)) pe_str rfl) (pss_one (ps_aug (i := 3) sc_tokens_of.nd rfl (by first | exact Or.inl rfl | exact Or.inr rfl) pe_int ip_add)) (pss_one DS.ps_never)))))))))
      (pss_cons (ps_expr (pe_bm PySem.F.plainAttrs_list PySem.F.slot_list_append PySem.F.type_list_append mt_append (pv 2) (pa_cons (pe_tup (pa_cons pe_str (pa_cons (pe_callB call_len (by rfl) T.n_len boot_len (pa_cons (pv 0) pa_nil)) pa_nil))) pa_nil)))
      (pss_one (ps_ret (pv 2))))))), (rs_seq (rs_setL (rl_lst rv_nil))
      (rs_seq (rs_asg re_int rg_name)
      (rs_seq (rs_while (rt_test (re_op ro_B0 (re_var 3) (re_cb rc_len (rv_cons (re_var 0) rv_nil)))) (rs_seq (rs_asg (re_callV (rv_cons (re_var 0) (rv_cons (re_var 3) rv_nil))) rg_name)
      (rs_if (rt_test (re_op ro_B0 (re_var 4) (re_var 3))) (rs_seq (rs_app (i := 2) (re_tup (rv_cons (DS.re_sliceS (re_var 0) (rp_some (re_var 3)) (rp_some (re_var 4))) (rv_cons (re_var 3) rv_nil))))
      (rs_asg (re_var 4) rg_name)) (rs_if (rt_test (re_op DS.ro_inC (re_op DS.ro_ixC (re_var 0) (re_var 3)) (re_var 1))) (rs_seq (rs_app (i := 2) (re_tup (rv_cons (re_op DS.ro_ixC (re_var 0) (re_var 3)) (rv_cons (re_var 3) rv_nil))))
      (rs_augI re_int)) (rs_if (rt_test (re_op DS.ro_inC (re_op DS.ro_ixC (re_var 0) (re_var 3)) re_str)) (rs_augI re_int) DS.rs_never)))))
      (rs_seq (rs_app (i := 2) (re_tup (rv_cons re_str (rv_cons (re_cb rc_len (rv_cons (re_var 0) rv_nil)) rv_nil))))
      (rs_ret (re_var 2))))))⟩) (pure_len fun ds Φ h => ?_) (fun os Φ h => ?_)
  · obtain ⟨z, sg, l, rfl, _⟩ := h
    rfl
  · obtain ⟨ds, rfl, z, sg, l, rfl, hz, hlex, hΦ⟩ := h
    simp
    have hzl : z.length = (cd z).length := len_cd z
    refine while_inv (fun m ρ => ∃ (i : Nat) (acc r : List (List Nat × Nat)) (b : Option OV), ρ = [some (.d (.str z)), some (.d (.str sg)), some (.l (acc.map tkD)), some (.d (.int (i : Nat))), b] ∧ SS.Lex (cd sg) ((cd z).drop i) i r none ∧ acc ++ r = l ∧ i + m = (cd z).length ∧ acc.length ≤ i) ⟨(cd z).length, 0, [], l, none, rfl, hlex, rfl, by omega, Nat.le_refl _⟩ ?_
    rintro m ρ ⟨i, acc, r, b, rfl, hx, hl, hm, ha⟩
    simp
    refine ⟨by omega, ?_⟩
    by_cases c : i < (cd z).length
    · rw [if_pos (by omega)]
      refine ⟨z, i, rfl, by omega, hz, ?_⟩
      simp
      have szc : z.cps.size = (cd z).length := by simp
      generalize hd : (cd z).drop i = x at hx
      cases hx with
      | done =>
        have := congrArg List.length hd
        rw [List.length_drop, List.length_nil] at this
        omega
      | @word v s _ r' _ h0 h1 h2 hr =>
        have we := wEnd_word hd h1 h2
        have vl : 0 < v.length := List.length_pos_iff.mpr h0
        have hdl := congrArg List.length hd
        rw [List.length_drop, List.length_append] at hdl
        rw [we, if_pos (by omega)]
        have hc : cutS z (some ((i : Nat) : Int)) (some ((i + v.length : Nat) : Int)) = ⟨v.toArray⟩ := by
          rw [cut_eq (by omega) (by omega), hd, Nat.add_sub_cancel_left, List.take_left]
        refine ⟨by omega, by omega, m - v.length, by omega, i + v.length, acc ++ [(v, i)], ⟨?_, rfl⟩, r', ?_, by rw [← hl]; simp, by omega, by simp; omega⟩
        · rw [hc, List.map_append]
          rfl
        · rw [show (cd z).drop (i + v.length) = s by rw [← List.drop_drop, hd, List.drop_left]]
          exact hr
      | @sign ch s _ r' _ h1 h2 hr =>
        obtain ⟨g, hs⟩ := drop_get hd
        rw [wEnd_none hd h1, if_neg (Nat.lt_irrefl _)]
        have g2 : z.cps[i]? = some ch := by simpa using g
        refine ⟨by omega, ch, g2, ?_⟩
        rw [if_pos (Array.mem_toList_iff.mp h2)]
        refine ⟨by omega, ch, g2, by omega, m - 1, by omega, i + 1, acc ++ [([ch], i)], ⟨?_, by omega⟩, r', ?_, by rw [← hl]; simp, by omega, by simp; omega⟩
        · rw [List.map_append]
          rfl
        · rw [hs]
          exact hr
      | @space ch s _ _ _ h1 h2 h3 hr =>
        obtain ⟨g, hs⟩ := drop_get hd
        rw [wEnd_none hd h1, if_neg (Nat.lt_irrefl _)]
        have g2 : z.cps[i]? = some ch := by simpa using g
        refine ⟨by omega, ch, g2, ?_⟩
        rw [if_neg (fun x => h2 (Array.mem_toList_iff.mpr x))]
        have hb : ch ∈ (Str.ofString " \n").cps := by
          refine Array.mem_toList_iff.mp ?_
          rw [show (Str.ofString " \n").cps.toList = [32, 10] by decide +kernel]
          rcases h3 with rfl | rfl <;> decide
        refine ⟨by omega, ch, g2, hb, m - 1, by omega, i + 1, acc, ⟨rfl, by omega⟩, r, ?_, hl, by omega, by omega⟩
        rw [hs]
        exact hr
    · rw [if_neg (by omega)]
      rw [List.drop_eq_nil_of_le (by omega)] at hx
      obtain ⟨rfl, _⟩ := lex_nil hx
      refine ⟨by omega, by omega, ?_⟩
      rw [← hl, List.map_append] at hΦ
      have e : z.length = i := by omega
      rw [e]
      exact hΦ
end
end K45
namespace K45
open PySem PySem.Spec PyProof.Rows L2 SX DL FD MF TR
/-! ### joined -/
def kindOf : D → Str
  | .tup (.str s :: _) => s
  | _ => ""
def innerOf : D → List D
  | .tup [_, .tup l] => l
  | _ => []
/-- trees of one kind, those of the same kind opened -/
def flatJ (kind : Str) (l : List D) : List D := l.flatMap fun d => if kindOf d = kind then innerOf d else [d]
def joinD (kind : Str) : List D → D
  | [d] => d
  | l => .tup [.str kind, .tup (flatJ kind l)]
/-- a tree: a kind first, and if it is this one then a tuple of trees behind it -/
def TreeD (kind : Str) (d : D) : Prop := ∃ s r, d = .tup (.str s :: r) ∧ (s = kind → ∃ l, r = [.tup l] ∧ l.length ≤ 10000)
def sJoin : NB.SV := fun ds Φ => ∃ (kind : Str) (l : List D), ds = [.str kind, .lst l] ∧ (∀ d ∈ l, TreeD kind d) ∧ l.length ≤ 1000 ∧ Φ (joinD kind l)
theorem flatJ_len {kind : Str} : ∀ {l : List D}, (∀ d ∈ l, TreeD kind d) → (flatJ kind l).length ≤ l.length * 10000
  | [], _ => by unfold flatJ; simp
  | d :: l, h => by
    have ih := flatJ_len fun d hd => h d (List.mem_cons_of_mem _ hd)
    obtain ⟨s, r, rfl, hs⟩ := h d List.mem_cons_self
    unfold flatJ at ih ⊢
    rw [List.flatMap_cons, List.length_append, List.length_cons, Nat.succ_mul]
    have : (if kindOf (.tup (.str s :: r)) = kind then innerOf (.tup (.str s :: r)) else [.tup (.str s :: r)]).length ≤ 10000 := by
      split
      · rename_i e
        obtain ⟨l', rfl, hl⟩ := hs e
        exact hl
      · exact (show 1 ≤ 10000 by decide)
    omega
section
variable [I : Tbs] {P : Program} {w : World} {K : PySem.W.Frag} {mg : Str → Option Value} {base : Heap}
theorem ok_joined (T : Txt P K mg w) : FnOk P w K mg base CX0 1 T.a_joined T.fd_joined ["kind", "trees"] (spOf K (pureS sJoin)) := by
  refine fnD T.F_joined sc_joined [] (k := 0) (fun cdv A outer s H E hr => ⟨_, (pss_cons (ps_if (pt_cmpR op_eq (pe_callB call_len (by rfl) T.n_len boot_len (pa_cons (pv 1) pa_nil)) pe_int (nomark _)) (pss_one (ps_ret (pe_ix (show IxR _ (rIxL K) from ix_list) (pv 1) pe_int (fun _ _ => rfl)))) pss_nil)
      (pss_cons (ps_set (i := 2) sc_joined.nd rfl (by first | exact Or.inl rfl | exact Or.inr rfl) (pe_lst pa_nil))
      (pss_cons (ps_for PassesOwn.never rfl (pi_list (pv 1)) (pg_name (i := 3) sc_joined.nd rfl (by first | exact Or.inl rfl | exact Or.inr rfl)) (pss_one (ps_if (pt_cmpR op_eq (pe_ix (show IxR _ (rIxT K) from ix_tup) (pv 3) pe_int (fun _ _ => rfl)) (pv 0) (nomark _)) (pss_one (ps_expr (pe_bm PySem.F.plainAttrs_list PySem.F.slot_list_extend PySem.F.type_list_extend SX.mt_extendT (pv 2) (pa_cons (pe_ix (show IxR _ (rIxT K) from ix_tup) (pv 3) pe_int (fun _ _ => rfl)) pa_nil)))) (pss_one (ps_expr (pe_bm PySem.F.plainAttrs_list PySem.F.slot_list_append PySem.F.type_list_append mt_append (pv 2) (pa_cons (pv 3) pa_nil)))))))
      (pss_one (ps_ret (pe_tup (pa_cons (pv 0) (pa_cons (pe_callTy call_tuple_of (by rfl) T.n_tuple (by decide +kernel) (pa_cons (pv 2) pa_nil)) pa_nil)))))))), (rs_seq (rs_if (rt_test (re_op ro_eq (re_lenS (i := 1)) re_int)) (rs_ret (re_ixS (i := 1) re_int)) rs_next)
      (rs_seq (rs_setL (rl_lst rv_nil))
      (rs_seq (rs_for (ri_list (re_var 1)) rg_name (rs_if (rt_test (re_op ro_eq (re_op ro_ixT (re_var 3) re_int) (re_var 0))) (DS.rs_extT (i := 2) (re_op ro_ixT (re_var 3) re_int)) (rs_app (i := 2) (re_var 3))))
      (rs_ret (re_tup (rv_cons (re_var 0) (rv_cons (re_cb rc_tuple (rv_cons (re_var 2) rv_nil)) rv_nil)))))))⟩) (pure_len fun ds Φ h => ?_) (fun os Φ h => ?_)
  · obtain ⟨kind, l, rfl, _⟩ := h
    rfl
  · obtain ⟨ds, rfl, kind, l, rfl, hl, hz, hΦ⟩ := h
    simp
    by_cases h1 : l.length = 1
    · rw [if_pos (by omega)]
      match l, h1 with
      | [d], _ =>
        simp
        exact hΦ
    · rw [if_neg (by omega)]
      have ej : joinD kind l = .tup [.str kind, .tup (flatJ kind l)] := by
        match l, h1 with
        | [], _ => rfl
        | [d], h1 => exact absurd rfl h1
        | a :: b :: r, _ => rfl
      rw [ej] at hΦ
      refine for_inv l [some (.d (.str kind)), some (.d (.lst l)), some (.l []), none] (fun j ρ => ∃ o, ρ = [some (.d (.str kind)), some (.d (.lst l)), some (.l (flatJ kind (l.take j))), o]) (fun Ψ q => ?_) ⟨none, rfl⟩ ?_ ?_
      · simp
        exact q
      · rintro j x ρ hx ⟨o, rfl⟩
        have hj := (List.getElem?_eq_some_iff.mp hx).1
        have hm := hl x (List.mem_of_getElem? hx)
        have ht : l.take (j + 1) = l.take j ++ [x] := by rw [List.take_add_one, hx]; rfl
        have hf : flatJ kind (l.take (j + 1)) = flatJ kind (l.take j) ++ (if kindOf x = kind then innerOf x else [x]) := by
          unfold flatJ
          rw [ht, List.flatMap_append]
          simp
        have hb := flatJ_len (kind := kind) (l := l.take j) fun d hd => hl d (List.mem_of_mem_take hd)
        have hb2 : (l.take j).length ≤ 1000 := by rw [List.length_take]; omega
        obtain ⟨s, r, rfl, hs⟩ := hm
        simp
        by_cases hk : s = kind
        · obtain ⟨l', rfl, hl'⟩ := hs hk
          rw [if_pos hk]
          simp
          refine ⟨by omega, ?_⟩
          rw [hf, if_pos (show kindOf (.tup [.str s, .tup l']) = kind from hk)]
          rfl
        · rw [if_neg hk]
          refine ⟨by omega, ?_⟩
          rw [hf, if_neg (show ¬ kindOf (.tup (.str s :: r)) = kind from hk)]
      · rintro ρ ⟨o, rfl⟩
        rw [List.take_length]
        simp
        exact hΦ
end
end K45
namespace K45
open PySem PySem.Spec PyProof.Rows L2 SX DL FD MF TR
/-! ### the reader -/
abbrev Tk := List Nat × Nat
def strT (t : Tk) : D := .str ⟨t.1.toArray⟩
/-- the reader's fields, the token at its place told -/
def rd4 (l : List Tk) (i : Nat) (t : Tk) : List (Str × D) := [("tokens", .lst (l.map tkD)), ("at", .int (i : Nat)), ("token", strT t), ("place", .int (t.2 : Nat))]
def rd6 (l : List Tk) (i : Nat) (t : Tk) (a : D) (g : Addr) : List (Str × D) := [("tokens", .lst (l.map tkD)), ("at", .int (i : Nat)), ("token", strT t), ("place", .int (t.2 : Nat)), ("first", a), ("groups", .fn g)]
def sRI (C : Addr) : HC.SC := fun ds M Φ => ∃ (p : Addr) (z sg : Str) (l : List Tk) (t : Tk), ds = [.fn p, .str z, .str sg] ∧ HC.look M p = some (.o C []) ∧ (cd z).length ≤ 1000000 ∧ SS.Lex (cd sg) (cd z) 0 l none ∧ l[0]? = some t ∧
  ∀ M', HC.look M' p = some (.o C (rd4 l 0 t)) → (∀ q, q ≠ p → HC.look M' q = HC.look M q) → Φ .non M'
def sStep (C : Addr) : HC.SC := fun ds M Φ => ∃ (p : Addr) (l : List Tk) (i : Nat) (t t' : Tk) (a : D) (g : Addr), ds = [.fn p] ∧ HC.look M p = some (.o C (rd6 l i t a g)) ∧ l[i + 1]? = some t' ∧
  ∀ M', HC.look M' p = some (.o C (rd6 l (i + 1) t' a g)) → (∀ q, q ≠ p → HC.look M' q = HC.look M q) → Φ .non M'
section
variable [I : Tbs] {P : Program} {w : World} {K : PySem.W.Frag} {mg : Str → Option Value} {base : Heap}
theorem ok_step (T : Txt P K mg w) : FnOk P w K mg base CX0 1 T.a_Reader_step T.fd_Reader_step ["self"] (HC.spH K (sStep T.C_ConditionReader)) := by
  refine HC.fnC T.F_Reader_step sc_Reader_step (k := 0) (fun cdv A outer s H E hr => ⟨_, (pss_cons (ps_fldaug (pv 0) pe_int in_add)
      (pss_one (ps_asg (pe_ix (show IxR _ (rIxL K) from ix_list) (pe_fld (pv 0) rfl) (pe_fld (pv 0) rfl) (fun _ _ => rfl)) (pg_tup (n := 2) (by rfl) (pgs_cons (SX.pg_fld (pv 0)) (pgs_cons (SX.pg_fld (pv 0)) pgs_nil)))))), (HC.xs_seq (DS.xs_fldaug DS.rd_add T.cl_ConditionReader T.n_ConditionReader_at (HC.xe_raw 0) HC.xe_int)
      (HC.xs_asg (HC.xe_ixL (HC.xe_fld T.cl_ConditionReader T.n_ConditionReader_tokens (HC.xe_raw 0)) (HC.xe_fld T.cl_ConditionReader T.n_ConditionReader_at (HC.xe_raw 0))) (HC.xg_tup (HC.xgs_cons (HC.xg_fld T.cl_ConditionReader T.n_ConditionReader_token (HC.xe_raw 0)) (HC.xgs_cons (HC.xg_fld T.cl_ConditionReader T.n_ConditionReader_place (HC.xe_raw 0)) HC.xgs_nil)))))⟩) (fun ds M Φ h => ?_) (fun ds M Φ h => ?_)
  · obtain ⟨p, l, i, t, t', a, g, rfl, _⟩ := h
    rfl
  · obtain ⟨p, l, i, t, t', a, g, rfl, hp, ht, hΦ⟩ := h
    simp [hp, rd6]
    refine ⟨_, rfl, by decide, ?_⟩
    generalize hM1 : HC.put M p _ = M1
    have e1 : HC.look M1 p = some (.o T.C_ConditionReader [("tokens", .lst (l.map tkD)), ("at", .int ((i : Nat) + 1)), ("token", strT t), ("place", .int (t.2 : Nat)), ("first", a), ("groups", .fn g)]) := by
      rw [← hM1]
      exact HC.look_self hp
    simp [e1]
    refine ⟨_, rfl, _, rfl, _, rfl, _, rfl, tkD t', ?_, ?_⟩
    · show atI (l.map tkD) (((i : Nat) : Int) + 1) = _
      rw [show ((i : Nat) : Int) + 1 = ((i + 1 : Nat) : Int) by omega, atI_nat', List.getElem?_map, ht]
      rfl
    · unfold tkD
      simp [e1]
      refine ⟨by decide, ?_⟩
      generalize hM2 : HC.put M1 p _ = M2
      have e2 : HC.look M2 p = some (.o T.C_ConditionReader [("tokens", .lst (l.map tkD)), ("at", .int ((i : Nat) + 1)), ("token", strT t'), ("place", .int (t.2 : Nat)), ("first", a), ("groups", .fn g)]) := by
        rw [← hM2]
        exact HC.look_self e1
      simp [e2]
      refine ⟨by decide, ?_⟩
      refine ⟨_, HC.Fewer.refl _, hΦ _ ?_ fun q hq => ?_⟩
      · exact HC.look_self e2
      · rw [HC.look_other e2 hq, ← hM2, HC.look_other e1 hq, ← hM1, HC.look_other hp hq]
theorem ok_rinit (T : Txt P K mg w) : FnOk P w K mg base CX0 3 T.a_Reader___init__ T.fd_Reader___init__ ["self", "text", "signs"] (HC.spH K (sRI T.C_ConditionReader)) := by
  have G_tokens_of : FnOk P w K mg base CX0 2 T.a_tokens_of T.fd_tokens_of ["text", "signs"] (spOf K (pureS sTok)) := ok_tokens T
  refine HC.fnC T.F_Reader___init__ sc_Reader___init__ (k := 2) (fun cdv A outer s H E hr => ⟨_, (pss_cons (ps_asg (pe_call G_tokens_of (hr.mono (by omega)) (by rfl) T.g_tokens_of T.F_tokens_of.kp T.b_tokens_of .nil pass0 (pa_cons (pv 1) (pa_cons (pv 2) pa_nil))) (SX.pg_fld (pv 0)))
      (pss_cons (ps_asg pe_int (SX.pg_fld (pv 0)))
      (pss_one (ps_asg (pe_ix (show IxR _ (rIxL K) from ix_list) (pe_fld (pv 0) rfl) pe_int (fun _ _ => rfl)) (pg_tup (n := 2) (by rfl) (pgs_cons (SX.pg_fld (pv 0)) (pgs_cons (SX.pg_fld (pv 0)) pgs_nil))))))), (HC.xs_seq (HC.xs_asg (HC.xe_callO (HC.xv_cons (HC.xe_raw 1) (HC.xv_cons (HC.xe_raw 2) HC.xv_nil))) (HC.xg_fld T.cl_ConditionReader T.n_ConditionReader_tokens (HC.xe_raw 0)))
      (HC.xs_seq (HC.xs_asg HC.xe_int (HC.xg_fld T.cl_ConditionReader T.n_ConditionReader_at (HC.xe_raw 0)))
      (HC.xs_asg (HC.xe_ixL (HC.xe_fld T.cl_ConditionReader T.n_ConditionReader_tokens (HC.xe_raw 0)) HC.xe_int) (HC.xg_tup (HC.xgs_cons (HC.xg_fld T.cl_ConditionReader T.n_ConditionReader_token (HC.xe_raw 0)) (HC.xgs_cons (HC.xg_fld T.cl_ConditionReader T.n_ConditionReader_place (HC.xe_raw 0)) HC.xgs_nil))))))⟩) (fun ds M Φ h => ?_) (fun ds M Φ h => ?_)
  · obtain ⟨p, z, sg, l, t, rfl, _⟩ := h
    rfl
  · obtain ⟨p, z, sg, l, t, rfl, hp, hz, hx, ht, hΦ⟩ := h
    simp
    refine ⟨z, sg, l, rfl, hz, hx, ?_⟩
    simp [hp]
    generalize hM1 : HC.put M p _ = M1
    have e1 : HC.look M1 p = some (.o T.C_ConditionReader [("tokens", .lst (l.map tkD))]) := by
      rw [← hM1]
      exact HC.look_self hp
    simp [e1]
    generalize hM2 : HC.put M1 p _ = M2
    have e2 : HC.look M2 p = some (.o T.C_ConditionReader [("tokens", .lst (l.map tkD)), ("at", .int 0)]) := by
      rw [← hM2]
      exact HC.look_self e1
    simp [e2]
    refine ⟨_, rfl, _, rfl, tkD t, ?_, ?_⟩
    · have := atI_nat' (l.map tkD) 0
      rw [show ((0 : Nat) : Int) = 0 from rfl] at this
      rw [this, List.getElem?_map, ht]
      rfl
    · unfold tkD
      simp [e2]
      refine ⟨by decide, ?_⟩
      generalize hM3 : HC.put M2 p _ = M3
      have e3 : HC.look M3 p = some (.o T.C_ConditionReader [("tokens", .lst (l.map tkD)), ("at", .int 0), ("token", strT t)]) := by
        rw [← hM3]
        exact HC.look_self e2
      simp [e3]
      refine ⟨by decide, ?_⟩
      refine ⟨_, HC.Fewer.refl _, hΦ _ ?_ fun q hq => ?_⟩
      · exact HC.look_self e3
      · rw [HC.look_other e3 hq, ← hM3, HC.look_other e2 hq, ← hM2, HC.look_other e1 hq, ← hM1, HC.look_other hp hq]
end
end K45
namespace K45
open PySem PySem.Spec PyProof.Rows L2 SX DL FD MF TR
/-! ### names -/
def Tok1 (t : List Nat) : Prop := t.all SS.isLow = true ∨ ∃ c, t = [c] ∧ SS.isLow c = false ∧ Unicode.isAlpha c = false
theorem low_alpha {c : Nat} (h : SS.isLow c = true) : Unicode.isAlpha c = true := by
  have z : ∀ k, k < 26 → Unicode.isAlpha (97 + k) = true := by decide +kernel
  have h' : 97 ≤ c ∧ c ≤ 122 := of_decide_eq_true h
  have := z (c - 97) (by omega)
  rwa [show 97 + (c - 97) = c by omega] at this
theorem isalpha_tok {t : List Nat} (h : Tok1 t) : Txt.isalpha ⟨t.toArray⟩ = (!t.isEmpty && t.all SS.isLow) := by
  have e : Txt.isalpha ⟨t.toArray⟩ = (decide ((⟨t.toArray⟩ : Str).length > 0) && t.all Unicode.isAlpha) := by
    unfold Txt.isalpha
    simp
  rw [e, len_cd, cd_mk]
  cases t with
  | nil => rfl
  | cons a r =>
    have e1 : decide ((a :: r).length > 0) = true := by simp
    rw [e1]
    rcases h with h | ⟨c, h, h1, h2⟩
    · have e2 : (a :: r).all Unicode.isAlpha = true := List.all_eq_true.mpr fun x hx => low_alpha (List.all_eq_true.mp h x hx)
      rw [e2, h]
      rfl
    · cases h
      simp [h1, h2]
/-- what is never called -/
def sNo : HC.SC := fun _ _ _ => False
theorem no_ok [Tbs] {P : Program} {w : World} {K : PySem.W.Frag} {mg : Str → Option Value} {base : Heap} {k : Nat} {f : Addr} {fd : FuncData} {ps : List Str} : FnOk P w K mg base CX0 k f fd ps (HC.spH K sNo) :=
  ⟨fun vs H Q E ⟨_, _, _, _, _, _, _, h, _⟩ => h.elim, fun A outer s H args us vs Q E hr e0 hb r ⟨_, _, _, _, _, _, _, h, _⟩ => h.elim⟩
def sRName (C : Addr) : HC.SC := fun ds M Φ => ∃ (p : Addr) (l : List Tk) (i : Nat) (t t' : Tk) (a : D) (g : Addr), ds = [.fn p] ∧ HC.look M p = some (.o C (rd6 l i t a g)) ∧ SS.okName t.1 = true ∧ l[i + 1]? = some t' ∧
  ∀ M', HC.look M' p = some (.o C (rd6 l (i + 1) t' a g)) → (∀ q, q ≠ p → HC.look M' q = HC.look M q) → Φ (strT t) M'
section
variable [I : Tbs] {P : Program} {w : World} {K : PySem.W.Frag} {mg : Str → Option Value} {base : Heap}
theorem ok_rname (T : Txt P K mg w) : FnOk P w K mg base CX0 2 T.a_Reader_read_name T.fd_Reader_read_name ["self"] (HC.spH K (sRName T.C_ConditionReader)) := by
  have G_Reader_step : FnOk P w K mg base CX0 1 T.a_Reader_step T.fd_Reader_step ["self"] (HC.spH K (sStep T.C_ConditionReader)) := ok_step T
  have G_Reader_refuse : FnOk P w K mg base CX0 1 T.a_Reader_refuse T.fd_Reader_refuse ["self"] (HC.spH K sNo) := no_ok
  refine HC.fnC T.F_Reader_read_name sc_Reader_read_name (k := 1) (fun cdv A outer s H E hr => ⟨_, (pss_cons (ps_set (i := 1) sc_Reader_read_name.nd rfl (by first | exact Or.inl rfl | exact Or.inr rfl) (pe_fld (pv 0) rfl))
      (pss_cons (ps_if (PW.pt (pw_or (pt_not (pt_val (pe_m0 PySem.F.slot_str_isalpha PySem.F.type_str_isalpha mt_isalpha (pv 1)))) (pw_or1 (pt_cmpR op_gt (pe_callB call_len (by rfl) T.n_len boot_len (pa_cons (pv 1) pa_nil)) (pe_glob (v := .int (8)) (by rfl) T.g_LONGEST_NAME ⟨_, rfl⟩) (nomark _))))) (pss_one (ps_expr (pe_meth0 (pv 0) T.cl_ConditionReader T.m_ConditionReader_refuse G_Reader_refuse (hr.mono (by omega)) T.b_Reader_refuse .nil pass0))) pss_nil)
      (pss_cons (ps_expr (pe_meth0 (pv 0) T.cl_ConditionReader T.m_ConditionReader_step G_Reader_step (hr.mono (by omega)) T.b_Reader_step .nil pass0))
      (pss_one (ps_ret (pv 1)))))), (HC.xs_seq (HC.xs_asg (HC.xe_fld T.cl_ConditionReader T.n_ConditionReader_token (HC.xe_raw 0)) HC.xg_name)
      (HC.xs_seq (HC.xs_if (HC.xt_or (HC.xt_not (HC.xt_B (DS.xe_alpha (HC.xe_raw 1)))) (HC.xt_test (HC.xe_op ro_B0 (HC.xe_len (HC.xe_raw 1)) HC.xe_int))) (HC.xs_drop (HC.xe_meth (HC.xe_raw 0) HC.xv_nil)) HC.xs_next)
      (HC.xs_seq (HC.xs_drop (HC.xe_meth (HC.xe_raw 0) HC.xv_nil))
      (HC.xs_ret (HC.xe_raw 1)))))⟩) (fun ds M Φ h => ?_) (fun ds M Φ h => ?_)
  · obtain ⟨p, l, i, t, t', a, g, rfl, _⟩ := h
    rfl
  · obtain ⟨p, l, i, t, t', a, g, rfl, hp, hn, ht, hΦ⟩ := h
    unfold SS.okName at hn
    obtain ⟨hn1, hn3⟩ := Bool.and_eq_true_iff.mp hn
    have hal : Txt.isalpha ⟨t.1.toArray⟩ = true := by
      rw [isalpha_tok (.inl (Bool.and_eq_true_iff.mp hn1).2)]
      exact hn1
    have hlen : (⟨t.1.toArray⟩ : Str).length = t.1.length := len_mk t.1
    have h8 : t.1.length ≤ 8 := of_decide_eq_true hn3
    simp [hp, rd6, strT]
    refine ⟨_, rfl, _, rfl, ?_⟩
    rw [if_pos hal]
    refine ⟨by rw [hlen]; exact Nat.le_trans h8 (by decide), ?_⟩
    dsimp only
    rw [if_neg (by rw [hlen]; omega)]
    exact ⟨rfl, p, l, i, t, t', a, g, rfl, hp, ht, fun M' h1 h2 => ⟨M', HC.Fewer.refl _, hΦ M' h1 h2⟩⟩
end
end K45
namespace K45
open PySem PySem.Spec PyProof.Rows L2 SX DL FD MF TR
/-! ### separated -/
def pcD (place : Int) (d : D) : D := .tup [d, .int place]
def sepD (sign : Str) (place : Int) : List D → List D
  | [] => []
  | d :: r => pcD place d :: r.flatMap fun d => [.str sign, pcD place d]
theorem sepD_snoc (sign : Str) (place : Int) (l : List D) (d : D) : sepD sign place (l ++ [d]) = sepD sign place l ++ (if l.isEmpty then [pcD place d] else [.str sign, pcD place d]) := by
  cases l with
  | nil => rfl
  | cons a r => simp [sepD]
theorem sepD_len (sign : Str) (place : Int) (l : List D) : (sepD sign place l).length ≤ 2 * l.length := by
  cases l with
  | nil => exact Nat.zero_le _
  | cons a r =>
    have : (r.flatMap fun d => [D.str sign, pcD place d]).length = 2 * r.length := by
      induction r with
      | nil => rfl
      | cons b r ih => rw [List.flatMap_cons, List.length_append, ih, List.length_cons]; simp; omega
    rw [sepD, List.length_cons, this, List.length_cons]
    omega
theorem sepD_ne (sign : Str) (place : Int) (l : List D) : (sepD sign place l).isEmpty = l.isEmpty := by cases l <;> rfl
def sSep : NB.SV := fun ds Φ => ∃ (l : List D) (sign : Str) (place : Int), ds = [.tup l, .str sign, .int place] ∧ l.length ≤ 1000000 ∧ Φ (.lst (sepD sign place l))
section
variable [I : Tbs] {P : Program} {w : World} {K : PySem.W.Frag} {mg : Str → Option Value} {base : Heap}
theorem ok_separated (T : Txt P K mg w) : FnOk P w K mg base CX0 1 T.a_separated T.fd_separated ["trees", "sign", "place"] (spOf K (pureS sSep)) := by
  refine fnD T.F_separated sc_separated [] (k := 0) (fun cdv A outer s H E hr => ⟨_, (pss_cons (ps_set (i := 3) sc_separated.nd rfl (by first | exact Or.inl rfl | exact Or.inr rfl) (pe_lst pa_nil))
      (pss_cons (ps_for PassesOwn.never rfl (pi_tup (pv 0)) (pg_name (i := 4) sc_separated.nd rfl (by first | exact Or.inl rfl | exact Or.inr rfl)) (pss_cons (ps_if (pt_truth (pv 3) (by intro _; rfl)) (pss_one (ps_expr (pe_bm PySem.F.plainAttrs_list PySem.F.slot_list_append PySem.F.type_list_append mt_append (pv 3) (pa_cons (pv 1) pa_nil)))) pss_nil)
      (pss_one (ps_expr (pe_bm PySem.F.plainAttrs_list PySem.F.slot_list_append PySem.F.type_list_append mt_append (pv 3) (pa_cons (pe_tup (pa_cons (pv 4) (pa_cons (pv 2) pa_nil))) pa_nil))))))
      (pss_one (ps_ret (pv 3))))), (rs_seq (rs_setL (rl_lst rv_nil))
      (rs_seq (rs_for (ri_tup (re_var 0)) rg_name (rs_seq (rs_if (rt_truthS (i := 3)) (rs_app (i := 3) (re_var 1)) rs_next)
      (rs_app (i := 3) (re_tup (rv_cons (re_var 4) (rv_cons (re_var 2) rv_nil))))))
      (rs_ret (re_var 3))))⟩) (pure_len fun ds Φ h => ?_) (fun os Φ h => ?_)
  · obtain ⟨l, sign, place, rfl, _⟩ := h
    rfl
  · obtain ⟨ds, rfl, l, sign, place, rfl, hl, hΦ⟩ := h
    simp
    refine for_inv l [some (.d (.tup l)), some (.d (.str sign)), some (.d (.int place)), some (.l []), none] (fun j ρ => ∃ o, ρ = [some (.d (.tup l)), some (.d (.str sign)), some (.d (.int place)), some (.l (sepD sign place (l.take j))), o]) (fun Ψ q => ?_) ⟨none, rfl⟩ ?_ ?_
    · simp
      exact q
    · rintro j x ρ hx ⟨o, rfl⟩
      have hj := (List.getElem?_eq_some_iff.mp hx).1
      have ht : l.take (j + 1) = l.take j ++ [x] := by rw [List.take_add_one, hx]; rfl
      have hs := sepD_snoc sign place (l.take j) x
      have hb := sepD_len sign place (l.take j)
      have hb2 : (l.take j).length ≤ j := by rw [List.length_take]; omega
      have hne := sepD_ne sign place (l.take j)
      rw [ht, hs]
      generalize sepD sign place (l.take j) = S at *
      rw [← hne]
      cases S with
      | nil =>
        simp
        rfl
      | cons a r =>
        simp only [List.length_cons] at hb
        simp
        refine ⟨by omega, by omega, ?_⟩
        rfl
    · rintro ρ ⟨o, rfl⟩
      rw [List.take_length]
      simp
      exact hΦ
end
end K45
namespace K45
open PySem PySem.Spec PyProof.Rows L2 DL FD MF TR
/-! ### brackets around tokens -/
def brD (c : Bool) (l : List D) : List D := if c = true then .str "(" :: (l ++ [.str ")"]) else l
def sBr : SD := fun os Φ => ∃ (l : List D) (needed : Bool), os = [.draw, .d (.lst l), .d (.bl needed)] ∧ l.length ≤ 1000000 ∧ ∀ c : Bool, (needed = true → c = true) → Φ (.lst (brD c l)) [.draw, .d (.lst l), .d (.bl needed)]
section
variable [Tbs] {P : Program} {w : World} {K : PySem.W.Frag} {mg : Str → Option Value} {base : Heap}
theorem ok_bracket (T : Txt P K mg w) : FnOk P w K mg base CX0 2 T.a_law_bracket T.fd_law_bracket ["draw", "tokens", "needed"] (spOf K sBr) := by
  have G_law_next : FnOk P w K mg base CX0 1 T.a_law_next T.fd_law_next ["draw", "many"] (spOf K sNext) := ok_nextD T
  refine fnD T.F_law_bracket sc_law_bracket [0] (k := 1) (fun cdv A outer s H E hr => ⟨_, (pss_one (ps_ret (pe_ifExp (PW.pt (pw_or (pt_val (pv 2)) (pw_or1 (pt_cmpR op_eq (pe_call G_law_next (hr.mono (by omega)) (by rfl) T.g_law_next T.F_law_next.kp T.b_law_next .nil pass0 (pa_cons (pv 0) (pa_cons pe_int pa_nil))) pe_int (nomark _))))) (pe_op op_cat (pe_op op_cat (pe_lst (pa_cons pe_str pa_nil)) (pv 1)) (pe_lst (pa_cons pe_str pa_nil))) (pv 1)))), (rs_ret (re_if (rt_or (rt_B (re_var 2)) (rt_test (re_op ro_eq (re_call (ra_slot (i := 0) (ra_cons re_int ra_nil))) re_int))) (RL.re (rl_op rol_cat (RL.re (rl_op rol_cat (RL.re (rl_lst (rv_cons re_str rv_nil))) (re_var 1))) (RL.re (rl_lst (rv_cons re_str rv_nil))))) (re_var 1)))⟩) (draw_len fun os Φ h => ?_) (fun os Φ h => ?_)
  · obtain ⟨l, needed, rfl, _⟩ := h
    exact ⟨[_, _], rfl, rfl⟩
  · obtain ⟨l, needed, rfl, hl, hΦ⟩ := h
    have hyes := hΦ true fun _ => rfl
    have hno := hΦ false
    simp [brD] at hyes hno
    cases needed with
    | true =>
      simp
      exact ⟨by omega, by omega, hyes⟩
    | false =>
      simp
      refine ⟨7, rfl, by decide, by decide, fun r hr => ?_⟩
      simp
      by_cases h0 : r = 0
      · rw [if_pos h0]
        exact ⟨by omega, by omega, hyes⟩
      · rw [if_neg h0]
        exact hno rfl
end
end K45
namespace K45
open PySem PySem.Spec PyProof.Rows L2 DL FD MF TR
/-! ### the tokens that the law writes -/
def brS (c : Bool) (l : List Str) : List Str := if c = true then ("(" : Str) :: (l ++ [(")" : Str)]) else l
theorem brD_map (c : Bool) (l : List Str) : brD c (l.map .str) = (brS c l).map .str := by
  cases c <;> simp [brD, brS]
theorem brS_len (c : Bool) (l : List Str) : (brS c l).length ≤ l.length + 2 := by
  cases c <;> simp [brS]
/-- rows of tokens with a word between them -/
def sepS (k : Str) : List (List Str) → List Str
  | [] => []
  | l :: r => l ++ r.flatMap fun m => k :: m
/-- must a tree of this kind have brackets here -/
def need (within : Str) (d : CL) : Bool := match d with
  | .conj b => decide (within = "word") || (decide (within = "and") && !b)
  | _ => false
/-- tokens of a tree, brackets where they must be and where they may be -/
inductive TC : Str → Tr CL → List Str → Prop
  | leaf {w : Str} {d : CL} {c : Bool} (h : d = .all ∨ d = .none) : TC w (.nd d []) (brS c [kindS d])
  | is {w x : Str} {c : Bool} : TC w (.nd (.is x) []) (brS c ["is", x])
  | un {w : Str} {d : CL} {k : Tr CL} {l : List Str} {c : Bool} (h : d = .not ∨ ∃ q, d = .look q) (hk : TC "word" k l) : TC w (.nd d [k]) (brS c (kindS d :: l))
  | cj {w : Str} {b : Bool} {k1 k2 : Tr CL} {l1 l2 : List Str} {c : Bool} (h : need w (.conj b) = true → c = true) (h1 : TC (cjS b) k1 l1) (h2 : TC (cjS b) k2 l2) : TC w (.nd (.conj b) [k1, k2]) (brS c (l1 ++ cjS b :: l2))
theorem brS_ge (c : Bool) (l : List Str) : l.length ≤ (brS c l).length := by
  cases c <;> simp [brS] <;> omega
theorem TC.ne {w : Str} {t : Tr CL} {l : List Str} (h : TC w t l) : 0 < l.length := by
  cases h with
  | leaf h => exact Nat.lt_of_lt_of_le (by simp) (brS_ge _ _)
  | is => exact Nat.lt_of_lt_of_le (by simp) (brS_ge _ _)
  | un h hk => exact Nat.lt_of_lt_of_le (by simp) (brS_ge _ _)
  | cj h h1 h2 => exact Nat.lt_of_lt_of_le (by simp; omega) (brS_ge _ _)
theorem TC.len {w : Str} {t : Tr CL} {l : List Str} (h : TC w t l) : l.length ≤ 5 * sz t := by
  induction h with
  | leaf h => rw [sz_nd]; refine Nat.le_trans (brS_len _ _) ?_; simp
  | is => rw [sz_nd]; refine Nat.le_trans (brS_len _ _) ?_; simp
  | un h hk ih => rw [sz_nd]; refine Nat.le_trans (brS_len _ _) ?_; simp; omega
  | cj h h1 h2 i1 i2 => rw [sz_nd]; refine Nat.le_trans (brS_len _ _) ?_; simp; omega
def sCT (n : Nat) : SD := fun os Φ => ∃ (t : Tr CL) (w : Str), os = [.draw, .d (cnD t), .d (.str w)] ∧ WC n t ∧ n ≤ 8 ∧ ∀ l, TC w t l → Φ (.lst (l.map .str)) [.draw, .d (cnD t), .d (.str w)]
section
variable [Tbs] {P : Program} {w : World} {K : PySem.W.Frag} {mg : Str → Option Value} {base : Heap}
theorem ok_ct (T : Txt P K mg w) : ∀ n : Nat, FnOk P w K mg base CX0 (n + 3) T.a_law_condition_tokens T.fd_law_condition_tokens ["draw", "tree", "within"] (spOf K (sCT n)) := by
  intro n
  induction n with
  | zero =>
    refine ⟨fun vs H Q E h => ?_, fun A outer s H args us vs Q E hr e0 hb r h => ?_⟩
    all_goals
      obtain ⟨F, os, Φ, _, _, ⟨t, w', _, h, _⟩, _⟩ := h
      cases h
  | succ n ih =>
    have G_law_condition_tokens : FnOk P w K mg base CX0 (n + 3) T.a_law_condition_tokens T.fd_law_condition_tokens ["draw", "tree", "within"] (spOf K (sCT n)) := ih
    have G_law_bracket : FnOk P w K mg base CX0 2 T.a_law_bracket T.fd_law_bracket ["draw", "tokens", "needed"] (spOf K sBr) := ok_bracket T
    refine fnD T.F_law_condition_tokens sc_law_condition_tokens [0] (k := n + 3) (fun cdv A outer s H E hr => ⟨_, (pss_cons (ps_if (pt_cmpR op_in_seq (pe_ix (show IxR _ (rIxT K) from ix_tup) (pv 1) pe_int (fun _ _ => rfl)) (pe_tup (pa_cons pe_str (pa_cons pe_str pa_nil))) rfl) (pss_one (ps_ret (pe_call G_law_bracket (hr.mono (by omega)) (by rfl) T.g_law_bracket T.F_law_bracket.kp T.b_law_bracket .nil pass0 (pa_cons (pv 0) (pa_cons (pe_lst (pa_cons (pe_ix (show IxR _ (rIxT K) from ix_tup) (pv 1) pe_int (fun _ _ => rfl)) pa_nil)) (pa_cons pe_bl pa_nil)))))) pss_nil)
      (pss_cons (ps_if (pt_cmpR op_eq (pe_ix (show IxR _ (rIxT K) from ix_tup) (pv 1) pe_int (fun _ _ => rfl)) pe_str (nomark _)) (pss_one (ps_ret (pe_call G_law_bracket (hr.mono (by omega)) (by rfl) T.g_law_bracket T.F_law_bracket.kp T.b_law_bracket .nil pass0 (pa_cons (pv 0) (pa_cons (pe_lst (pa_cons pe_str (pa_cons (pe_ix (show IxR _ (rIxT K) from ix_tup) (pv 1) pe_int (fun _ _ => rfl)) pa_nil))) (pa_cons pe_bl pa_nil)))))) pss_nil)
      (pss_cons (ps_if (pt_cmpR op_in_seq (pe_ix (show IxR _ (rIxT K) from ix_tup) (pv 1) pe_int (fun _ _ => rfl)) (pe_tup (pa_cons pe_str (pa_cons pe_str pa_nil))) rfl) (pss_cons (ps_set (i := 3) sc_law_condition_tokens.nd rfl (by first | exact Or.inl rfl | exact Or.inr rfl) (pe_lst pa_nil))
      (pss_cons (ps_for PassesOwn.never rfl (pi_tup (pe_ix (show IxR _ (rIxT K) from ix_tup) (pv 1) pe_int (fun _ _ => rfl))) (pg_name (i := 4) sc_law_condition_tokens.nd rfl (by first | exact Or.inl rfl | exact Or.inr rfl)) (pss_one (ps_set (i := 3) sc_law_condition_tokens.nd rfl (by first | exact Or.inl rfl | exact Or.inr rfl) (pe_op op_cat (pe_op op_cat (pv 3) (pe_ifExp (pt_truth (pv 3) (by intro _; rfl)) (pe_lst (pa_cons (pe_ix (show IxR _ (rIxT K) from ix_tup) (pv 1) pe_int (fun _ _ => rfl)) pa_nil)) (pe_lst pa_nil))) (pe_call G_law_condition_tokens (hr.mono (by omega)) (by rfl) T.g_law_condition_tokens T.F_law_condition_tokens.kp T.b_law_condition_tokens .nil pass0 (pa_cons (pv 0) (pa_cons (pv 4) (pa_cons (pe_ix (show IxR _ (rIxT K) from ix_tup) (pv 1) pe_int (fun _ _ => rfl)) pa_nil))))))))
      (pss_one (ps_ret (pe_call G_law_bracket (hr.mono (by omega)) (by rfl) T.g_law_bracket T.F_law_bracket.kp T.b_law_bracket .nil pass0 (pa_cons (pv 0) (pa_cons (pv 3) (pa_cons (pe_or (pe_cmpR op_eq (pv 2) pe_str (nomark _)) (pe_one (pe_and (pe_cmpR op_eq (pv 2) pe_str (nomark _)) (pe_one (pe_cmpR op_eq (pe_ix (show IxR _ (rIxT K) from ix_tup) (pv 1) pe_int (fun _ _ => rfl)) pe_str (nomark _)))))) pa_nil)))))))) pss_nil)
      (pss_one (ps_ret (pe_call G_law_bracket (hr.mono (by omega)) (by rfl) T.g_law_bracket T.F_law_bracket.kp T.b_law_bracket .nil pass0 (pa_cons (pv 0) (pa_cons (pe_op op_cat (pe_lst (pa_cons (pe_ix (show IxR _ (rIxT K) from ix_tup) (pv 1) pe_int (fun _ _ => rfl)) pa_nil)) (pe_call G_law_condition_tokens (hr.mono (by omega)) (by rfl) T.g_law_condition_tokens T.F_law_condition_tokens.kp T.b_law_condition_tokens .nil pass0 (pa_cons (pv 0) (pa_cons (pe_ix (show IxR _ (rIxT K) from ix_tup) (pv 1) pe_int (fun _ _ => rfl)) (pa_cons pe_str pa_nil))))) (pa_cons pe_bl pa_nil))))))))), (rs_seq (rs_if (rt_test (re_op ro_in (re_op ro_ixT (re_var 1) re_int) (re_tup (rv_cons re_str (rv_cons re_str rv_nil))))) (rs_ret (re_call (ra_slot (i := 0) (ra_cons (RL.re (rl_lst (rv_cons (re_op ro_ixT (re_var 1) re_int) rv_nil))) (ra_cons re_bl ra_nil))))) rs_next)
      (rs_seq (rs_if (rt_test (re_op ro_eq (re_op ro_ixT (re_var 1) re_int) re_str)) (rs_ret (re_call (ra_slot (i := 0) (ra_cons (RL.re (rl_lst (rv_cons re_str (rv_cons (re_op ro_ixT (re_var 1) re_int) rv_nil)))) (ra_cons re_bl ra_nil))))) rs_next)
      (rs_seq (rs_if (rt_test (re_op ro_in (re_op ro_ixT (re_var 1) re_int) (re_tup (rv_cons re_str (rv_cons re_str rv_nil))))) (rs_seq (rs_setL (rl_lst rv_nil))
      (rs_seq (rs_for (ri_tup (re_op ro_ixT (re_var 1) re_int)) rg_name (rs_setL (rl_op rol_cat (RL.re (rl_op rol_cat (re_var 3) (RL.re (rl_if (rt_truthS (i := 3)) (rl_lst (rv_cons (re_op ro_ixT (re_var 1) re_int) rv_nil)) (rl_lst rv_nil))))) (re_call (ra_slot (i := 0) (ra_cons (re_var 4) (ra_cons (re_op ro_ixT (re_var 1) re_int) ra_nil)))))))
      (rs_ret (re_call (ra_slot (i := 0) (ra_cons (re_var 3) (ra_cons (re_or (re_op ro_eq (re_var 2) re_str) (re_and (re_op ro_eq (re_var 2) re_str) (re_op ro_eq (re_op ro_ixT (re_var 1) re_int) re_str))) ra_nil))))))) rs_next)
      (rs_ret (re_call (ra_slot (i := 0) (ra_cons (RL.re (rl_op rol_cat (RL.re (rl_lst (rv_cons (re_op ro_ixT (re_var 1) re_int) rv_nil))) (re_call (ra_slot (i := 0) (ra_cons (re_op ro_ixT (re_var 1) re_int) (ra_cons re_str ra_nil)))))) (ra_cons re_bl ra_nil))))))))⟩) (draw_len fun os Φ h => ?_) (fun os Φ h => ?_)
    · obtain ⟨t, w', rfl, _⟩ := h
      exact ⟨[_, _], rfl, rfl⟩
    · obtain ⟨t, w', rfl, hw, hn, hΦ⟩ := h
      have hsz := hw.sz
      have hp : 2 ^ (n + 1) ≤ 2 ^ 8 := Nat.pow_le_pow_right (by decide) hn
      cases hw with
      | @nd n d ks ha hb hk =>
        simp only [cn_nd] at hΦ ⊢
        cases d with
        | all =>
          cases List.length_eq_zero_iff.mp ha
          simp (decide := true) [wrap]
          refine ⟨[.str "all"], false, rfl, by simp, fun c _ => ?_⟩
          have := hΦ _ (TC.leaf (c := c) (.inl rfl))
          rw [← brD_map] at this
          simp
          exact this
        | none =>
          cases List.length_eq_zero_iff.mp ha
          simp (decide := true) [wrap]
          refine ⟨[.str "none"], false, rfl, by simp, fun c _ => ?_⟩
          have := hΦ _ (TC.leaf (c := c) (.inr rfl))
          rw [← brD_map] at this
          simp
          exact this
        | is x =>
          cases List.length_eq_zero_iff.mp ha.1
          simp (decide := true) [wrap]
          refine ⟨[.str "is", .str x], false, rfl, by simp, fun c _ => ?_⟩
          have := hΦ _ (TC.is (c := c))
          rw [← brD_map] at this
          simp
          exact this
        | not =>
          match ks, ha, hk with
          | [k], _, hk =>
            simp (decide := true) [wrap]
            refine ⟨k, "word", rfl, hk k (by simp), by omega, fun l hl => ?_⟩
            have hll := hl.len
            have hks := (hk k (by simp)).sz
            have hpn : 2 ^ n ≤ 2 ^ 8 := Nat.pow_le_pow_right (by decide) (by omega)
            simp
            refine ⟨by omega, _, false, rfl, by simp; omega, fun c _ => ?_⟩
            have := hΦ _ (TC.un (c := c) (.inl rfl) hl)
            rw [← brD_map] at this
            simp
            exact this
        | look q =>
          match ks, ha, hk with
          | [k], _, hk =>
            have fin : ∀ l, TC "word" k l → ∀ c, Φ (.lst (brD c (.str (lkS q) :: l.map .str))) [.draw, .d (.tup [.str (lkS q), cnD k]), .d (.str w')] := fun l hl c => by
              have := hΦ _ (TC.un (w := w') (d := .look q) (c := c) (.inr ⟨q, rfl⟩) hl)
              rw [← brD_map] at this
              exact this
            have hks := (hk k (by simp)).sz
            have hpn : 2 ^ n ≤ 2 ^ 8 := Nat.pow_le_pow_right (by decide) (by omega)
            cases q <;>
              (simp (decide := true) [wrap, lkS]
               refine ⟨k, "word", rfl, hk k (by simp), by omega, fun l hl => ?_⟩
               have hll := hl.len
               simp
               refine ⟨by omega, _, false, rfl, by simp; omega, fun c _ => ?_⟩
               simp
               exact fin l hl c)
        | conj b =>
          match ks, ha, hk with
          | [k1, k2], _, hk =>
            have s1 := (hk k1 (by simp)).sz
            have s2 := (hk k2 (by simp)).sz
            have hpn : 2 ^ n ≤ 2 ^ 8 := Nat.pow_le_pow_right (by decide) (by omega)
            have loop : ∀ (E : DEn), (∀ l1 l2 o4, TC (cjS b) k1 l1 → TC (cjS b) k2 l2 → E.nx [some .draw, some (.d (.tup [.str (cjS b), .tup [cnD k1, cnD k2]])), some (.d (.str w')), some (.l ((l1 ++ cjS b :: l2).map .str)), o4]) →
                dFor (dIT (dOp oIxT (dVar 1) (dC (D.int 1)))) (dName 4) (dSetL 3 (dOpL oCat (dK (dOpL oCat (dVar 3) (dK (dIfL (dTruthS 3) (dLst (dCons (dOp oIxT (dVar 1) (dC (D.int 0))) dNil)) (dLst dNil))))) (dCall (sCT n) (dASlot 0 (dACons (dVar 4) (dACons (dOp oIxT (dVar 1) (dC (D.int 0))) dANil)))))) E
                  [some .draw, some (.d (.tup [.str (cjS b), .tup [cnD k1, cnD k2]])), some (.d (.str w')), some (.l []), none] := by
              intro E hE
              refine for_inv [cnD k1, cnD k2] _ (fun j ρ => ∃ (f : List Str) (o4 : Option OV), ρ = [some .draw, some (.d (.tup [.str (cjS b), .tup [cnD k1, cnD k2]])), some (.d (.str w')), some (.l (f.map .str)), o4] ∧ ((j = 0 ∧ f = []) ∨ (j = 1 ∧ TC (cjS b) k1 f) ∨ (j = 2 ∧ ∃ l1 l2, TC (cjS b) k1 l1 ∧ TC (cjS b) k2 l2 ∧ f = l1 ++ cjS b :: l2))) (fun Ψ q => ?_) ⟨[], none, rfl, .inl ⟨rfl, rfl⟩⟩ ?_ ?_
              · simp
                exact q
              · rintro j x ρ hx ⟨f, o4, rfl, hj⟩
                rcases hj with ⟨rfl, rfl⟩ | ⟨rfl, h1⟩ | ⟨rfl, _⟩
                · cases hx
                  simp
                  refine ⟨k1, cjS b, rfl, hk k1 (by simp), by omega, fun l hl => ?_⟩
                  have hll := hl.len
                  simp
                  exact ⟨by omega, l, rfl, hl⟩
                · cases hx
                  have hll1 := h1.len
                  have hne := h1.ne
                  cases f with
                  | nil => cases hne
                  | cons f0 fr =>
                    simp only [List.length_cons] at hll1
                    simp
                    refine ⟨by omega, k2, cjS b, rfl, hk k2 (by simp), by omega, fun l hl => ?_⟩
                    have hll := hl.len
                    simp
                    exact ⟨by omega, f0 :: (fr ++ cjS b :: l), by simp, f0 :: fr, h1, l, hl, rfl⟩
                · cases hx
              · rintro ρ ⟨f, o4, rfl, hj⟩
                rcases hj with ⟨h, _⟩ | ⟨h, _⟩ | ⟨_, l1, l2, h1, h2, rfl⟩
                · cases h
                · cases h
                · exact hE l1 l2 o4 h1 h2
            have fin : ∀ (l1 l2 : List Str) (c : Bool), TC (cjS b) k1 l1 → TC (cjS b) k2 l2 → (need w' (.conj b) = true → c = true) → Φ (.lst (brD c (l1.map .str ++ .str (cjS b) :: l2.map .str))) [.draw, .d (.tup [.str (cjS b), .tup [cnD k1, cnD k2]]), .d (.str w')] := fun l1 l2 c h1 h2 hc => by
              have := hΦ _ (TC.cj (w := w') (c := c) hc h1 h2)
              rw [← brD_map, List.map_append, List.map_cons] at this
              exact this
            have lens : ∀ (l1 l2 : List Str), TC (cjS b) k1 l1 → TC (cjS b) k2 l2 → (l1.map D.str ++ D.str (cjS b) :: l2.map D.str).length ≤ 1000000 := fun l1 l2 h1 h2 => by
              have e1 := h1.len
              have e2 := h2.len
              simp
              omega
            cases b with
            | true =>
              simp (decide := true) [wrap]
              refine loop _ fun l1 l2 o4 h1 h2 => ?_
              simp (decide := true)
              by_cases hw : w' = "word"
              · rw [if_pos hw]
                refine ⟨_, true, rfl, lens l1 l2 h1 h2, fun c hc => ?_⟩
                simp
                exact fin l1 l2 c h1 h2 fun _ => hc rfl
              · rw [if_neg hw]
                refine ⟨_, false, rfl, lens l1 l2 h1 h2, fun c hc => ?_⟩
                simp
                exact fin l1 l2 c h1 h2 fun z => by simp [need, hw] at z
            | false =>
              simp (decide := true) [wrap]
              refine loop _ fun l1 l2 o4 h1 h2 => ?_
              simp (decide := true)
              by_cases hw : w' = "word"
              · rw [if_pos hw]
                refine ⟨_, true, rfl, lens l1 l2 h1 h2, fun c hc => ?_⟩
                simp
                exact fin l1 l2 c h1 h2 fun _ => hc rfl
              · rw [if_neg hw]
                split <;> rename_i hv <;> first
                  | (refine ⟨_, true, rfl, lens l1 l2 h1 h2, fun c hc => ?_⟩
                     simp
                     exact fin l1 l2 c h1 h2 fun _ => hc rfl)
                  | (refine ⟨_, false, rfl, lens l1 l2 h1 h2, fun c hc => ?_⟩
                     simp
                     exact fin l1 l2 c h1 h2 fun z => by simp [need, hw, hv] at z)
end
end K45
namespace K45
open PySem PySem.Spec PyProof.Rows L2 DL FD MF TR
/-! ### reading a condition: a machine over its tokens -/
structure Grp where
  done : List (List D)
  cur : List D
  ws : List Str
def wd (ws : List Str) (d : D) : D := ws.foldr (fun w d => .tup [.str w, d]) d
def g0 : Grp := ⟨[], [], []⟩
def Grp.terms (G : Grp) : List (List D) := G.done ++ [G.cur]
def Grp.word (G : Grp) (w : Str) : Grp := ⟨G.done, G.cur, G.ws ++ [w]⟩
def Grp.take (G : Grp) (d : D) : Grp := ⟨G.done, G.cur ++ [wd G.ws d], []⟩
def Grp.next (G : Grp) : Grp := ⟨G.done ++ [G.cur], [], G.ws⟩
def Grp.cond (G : Grp) : D := joinD "or" (G.terms.map (joinD "and"))
def tx (s : Str) : List Nat := s.cps.toList
def sx (t : List Nat) : Str := ⟨t.toArray⟩
def lookNames : List Str := ["child", "below", "parent", "above", "earlier", "later"]
def isLook (t : List Nat) : Bool := lookNames.any fun s => decide (sx t = s)
def rc : List Tk → Bool → Grp → List Grp → D ⊕ (Nat × Bool)
  | [], _, _, _ => .inr (0, false)
  | (t, p) :: r, false, G, S =>
    if sx t = "(" then rc r false g0 (G :: S)
    else if sx t = "not" ∨ isLook t = true then rc r false (G.word (sx t)) S
    else if sx t = "all" ∨ sx t = "none" then rc r true (G.take (.tup [.str (sx t)])) S
    else if sx t = "is" then
      match r with
      | [] => .inr (0, false)
      | (x, q) :: r' => if SS.okName x = true then rc r' true (G.take (.tup [.str "is", .str (sx x)])) S else .inr (q, decide (x = []))
    else .inr (p, decide (t = []))
  | (t, p) :: r, true, G, [] =>
    if t = [] then .inl G.cond
    else if sx t = "or" then rc r false G.next []
    else if sx t = "and" then rc r false G []
    else .inr (p, decide (t = []))
  | (t, p) :: r, true, G, G' :: S =>
    if sx t = ")" then rc r true (G'.take G.cond) S
    else if sx t = "or" then rc r false G.next (G' :: S)
    else if sx t = "and" then rc r false G (G' :: S)
    else .inr (p, decide (t = []))
theorem rc_f (t : List Nat) (p : Nat) (r : List Tk) (G : Grp) (S : List Grp) : rc ((t, p) :: r) false G S =
    if sx t = "(" then rc r false g0 (G :: S)
    else if sx t = "not" ∨ isLook t = true then rc r false (G.word (sx t)) S
    else if sx t = "all" ∨ sx t = "none" then rc r true (G.take (.tup [.str (sx t)])) S
    else if sx t = "is" then
      match r with
      | [] => .inr (0, false)
      | (x, q) :: r' => if SS.okName x = true then rc r' true (G.take (.tup [.str "is", .str (sx x)])) S else .inr (q, decide (x = []))
    else .inr (p, decide (t = [])) := by
  cases r with
  | nil => conv => lhs; unfold rc
  | cons q r2 =>
    obtain ⟨t2, p2⟩ := q
    rw [rc]
theorem rc_0 (t : List Nat) (p : Nat) (r : List Tk) (G : Grp) : rc ((t, p) :: r) true G [] =
    if t = [] then .inl G.cond
    else if sx t = "or" then rc r false G.next []
    else if sx t = "and" then rc r false G []
    else .inr (p, decide (t = [])) := by rw [rc]
theorem rc_1 (t : List Nat) (p : Nat) (r : List Tk) (G G' : Grp) (S : List Grp) : rc ((t, p) :: r) true G (G' :: S) =
    if sx t = ")" then rc r true (G'.take G.cond) S
    else if sx t = "or" then rc r false G.next (G' :: S)
    else if sx t = "and" then rc r false G (G' :: S)
    else .inr (p, decide (t = [])) := by rw [rc]
/-! ### the tokens of a condition, read -/
def txs (l : List Str) : List (List Nat) := l.map tx
theorem sx_tx (s : Str) : sx (tx s) = s := rfl
def Fac (z : List Tk) (t : Tr CL) : Prop := ∀ G S r, rc (z ++ r) false G S = rc r true (G.take (cnD t)) S
def Trm (z : List Tk) (t : Tr CL) : Prop := ∀ G S r, G.ws = [] → G.cur = [] → ∃ fs, rc (z ++ r) false G S = rc r true ⟨G.done, fs, []⟩ S ∧ joinD "and" fs = cnD t
def Who (z : List Tk) (t : Tr CL) : Prop := ∀ S r, ∃ G', rc (z ++ r) false g0 S = rc r true G' S ∧ G'.cond = cnD t ∧ G'.ws = []
theorem Fac.trm {z : List Tk} {t : Tr CL} (h : Fac z t) : Trm z t := fun G S r hw hc => ⟨[cnD t], by rw [h, Grp.take, hw, hc]; rfl, rfl⟩
theorem Trm.who {z : List Tk} {t : Tr CL} (h : Trm z t) : Who z t := fun S r => by
  obtain ⟨fs, h1, h2⟩ := h g0 S r rfl rfl
  exact ⟨_, h1, h2, rfl⟩
theorem or_next (r : List Tk) (p : Nat) (G : Grp) (S : List Grp) : rc ((tx "or", p) :: r) true G S = rc r false G.next S := by
  cases S with
  | nil => rw [rc_0, if_neg (by decide +kernel), if_pos (sx_tx _)]
  | cons G' S => rw [rc_1, if_neg (by decide +kernel), if_pos (sx_tx _)]
theorem and_next (r : List Tk) (p : Nat) (G : Grp) (S : List Grp) : rc ((tx "and", p) :: r) true G S = rc r false G S := by
  cases S with
  | nil => rw [rc_0, if_neg (by decide +kernel), if_neg (by decide +kernel), if_pos (sx_tx _)]
  | cons G' S => rw [rc_1, if_neg (by decide +kernel), if_neg (by decide +kernel), if_pos (sx_tx _)]
theorem wd_app (ws : List Str) (w : Str) (d : D) : wd (ws ++ [w]) d = wd ws (.tup [.str w, d]) := by
  unfold wd
  rw [List.foldr_append]
  rfl
theorem kindOf_cn (t : Tr CL) : kindOf (cnD t) = kindS t.d := by
  obtain ⟨r, e⟩ := cn_kind t
  rw [e]
  rfl
theorem join_two {b : Bool} {k1 k2 : Tr CL} (h1 : k1.d ≠ .conj b) (h2 : k2.d ≠ .conj b) : joinD (cjS b) [cnD k1, cnD k2] = cnD (.nd (.conj b) [k1, k2]) := by
  have n1 : ¬ kindOf (cnD k1) = cjS b := fun e => h1 (kind_conj (by rw [← kindOf_cn]; exact e))
  have n2 : ¬ kindOf (cnD k2) = cjS b := fun e => h2 (kind_conj (by rw [← kindOf_cn]; exact e))
  rw [cn_nd]
  show D.tup [.str (cjS b), .tup (flatJ (cjS b) [cnD k1, cnD k2])] = .tup [.str (if b then "and" else "or"), .tup [cnD k1, cnD k2]]
  unfold flatJ
  rw [List.flatMap_cons, List.flatMap_cons, if_neg n1, if_neg n2]
  rfl
theorem is_look (q : Lk) : isLook (tx (lkS q)) = true := by cases q <;> decide +kernel
theorem brS_cut {c : Bool} {l : List Str} {z : List Tk} (h : z.map Prod.fst = txs (brS c l)) : (c = false ∧ z.map Prod.fst = txs l) ∨ (c = true ∧ ∃ p q z0, z = (tx "(", p) :: (z0 ++ [(tx ")", q)]) ∧ z0.map Prod.fst = txs l) := by
  cases c with
  | false => exact .inl ⟨rfl, h⟩
  | true =>
    refine .inr ⟨rfl, ?_⟩
    have e : txs (brS true l) = tx "(" :: (txs l ++ [tx ")"]) := by
      unfold txs brS
      rw [if_pos rfl, List.map_cons, List.map_append]
      rfl
    rw [e] at h
    obtain ⟨a, z1, rfl, h1, h2⟩ := List.map_eq_cons_iff.mp h
    obtain ⟨z0, zl, rfl, h3, h4⟩ := List.map_eq_append_iff.mp h2
    obtain ⟨b, zn, rfl, h5, h6⟩ := List.map_eq_cons_iff.mp h4
    cases List.map_eq_nil_iff.mp h6
    obtain ⟨a1, a2⟩ := a
    obtain ⟨b1, b2⟩ := b
    cases h1
    cases h5
    exact ⟨a2, b2, z0, rfl, h3⟩
theorem Who.br {z0 : List Tk} {t : Tr CL} (h : Who z0 t) (p q : Nat) : Fac ((tx "(", p) :: (z0 ++ [(tx ")", q)])) t := fun G S r => by
  show rc ((tx "(", p) :: ((z0 ++ [(tx ")", q)]) ++ r)) false G S = _
  rw [rc_f, if_pos (sx_tx _), List.append_assoc]
  obtain ⟨G', h1, h2, _⟩ := h (G :: S) ([(tx ")", q)] ++ r)
  rw [h1]
  show rc ((tx ")", q) :: r) true G' (G :: S) = _
  rw [rc_1, if_pos (sx_tx _), h2]
def Rds (w : Str) (z : List Tk) (t : Tr CL) : Prop := Who z t ∧ (w = "or" → t.d ≠ .conj false → Trm z t) ∧ (w = "word" → Fac z t) ∧ (w = "and" → t.d ≠ .conj true → Fac z t)
theorem Fac.rds {z : List Tk} {t : Tr CL} {w : Str} (h : Fac z t) : Rds w z t := ⟨h.trm.who, fun _ _ => h.trm, fun _ => h, fun _ _ => h⟩
theorem br_rds {z : List Tk} {t : Tr CL} {w : Str} {c : Bool} {l : List Str} (hz : z.map Prod.fst = txs (brS c l)) (hf : ∀ z0 : List Tk, z0.map Prod.fst = txs l → Fac z0 t) : Rds w z t := by
  rcases brS_cut hz with ⟨_, h⟩ | ⟨_, p, q, z0, rfl, h⟩
  · exact (hf _ h).rds
  · exact ((hf _ h).trm.who.br p q).rds
theorem cj_read {b : Bool} {k1 k2 : Tr CL} {l1 l2 : List Str} (n1 : k1.d ≠ .conj b) (n2 : k2.d ≠ .conj b) (i1 : ∀ z : List Tk, z.map Prod.fst = txs l1 → Rds (cjS b) z k1) (i2 : ∀ z : List Tk, z.map Prod.fst = txs l2 → Rds (cjS b) z k2) {z : List Tk} (hz : z.map Prod.fst = txs (l1 ++ cjS b :: l2)) :
    Who z (.nd (.conj b) [k1, k2]) ∧ (b = true → Trm z (.nd (.conj b) [k1, k2])) := by
  have e : txs (l1 ++ cjS b :: l2) = txs l1 ++ tx (cjS b) :: txs l2 := by simp [txs]
  rw [e] at hz
  obtain ⟨z1, zr, rfl, h1, h2⟩ := List.map_eq_append_iff.mp hz
  obtain ⟨a, z2, rfl, h3, h4⟩ := List.map_eq_cons_iff.mp h2
  obtain ⟨a1, a2⟩ := a
  cases h3
  have j := join_two n1 n2
  cases b with
  | true =>
    have f1 := (i1 z1 h1).2.2.2 rfl n1
    have f2 := (i2 z2 h4).2.2.2 rfl n2
    have tr : Trm (z1 ++ (tx (cjS true), a2) :: z2) (.nd (.conj true) [k1, k2]) := fun G S r hw hc => by
      refine ⟨[cnD k1, cnD k2], ?_, j⟩
      rw [List.append_assoc, f1]
      show rc ((tx "and", a2) :: (z2 ++ r)) true _ S = _
      rw [and_next, f2, Grp.take, Grp.take, hw, hc]
      rfl
    exact ⟨tr.who, fun _ => tr⟩
  | false =>
    have f1 := (i1 z1 h1).2.1 rfl n1
    have f2 := (i2 z2 h4).2.1 rfl n2
    refine ⟨fun S r => ?_, fun z => by cases z⟩
    obtain ⟨fs1, e1, j1⟩ := f1 g0 S ((tx "or", a2) :: (z2 ++ r)) rfl rfl
    rw [List.append_assoc]
    show ∃ G', rc (z1 ++ (tx "or", a2) :: (z2 ++ r)) false g0 S = _ ∧ _
    rw [e1, or_next]
    obtain ⟨fs2, e2, j2⟩ := f2 (Grp.next ⟨g0.done, fs1, []⟩) S r rfl rfl
    refine ⟨_, e2, ?_, rfl⟩
    show joinD "or" [joinD "and" fs1, joinD "and" fs2] = _
    rw [j1, j2]
    exact j
theorem tc_read {w : Str} {t : Tr CL} {l : List Str} (h : TC w t l) : ∀ (n : Nat), WC n t → ∀ z : List Tk, z.map Prod.fst = txs l → Rds w z t := by
  induction h with
  | @leaf w d c hd =>
    intro n hw z hz
    refine br_rds hz fun z0 h0 => ?_
    obtain ⟨a, z1, rfl, h1, h2⟩ := List.map_eq_cons_iff.mp h0
    cases List.map_eq_nil_iff.mp h2
    obtain ⟨a1, a2⟩ := a
    cases h1
    intro G S r
    show rc ((tx (kindS d), a2) :: r) false G S = _
    rcases hd with rfl | rfl
    · rw [rc_f, if_neg (by decide +kernel), if_neg (by decide +kernel), if_pos (by decide +kernel), cn_nd]
      rfl
    · rw [rc_f, if_neg (by decide +kernel), if_neg (by decide +kernel), if_pos (by decide +kernel), cn_nd]
      rfl
  | @is w x c =>
    intro n hw z hz
    refine br_rds hz fun z0 h0 => ?_
    obtain ⟨a, z1, rfl, h1, h2⟩ := List.map_eq_cons_iff.mp h0
    obtain ⟨b, z2, rfl, h3, h4⟩ := List.map_eq_cons_iff.mp h2
    cases List.map_eq_nil_iff.mp h4
    obtain ⟨a1, a2⟩ := a
    obtain ⟨b1, b2⟩ := b
    cases h1
    cases h3
    have nx : SS.okName (tx x) = true := by
      cases hw with
      | nd ha hb hk =>
        rcases ha.2 with rfl | rfl | rfl | rfl <;> decide +kernel
    intro G S r
    show rc ((tx "is", a2) :: (tx x, b2) :: r) false G S = _
    rw [rc_f, if_neg (by decide +kernel), if_neg (by decide +kernel), if_neg (by decide +kernel), if_pos (sx_tx _)]
    dsimp only
    rw [if_pos nx, cn_nd]
    rfl
  | @un w d k l c hd hk ih =>
    intro n hw z hz
    refine br_rds hz fun z0 h0 => ?_
    obtain ⟨a, z1, rfl, h1, h2⟩ := List.map_eq_cons_iff.mp h0
    obtain ⟨a1, a2⟩ := a
    cases h1
    have wk : ∃ m, WC m k := by
      cases hw with
      | nd ha hb hk => exact ⟨_, hk k (by simp)⟩
    obtain ⟨m, wk⟩ := wk
    have fk : Fac z1 k := (ih m wk z1 h2).2.2.1 rfl
    intro G S r
    show rc ((tx (kindS d), a2) :: (z1 ++ r)) false G S = _
    have e : rc ((tx (kindS d), a2) :: (z1 ++ r)) false G S = rc (z1 ++ r) false (G.word (kindS d)) S := by
      rcases hd with rfl | ⟨q, rfl⟩
      · rw [rc_f, if_neg (by decide +kernel), if_pos (.inl (sx_tx _))]
        rfl
      · rw [rc_f, if_neg (by cases q <;> decide +kernel), if_pos (.inr (is_look q))]
        rfl
    rw [e, fk]
    have e2 : cnD (.nd d [k]) = .tup [.str (kindS d), cnD k] := by
      rw [cn_nd]
      rcases hd with rfl | ⟨q, rfl⟩ <;> rfl
    rw [e2]
    show rc r true ⟨G.done, G.cur ++ [wd (G.ws ++ [kindS d]) (cnD k)], []⟩ S = _
    rw [wd_app]
    rfl
  | @cj w b k1 k2 l1 l2 c hn h1 h2 i1 i2 =>
    intro n hw z hz
    have wk : (∃ m, WC m k1) ∧ (∃ m, WC m k2) ∧ k1.d ≠ .conj b ∧ k2.d ≠ .conj b := by
      cases hw with
      | nd ha hb hk => exact ⟨⟨_, hk k1 (by simp)⟩, ⟨_, hk k2 (by simp)⟩, hb k1 (by simp) b rfl, hb k2 (by simp) b rfl⟩
    obtain ⟨⟨m1, w1⟩, ⟨m2, w2⟩, n1, n2⟩ := wk
    have cr : ∀ z : List Tk, z.map Prod.fst = txs (l1 ++ cjS b :: l2) → _ := fun z hz => cj_read n1 n2 (i1 m1 w1) (i2 m2 w2) hz
    rcases brS_cut hz with ⟨ec, h⟩ | ⟨_, p, q, z0, rfl, h⟩
    · have hn' : need w (.conj b) = false := by
        cases e : need w (.conj b) with
        | false => rfl
        | true => rw [hn e] at ec; cases ec
      obtain ⟨c1, c2⟩ := cr z h
      refine ⟨c1, fun e hd => ?_, fun e => ?_, fun e hd => ?_⟩
      · cases b with
        | true => exact c2 rfl
        | false => exact absurd rfl hd
      · subst e
        cases b <;> exact absurd hn' (by decide +kernel)
      · subst e
        cases b with
        | true => exact absurd rfl hd
        | false => exact absurd hn' (by decide +kernel)
    · exact ((cr z0 h).1.br p q).rds
/-- the tokens of a condition with its end: it is read -/
theorem tc_parse {t : Tr CL} {l : List Str} {n : Nat} (h : TC "" t l) (hw : WC n t) {z : List Tk} (hz : z.map Prod.fst = txs l) (e : Nat) : rc (z ++ [([], e)]) false g0 [] = .inl (cnD t) := by
  obtain ⟨G', h1, h2, _⟩ := (tc_read h n hw z hz).1 [] [([], e)]
  rw [h1, rc_0, if_pos rfl, h2]
end K45
namespace K45
open PySem PySem.Spec PyProof.Rows L2 SX DL FD MF TR
/-! ### the canonical text, and its tokens -/
def prF (d : CL) (l : List (Str → Str)) (w : Str) : Str := match d with
  | .all => "all"
  | .none => "none"
  | .is x => "is " ++ x
  | .conj b => if need w (.conj b) = true then "(" ++ Txt.join (" " ++ cjS b ++ " ") (l.map fun f => f (cjS b)) ++ ")" else Txt.join (" " ++ cjS b ++ " ") (l.map fun f => f (cjS b))
  | d => kindS d ++ " " ++ (match l with | f :: _ => f "word" | [] => "")
def prT : Tr CL → Str → Str := fold prF
theorem prT_nd (d : CL) (ks : List (Tr CL)) : prT (.nd d ks) = prF d (ks.map prT) := fold_nd prF d ks
def stop (s : SS.Tx) : Prop := ∀ c, s.head? = some c → SS.isLow c = false
def LxA (u : SS.Tx) (l : List Str) : Prop := ∀ s i lst, SS.Lex [40, 41] s (i + u.length) lst none → ∃ z : List Tk, z.map Prod.fst = txs l ∧ SS.Lex [40, 41] (u ++ s) i (z ++ lst) none
def Lx (u : SS.Tx) (l : List Str) : Prop := ∀ s i lst, stop s → SS.Lex [40, 41] s (i + u.length) lst none → ∃ z : List Tk, z.map Prod.fst = txs l ∧ SS.Lex [40, 41] (u ++ s) i (z ++ lst) none
theorem LxA.lx {u : SS.Tx} {l : List Str} (h : LxA u l) : Lx u l := fun s i lst _ h2 => h s i lst h2
theorem txs_app (a b : List Str) : txs (a ++ b) = txs a ++ txs b := by unfold txs; rw [List.map_append]
theorem LxA.app {u1 u2 : SS.Tx} {l1 l2 : List Str} (h1 : LxA u1 l1) (h2 : LxA u2 l2) : LxA (u1 ++ u2) (l1 ++ l2) := fun s i lst h => by
  rw [List.length_append, ← Nat.add_assoc] at h
  obtain ⟨z2, e2, x2⟩ := h2 s _ lst h
  obtain ⟨z1, e1, x1⟩ := h1 _ i _ x2
  exact ⟨z1 ++ z2, by rw [List.map_append, e1, e2, txs_app], by rw [List.append_assoc, List.append_assoc]; exact x1⟩
theorem LxA.appx {u1 u2 : SS.Tx} {l1 l2 : List Str} (h1 : LxA u1 l1) (h2 : Lx u2 l2) : Lx (u1 ++ u2) (l1 ++ l2) := fun s i lst hs h => by
  rw [List.length_append, ← Nat.add_assoc] at h
  obtain ⟨z2, e2, x2⟩ := h2 s _ lst hs h
  obtain ⟨z1, e1, x1⟩ := h1 _ i _ x2
  exact ⟨z1 ++ z2, by rw [List.map_append, e1, e2, txs_app], by rw [List.append_assoc, List.append_assoc]; exact x1⟩
theorem Lx.app {u1 u2 : SS.Tx} {l1 l2 : List Str} {c : Nat} {r : SS.Tx} (h1 : Lx u1 l1) (hu : u2 = c :: r) (hc : SS.isLow c = false) (h2 : LxA u2 l2) : LxA (u1 ++ u2) (l1 ++ l2) := fun s i lst h => by
  rw [List.length_append, ← Nat.add_assoc] at h
  obtain ⟨z2, e2, x2⟩ := h2 s _ lst h
  have st : stop (u2 ++ s) := fun c' h' => by
    rw [hu] at h'
    cases h'
    exact hc
  obtain ⟨z1, e1, x1⟩ := h1 _ i _ st x2
  exact ⟨z1 ++ z2, by rw [List.map_append, e1, e2, txs_app], by rw [List.append_assoc, List.append_assoc]; exact x1⟩
theorem lx_space : LxA [32] [] := fun s i lst h => ⟨[], rfl, .space (by decide) (by decide) (.inl rfl) h⟩
theorem lx_open : LxA [40] ["("] := fun s i lst h => ⟨[([40], i)], (show [[40]] = txs ["("] by decide +kernel), .sign (by decide) (by decide) h⟩
theorem lx_close : LxA [41] [")"] := fun s i lst h => ⟨[([41], i)], (show [[41]] = txs [")"] by decide +kernel), .sign (by decide) (by decide) h⟩
def Wd (w : Str) : Prop := cd w ≠ [] ∧ (cd w).all SS.isLow = true
instance (w : Str) : Decidable (Wd w) := by unfold Wd; infer_instance
theorem lx_word {w : Str} (h : Wd w) : Lx (cd w) [w] := fun s i lst hs hl =>
  ⟨[(cd w, i)], rfl, .word h.1 (fun c hc => List.all_eq_true.mp h.2 c hc) hs hl⟩
theorem lx_wordS {w : Str} (h : Wd w) : LxA (cd w ++ [32]) [w] := (lx_word h).app rfl (by decide) lx_space
theorem wd_kind {d : CL} (h : ∀ x, d = .is x → True) : Wd (kindS d) := by
  cases d with
  | is x => exact (show Wd "is" by decide +kernel)
  | look q => cases q <;> decide +kernel
  | conj b => cases b <;> decide +kernel
  | _ => decide +kernel
theorem wd_nam {x : Str} (h : Nam x) : Wd x := by rcases h with rfl | rfl | rfl | rfl <;> decide +kernel
theorem wd_cj (b : Bool) : Wd (cjS b) := by cases b <;> decide +kernel
theorem join2 (g a b : Str) : Txt.join g [a, b] = a ++ g ++ b := by
  rw [TL.join_eq]
  rfl
theorem cd_join2 (g a b : Str) : cd (Txt.join g [a, b]) = cd a ++ cd g ++ cd b := by rw [join2, cd_append, cd_append]
theorem cd_cjg (b : Bool) : cd (" " ++ cjS b ++ " ") = [32] ++ (cd (cjS b) ++ [32]) := by
  rw [cd_append, cd_append, List.append_assoc]
  rfl
theorem lx_cj {b : Bool} {u1 u2 : SS.Tx} {l1 l2 : List Str} (h1 : Lx u1 l1) (h2 : Lx u2 l2) : Lx (u1 ++ cd ((" " : Str) ++ cjS b ++ " ") ++ u2) (l1 ++ cjS b :: l2) := by
  have m : LxA ([32] ++ (cd (cjS b) ++ [32])) ([] ++ [cjS b]) := lx_space.app (lx_wordS (wd_cj b))
  rw [cd_cjg]
  have := (h1.app rfl (by decide) m).appx h2
  rw [List.append_assoc l1] at this
  exact this
theorem lx_br {u : SS.Tx} {l : List Str} (h : Lx u l) : LxA ([40] ++ (u ++ [41])) (("(" : Str) :: (l ++ [(")" : Str)])) := lx_open.app (h.app rfl (by decide) lx_close)
theorem tc_text {n : Nat} {t : Tr CL} (h : WC n t) : ∀ w : Str, ∃ l, TC w t l ∧ Lx (cd (prT t w)) l := by
  induction h with
  | @nd n d ks ha hb hk ih =>
    intro w
    rw [prT_nd]
    cases d with
    | all =>
      cases List.length_eq_zero_iff.mp ha
      exact ⟨_, TC.leaf (c := false) (.inl rfl), lx_word (w := "all") (by decide +kernel)⟩
    | none =>
      cases List.length_eq_zero_iff.mp ha
      exact ⟨_, TC.leaf (c := false) (.inr rfl), lx_word (w := "none") (by decide +kernel)⟩
    | is x =>
      cases List.length_eq_zero_iff.mp ha.1
      refine ⟨_, TC.is (c := false), ?_⟩
      show Lx (cd ("is " ++ x)) ["is", x]
      rw [cd_append]
      exact (lx_wordS (w := "is") (by decide +kernel)).appx (lx_word (wd_nam ha.2))
    | not =>
      match ks, ha, hk, ih with
      | [k], _, hk, ih =>
        obtain ⟨l, h1, h2⟩ := ih k (by simp) "word"
        refine ⟨_, TC.un (c := false) (.inl rfl) h1, ?_⟩
        show Lx (cd ("not" ++ " " ++ prT k "word")) ("not" :: l)
        rw [cd_append, cd_append]
        exact (lx_wordS (w := "not") (by decide +kernel)).appx h2
    | look q =>
      match ks, ha, hk, ih with
      | [k], _, hk, ih =>
        obtain ⟨l, h1, h2⟩ := ih k (by simp) "word"
        refine ⟨_, TC.un (c := false) (.inr ⟨q, rfl⟩) h1, ?_⟩
        show Lx (cd (lkS q ++ " " ++ prT k "word")) (lkS q :: l)
        rw [cd_append, cd_append]
        exact (lx_wordS (wd_kind (d := .look q) fun _ _ => trivial)).appx h2
    | conj b =>
      match ks, ha, hk, ih with
      | [k1, k2], _, hk, ih =>
        obtain ⟨l1, t1, x1⟩ := ih k1 (by simp) (cjS b)
        obtain ⟨l2, t2, x2⟩ := ih k2 (by simp) (cjS b)
        have x := lx_cj (b := b) x1 x2
        refine ⟨_, TC.cj (c := need w (.conj b)) id t1 t2, ?_⟩
        show Lx (cd (if need w (.conj b) = true then "(" ++ Txt.join (" " ++ cjS b ++ " ") [prT k1 (cjS b), prT k2 (cjS b)] ++ ")" else Txt.join (" " ++ cjS b ++ " ") [prT k1 (cjS b), prT k2 (cjS b)])) _
        cases need w (.conj b) with
        | false =>
          rw [if_neg (by decide), cd_join2]
          exact x
        | true =>
          rw [if_pos rfl, cd_append, cd_append, cd_join2, List.append_assoc]
          exact (lx_br x).lx
theorem pr_len {n : Nat} {t : Tr CL} (h : WC n t) : ∀ w : Str, (prT t w).length ≤ 20 * sz t := by
  induction h with
  | @nd n d ks ha hb hk ih =>
    intro w
    rw [prT_nd, sz_nd]
    have app : ∀ a b : Str, (a ++ b).length = a.length + b.length := fun a b => by rw [len_cd, cd_append, List.length_append, ← len_cd, ← len_cd]
    cases d with
    | all => exact Nat.le_trans (show ("all" : Str).length ≤ 20 by decide +kernel) (by omega)
    | none => exact Nat.le_trans (show ("none" : Str).length ≤ 20 by decide +kernel) (by omega)
    | is x =>
      have : x.length ≤ 2 := by rcases ha.2 with rfl | rfl | rfl | rfl <;> decide +kernel
      have e : ("is " : Str).length = 3 := by decide +kernel
      show ("is " ++ x).length ≤ _
      rw [app]
      omega
    | not =>
      match ks, ha, hk, ih with
      | [k], _, hk, ih =>
        have i1 := ih k (by simp) "word"
        have e : ("not" ++ " " : Str).length = 4 := by decide +kernel
        show ("not" ++ " " ++ prT k "word").length ≤ _
        rw [app]
        simp
        omega
    | look q =>
      match ks, ha, hk, ih with
      | [k], _, hk, ih =>
        have i1 := ih k (by simp) "word"
        have e : (lkS q ++ " " : Str).length ≤ 8 := by cases q <;> decide +kernel
        show (lkS q ++ " " ++ prT k "word").length ≤ _
        rw [app]
        simp
        omega
    | conj b =>
      match ks, ha, hk, ih with
      | [k1, k2], _, hk, ih =>
        have i1 := ih k1 (by simp) (cjS b)
        have i2 := ih k2 (by simp) (cjS b)
        have e : (" " ++ cjS b ++ " " : Str).length ≤ 5 := by cases b <;> decide +kernel
        have e1 : ("(" : Str).length = 1 := by decide +kernel
        have e2 : (")" : Str).length = 1 := by decide +kernel
        show (if need w (.conj b) = true then "(" ++ Txt.join (" " ++ cjS b ++ " ") [prT k1 (cjS b), prT k2 (cjS b)] ++ ")" else Txt.join (" " ++ cjS b ++ " ") [prT k1 (cjS b), prT k2 (cjS b)]).length ≤ _
        rw [join2]
        simp only [List.map_cons, List.map_nil, List.sum_cons, List.sum_nil]
        split <;> simp only [app] at e ⊢ <;> omega
/-- the canonical text is read -/
theorem pr_parse {n : Nat} {t : Tr CL} (h : WC n t) : ∃ z : List Tk, z.length ≤ 5 * sz t ∧ SS.Lex [40, 41] (cd (prT t "")) 0 (z ++ [([], (cd (prT t "")).length)]) none ∧ rc (z ++ [([], (cd (prT t "")).length)]) false g0 [] = .inl (cnD t) := by
  obtain ⟨l, h1, h2⟩ := tc_text h ""
  obtain ⟨z, e, x⟩ := h2 [] 0 _ (fun c h => by cases h) (by rw [Nat.zero_add]; exact .done)
  rw [List.append_nil] at x
  refine ⟨z, ?_, x, tc_parse h1 h e _⟩
  have := congrArg List.length e
  rw [List.length_map, txs, List.length_map] at this
  rw [this]
  exact h1.len
/-- words and signs with blanks between them are read -/
theorem tc_fine {w : Str} {t : Tr CL} {l : List Str} (h : TC w t l) : ∀ n, WC n t → ∀ s ∈ l, SS.Fine (tx s) := by
  have fw : ∀ {s : Str}, Wd s → SS.Fine (tx s) := fun h => .inr (.inr h)
  have fb : ∀ (c : Bool) {l : List Str}, (∀ s ∈ l, SS.Fine (tx s)) → ∀ s ∈ brS c l, SS.Fine (tx s) := fun c l hl s hs => by
    cases c with
    | false => exact hl s hs
    | true =>
      have hs : s ∈ ("(" : Str) :: (l ++ [(")" : Str)]) := hs
      rcases List.mem_cons.mp hs with rfl | hs
      · exact .inl (by decide +kernel)
      · rcases List.mem_append.mp hs with hs | hs
        · exact hl s hs
        · rw [List.mem_singleton.mp hs]
          exact .inr (.inl (by decide +kernel))
  induction h with
  | @leaf w d c hd =>
    intro n hw
    refine fb c fun s hs => ?_
    rw [List.mem_singleton.mp hs]
    exact fw (wd_kind fun _ _ => trivial)
  | @is w x c =>
    intro n hw
    refine fb c fun s hs => ?_
    cases hw with
    | nd ha hb hk =>
      rcases List.mem_cons.mp hs with rfl | hs
      · exact fw (by decide +kernel)
      · rw [List.mem_singleton.mp hs]
        exact fw (wd_nam ha.2)
  | @un w d k l c hd hk ih =>
    intro n hw
    refine fb c fun s hs => ?_
    cases hw with
    | nd ha hb hk =>
      rcases List.mem_cons.mp hs with rfl | hs
      · exact fw (wd_kind fun _ _ => trivial)
      · exact ih _ (hk k (by simp)) s hs
  | @cj w b k1 k2 l1 l2 c hn h1 h2 i1 i2 =>
    intro n hw
    refine fb c fun s hs => ?_
    cases hw with
    | nd ha hb hk =>
      rcases List.mem_append.mp hs with hs | hs
      · exact i1 _ (hk k1 (by simp)) s hs
      · rcases List.mem_cons.mp hs with rfl | hs
        · exact fw (wd_cj b)
        · exact i2 _ (hk k2 (by simp)) s hs
theorem kind_len (d : CL) : (kindS d).length ≤ 7 := by
  cases d with
  | look q => cases q <;> decide +kernel
  | conj b => cases b <;> decide +kernel
  | is x => exact (show ("is" : Str).length ≤ 7 by decide +kernel)
  | _ => decide +kernel
theorem tc_short {w : Str} {t : Tr CL} {l : List Str} (h : TC w t l) : ∀ n, WC n t → ∀ s ∈ l, s.length ≤ 7 := by
  have fb : ∀ (c : Bool) {l : List Str}, (∀ s ∈ l, s.length ≤ 7) → ∀ s ∈ brS c l, s.length ≤ 7 := fun c l hl s hs => by
    cases c with
    | false => exact hl s hs
    | true =>
      have hs : s ∈ ("(" : Str) :: (l ++ [(")" : Str)]) := hs
      rcases List.mem_cons.mp hs with rfl | hs
      · decide +kernel
      · rcases List.mem_append.mp hs with hs | hs
        · exact hl s hs
        · rw [List.mem_singleton.mp hs]
          decide +kernel
  induction h with
  | @leaf w d c hd =>
    intro n hw
    refine fb c fun s hs => ?_
    rw [List.mem_singleton.mp hs]
    exact kind_len _
  | @is w x c =>
    intro n hw
    refine fb c fun s hs => ?_
    cases hw with
    | nd ha hb hk =>
      rcases List.mem_cons.mp hs with rfl | hs
      · decide +kernel
      · rw [List.mem_singleton.mp hs]
        rcases ha.2 with rfl | rfl | rfl | rfl <;> decide +kernel
  | @un w d k l c hd hk ih =>
    intro n hw
    refine fb c fun s hs => ?_
    cases hw with
    | nd ha hb hk =>
      rcases List.mem_cons.mp hs with rfl | hs
      · exact kind_len _
      · exact ih _ (hk k (by simp)) s hs
  | @cj w b k1 k2 l1 l2 c hn h1 h2 i1 i2 =>
    intro n hw
    refine fb c fun s hs => ?_
    cases hw with
    | nd ha hb hk =>
      rcases List.mem_append.mp hs with hs | hs
      · exact i1 _ (hk k1 (by simp)) s hs
      · rcases List.mem_cons.mp hs with rfl | hs
        · exact kind_len (.conj b)
        · exact i2 _ (hk k2 (by simp)) s hs
theorem sum_bound {l : List Str} {b : Nat} (h : ∀ s ∈ l, s.length ≤ b) : (l.map (·.length)).sum ≤ b * l.length := by
  induction l with
  | nil => simp
  | cons a l ih =>
    rw [List.map_cons, List.sum_cons, List.length_cons, Nat.mul_succ]
    have := h a List.mem_cons_self
    have := ih fun s hs => h s (List.mem_cons_of_mem _ hs)
    omega
theorem fine_nobad {t : SS.Tx} (h : SS.Fine t) : SS.bad t = false := by
  rcases h with rfl | rfl | ⟨h1, h2⟩
  · decide
  · decide
  · cases e : SS.bad t with
    | false => rfl
    | true =>
      simp only [SS.bad, Bool.or_eq_true, beq_iff_eq] at e
      rcases e with ((h | h) | h) | h <;> rw [h] at h2 <;> exact absurd h2 (by decide)
theorem first_nobad : ∀ {ts : List SS.Tx}, (∀ t ∈ ts, SS.Fine t) → SS.firstBad ts = none
  | [], _ => rfl
  | t :: r, h => by
    unfold SS.firstBad
    rw [fine_nobad (h t List.mem_cons_self), if_neg (by decide), first_nobad fun x hx => h x (List.mem_cons_of_mem _ hx)]
    rfl
/-- tokens glued with blanks -/
structure Glued (ts : List SS.Tx) (pre : SS.Tx) (z : List (SS.Tx × SS.Tx)) : Prop where
  tok : z.map (·.1) = ts
  pre : SS.Blank pre
  bl : ∀ x ∈ z, SS.Blank x.2 ∧ x.2 ≠ []
theorem glued_lex {ts : List SS.Tx} {pre : SS.Tx} {z : List (SS.Tx × SS.Tx)} (g : Glued ts pre z) (h : ∀ t ∈ ts, SS.Fine t) : SS.Lex [40, 41] (pre ++ SS.glue z) 0 (SS.toks ts (SS.spots pre.length z) (pre ++ SS.glue z).length) none := by
  have hz : ∀ x ∈ z, SS.Blank x.2 ∧ x.2 ≠ [] ∧ (SS.Fine x.1 ∨ SS.bad x.1 = true) := fun x hx => ⟨(g.bl x hx).1, (g.bl x hx).2, .inl (h _ (by rw [← g.tok]; exact List.mem_map_of_mem hx))⟩
  have k := SS.lex_glue z pre.length hz
  rw [g.tok, first_nobad h] at k
  have k2 := SS.lex_blank (sg := [40, 41]) (by decide) (s := pre) (i := 0) g.pre (by rw [Nat.zero_add]; exact k)
  rw [List.length_append]
  exact k2
theorem noisy_parse {n : Nat} {t : Tr CL} {l : List Str} {pre : SS.Tx} {z : List (SS.Tx × SS.Tx)} (hw : WC n t) (h : TC "" t l) (g : Glued (txs l) pre z) : ∃ k : List Tk, k.length ≤ 5 * sz t ∧ SS.Lex [40, 41] (pre ++ SS.glue z) 0 (k ++ [([], (pre ++ SS.glue z).length)]) none ∧ rc (k ++ [([], (pre ++ SS.glue z).length)]) false g0 [] = .inl (cnD t) := by
  refine ⟨(txs l).zip (SS.spots pre.length z), ?_, ?_, ?_⟩
  · rw [List.length_zip]
    have := h.len
    rw [show (txs l).length = l.length from List.length_map _]
    omega
  · refine glued_lex g fun t ht => ?_
    obtain ⟨s, hs, rfl⟩ := List.mem_map.mp ht
    exact tc_fine h n hw s hs
  · refine tc_parse h hw ?_ _
    rw [List.map_fst_zip]
    rw [SS.spots_len, ← g.tok, List.length_map]
    exact Nat.le_refl _
end K45
namespace K45
open PySem PySem.Spec PyProof.Rows L2 SX DL FD MF TR
/-! ### the law prints -/
def sPr (n : Nat) : NB.SV := fun ds Φ => ∃ (t : Tr CL) (w : Str), ds = [cnD t, .str w] ∧ WC n t ∧ n ≤ 8 ∧ Φ (.str (prT t w))
theorem app_len (a b : Str) : (a ++ b).length = a.length + b.length := by rw [len_cd, cd_append, List.length_append, ← len_cd, ← len_cd]
section
variable [Tbs] {P : Program} {w : World} {K : PySem.W.Frag} {mg : Str → Option Value} {base : Heap}
theorem ok_lprint (T : Txt P K mg w) : ∀ n : Nat, FnOk P w K mg base CX0 (n + 1) T.a_law_print T.fd_law_print ["tree", "within"] (spOf K (pureS (sPr n))) := by
  intro n
  induction n with
  | zero =>
    refine ⟨fun vs H Q E h => ?_, fun A outer s H args us vs Q E hr e0 hb r h => ?_⟩
    all_goals
      obtain ⟨F, os, Φ, _, _, ⟨ds, _, c, _, _, h, _⟩, _⟩ := h
      cases h
  | succ n ih =>
    have G_law_print : FnOk P w K mg base CX0 (n + 1) T.a_law_print T.fd_law_print ["tree", "within"] (spOf K (pureS (sPr n))) := ih
    refine fnD T.F_law_print sc_law_print [] (k := n + 1) (fun cdv A outer s H E hr => ⟨_, (pss_cons (ps_if (pt_cmpR op_in_seq (pe_ix (show IxR _ (rIxT K) from ix_tup) (pv 0) pe_int (fun _ _ => rfl)) (pe_tup (pa_cons pe_str (pa_cons pe_str pa_nil))) rfl) (pss_one (ps_ret (pe_ix (show IxR _ (rIxT K) from ix_tup) (pv 0) pe_int (fun _ _ => rfl)))) pss_nil)
      (pss_cons (ps_if (pt_cmpR op_eq (pe_ix (show IxR _ (rIxT K) from ix_tup) (pv 0) pe_int (fun _ _ => rfl)) pe_str (nomark _)) (pss_one (ps_ret (pe_op op_add_str pe_str (pe_ix (show IxR _ (rIxT K) from ix_tup) (pv 0) pe_int (fun _ _ => rfl))))) pss_nil)
      (pss_cons (ps_if (pt_cmpR op_notIn_seq (pe_ix (show IxR _ (rIxT K) from ix_tup) (pv 0) pe_int (fun _ _ => rfl)) (pe_tup (pa_cons pe_str (pa_cons pe_str pa_nil))) rfl) (pss_one (ps_ret (pe_op op_add_str (pe_op op_add_str (pe_ix (show IxR _ (rIxT K) from ix_tup) (pv 0) pe_int (fun _ _ => rfl)) pe_str) (pe_call G_law_print (hr.mono (by omega)) (by rfl) T.g_law_print T.F_law_print.kp T.b_law_print .nil pass0 (pa_cons (pe_ix (show IxR _ (rIxT K) from ix_tup) (pv 0) pe_int (fun _ _ => rfl)) (pa_cons pe_str pa_nil)))))) pss_nil)
      (pss_cons (ps_set (i := 2) sc_law_print.nd rfl (by first | exact Or.inl rfl | exact Or.inr rfl) (pe_join (pe_op op_add_str (pe_op op_add_str pe_str (pe_ix (show IxR _ (rIxT K) from ix_tup) (pv 0) pe_int (fun _ _ => rfl))) pe_str) (pe_lc (own := [("part", 3)]) (g := gName 3) (by rfl) sc_law_print.nd  (pi_tup (pe_ix (show IxR _ (rIxT K) from ix_tup) (pv 0) pe_int (fun _ _ => rfl))) (blkOk_by (own := [("part", 3)]) (N := ["tree", "within", "text", "part"]) (sc := defScope s_law_print) (by decide +kernel)) (fun _ _ _ _ _ => (pg_name (i := 3) sc_law_print.nd rfl (by first | exact Or.inl rfl | exact Or.inr rfl))) (fun _ _ _ _ _ => pts_nil) (fun _ _ _ _ _ => (pe_call G_law_print (hr.mono (by omega)) (by rfl) T.g_law_print T.F_law_print.kp T.b_law_print .nil pass0 (pa_cons (pv 3) (pa_cons (pe_ix (show IxR _ (rIxT K) from ix_tup) (pv 0) pe_int (fun _ _ => rfl)) pa_nil)))))))
      (pss_one (ps_ret (pe_ifExp (PW.pt (pw_or (pt_cmpR op_eq (pv 1) pe_str (nomark _)) (pw_or1 (PW.pt (pw_and (pt_cmpR op_eq (pv 1) pe_str (nomark _)) (pw_and1 (pt_cmpR op_eq (pe_ix (show IxR _ (rIxT K) from ix_tup) (pv 0) pe_int (fun _ _ => rfl)) pe_str (nomark _)))))))) (pe_op op_add_str (pe_op op_add_str pe_str (pv 2)) pe_str) (pv 2)))))))), (rs_seq (rs_if (rt_test (re_op ro_in (re_op ro_ixT (re_var 0) re_int) (re_tup (rv_cons re_str (rv_cons re_str rv_nil))))) (rs_ret (re_op ro_ixT (re_var 0) re_int)) rs_next)
      (rs_seq (rs_if (rt_test (re_op ro_eq (re_op ro_ixT (re_var 0) re_int) re_str)) (rs_ret (re_op ro_catS re_str (re_op ro_ixT (re_var 0) re_int))) rs_next)
      (rs_seq (rs_if (rt_test (re_op ro_in (re_op ro_ixT (re_var 0) re_int) (re_tup (rv_cons re_str (rv_cons re_str rv_nil))))) (rs_ret (re_op ro_catS (re_op ro_catS (re_op ro_ixT (re_var 0) re_int) re_str) (re_callV (rv_cons (re_op ro_ixT (re_var 0) re_int) (rv_cons re_str rv_nil))))) rs_next)
      (rs_seq (rs_asg (DT.re_join (re_op ro_catS (re_op ro_catS re_str (re_op ro_ixT (re_var 0) re_int)) re_str) (RL.re (rl_lc (ri_tup (re_op ro_ixT (re_var 0) re_int)) rg_name rt_yes (re_callV (rv_cons (re_var 3) (rv_cons (re_op ro_ixT (re_var 0) re_int) rv_nil)))))) rg_name)
      (rs_ret (re_if (rt_or (rt_test (re_op ro_eq (re_var 1) re_str)) (rt_and (rt_test (re_op ro_eq (re_var 1) re_str)) (rt_test (re_op ro_eq (re_op ro_ixT (re_var 0) re_int) re_str)))) (re_op ro_catS (re_op ro_catS re_str (re_var 2)) re_str) (re_var 2)))))))⟩) (pure_len fun ds Φ h => ?_) (fun os Φ h => ?_)
    · obtain ⟨t, w', rfl, _⟩ := h
      rfl
    · obtain ⟨ds, rfl, t, w', rfl, hw, hn, hΦ⟩ := h
      have hsz := hw.sz
      have hp : 2 ^ (n + 1) ≤ 2 ^ 8 := Nat.pow_le_pow_right (by decide) hn
      have hlen := pr_len hw w'
      cases hw with
      | @nd n d ks ha hb hk =>
        simp only [cn_nd, prT_nd] at hΦ hlen ⊢
        cases d with
        | all => cases List.length_eq_zero_iff.mp ha; simp (decide := true) [wrap]; simpa [wrap, prF] using hΦ
        | none => cases List.length_eq_zero_iff.mp ha; simp (decide := true) [wrap]; simpa [wrap, prF] using hΦ
        | is x =>
          cases List.length_eq_zero_iff.mp ha.1
          simp (decide := true) [wrap]
          have : x.length ≤ 2 := by rcases ha.2 with rfl | rfl | rfl | rfl <;> decide +kernel
          have e : ("is " : Str).length = 3 := by decide +kernel
          simp [wrap, prF] at hΦ
          exact ⟨by omega, hΦ⟩
        | not =>
          match ks, ha, hk, hΦ, hlen with
          | [k], _, hk, hΦ, hlen =>
            have i1 := pr_len (hk k (by simp)) "word"
            have i2 := (hk k (by simp)).sz
            have hpn : 2 ^ n ≤ 2 ^ 8 := Nat.pow_le_pow_right (by decide) (by omega)
            have e : ("not" : Str).length = 3 := by decide +kernel
            have e2 : (" " : Str).length = 1 := by decide +kernel
            simp (decide := true) [wrap]
            refine ⟨k, "word", rfl, hk k (by simp), by omega, ?_⟩
            simp [app_len]
            exact ⟨by omega, hΦ⟩
        | look q =>
          match ks, ha, hk, hΦ, hlen with
          | [k], _, hk, hΦ, hlen =>
            have i1 := pr_len (hk k (by simp)) "word"
            have i2 := (hk k (by simp)).sz
            have hpn : 2 ^ n ≤ 2 ^ 8 := Nat.pow_le_pow_right (by decide) (by omega)
            have e : (lkS q).length ≤ 7 := by cases q <;> decide +kernel
            have e2 : (" " : Str).length = 1 := by decide +kernel
            cases q <;>
              (simp (decide := true) [wrap, lkS]
               unfold lkS at e
               dsimp only at e
               refine ⟨k, "word", rfl, hk k (by simp), by omega, ?_⟩
               simp [app_len]
               exact ⟨by omega, hΦ⟩)
        | conj b =>
          match ks, ha, hk, hΦ, hlen with
          | [k1, k2], _, hk, hΦ, hlen =>
            have i1 := pr_len (hk k1 (by simp)) (cjS b)
            have i2 := (hk k1 (by simp)).sz
            have j1 := pr_len (hk k2 (by simp)) (cjS b)
            have j2 := (hk k2 (by simp)).sz
            have hpn : 2 ^ n ≤ 2 ^ 8 := Nat.pow_le_pow_right (by decide) (by omega)
            have eg : (" " ++ cjS b ++ " " : Str).length ≤ 5 := by cases b <;> decide +kernel
            have eo : ("(" : Str).length = 1 := by decide +kernel
            have ec : (")" : Str).length = 1 := by decide +kernel
            have hj : (Txt.join (" " ++ cjS b ++ " ") [prT k1 (cjS b), prT k2 (cjS b)]).length ≤ 20 * sz k1 + 20 * sz k2 + 5 := by
              rw [join2, app_len, app_len]
              omega
            have lp : ∀ (Ω : List D → DL.Env → Prop), Ω [.str (prT k1 (cjS b)), .str (prT k2 (cjS b))] [some (.d (.tup [.str (cjS b), .tup [cnD k1, cnD k2]])), some (.d (.str w')), none, none] →
                dLc (dIT (dOp oIxT (dVar 0) (dC (D.int 1)))) (dName 3) dYes (dCallV (sPr n) (dCons (dVar 3) (dCons (dOp oIxT (dVar 0) (dC (D.int 0))) dNil))) [3]
                  [some (.d (.tup [.str (cjS b), .tup [cnD k1, cnD k2]])), some (.d (.str w')), none, none] Ω := by
              intro Ω h
              refine lc_z [cnD k1, cnD k2] [.str (prT k1 (cjS b)), .str (prT k2 (cjS b))] [some (.d (.tup [.str (cjS b), .tup [cnD k1, cnD k2]])), some (.d (.str w')), none, none] [some (.d (.tup [.str (cjS b), .tup [cnD k1, cnD k2]])), some (.d (.str w')), none, none] (fun Ψ q => ?_) rfl (by simp) rfl ?_ ?_
              · simp
                exact q
              · intro j x e hx he A hA
                match j, hx, he with
                | 0, hx, he =>
                  cases hx
                  cases he
                  simp
                  exact ⟨k1, cjS b, rfl, hk k1 (by simp), by omega, hA _ rfl⟩
                | 1, hx, he =>
                  cases hx
                  cases he
                  simp
                  exact ⟨k2, cjS b, rfl, hk k2 (by simp), by omega, hA _ rfl⟩
              · simp
                exact h
            have hΦ' : Φ (.str (if need w' (.conj b) = true then "(" ++ Txt.join (" " ++ cjS b ++ " ") [prT k1 (cjS b), prT k2 (cjS b)] ++ ")" else Txt.join (" " ++ cjS b ++ " ") [prT k1 (cjS b), prT k2 (cjS b)])) [.d (.tup [.str (cjS b), .tup [cnD k1, cnD k2]]), .d (.str w')] := hΦ
            clear hΦ hlen
            have sj : ∃ x, [D.str (prT k1 (cjS b)), D.str (prT k2 (cjS b))] = List.map D.str x ∧ (List.map (fun x => x.length) x).sum + x.length * (" " ++ cjS b ++ " " : Str).length ≤ 16777216 ∧ x = [prT k1 (cjS b), prT k2 (cjS b)] := ⟨_, rfl, by simp; omega, rfl⟩
            obtain ⟨x, x1, x2, rfl⟩ := sj
            have cF : cjS false = "or" := rfl
            have cT : cjS true = "and" := rfl
            cases b <;>
              (simp only [cF, cT] at hΦ' lp x1 x2 hj
               simp (decide := true) [wrap]
               refine lp _ ⟨_, x1, x2, ?_⟩
               simp (decide := true)
               generalize Txt.join _ _ = z at hΦ' hj ⊢
               have bb : z.length + 2 ≤ 16777216 := by omega
               by_cases h1 : w' = "word"
               · simp (decide := true) [need, h1] at hΦ' ⊢
                 exact ⟨by omega, by rw [app_len]; omega, hΦ'⟩
               · by_cases h2 : w' = "and"
                 · simp (decide := true) [need, h2] at hΦ' ⊢
                   first | exact hΦ' | exact ⟨by omega, by rw [app_len]; omega, hΦ'⟩
                 · simp (decide := true) [need, h1, h2] at hΦ' ⊢
                   exact hΦ')
end
end K45
namespace K45
open PySem PySem.Spec PyProof.Rows L2 SX DL FD MF TR
/-! ### the law's texts -/
def sText : SD := fun os Φ => ∃ l : List Str, os = [.draw, .d (.lst (l.map .str))] ∧ (l.map (·.length)).sum + 3 * l.length ≤ 100000 ∧
  ∀ pre z, Glued (txs l) pre z → (pre ++ SS.glue z).length ≤ 200000 → Φ (.tup [.str (sx (pre ++ SS.glue z)), .lst ((SS.spots pre.length z).map fun n => .int (n : Nat))]) [.draw, .d (.lst (l.map .str))]
theorem blank_sep (r : Nat) (hr : r < 3) : ∃ g : Str, ([.str " ", .str "\n", .str "  "] : List D)[r]? = some (.str g) ∧ SS.Blank (cd g) ∧ cd g ≠ [] ∧ (cd g).length ≤ 2 := by
  have e1 : cd (" " : Str) = [32] := by decide +kernel
  have e2 : cd ("\n" : Str) = [10] := by decide +kernel
  have e3 : cd ("  " : Str) = [32, 32] := by decide +kernel
  match r, hr with
  | 0, _ => exact ⟨_, rfl, by rw [e1]; exact ⟨fun c hc => by simp at hc; exact .inl hc, by decide, by decide⟩⟩
  | 1, _ => exact ⟨_, rfl, by rw [e2]; exact ⟨fun c hc => by simp at hc; exact .inr hc, by decide, by decide⟩⟩
  | 2, _ => exact ⟨_, rfl, by rw [e3]; exact ⟨fun c hc => by simp at hc; exact .inl hc, by decide, by decide⟩⟩
theorem blank_pre (r : Nat) (hr : r < 2) : ∃ g : Str, ([.str "", .str " "] : List D)[r]? = some (.str g) ∧ SS.Blank (cd g) ∧ (cd g).length ≤ 1 := by
  have e1 : cd ("" : Str) = [] := by decide +kernel
  have e2 : cd (" " : Str) = [32] := by decide +kernel
  match r, hr with
  | 0, _ => exact ⟨_, rfl, by rw [e1]; exact ⟨fun c hc => (nomatch hc), by decide⟩⟩
  | 1, _ => exact ⟨_, rfl, by rw [e2]; exact ⟨fun c hc => by simp at hc; exact .inl hc, by decide⟩⟩
theorem sx_cd (s : Str) : sx (cd s) = s := rfl
theorem sx_len (t : List Nat) : (sx t).length = t.length := len_mk t
theorem sx_app (t : List Nat) (s : Str) : sx t ++ s = sx (t ++ cd s) := by
  refine cd_inj ?_
  rw [cd_append]
  show cd ⟨t.toArray⟩ ++ cd s = cd ⟨(t ++ cd s).toArray⟩
  rw [cd_mk, cd_mk]
theorem sum_take {l : List Nat} (k : Nat) : (l.take k).sum ≤ l.sum := by
  have := congrArg List.sum (List.take_append_drop k l)
  rw [List.sum_append] at this
  omega
section
variable [Tbs] {P : Program} {w : World} {K : PySem.W.Frag} {mg : Str → Option Value} {base : Heap}
theorem ok_text (T : Txt P K mg w) : FnOk P w K mg base CX0 2 T.a_law_text T.fd_law_text ["draw", "tokens"] (spOf K sText) := by
  have G_law_next : FnOk P w K mg base CX0 1 T.a_law_next T.fd_law_next ["draw", "many"] (spOf K sNext) := ok_nextD T
  refine fnD T.F_law_text sc_law_text [0] (k := 1) (fun cdv A outer s H E hr => ⟨_, (pss_cons (ps_set (i := 2) sc_law_text.nd rfl (by first | exact Or.inl rfl | exact Or.inr rfl) (pe_ix (show IxR _ (rIxL K) from ix_list) (pe_lst (pa_cons pe_str (pa_cons pe_str pa_nil))) (pe_call G_law_next (hr.mono (by omega)) (by rfl) T.g_law_next T.F_law_next.kp T.b_law_next .nil pass0 (pa_cons (pv 0) (pa_cons pe_int pa_nil))) (fun _ _ => rfl)))
      (pss_cons (ps_set (i := 3) sc_law_text.nd rfl (by first | exact Or.inl rfl | exact Or.inr rfl) (pe_lst pa_nil))
      (pss_cons (ps_for PassesOwn.never rfl (pi_list (pv 1)) (pg_name (i := 4) sc_law_text.nd rfl (by first | exact Or.inl rfl | exact Or.inr rfl)) (pss_cons (ps_expr (pe_bm PySem.F.plainAttrs_list PySem.F.slot_list_append PySem.F.type_list_append mt_append (pv 3) (pa_cons (pe_callB call_len (by rfl) T.n_len boot_len (pa_cons (pv 2) pa_nil)) pa_nil)))
      (pss_one (ps_set (i := 2) sc_law_text.nd rfl (by first | exact Or.inl rfl | exact Or.inr rfl) (pe_op op_add_str (pe_op op_add_str (pv 2) (pv 4)) (pe_ix (show IxR _ (rIxL K) from ix_list) (pe_lst (pa_cons pe_str (pa_cons pe_str (pa_cons pe_str pa_nil)))) (pe_call G_law_next (hr.mono (by omega)) (by rfl) T.g_law_next T.F_law_next.kp T.b_law_next .nil pass0 (pa_cons (pv 0) (pa_cons pe_int pa_nil))) (fun _ _ => rfl)))))))
      (pss_one (ps_ret (pe_tup (pa_cons (pv 2) (pa_cons (pv 3) pa_nil)))))))), (rs_seq (rs_asg (re_op ro_ixL (RL.re (rl_lst (rv_cons re_str (rv_cons re_str rv_nil)))) (re_call (ra_slot (i := 0) (ra_cons re_int ra_nil)))) rg_name)
      (rs_seq (rs_setL (rl_lst rv_nil))
      (rs_seq (rs_for (ri_list (re_var 1)) rg_name (rs_seq (rs_app (i := 3) (re_cb rc_len (rv_cons (re_var 2) rv_nil)))
      (rs_asg (re_op ro_catS (re_op ro_catS (re_var 2) (re_var 4)) (re_op ro_ixL (RL.re (rl_lst (rv_cons re_str (rv_cons re_str (rv_cons re_str rv_nil))))) (re_call (ra_slot (i := 0) (ra_cons re_int ra_nil))))) rg_name)))
      (rs_ret (re_tup (rv_cons (re_var 2) (rv_cons (re_var 3) rv_nil)))))))⟩) (draw_len fun os Φ h => ?_) (fun os Φ h => ?_)
  · obtain ⟨l, rfl, _⟩ := h
    exact ⟨[_], rfl, rfl⟩
  · obtain ⟨l, rfl, hl, hΦ⟩ := h
    simp
    refine ⟨2, rfl, by decide, by decide, fun r hr => ?_⟩
    obtain ⟨g0, hg0, hb0, hl0⟩ := blank_pre r hr
    simp [hg0]
    refine for_inv (l.map .str) [some .draw, some (.d (.lst (l.map .str))), some (.d (.str g0)), some (.l []), none] (fun j ρ => ∃ (z : List (SS.Tx × SS.Tx)) (o4 : Option OV), ρ = [some .draw, some (.d (.lst (l.map .str))), some (.d (.str (sx (cd g0 ++ SS.glue z)))), some (.l ((SS.spots (cd g0).length z).map fun n => .int (n : Nat))), o4] ∧ z.map (·.1) = txs (l.take j) ∧ (∀ x ∈ z, SS.Blank x.2 ∧ x.2 ≠ []) ∧
      (cd g0 ++ SS.glue z).length ≤ 1 + ((l.map (·.length)).take j).sum + 2 * j) (fun Ψ q => ?_) ⟨[], none, ?_, rfl, fun x h => (nomatch h), ?_⟩ ?_ ?_
    · simp
      exact q
    · rw [show SS.glue [] = [] from rfl, List.append_nil, sx_cd]
      rfl
    · rw [show SS.glue [] = [] from rfl, List.append_nil]
      omega
    · rintro j x ρ hx ⟨z, o4, rfl, hz, hb, hle⟩
      rw [List.getElem?_map] at hx
      obtain ⟨t, ht, rfl⟩ := Option.map_eq_some_iff.mp hx
      have hj := (List.getElem?_eq_some_iff.mp ht).1
      have st := sum_take (l := l.map (·.length)) (j + 1)
      have e1 : (l.map (·.length)).take (j + 1) = (l.map (·.length)).take j ++ [t.length] := by rw [List.take_add_one, List.getElem?_map, ht]; rfl
      rw [e1, List.sum_append, List.sum_singleton] at st
      have zl : z.length = j := by
        have := congrArg List.length hz
        rw [List.length_map, txs, List.length_map, List.length_take] at this
        omega
      have zs := SS.spots_len z g0.cps.size
      simp [sx_len]
      refine ⟨by simp at hle; omega, by rw [zs]; omega, by simp at hle; omega, 3, rfl, by decide, by decide, fun r hr => ?_⟩
      obtain ⟨g, hg, hgb, hgn, hgl⟩ := blank_sep r hr
      simp [hg, app_len, sx_len]
      have gl : g.length ≤ 2 := by rw [len_cd]; exact hgl
      refine ⟨by simp at hle; omega, z ++ [(tx t, cd g)], ⟨?_, ?_⟩, ?_, ?_, ?_⟩
      · rw [sx_app, sx_app, SS.glue_snoc]
        simp [tx]
      · rw [SS.spots_snoc]
        simp
      · have e2 : l.take (j + 1) = l.take j ++ [t] := by rw [List.take_add_one, ht]; rfl
        have e3 : z.map (fun x => x.1) = txs (l.take j) := hz
        rw [e2, txs_app, List.map_append, e3]
        rfl
      · intro a b h
        rcases List.mem_append.mp h with h | h
        · exact hb _ h
        · cases List.mem_singleton.mp h
          exact ⟨hgb, hgn⟩
      · rw [SS.glue_snoc, e1, List.sum_append, List.sum_singleton]
        simp at hle ⊢
        have : t.length = (cd t).length := len_cd t
        simp [tx] at this ⊢ hgl
        omega
    · rintro ρ ⟨z, o4, rfl, hz, hb, hle⟩
      rw [List.length_map, List.take_length] at hz
      simp
      refine hΦ _ z ⟨hz, hb0, hb⟩ ?_
      rw [List.length_map] at hle
      have := sum_take (l := l.map (·.length)) l.length
      omega
end
end K45
namespace K45
open PySem PySem.Spec PyProof.Rows L2 SX DL FD MF TR
/-! ### groups as cells -/
/-- what a change of the cells fp may do: fp' are cells of fp or new ones, and other cells stay -/
structure Ch (M : HC.Cells) (fp : List Addr) (M' : HC.Cells) (fp' : List Addr) : Prop where
  sub : ∀ q ∈ fp', q ∈ fp ∨ HC.look M q = none
  keep : ∀ q, HC.look M q ≠ none → q ∉ fp → HC.look M' q = HC.look M q
structure GrpAt (C : Addr) (M : HC.Cells) (g : Addr) (G : Grp) (fp : List Addr) : Prop where
  ex : ∃ t w cl cds, fp = g :: t :: w :: cl :: cds ∧ HC.look M g = some (.o C [("terms", .fn t), ("words", .fn w)]) ∧ HC.look M t = some (.l ((cds ++ [cl]).map .fn)) ∧ HC.look M w = some (.l (G.ws.map .str)) ∧ HC.look M cl = some (.l G.cur) ∧
    cds.length = G.done.length ∧ ∀ (k : Nat) c ds, cds[k]? = some c → G.done[k]? = some ds → HC.look M c = some (.l ds)
  nd : fp.Nodup
theorem GrpAt.some {C : Addr} {M : HC.Cells} {g : Addr} {G : Grp} {fp : List Addr} (h : GrpAt C M g G fp) : ∀ q ∈ fp, HC.look M q ≠ none := by
  obtain ⟨t, w, cl, cds, rfl, e1, e2, e3, e4, hl, e5⟩ := h.ex
  intro q hq
  rcases List.mem_cons.mp hq with rfl | hq
  · rw [e1]; exact fun z => (by cases z)
  rcases List.mem_cons.mp hq with rfl | hq
  · rw [e2]; exact fun z => (by cases z)
  rcases List.mem_cons.mp hq with rfl | hq
  · rw [e3]; exact fun z => (by cases z)
  rcases List.mem_cons.mp hq with rfl | hq
  · rw [e4]; exact fun z => (by cases z)
  · obtain ⟨k, hk, rfl⟩ := List.mem_iff_getElem.mp hq
    rw [e5 k _ _ (List.getElem?_eq_getElem hk) (List.getElem?_eq_getElem (by omega))]
    exact fun z => (by cases z)
theorem GrpAt.up {C : Addr} {M M' : HC.Cells} {g : Addr} {G : Grp} {fp : List Addr} (h : GrpAt C M g G fp) (k : ∀ q ∈ fp, HC.look M' q = HC.look M q) : GrpAt C M' g G fp := by
  refine ⟨?_, h.nd⟩
  obtain ⟨t, w, cl, cds, rfl, e1, e2, e3, e4, hl, e5⟩ := h.ex
  refine ⟨t, w, cl, cds, rfl, (k _ (by simp)).trans e1, (k _ (by simp)).trans e2, (k _ (by simp)).trans e3, (k _ (by simp)).trans e4, hl, fun j c ds h1 h2 => (k c ?_).trans (e5 j c ds h1 h2)⟩
  have := List.mem_of_getElem? h1
  simp [this]
theorem look_ne {q p : Addr} {c : HC.Cell} {M : HC.Cells} (h : q ≠ p) : HC.look ((q, c) :: M) p = HC.look M p := by rw [HC.look_cons, if_neg h]
theorem look_eq {p : Addr} {c : HC.Cell} {M : HC.Cells} : HC.look ((p, c) :: M) p = some c := by rw [HC.look_cons, if_pos rfl]
theorem none_cons {q p : Addr} {c : HC.Cell} {M : HC.Cells} (h : HC.look ((q, c) :: M) p = none) : q ≠ p ∧ HC.look M p = none := by
  rw [HC.look_cons] at h
  by_cases e : q = p
  · rw [if_pos e] at h; cases h
  · rw [if_neg e] at h; exact ⟨e, h⟩
theorem put_none' {q p : Addr} {c d : HC.Cell} {M : HC.Cells} (hq : HC.look M q = some d) (h : HC.look (HC.put M q c) p = none) : q ≠ p ∧ HC.look M p = none := by
  rw [HC.look_putI hq] at h
  by_cases e : p = q
  · rw [if_pos e] at h; cases h
  · rw [if_neg e] at h; exact ⟨Ne.symm e, h⟩
theorem ne_of {q p : Addr} {c : HC.Cell} {M : HC.Cells} (h : HC.look M q = some c) (h2 : HC.look M p = none) : q ≠ p := fun e => by rw [e, h2] at h; cases h
theorem atI_last {α : Type} (l : List α) (x : α) : atI (l ++ [x]) (-1) = some x := by
  unfold atI ixN
  simp
  rw [if_pos (by omega)]
  simp
  rw [List.getElem?_append_right (by omega)]
  rw [show (-1 + ((l.length : Int) + 1)).toNat - l.length = 0 by omega]
  rfl
def sGI (C : Addr) : HC.SC := fun ds M Φ => ∃ p, ds = [.fn p] ∧ HC.look M p = some (.o C []) ∧ ∀ M' fp, GrpAt C M' p g0 fp → Ch M [p] M' fp → Φ .non M'
def sTW (C : Addr) : HC.SC := fun ds M Φ => ∃ g w G fp, ds = [.fn g, .str w] ∧ GrpAt C M g G fp ∧ G.ws.length < 1000000 ∧ ∀ M', GrpAt C M' g (G.word w) fp → Ch M fp M' fp → Φ .non M'
def sTF (C : Addr) : HC.SC := fun ds M Φ => ∃ g d G fp, ds = [.fn g, d] ∧ GrpAt C M g G fp ∧ G.cur.length < 1000000 ∧ ∀ M', GrpAt C M' g (G.take d) fp → Ch M fp M' fp → Φ .non M'
def sBT (C : Addr) : HC.SC := fun ds M Φ => ∃ g G fp, ds = [.fn g] ∧ GrpAt C M g G fp ∧ G.done.length < 1000000 ∧ ∀ M' fp', GrpAt C M' g G.next fp' → Ch M fp M' fp' → Φ .non M'
section
variable [I : Tbs] {P : Program} {w : World} {K : PySem.W.Frag} {mg : Str → Option Value} {base : Heap}
theorem ok_ginit (T : Txt P K mg w) : FnOk P w K mg base CX0 1 T.a_Group___init__ T.fd_Group___init__ ["self"] (HC.spH K (sGI T.C_Group)) := by
  refine HC.fnC T.F_Group___init__ sc_Group___init__ (k := 0) (fun cdv A outer s H E hr => ⟨_, (pss_cons (ps_asg (pe_lst (pa_cons (pe_lst pa_nil) pa_nil)) (SX.pg_fld (pv 0)))
      (pss_one (ps_asg (pe_lst pa_nil) (SX.pg_fld (pv 0))))), (HC.xs_seq (HC.xs_asg (HC.XL.ce (HC.xl_lst (HC.xv_cons (HC.XL.ce (HC.xl_lst HC.xv_nil)) HC.xv_nil))) (HC.xg_fld T.cl_Group T.n_Group_terms (HC.xe_raw 0)))
      (HC.xs_asg (HC.XL.ce (HC.xl_lst HC.xv_nil)) (HC.xg_fld T.cl_Group T.n_Group_words (HC.xe_raw 0))))⟩) (fun ds M Φ h => ?_) (fun ds M Φ h => ?_)
  · obtain ⟨p, rfl, _⟩ := h
    rfl
  · obtain ⟨p, rfl, hp, hΦ⟩ := h
    simp [-HC.put_cons, -HC.look_cons]
    intro q1 h1 q2 h2
    obtain ⟨n12, h2'⟩ := none_cons h2
    have np1 := ne_of hp h1
    have np2 := ne_of hp h2'
    generalize hM1 : (q2, HC.Cell.l [D.fn q1]) :: (q1, HC.Cell.l []) :: M = M1
    have e1 : HC.look M1 p = some (.o T.C_Group []) := by rw [← hM1, look_ne np2.symm, look_ne np1.symm, hp]
    refine ⟨_, e1, by decide, by decide, ?_⟩
    intro q3 h3
    obtain ⟨np3, h3'⟩ := put_none' e1 h3
    rw [← hM1] at h3'
    obtain ⟨n23, h3'⟩ := none_cons h3'
    obtain ⟨n13, h3'⟩ := none_cons h3'
    generalize hM2 : HC.put M1 p _ = M2 at h3 ⊢
    have e2 : HC.look ((q3, HC.Cell.l []) :: M2) p = some (.o T.C_Group [("terms", .fn q2)]) := by
      rw [look_ne np3.symm, ← hM2, HC.look_self e1]
      rfl
    refine ⟨_, e2, (show [("terms" : Str)].Nodup by decide +kernel), by simp, _, HC.Fewer.refl _, ?_⟩
    have kp : ∀ q, q ≠ p → q ≠ q1 → q ≠ q2 → q ≠ q3 → HC.look (HC.put ((q3, HC.Cell.l []) :: M2) p (HC.Cell.o T.C_Group (putD [("terms", D.fn q2)] ("words" : Str) (D.fn q3)))) q = HC.look M q := fun q a b c d => by
      rw [HC.look_other e2 a, look_ne d.symm, ← hM2, HC.look_other e1 a, ← hM1, look_ne c.symm, look_ne b.symm]
    refine hΦ _ [p, q2, q3, q1] ⟨⟨q2, q3, q1, [], rfl, ?_, ?_, ?_, ?_, rfl, fun k c ds h => by cases h⟩, ?_⟩ ⟨?_, ?_⟩
    · rw [HC.look_self e2]
      rfl
    · rw [HC.look_other e2 np2.symm, look_ne n23.symm, ← hM2, HC.look_other e1 np2.symm, ← hM1, look_eq]
      rfl
    · rw [HC.look_other e2 np3.symm, look_eq]
      rfl
    · rw [HC.look_other e2 np1.symm, look_ne n13.symm, ← hM2, HC.look_other e1 np1.symm, ← hM1, look_ne n12.symm, look_eq]
      rfl
    · simp [np1, np2, np3, n12.symm, n23, n13.symm]
    · intro q hq
      simp at hq
      rcases hq with rfl | rfl | rfl | rfl
      · exact .inl (by simp)
      · exact .inr h2'
      · exact .inr h3'
      · exact .inr h1
    · intro q hq hn
      exact kp q (fun e => hn (by simp [e])) (fun e => hq (by rw [e]; exact h1)) (fun e => hq (by rw [e]; exact h2')) (fun e => hq (by rw [e]; exact h3'))
theorem ok_gword (T : Txt P K mg w) : FnOk P w K mg base CX0 1 T.a_Group_take_word T.fd_Group_take_word ["self", "word"] (HC.spH K (sTW T.C_Group)) := by
  refine HC.fnC T.F_Group_take_word sc_Group_take_word (k := 0) (fun cdv A outer s H E hr => ⟨_, (pss_one (ps_expr (pe_bm PySem.F.plainAttrs_list PySem.F.slot_list_append PySem.F.type_list_append mt_append (pe_fld (pv 0) rfl) (pa_cons (pv 1) pa_nil)))), (HC.xs_app (HC.xe_fld T.cl_Group T.n_Group_words (HC.xe_raw 0)) (HC.xe_raw 1))⟩) (fun ds M Φ h => ?_) (fun ds M Φ h => ?_)
  · obtain ⟨g, w, G, fp, rfl, _⟩ := h
    rfl
  · obtain ⟨g, w, G, fp, rfl, hG, hw, hΦ⟩ := h
    have nd := hG.nd
    obtain ⟨t, w', cl, cds, rfl, e1, e2, e3, e4, hl, e5⟩ := hG.ex
    simp at nd
    obtain ⟨⟨g1, g2, g3, g4⟩, ⟨t1, t2, t3⟩, ⟨w1, w2⟩, c1, c2⟩ := nd
    simp [-HC.put_cons, -HC.look_cons, e1, e3]
    refine ⟨_, rfl, ⟨_, by rw [HC.lstOf_f, e3]; rfl⟩, _, rfl, _, e3, by simp; omega, _, HC.Fewer.refl _, ?_⟩
    refine hΦ _ ⟨⟨t, w', cl, cds, rfl, ?_, ?_, ?_, ?_, hl, fun k c ds h1 h2 => ?_⟩, hG.nd⟩ ⟨fun q hq => .inl hq, fun q hq hn => ?_⟩
    · rw [HC.look_other e3 g2, e1]
    · rw [HC.look_other e3 t1, e2]
    · rw [HC.look_self e3]
      simp [Grp.word]
    · rw [HC.look_other e3 (Ne.symm w1), e4]
      rfl
    · have : c ≠ w' := fun e => w2 (by rw [← e]; exact List.mem_of_getElem? h1)
      rw [HC.look_other e3 this]
      exact e5 k c ds h1 h2
    · exact HC.look_other e3 (fun e => hn (by simp [e]))
theorem ok_gfactor (T : Txt P K mg w) : FnOk P w K mg base CX0 1 T.a_Group_take_factor T.fd_Group_take_factor ["self", "factor"] (HC.spH K (sTF T.C_Group)) := by
  refine HC.fnC T.F_Group_take_factor sc_Group_take_factor (k := 0) (fun cdv A outer s H E hr => ⟨_, (pss_cons (ps_while PassesOwn.never (pt_truth (pe_fld (pv 0) rfl) (by intro _; rfl)) (pss_one (ps_set (i := 1) sc_Group_take_factor.nd rfl (by first | exact Or.inl rfl | exact Or.inr rfl) (pe_tup (pa_cons (pe_bm0 PySem.F.plainAttrs_list PySem.F.slot_list_pop PySem.F.type_list_pop mt_pop (pe_fld (pv 0) rfl)) (pa_cons (pv 1) pa_nil))))))
      (pss_one (ps_expr (pe_bm PySem.F.plainAttrs_list PySem.F.slot_list_append PySem.F.type_list_append mt_append (pe_ix (show IxR _ (rIxL K) from ix_list) (pe_fld (pv 0) rfl) (pe_un un_neg pe_int) (fun _ _ => rfl)) (pa_cons (pv 1) pa_nil))))), (HC.xs_seq (HC.xs_while (HC.xt_truth (HC.xe_fld T.cl_Group T.n_Group_words (HC.xe_raw 0))) (HC.xs_asg (HC.xe_tup (HC.xv_cons (HC.xe_pop (HC.xe_fld T.cl_Group T.n_Group_words (HC.xe_raw 0))) (HC.xv_cons (HC.xe_raw 1) HC.xv_nil))) HC.xg_name))
      (HC.xs_app (HC.xe_ixL (HC.xe_fld T.cl_Group T.n_Group_terms (HC.xe_raw 0)) (HC.xe_neg HC.xe_int)) (HC.xe_raw 1)))⟩) (fun ds M Φ h => ?_) (fun ds M Φ h => ?_)
  · obtain ⟨g, d, G, fp, rfl, _⟩ := h
    rfl
  · obtain ⟨g, d, G, fp, rfl, hG, hw, hΦ⟩ := h
    have nd := hG.nd
    obtain ⟨t, w', cl, cds, rfl, e1, e2, e3, e4, hl, e5⟩ := hG.ex
    simp at nd
    obtain ⟨⟨g1, g2, g3, g4⟩, ⟨t1, t2, t3⟩, ⟨w1, w2⟩, c1, c2⟩ := nd
    simp [-HC.put_cons, -HC.look_cons]
    refine HC.while_inv (fun m ρ M1 => ∃ d', ρ = [some (.fn g), some d'] ∧ m ≤ G.ws.length ∧ wd (G.ws.take m) d' = wd G.ws d ∧ HC.look M1 w' = some (.l ((G.ws.take m).map .str)) ∧ ∀ q, q ≠ w' → HC.look M1 q = HC.look M q) ⟨G.ws.length, d, rfl, Nat.le_refl _, by rw [List.take_length], by rw [List.take_length]; exact e3, fun q _ => rfl⟩ ?_
    rintro m ρ M1 ⟨d', rfl, hm, hd, ew, kp⟩
    have f1 := (kp g g2).trans e1
    simp [-HC.put_cons, -HC.look_cons, f1]
    refine ⟨_, rfl, ?_⟩
    cases m with
    | zero =>
      simp [-HC.put_cons, -HC.look_cons, ew, f1]
      have f2 := (kp t t1).trans e2
      have f4 := (kp cl (Ne.symm w1)).trans e4
      have at1 : atI ((cds ++ [cl]).map D.fn) (-1) = some (.fn cl) := by
        rw [List.map_append]
        exact atI_last _ _
      refine .inl ⟨_, rfl, (cds ++ [cl]).map .fn, by rw [HC.lstOf_f, f2]; rfl, .fn cl, at1, ⟨_, by rw [HC.lstOf_f, f4]; rfl⟩, cl, rfl, _, f4, by omega, _, HC.Fewer.refl _, ?_⟩
      have hd' : d' = wd G.ws d := hd
      have kp2 : ∀ q, q ≠ w' → q ≠ cl → HC.look (HC.put M1 cl (.l (G.cur ++ [d']))) q = HC.look M q := fun q a b => by rw [HC.look_other f4 b, kp q a]
      refine hΦ _ ⟨⟨t, w', cl, cds, rfl, ?_, ?_, ?_, ?_, hl, fun k c ds h1 h2 => ?_⟩, hG.nd⟩ ⟨fun q hq => .inl hq, fun q hq hn => ?_⟩
      · rw [kp2 g g2 g3, e1]
      · rw [kp2 t t1 t2, e2]
      · rw [HC.look_other f4 w1, ew]
        rfl
      · rw [HC.look_self f4, hd']
        rfl
      · have hc : c ∈ cds := List.mem_of_getElem? h1
        rw [kp2 c (fun e => w2 (by rw [← e]; exact hc)) (fun e => c1 (by rw [← e]; exact hc))]
        exact e5 k c ds h1 h2
      · exact kp2 q (fun e => hn (by simp [e])) (fun e => hn (by simp [e]))
    | succ m =>
      have hlt : m < G.ws.length := by omega
      have tk : G.ws.take (m + 1) = G.ws.take m ++ [G.ws[m]] := by rw [List.take_add_one, List.getElem?_eq_getElem hlt]; rfl
      have lm : (G.ws.take m).length = m := by rw [List.length_take]; omega
      rw [tk] at ew hd
      rw [wd_app] at hd
      have hne : G.ws ≠ [] := fun e => by rw [e] at hlt; exact Nat.not_lt_zero _ hlt
      simp [-HC.put_cons, -HC.look_cons, f1, ew, hne]
      have dl : ((G.ws.take m ++ [G.ws[m]]).map D.str).dropLast = (G.ws.take m).map D.str := by rw [List.map_append]; simp
      refine .inl ⟨_, rfl, w', rfl, _, ew, D.str G.ws[m], ?_, m, by omega, by omega, hd, ?_, fun q hq => ?_⟩
      · rw [List.map_append, List.length_append, List.length_map, lm]
        show (List.map D.str (List.take m G.ws) ++ [D.str G.ws[m]])[m + 1 - 1]? = _
        rw [List.getElem?_append_right (by rw [List.length_map, lm]; omega), List.length_map, lm, show m + 1 - 1 - m = 0 by omega]
        rfl
      · rw [HC.look_self ew, dl, List.map_take]
      · rw [HC.look_other ew hq, kp q hq]
theorem ok_gterm (T : Txt P K mg w) : FnOk P w K mg base CX0 1 T.a_Group_begin_term T.fd_Group_begin_term ["self"] (HC.spH K (sBT T.C_Group)) := by
  refine HC.fnC T.F_Group_begin_term sc_Group_begin_term (k := 0) (fun cdv A outer s H E hr => ⟨_, (pss_one (ps_expr (pe_bm PySem.F.plainAttrs_list PySem.F.slot_list_append PySem.F.type_list_append mt_append (pe_fld (pv 0) rfl) (pa_cons (pe_lst pa_nil) pa_nil)))), (HC.xs_app (HC.xe_fld T.cl_Group T.n_Group_terms (HC.xe_raw 0)) (HC.XL.ce (HC.xl_lst HC.xv_nil)))⟩) (fun ds M Φ h => ?_) (fun ds M Φ h => ?_)
  · obtain ⟨g, G, fp, rfl, _⟩ := h
    rfl
  · obtain ⟨g, G, fp, rfl, hG, hw, hΦ⟩ := h
    have nd := hG.nd
    have sm := hG.some
    obtain ⟨t, w', cl, cds, rfl, e1, e2, e3, e4, hl, e5⟩ := hG.ex
    simp at nd
    obtain ⟨⟨g1, g2, g3, g4⟩, ⟨t1, t2, t3⟩, ⟨w1, w2⟩, c1, c2⟩ := nd
    simp [-HC.put_cons, -HC.look_cons, e1, e2]
    refine ⟨_, rfl, ⟨_, by rw [HC.lstOf_f, e2]; rfl⟩, fun q hq => ?_⟩
    have nq : ∀ a ∈ g :: t :: w' :: cl :: cds, q ≠ a := fun a ha e => sm a ha (by rw [← e]; exact hq)
    have f2 : HC.look ((q, HC.Cell.l []) :: M) t = some (.l ((cds ++ [cl]).map .fn)) := by rw [look_ne (nq t (by simp)), e2]
    refine ⟨_, rfl, _, f2, by simp; omega, _, HC.Fewer.refl _, ?_⟩
    have kp : ∀ a, a ≠ t → a ≠ q → HC.look (HC.put ((q, HC.Cell.l []) :: M) t (.l ((cds ++ [cl]).map D.fn ++ [D.fn q]))) a = HC.look M a := fun a h1 h2 => by
      rw [HC.look_other f2 h1, look_ne (Ne.symm h2)]
    refine hΦ _ (g :: t :: w' :: q :: (cds ++ [cl])) ⟨⟨t, w', q, cds ++ [cl], rfl, ?_, ?_, ?_, ?_, ?_, fun k c ds h1 h2 => ?_⟩, ?_⟩ ⟨fun a ha => ?_, fun a ha hn => ?_⟩
    · rw [kp g g1 (Ne.symm (nq g (by simp))), e1]
    · rw [HC.look_self f2]
      simp
    · rw [kp w' (Ne.symm t1) (Ne.symm (nq w' (by simp))), e3]
      rfl
    · rw [HC.look_other f2 (nq t (by simp)), look_eq]
      rfl
    · simp [Grp.next, hl]
    · have hc : c ∈ cds ++ [cl] := List.mem_of_getElem? h1
      have hc' : c ∈ g :: t :: w' :: cl :: cds := by
        rcases List.mem_append.mp hc with h | h
        · simp [h]
        · rw [List.mem_singleton.mp h]; simp
      have ct : c ≠ t := by
        rcases List.mem_append.mp hc with h | h
        · intro e; exact t3 (by rw [← e]; exact h)
        · rw [List.mem_singleton.mp h]; exact Ne.symm t2
      rw [kp c ct (Ne.symm (nq c hc'))]
      have h2' : (G.done ++ [G.cur])[k]? = some ds := h2
      by_cases hk : k < cds.length
      · rw [List.getElem?_append_left hk] at h1
        rw [List.getElem?_append_left (by omega)] at h2'
        exact e5 k c ds h1 h2'
      · rw [List.getElem?_append_right (by omega)] at h1
        rw [List.getElem?_append_right (by omega), ← hl] at h2'
        generalize k - cds.length = j at h1 h2'
        cases j with
        | zero => cases h1; cases h2'; exact e4
        | succ j => cases h1
    · have qg := nq g (by simp)
      have qt := nq t (by simp)
      have qw := nq w' (by simp)
      have qc := nq cl (by simp)
      have qd : q ∉ cds := fun ha => nq q (by simp [ha]) rfl
      simp
      refine ⟨⟨g1, g2, Ne.symm qg, g4, g3⟩, ⟨t1, Ne.symm qt, t3, t2⟩, ⟨Ne.symm qw, w2, w1⟩, ⟨qd, qc⟩, ?_⟩
      rw [List.nodup_append]
      exact ⟨c2, by simp, fun a ha b hb => by rw [List.mem_singleton.mp hb]; exact fun e => c1 (by rw [← e]; exact ha)⟩
    · simp at ha
      rcases ha with h | h | h | h | h | h
      · exact .inl (by simp [h])
      · exact .inl (by simp [h])
      · exact .inl (by simp [h])
      · exact .inr (by rw [h]; exact hq)
      · exact .inl (by simp [h])
      · exact .inl (by simp [h])
    · exact kp a (fun e => hn (by simp [e])) (fun e => ha (by rw [e]; exact hq))
end
end K45
namespace K45
open PySem PySem.Spec PyProof.Rows L2 SX DL FD MF TR
/-! ### the condition of a group -/
/-- a tree whose kind is told, and which has a tuple of trees in it if it is a conjunction -/
def Tri (d : D) : Prop := ∃ s r, d = .tup (.str s :: r) ∧ (s = "and" ∨ s = "or" → ∃ l, r = [.tup l] ∧ l.length ≤ 10000)
theorem Tri.tree {d : D} {kind : Str} (h : Tri d) (hk : kind = "and" ∨ kind = "or") : TreeD kind d := by
  obtain ⟨s, r, e, h⟩ := h
  exact ⟨s, r, e, fun q => h (by rw [q]; exact hk)⟩
structure CondOk (G : Grp) : Prop where
  tri : ∀ t ∈ G.terms, t.length ≤ 1000 ∧ ∀ d ∈ t, Tri d
  len : G.terms.length ≤ 1000
  join : ∀ t ∈ G.terms, Tri (joinD "and" t)
def sGC (C : Addr) : HC.SC := fun ds M Φ => ∃ g G fp, ds = [.fn g] ∧ GrpAt C M g G fp ∧ CondOk G ∧ ∀ M', (∀ q, q ∉ fp → HC.look M' q = HC.look M q) → Φ G.cond M'
theorem grp_at {M : HC.Cells} {G : Grp} {cl : Addr} {cds : List Addr} (e4 : HC.look M cl = some (.l G.cur)) (hl : cds.length = G.done.length) (e5 : ∀ (k : Nat) c ds, cds[k]? = some c → G.done[k]? = some ds → HC.look M c = some (.l ds)) :
    (cds ++ [cl]).length = G.terms.length ∧ ∀ (k : Nat) c ds, (cds ++ [cl])[k]? = some c → G.terms[k]? = some ds → HC.look M c = some (.l ds) := by
  refine ⟨by simp [Grp.terms, hl], fun k c ds h1 h2 => ?_⟩
  have h2' : (G.done ++ [G.cur])[k]? = some ds := h2
  by_cases hk : k < cds.length
  · rw [List.getElem?_append_left hk] at h1
    rw [List.getElem?_append_left (by omega)] at h2'
    exact e5 k c ds h1 h2'
  · rw [List.getElem?_append_right (by omega)] at h1
    rw [List.getElem?_append_right (by omega), ← hl] at h2'
    generalize k - cds.length = j at h1 h2'
    cases j with
    | zero => cases h1; cases h2'; exact e4
    | succ j => cases h1
section
variable [I : Tbs] {P : Program} {w : World} {K : PySem.W.Frag} {mg : Str → Option Value} {base : Heap}
theorem ok_gcond (T : Txt P K mg w) : FnOk P w K mg base CX0 2 T.a_Group_condition T.fd_Group_condition ["self"] (HC.spH K (sGC T.C_Group)) := by
  have G_joined : FnOk P w K mg base CX0 1 T.a_joined T.fd_joined ["kind", "trees"] (spOf K (pureS sJoin)) := ok_joined T
  refine HC.fnC T.F_Group_condition sc_Group_condition (k := 1) (fun cdv A outer s H E hr => ⟨_, (pss_one (ps_ret (pe_call G_joined (hr.mono (by omega)) (by rfl) T.g_joined T.F_joined.kp T.b_joined .nil pass0 (pa_cons pe_str (pa_cons (pe_lc (own := [("factors", 1)]) (g := gName 1) (by rfl) sc_Group_condition.nd  (pi_list (pe_fld (pv 0) rfl)) (blkOk_by (own := [("factors", 1)]) (N := ["self", "factors"]) (sc := defScope s_Group_condition) (by decide +kernel)) (fun _ _ _ _ _ => (pg_name (i := 1) sc_Group_condition.nd rfl (by first | exact Or.inl rfl | exact Or.inr rfl))) (fun _ _ _ _ _ => pts_nil) (fun _ _ _ _ _ => (pe_call G_joined (hr.mono (by omega)) (by rfl) T.g_joined T.F_joined.kp T.b_joined .nil pass0 (pa_cons pe_str (pa_cons (pv 1) pa_nil))))) pa_nil))))), (HC.xs_ret (HC.xe_callO (HC.xv_cons HC.xe_str (HC.xv_cons (HC.XL.re (HC.xl_lc (HC.xi_list (HC.xe_fz (HC.xe_fld T.cl_Group T.n_Group_terms (HC.xe_raw 0)))) HC.xg_name HC.xt_yes (HC.xe_callO (HC.xv_cons HC.xe_str (HC.xv_cons (HC.xe_deep (n := 4) (HC.xe_raw 1)) HC.xv_nil))))) HC.xv_nil))))⟩) (fun ds M Φ h => ?_) (fun ds M Φ h => ?_)
  · obtain ⟨g, G, fp, rfl, _⟩ := h
    rfl
  · obtain ⟨g, G, fp, rfl, hG, hc, hΦ⟩ := h
    have nd := hG.nd
    obtain ⟨t, w', cl, cds, rfl, e1, e2, e3, e4, hl, e5⟩ := hG.ex
    obtain ⟨al, aa⟩ := grp_at e4 hl e5
    have and : (cds ++ [cl]).Nodup := by
      simp at nd
      rw [List.nodup_append]
      exact ⟨nd.2.2.2.2, by simp, fun a ha b hb => by rw [List.mem_singleton.mp hb]; exact fun e => nd.2.2.2.1 (by rw [← e]; exact ha)⟩
    have asub : ∀ a ∈ cds ++ [cl], a ∈ g :: t :: w' :: cl :: cds := fun a ha => by
      rcases List.mem_append.mp ha with h | h
      · simp [h]
      · rw [List.mem_singleton.mp h]; simp
    have ta : t ∉ cds ++ [cl] := fun h => by
      simp at nd
      rcases List.mem_append.mp h with h | h
      · exact nd.2.1.2.2 h
      · exact nd.2.1.2.1 (List.mem_singleton.mp h)
    generalize cds ++ [cl] = as at *
    simp [-HC.put_cons, -HC.look_cons, e1, e2]
    refine HC.lc_inv (as.map .fn) (HC.put M t (.z (.lst (as.map .fn)))) (fun k acc M1 => acc = (G.terms.take k).map (joinD "and") ∧ ∀ q, q ≠ t → q ∉ as.take k → HC.look M1 q = HC.look M q) (fun Ψ h => ?_) ⟨rfl, fun q hq _ => HC.look_other e2 hq⟩ ?_ ?_
    · simp [-HC.put_cons, -HC.look_cons, e1]
      refine ⟨_, rfl, ?_⟩
      simp [-HC.put_cons, -HC.look_cons, e2, HC.frzC]
      exact h
    · rintro k x acc M1 hx ⟨rfl, kp⟩
      rw [List.getElem?_map] at hx
      obtain ⟨c, hc1, rfl⟩ := Option.map_eq_some_iff.mp hx
      have hk := (List.getElem?_eq_some_iff.mp hc1).1
      have ht := List.getElem?_eq_getElem (show k < G.terms.length by omega)
      have e6 := aa k c _ hc1 ht
      have nc : c ∉ as.take k := fun h => by
        obtain ⟨j, hj, e⟩ := List.mem_iff_getElem.mp h
        rw [List.length_take] at hj
        have h1 : as[j]? = some c := by
          rw [List.getElem?_eq_getElem (by omega)]
          rw [List.getElem_take] at e
          rw [e]
        have := (List.getElem?_inj (by omega) and).mp (h1.trans hc1.symm)
        omega
      have ct : c ≠ t := fun e => ta (by rw [← e]; exact List.mem_of_getElem? hc1)
      have e7 := (kp c ct nc).trans e6
      have hm := hc.tri _ (List.mem_of_getElem? ht)
      have fz : HC.frzN 4 M1 (.fn c) = (.lst G.terms[k], HC.put M1 c (.z (.lst G.terms[k]))) := by
        rw [HC.frzN_cl e7, HC.frzL_flat (fun d hd M => by
          obtain ⟨s, r, rfl, _⟩ := hm.2 d hd
          rfl), HC.zL_l e7]
      have tk : G.terms.take (k + 1) = G.terms.take k ++ [G.terms[k]] := by rw [List.take_add_one, ht]; rfl
      have tka : as.take (k + 1) = as.take k ++ [c] := by rw [List.take_add_one, hc1]; rfl
      have hl3 := hc.len
      simp [-HC.put_cons, -HC.look_cons, fz]
      refine ⟨"and", G.terms[k], rfl, fun d hd => (hm.2 d hd).tree (.inl rfl), hm.1, ?_⟩
      refine ⟨by omega, ?_, fun q hq hn => ?_⟩
      · rw [← List.map_take, ← List.map_take, tk, List.map_append]
        rfl
      · rw [tka] at hn
        rw [HC.look_other e7 (fun e => hn (by simp [e]))]
        exact kp q hq (fun h => hn (by simp [h]))
    · rintro acc M1 ⟨rfl, kp⟩
      rw [List.length_map, al, List.take_length]
      refine ⟨"or", _, rfl, fun d hd => ?_, ?_, ?_⟩
      · obtain ⟨t', ht', rfl⟩ := List.mem_map.mp hd
        exact (hc.join t' ht').tree (.inr rfl)
      · rw [List.length_map]
        exact hc.len
      · refine ⟨M1, HC.Fewer.refl _, hΦ M1 fun q hq => ?_⟩
        refine kp q (fun e => hq (by simp [e])) fun h => hq (asub q ?_)
        exact List.mem_of_mem_take h
end
end K45
namespace K45
open PySem PySem.Spec PyProof.Rows L2 SX DL FD MF TR
/-! ### how large what is read can be -/
def Trd (d : D) : Prop := ∃ s r, d = .tup (.str s :: r) ∧ (s = "and" ∨ s = "or" → ∃ l, r = [.tup l])
def Jk (s : Str) : Prop := s = "and" ∨ s = "or"
instance (s : Str) : Decidable (Jk s) := by unfold Jk; infer_instance
def wdt : D → Nat
  | .tup [.str s, .tup l] => if Jk s then max 1 l.length else 1
  | _ => 1
theorem wdt_pos (d : D) : 1 ≤ wdt d := by
  unfold wdt
  split
  · split
    · exact Nat.le_max_left _ _
    · exact Nat.le_refl _
  · exact Nat.le_refl _
theorem wdt_j {s : Str} (h : Jk s) (l : List D) : wdt (.tup [.str s, .tup l]) = max 1 l.length := by
  show (if Jk s then max 1 l.length else 1) = _
  rw [if_pos h]
theorem wdt_n {s : Str} (h : ¬ Jk s) (d : D) : wdt (.tup [.str s, d]) = 1 := by
  unfold wdt
  split
  · rename_i e
    cases e
    rw [if_neg h]
  · rfl
def ww (l : List D) : Nat := (l.map wdt).sum
theorem ww_cons (d : D) (l : List D) : ww (d :: l) = wdt d + ww l := by unfold ww; rw [List.map_cons, List.sum_cons]
theorem ww_snoc (l : List D) (d : D) : ww (l ++ [d]) = ww l + wdt d := by unfold ww; rw [List.map_append, List.sum_append]; rfl
theorem ww_len : ∀ l : List D, l.length ≤ ww l
  | [] => Nat.zero_le _
  | d :: l => by
    rw [ww_cons, List.length_cons]
    have := ww_len l
    have := wdt_pos d
    omega
theorem flatJ_ww {kind : Str} (hk : Jk kind) : ∀ {l : List D}, (∀ d ∈ l, Trd d) → (flatJ kind l).length ≤ ww l
  | [], _ => by unfold flatJ; simp
  | d :: l, h => by
    have ih := flatJ_ww hk fun d hd => h d (List.mem_cons_of_mem _ hd)
    obtain ⟨s, r, rfl, hs⟩ := h d List.mem_cons_self
    unfold flatJ at ih ⊢
    rw [List.flatMap_cons, List.length_append, ww_cons]
    have : (if kindOf (.tup (.str s :: r)) = kind then innerOf (.tup (.str s :: r)) else [.tup (.str s :: r)]).length ≤ wdt (.tup (.str s :: r)) := by
      split
      · rename_i e
        have e : s = kind := e
        subst e
        obtain ⟨l', rfl⟩ := hs hk
        rw [wdt_j hk]
        exact Nat.le_max_right _ _
      · exact wdt_pos _
    omega
theorem join_trd {kind : Str} (hk : Jk kind) {l : List D} (h : ∀ d ∈ l, Trd d) : Trd (joinD kind l) ∧ wdt (joinD kind l) ≤ max 1 (ww l) := by
  have hf := flatJ_ww hk h
  match l, h, hf with
  | [d], h, _ =>
    refine ⟨h d (by simp), ?_⟩
    rw [ww_cons]
    exact Nat.le_trans (Nat.le_add_right _ _) (Nat.le_max_right _ _)
  | [], h, hf =>
    refine ⟨⟨kind, _, rfl, fun _ => ⟨_, rfl⟩⟩, ?_⟩
    show wdt (.tup [.str kind, .tup (flatJ kind [])]) ≤ _
    rw [wdt_j hk]
    omega
  | a :: b :: r, h, hf =>
    refine ⟨⟨kind, _, rfl, fun _ => ⟨_, rfl⟩⟩, ?_⟩
    show wdt (.tup [.str kind, .tup (flatJ kind (a :: b :: r))]) ≤ _
    rw [wdt_j hk]
    omega
theorem wd_trd : ∀ {ws : List Str} {d : D}, (∀ w ∈ ws, ¬ Jk w) → Trd d → Trd (wd ws d) ∧ wdt (wd ws d) ≤ wdt d
  | [], d, _, h => ⟨h, Nat.le_refl _⟩
  | w :: ws, d, hw, h => by
    have hn := hw w List.mem_cons_self
    refine ⟨⟨w, [wd ws d], rfl, fun e => absurd e hn⟩, ?_⟩
    show wdt (.tup [.str w, wd ws d]) ≤ _
    rw [wdt_n hn]
    exact wdt_pos d
def gw (G : Grp) : Nat := (G.terms.map fun t => 1 + ww t).sum
structure GInv (G : Grp) : Prop where
  tri : ∀ t ∈ G.terms, ∀ d ∈ t, Trd d
  ws : ∀ w ∈ G.ws, ¬ Jk w
theorem gw_eq (G : Grp) : gw G = (G.done.map fun t => 1 + ww t).sum + (1 + ww G.cur) := by
  unfold gw Grp.terms
  rw [List.map_append, List.sum_append]
  rfl
theorem gw_pos (G : Grp) : 1 ≤ gw G := by rw [gw_eq]; omega
theorem g0_inv : GInv g0 := by
  refine ⟨fun t ht d hd => ?_, fun w hw => ?_⟩
  · rw [List.mem_singleton.mp (show t ∈ [[]] from ht)] at hd
    cases hd
  · cases hw
theorem gw_0 : gw g0 = 1 := rfl
theorem GInv.word {G : Grp} (h : GInv G) {w : Str} (hw : ¬ Jk w) : GInv (G.word w) ∧ gw (G.word w) = gw G :=
  ⟨⟨h.tri, fun v hv => by
    rcases List.mem_append.mp (show v ∈ G.ws ++ [w] from hv) with hv | hv
    · exact h.ws v hv
    · rw [List.mem_singleton.mp hv]; exact hw⟩, rfl⟩
theorem mem_terms {G : Grp} {t : List D} : t ∈ G.terms ↔ t ∈ G.done ∨ t = G.cur := by
  unfold Grp.terms
  rw [List.mem_append, List.mem_singleton]
theorem GInv.take {G : Grp} (h : GInv G) {d : D} (hd : Trd d) : GInv (G.take d) ∧ gw (G.take d) ≤ gw G + wdt d := by
  obtain ⟨w1, w2⟩ := wd_trd h.ws hd
  refine ⟨⟨fun t ht x hx => ?_, fun w hw => by cases hw⟩, ?_⟩
  · rcases mem_terms.mp ht with ht | ht
    · exact h.tri t (mem_terms.mpr (.inl ht)) x hx
    · subst ht
      rcases List.mem_append.mp (show x ∈ G.cur ++ [wd G.ws d] from hx) with hx | hx
      · exact h.tri _ (mem_terms.mpr (.inr rfl)) x hx
      · rw [List.mem_singleton.mp hx]; exact w1
  · rw [gw_eq, gw_eq]
    show _ + (1 + ww (G.cur ++ [wd G.ws d])) ≤ _
    rw [ww_snoc]
    show (G.done.map fun t => 1 + ww t).sum + _ ≤ _
    omega
theorem GInv.next {G : Grp} (h : GInv G) : GInv G.next ∧ gw G.next = gw G + 1 := by
  refine ⟨⟨fun t ht x hx => ?_, h.ws⟩, ?_⟩
  · rcases mem_terms.mp ht with ht | ht
    · exact h.tri t ht x hx
    · subst ht
      cases hx
  · rw [gw_eq]
    rfl
theorem GInv.joins {G : Grp} (h : GInv G) : ∀ t ∈ G.terms, Trd (joinD "and" t) ∧ wdt (joinD "and" t) ≤ 1 + ww t := fun t ht => by
  obtain ⟨h1, h2⟩ := join_trd (kind := "and") (.inl rfl) (h.tri t ht)
  exact ⟨h1, by omega⟩
theorem sum_le {α : Type} (f g : α → Nat) : ∀ l : List α, (∀ x ∈ l, f x ≤ g x) → (l.map f).sum ≤ (l.map g).sum
  | [], _ => Nat.le_refl _
  | x :: l, h => by
    rw [List.map_cons, List.map_cons, List.sum_cons, List.sum_cons]
    have := h x List.mem_cons_self
    have := sum_le f g l fun y hy => h y (List.mem_cons_of_mem _ hy)
    omega
theorem GInv.cond {G : Grp} (h : GInv G) : Trd G.cond ∧ wdt G.cond ≤ gw G := by
  have hj := h.joins
  obtain ⟨h1, h2⟩ := join_trd (kind := "or") (.inr rfl) (l := G.terms.map (joinD "and")) (fun d hd => by
    obtain ⟨t, ht, rfl⟩ := List.mem_map.mp hd
    exact (hj t ht).1)
  refine ⟨h1, Nat.le_trans h2 ?_⟩
  have h3 : ww (G.terms.map (joinD "and")) ≤ gw G := by
    unfold ww gw
    rw [List.map_map]
    exact sum_le _ _ _ fun t ht => (hj t ht).2
  have := gw_pos G
  omega
theorem mem_le {α : Type} (f : α → Nat) : ∀ {l : List α} {x : α}, x ∈ l → f x ≤ (l.map f).sum
  | y :: l, x, h => by
    rw [List.map_cons, List.sum_cons]
    rcases List.mem_cons.mp h with rfl | h
    · omega
    · have := mem_le f h
      omega
theorem trd_tri {d : D} (h : Trd d) (hz : wdt d ≤ 10000) : Tri d := by
  obtain ⟨s, r, rfl, hs⟩ := h
  refine ⟨s, r, rfl, fun e => ?_⟩
  obtain ⟨l, rfl⟩ := hs e
  refine ⟨l, rfl, ?_⟩
  rw [wdt_j e] at hz
  omega
theorem GInv.ok {G : Grp} (h : GInv G) (hz : gw G ≤ 1000) : CondOk G := by
  have ht : ∀ t ∈ G.terms, 1 + ww t ≤ 1000 := fun t ht => Nat.le_trans (mem_le (fun t => 1 + ww t) ht) hz
  refine ⟨fun t h' => ⟨?_, fun d hd => trd_tri (h.tri t h' d hd) ?_⟩, ?_, fun t h' => trd_tri (h.joins t h').1 ?_⟩
  · have := ww_len t
    have := ht t h'
    omega
  · have : wdt d ≤ ww t := mem_le wdt hd
    have := ht t h'
    omega
  · have : G.terms.length ≤ gw G := by
      have e : ∀ l : List (List D), l.length ≤ (l.map fun t => 1 + ww t).sum := fun l => by
        induction l with
        | nil => exact Nat.le_refl _
        | cons a l ih => rw [List.map_cons, List.sum_cons, List.length_cons]; omega
      exact e _
    omega
  · have := (h.joins t h').2
    have := ht t h'
    omega
def sgw (S : List Grp) : Nat := (S.map gw).sum
theorem sgw_cons (G : Grp) (S : List Grp) : sgw (G :: S) = gw G + sgw S := by unfold sgw; rw [List.map_cons, List.sum_cons]
/-- what is on the stack, and how far one has read -/
structure SInv (i : Nat) (S : List Grp) : Prop where
  inv : ∀ G ∈ S, GInv G
  len : sgw S ≤ i + 1
  wl : ∀ G ∈ S, G.ws.length ≤ i
theorem SInv.top {i : Nat} {G : Grp} {S : List Grp} (h : SInv i (G :: S)) : GInv G ∧ gw G ≤ i + 1 := ⟨h.inv G (by simp), by have := h.len; rw [sgw_cons] at this; omega⟩
theorem SInv.upd {i j : Nat} {G G' : Grp} {S : List Grp} (h : SInv i (G :: S)) (hG : GInv G') (hz : gw G' + i ≤ gw G + j) (hj : i ≤ j) (hw : G'.ws.length ≤ j) : SInv j (G' :: S) := by
  refine ⟨fun x hx => ?_, by have := h.len; rw [sgw_cons] at this ⊢; omega, fun x hx => ?_⟩
  · rcases List.mem_cons.mp hx with rfl | hx
    · exact hG
    · exact h.inv x (List.mem_cons_of_mem _ hx)
  · rcases List.mem_cons.mp hx with rfl | hx
    · exact hw
    · exact Nat.le_trans (h.wl x (List.mem_cons_of_mem _ hx)) hj
theorem SInv.push {i : Nat} {S : List Grp} (h : SInv i S) : SInv (i + 1) (g0 :: S) := by
  refine ⟨fun x hx => ?_, by have := h.len; rw [sgw_cons, gw_0]; omega, fun x hx => ?_⟩
  · rcases List.mem_cons.mp hx with rfl | hx
    · exact g0_inv
    · exact h.inv x hx
  · rcases List.mem_cons.mp hx with rfl | hx
    · exact Nat.zero_le _
    · exact Nat.le_succ_of_le (h.wl x hx)
theorem SInv.close {i : Nat} {G G' : Grp} {S : List Grp} (h : SInv i (G :: G' :: S)) : SInv (i + 1) (G'.take G.cond :: S) := by
  have hG := h.inv G (by simp)
  have hG' := h.inv G' (by simp)
  obtain ⟨c1, c2⟩ := hG.cond
  obtain ⟨t1, t2⟩ := hG'.take c1
  have hl := h.len
  rw [sgw_cons, sgw_cons] at hl
  refine ⟨fun x hx => ?_, ?_, fun x hx => ?_⟩
  · rcases List.mem_cons.mp hx with rfl | hx
    · exact t1
    · exact h.inv x (by simp [hx])
  · rw [sgw_cons]
    omega
  · rcases List.mem_cons.mp hx with rfl | hx
    · exact Nat.zero_le _
    · exact Nat.le_succ_of_le (h.wl x (by simp [hx]))
end K45
namespace K45
open PySem PySem.Spec PyProof.Rows L2 SX DL FD MF TR
/-! ### the reader with its stack of groups -/
inductive StAt (C : Addr) (M : HC.Cells) : List Addr → List Grp → List Addr → Prop
  | nil : StAt C M [] [] []
  | cons {g : Addr} {G : Grp} {fp : List Addr} {gs : List Addr} {S : List Grp} {fs : List Addr} (h : GrpAt C M g G fp) (r : StAt C M gs S fs) : StAt C M (g :: gs) (G :: S) (fp ++ fs)
theorem StAt.up {C : Addr} {M M' : HC.Cells} {gs : List Addr} {S : List Grp} {fs : List Addr} (h : StAt C M gs S fs) (k : ∀ q ∈ fs, HC.look M' q = HC.look M q) : StAt C M' gs S fs := by
  induction h with
  | nil => exact .nil
  | cons h r ih => exact .cons (h.up fun q hq => k q (List.mem_append_left _ hq)) (ih fun q hq => k q (List.mem_append_right _ hq))
theorem StAt.some {C : Addr} {M : HC.Cells} {gs : List Addr} {S : List Grp} {fs : List Addr} (h : StAt C M gs S fs) : ∀ q ∈ fs, HC.look M q ≠ none := by
  induction h with
  | nil => exact fun q hq => by cases hq
  | cons h r ih => exact fun q hq => (List.mem_append.mp hq).elim (h.some q) (ih q)
theorem StAt.len {C : Addr} {M : HC.Cells} {gs : List Addr} {S : List Grp} {fs : List Addr} (h : StAt C M gs S fs) : gs.length = S.length := by
  induction h with
  | nil => rfl
  | cons h r ih => rw [List.length_cons, List.length_cons, ih]
/-- the reader at token i, its groups with the next one first -/
structure Rd (C CR : Addr) (M : HC.Cells) (p : Addr) (l : List Tk) (i : Nat) (a : D) (gc : Addr) (gs : List Addr) (S : List Grp) (fs : List Addr) : Prop where
  ob : ∃ t, l[i]? = some t ∧ HC.look M p = some (.o CR (rd6 l i t a gc))
  gr : HC.look M gc = some (.l (gs.reverse.map .fn))
  st : StAt C M gs S fs
  nd : (p :: gc :: fs).Nodup
section
variable {C CR : Addr} {M M' : HC.Cells} {p : Addr} {l : List Tk} {i : Nat} {a : D} {gc : Addr} {gs : List Addr} {S : List Grp} {fs : List Addr}
theorem Rd.nds (R : Rd C CR M p l i a gc gs S fs) : p ≠ gc ∧ p ∉ fs ∧ gc ∉ fs ∧ fs.Nodup := by
  have := R.nd
  simp at this
  exact ⟨this.1.1, this.1.2, this.2.1, this.2.2⟩
/-- a step -/
theorem Rd.step (R : Rd C CR M p l i a gc gs S fs) {t' : Tk} {j : Nat} (ht : l[j]? = some t') (h1 : HC.look M' p = some (.o CR (rd6 l j t' a gc))) (k : ∀ q, q ≠ p → HC.look M' q = HC.look M q) : Rd C CR M' p l j a gc gs S fs := by
  obtain ⟨n1, n2, n3, n4⟩ := R.nds
  exact ⟨⟨t', ht, h1⟩, by rw [k gc (Ne.symm n1)]; exact R.gr, R.st.up fun q hq => k q fun e => n2 (by rw [← e]; exact hq), R.nd⟩
/-- the next group changes -/
theorem Rd.top {g : Addr} {G G' : Grp} {fp fp' : List Addr} (h : GrpAt C M g G fp) (r : StAt C M gs S fs) (R : Rd C CR M p l i a gc (g :: gs) (G :: S) (fp ++ fs)) (h' : GrpAt C M' g G' fp') (c : Ch M fp M' fp') : Rd C CR M' p l i a gc (g :: gs) (G' :: S) (fp' ++ fs) := by
  obtain ⟨n1, n2, n3, n4⟩ := R.nds
  obtain ⟨t, ht, hp⟩ := R.ob
  have hgc := R.gr
  rw [List.nodup_append] at n4
  obtain ⟨m1, m2, m3⟩ := n4
  have kp : HC.look M' p = HC.look M p := c.keep p (by rw [hp]; exact fun z => (by cases z)) fun z => n2 (List.mem_append_left _ z)
  have kg : HC.look M' gc = HC.look M gc := c.keep gc (by rw [hgc]; exact fun z => (by cases z)) fun z => n3 (List.mem_append_left _ z)
  have ks : ∀ q ∈ fs, HC.look M' q = HC.look M q := fun q hq => c.keep q (r.some q hq) fun z => m3 q z q hq rfl
  have new : ∀ q ∈ fp', ∀ x, HC.look M x ≠ none → x ∉ fp → q ≠ x := fun q hq x hx hn e => by
    rcases c.sub q hq with h | h
    · exact hn (by rw [← e]; exact h)
    · exact hx (by rw [← e]; exact h)
  refine ⟨⟨t, ht, kp.trans hp⟩, kg.trans hgc, .cons h' (r.up ks), ?_⟩
  rw [List.nodup_cons, List.nodup_cons, List.nodup_append]
  refine ⟨fun z => ?_, fun z => ?_, h'.nd, m2, fun x hx y hy => new x hx y (r.some y hy) fun z => m3 y z y hy rfl⟩
  · rcases List.mem_cons.mp z with z | z
    · exact n1 z
    · rcases List.mem_append.mp z with z | z
      · exact new p z p (by rw [hp]; exact fun z => (by cases z)) (fun z => n2 (List.mem_append_left _ z)) rfl
      · exact n2 (List.mem_append_right _ z)
  · rcases List.mem_append.mp z with z | z
    · exact new gc z gc (by rw [hgc]; exact fun z => (by cases z)) (fun z => n3 (List.mem_append_left _ z)) rfl
    · exact n3 (List.mem_append_right _ z)
/-- a group more -/
theorem Rd.push {q : Addr} {c : HC.Cell} {G : Grp} {fp : List Addr} (R : Rd C CR M p l i a gc gs S fs) (hq : HC.look M q = none) (h' : GrpAt C M' q G fp) (ch : Ch ((q, c) :: M) [q] M' fp) :
    HC.look M' gc = some (.l (gs.reverse.map .fn)) ∧ Rd C CR (HC.put M' gc (.l (gs.reverse.map .fn ++ [.fn q]))) p l i a gc (q :: gs) (G :: S) (fp ++ fs) := by
  obtain ⟨n1, n2, n3, n4⟩ := R.nds
  obtain ⟨t, ht, hp⟩ := R.ob
  have hgc := R.gr
  have old : ∀ x, HC.look M x ≠ none → HC.look M' x = HC.look M x ∧ x ∉ fp := fun x hx => by
    have nx : q ≠ x := fun e => hx (by rw [← e]; exact hq)
    have h0 : HC.look ((q, c) :: M) x = HC.look M x := look_ne nx
    refine ⟨(ch.keep x (by rw [h0]; exact hx) (by simpa using Ne.symm nx)).trans h0, fun z => ?_⟩
    rcases ch.sub x z with h | h
    · exact nx (List.mem_singleton.mp h).symm
    · rw [h0] at h; exact hx h
  have sp : HC.look M p ≠ none := by rw [hp]; exact fun z => (by cases z)
  have sg : HC.look M gc ≠ none := by rw [hgc]; exact fun z => (by cases z)
  have eg : HC.look M' gc = some (.l (gs.reverse.map .fn)) := (old gc sg).1.trans hgc
  refine ⟨eg, ⟨⟨t, ht, ?_⟩, ?_, .cons (h'.up fun x hx => ?_) (R.st.up fun x hx => ?_), ?_⟩⟩
  · rw [HC.look_other eg n1, (old p sp).1, hp]
  · rw [HC.look_self eg]
    simp
  · exact HC.look_other eg fun e => (old gc sg).2 (by rw [← e]; exact hx)
  · rw [HC.look_other eg fun e => n3 (by rw [← e]; exact hx)]
    exact (old x (R.st.some x hx)).1
  · rw [List.nodup_cons, List.nodup_cons, List.nodup_append]
    refine ⟨fun z => ?_, fun z => ?_, h'.nd, n4, fun x hx y hy e => (old y (R.st.some y hy)).2 (by rw [← e]; exact hx)⟩
    · rcases List.mem_cons.mp z with z | z
      · exact n1 z
      · rcases List.mem_append.mp z with z | z
        · exact (old p sp).2 z
        · exact n2 z
    · rcases List.mem_append.mp z with z | z
      · exact (old gc sg).2 z
      · exact n3 z
/-- the next group is taken off -/
theorem Rd.pop {g : Addr} {G : Grp} {fp : List Addr} (h : GrpAt C M g G fp) (r : StAt C M gs S fs) (R : Rd C CR M p l i a gc (g :: gs) (G :: S) (fp ++ fs)) :
    Rd C CR (HC.put M gc (.l (gs.reverse.map .fn))) p l i a gc gs S fs ∧ GrpAt C (HC.put M gc (.l (gs.reverse.map .fn))) g G fp ∧ (∀ q ∈ fp, q ≠ p ∧ q ≠ gc ∧ q ∉ fs) := by
  obtain ⟨n1, n2, n3, n4⟩ := R.nds
  obtain ⟨t, ht, hp⟩ := R.ob
  have hgc := R.gr
  rw [List.nodup_append] at n4
  obtain ⟨m1, m2, m3⟩ := n4
  have ng : ∀ q ∈ fp ++ fs, q ≠ gc := fun q hq e => n3 (by rw [← e]; exact hq)
  refine ⟨⟨⟨t, ht, ?_⟩, HC.look_self hgc, r.up fun q hq => HC.look_other hgc (ng q (List.mem_append_right _ hq)), ?_⟩, h.up fun q hq => HC.look_other hgc (ng q (List.mem_append_left _ hq)), fun q hq => ⟨fun e => n2 (List.mem_append_left _ (by rw [← e]; exact hq)), ng q (List.mem_append_left _ hq), fun z => m3 q hq q z rfl⟩⟩
  · rw [HC.look_other hgc n1, hp]
  · rw [List.nodup_cons, List.nodup_cons]
    exact ⟨fun z => (List.mem_cons.mp z).elim n1 fun z => n2 (List.mem_append_right _ z), fun z => n3 (List.mem_append_right _ z), m2⟩
/-- what is none of the reader's changes -/
theorem Rd.other {fp : List Addr} (R : Rd C CR M p l i a gc gs S fs) (k : ∀ q, q ∉ fp → HC.look M' q = HC.look M q) (hn : ∀ q ∈ fp, q ≠ p ∧ q ≠ gc ∧ q ∉ fs) : Rd C CR M' p l i a gc gs S fs := by
  obtain ⟨t, ht, hp⟩ := R.ob
  exact ⟨⟨t, ht, by rw [k p fun z => (hn p z).1 rfl]; exact hp⟩, by rw [k gc fun z => (hn gc z).2.1 rfl]; exact R.gr, R.st.up fun q hq => k q fun z => (hn q z).2.2 hq, R.nd⟩
end
/-- the tokens of a text: the empty one stands at the end alone -/
def WL (l : List Tk) : Prop := ∀ (i : Nat) t, l[i]? = some t → t.1 ≠ [] → ∃ t', l[i + 1]? = some t'
theorem drop_at {l : List Tk} {i : Nat} {t : Tk} (h : l[i]? = some t) : l.drop i = t :: l.drop (i + 1) := by
  obtain ⟨hi, e⟩ := List.getElem?_eq_some_iff.mp h
  rw [List.drop_eq_getElem_cons hi, e]
theorem sx_nil {t : List Nat} (h : sx t = "") : t = [] := by
  have := congrArg cd h
  unfold sx at this
  rw [cd_mk] at this
  rw [this]
  decide +kernel
end K45
namespace K45
open PySem PySem.Spec PyProof.Rows L2 SX DL FD MF TR
/-! ### the reader's methods -/
@[simp] theorem rd6_token (l : List Tk) (i : Nat) (t : Tk) (a : D) (g : Addr) : valD (rd6 l i t a g) "token" = some (.str (sx t.1)) := rfl
@[simp] theorem rd6_place (l : List Tk) (i : Nat) (t : Tk) (a : D) (g : Addr) : valD (rd6 l i t a g) "place" = some (.int (t.2 : Nat)) := rfl
@[simp] theorem rd6_first (l : List Tk) (i : Nat) (t : Tk) (a : D) (g : Addr) : valD (rd6 l i t a g) "first" = some (a) := rfl
@[simp] theorem rd6_groups (l : List Tk) (i : Nat) (t : Tk) (a : D) (g : Addr) : valD (rd6 l i t a g) "groups" = some (.fn g) := rfl
@[simp] theorem rd6_step (l : List Tk) (i : Nat) (t : Tk) (a : D) (g : Addr) : valD (rd6 l i t a g) "step" = none := rfl
@[simp] theorem rd6_refuse (l : List Tk) (i : Nat) (t : Tk) (a : D) (g : Addr) : valD (rd6 l i t a g) "refuse" = none := rfl
@[simp] theorem rd6_read_name (l : List Tk) (i : Nat) (t : Tk) (a : D) (g : Addr) : valD (rd6 l i t a g) "read_name" = none := rfl
@[simp] theorem rd6_read_plain (l : List Tk) (i : Nat) (t : Tk) (a : D) (g : Addr) : valD (rd6 l i t a g) "read_plain" = none := rfl
@[simp] theorem rd6_read_closed (l : List Tk) (i : Nat) (t : Tk) (a : D) (g : Addr) : valD (rd6 l i t a g) "read_closed" = none := rfl
@[simp] theorem rd6_read_joint (l : List Tk) (i : Nat) (t : Tk) (a : D) (g : Addr) : valD (rd6 l i t a g) "read_joint" = none := rfl
@[simp] theorem rd6_read_condition (l : List Tk) (i : Nat) (t : Tk) (a : D) (g : Addr) : valD (rd6 l i t a g) "read_condition" = none := rfl
@[simp] theorem rd6_check_size (l : List Tk) (i : Nat) (t : Tk) (a : D) (g : Addr) : valD (rd6 l i t a g) "check_size" = none := rfl
def PlainAt (l : List Tk) (i : Nat) (t : Tk) (j : Nat) (d : D) : Prop :=
  ((sx t.1 = "all" ∨ sx t.1 = "none") ∧ j = i + 1 ∧ d = .tup [.str (sx t.1)]) ∨ (sx t.1 = "is" ∧ ∃ x, l[i + 1]? = some x ∧ SS.okName x.1 = true ∧ j = i + 2 ∧ d = .tup [.str "is", .str (sx x.1)])
def sPlain (CR : Addr) : HC.SC := fun ds M Φ => ∃ (p : Addr) (l : List Tk) (i : Nat) (t : Tk) (a : D) (g : Addr) (j : Nat) (d : D) (t' : Tk), ds = [.fn p] ∧ HC.look M p = some (.o CR (rd6 l i t a g)) ∧ PlainAt l i t j d ∧ l[j]? = some t' ∧
  ∀ M', HC.look M' p = some (.o CR (rd6 l j t' a g)) → (∀ q, q ≠ p → HC.look M' q = HC.look M q) → Φ d M'
def sClosed (C CR : Addr) : HC.SC := fun ds M Φ => ∃ (p : Addr) (l : List Tk) (i : Nat) (a : D) (gc : Addr) (gs : List Addr) (G : Grp) (S : List Grp) (fs : List Addr), ds = [.fn p] ∧ Rd C CR M p l i a gc gs (G :: S) fs ∧ SInv i (G :: S) ∧ l.length ≤ 900 ∧ WL l ∧
  ∀ M' i' gs' G' S' fs', Rd C CR M' p l i' a gc gs' (G' :: S') fs' → SInv i' (G' :: S') → i ≤ i' → rc (l.drop i') true G' S' = rc (l.drop i) true G S → (∀ t, l[i']? = some t → sx t.1 = ")" → S' = []) → Φ .non M'
theorem grp_obj {C : Addr} {M : HC.Cells} {g : Addr} {G : Grp} {fp : List Addr} (h : GrpAt C M g G fp) : ∃ fs : List (Str × D), HC.look M g = some (.o C fs) ∧ valD fs "take_factor" = none ∧ valD fs "condition" = none ∧ valD fs "take_word" = none ∧ valD fs "begin_term" = none := by
  obtain ⟨t, w, cl, cds, rfl, e1, _⟩ := h.ex
  exact ⟨_, e1, rfl, rfl, rfl, rfl⟩
section
variable [I : Tbs] {P : Program} {w : World} {K : PySem.W.Frag} {mg : Str → Option Value} {base : Heap}
theorem ok_plain (T : Txt P K mg w) : FnOk P w K mg base CX0 3 T.a_ConditionReader_read_plain T.fd_ConditionReader_read_plain ["self"] (HC.spH K (sPlain T.C_ConditionReader)) := by
  have G_Reader_step : FnOk P w K mg base CX0 1 T.a_Reader_step T.fd_Reader_step ["self"] (HC.spH K (sStep T.C_ConditionReader)) := ok_step T
  have G_Reader_read_name : FnOk P w K mg base CX0 2 T.a_Reader_read_name T.fd_Reader_read_name ["self"] (HC.spH K (sRName T.C_ConditionReader)) := ok_rname T
  have G_Reader_refuse : FnOk P w K mg base CX0 1 T.a_Reader_refuse T.fd_Reader_refuse ["self"] (HC.spH K sNo) := no_ok
  refine HC.fnC T.F_ConditionReader_read_plain sc_ConditionReader_read_plain (k := 2) (fun cdv A outer s H E hr => ⟨_, (pss_cons (ps_set (i := 1) sc_ConditionReader_read_plain.nd rfl (by first | exact Or.inl rfl | exact Or.inr rfl) (pe_fld (pv 0) rfl))
      (pss_cons (ps_if (pt_cmpR op_notIn_seq (pv 1) (pe_tup (pa_cons pe_str (pa_cons pe_str (pa_cons pe_str pa_nil)))) rfl) (pss_one (ps_expr (pe_meth0 (pv 0) T.cl_ConditionReader T.m_ConditionReader_refuse G_Reader_refuse (hr.mono (by omega)) T.b_Reader_refuse .nil pass0))) pss_nil)
      (pss_cons (ps_expr (pe_meth0 (pv 0) T.cl_ConditionReader T.m_ConditionReader_step G_Reader_step (hr.mono (by omega)) T.b_Reader_step .nil pass0))
      (pss_cons (ps_if (pt_cmpR op_eq (pv 1) pe_str (nomark _)) (pss_one (ps_ret (pe_tup (pa_cons (pv 1) (pa_cons (pe_meth0 (pv 0) T.cl_ConditionReader T.m_ConditionReader_read_name G_Reader_read_name (hr.mono (by omega)) T.b_Reader_read_name .nil pass0) pa_nil))))) pss_nil)
      (pss_one (ps_ret (pe_tup (pa_cons (pv 1) pa_nil)))))))), (HC.xs_seq (HC.xs_asg (HC.xe_fld T.cl_ConditionReader T.n_ConditionReader_token (HC.xe_raw 0)) HC.xg_name)
      (HC.xs_seq (HC.xs_if (HC.xt_test (HC.xe_in (HC.xe_raw 1) (HC.xe_tup (HC.xv_cons HC.xe_str (HC.xv_cons HC.xe_str (HC.xv_cons HC.xe_str HC.xv_nil)))))) (HC.xs_drop (HC.xe_meth (HC.xe_raw 0) HC.xv_nil)) HC.xs_next)
      (HC.xs_seq (HC.xs_drop (HC.xe_meth (HC.xe_raw 0) HC.xv_nil))
      (HC.xs_seq (HC.xs_if (HC.xt_test (HC.xe_op ro_eq (HC.xe_raw 1) HC.xe_str)) (HC.xs_ret (HC.xe_tup (HC.xv_cons (HC.xe_raw 1) (HC.xv_cons (HC.xe_meth (HC.xe_raw 0) HC.xv_nil) HC.xv_nil)))) HC.xs_next)
      (HC.xs_ret (HC.xe_tup (HC.xv_cons (HC.xe_raw 1) HC.xv_nil)))))))⟩) (fun ds M Φ h => ?_) (fun ds M Φ h => ?_)
  · obtain ⟨p, l, i, t, a, g, j, d, t', rfl, _⟩ := h
    rfl
  · obtain ⟨p, l, i, t, a, g, j, d, t', rfl, hp, hpl, ht', hΦ⟩ := h
    simp [-HC.put_cons, -HC.look_cons, hp]
    rcases hpl with ⟨hk, rfl, rfl⟩ | ⟨hk, x, hx, hn, rfl, rfl⟩
    · have fin : sStep T.C_ConditionReader [D.fn p] M fun x M' => ∃ M2, HC.Fewer M2 M' ∧ Φ (.tup [.str (sx t.1)]) M2 := ⟨p, l, i, t, t', a, g, rfl, hp, ht', fun M' h1 h2 => ⟨M', HC.Fewer.refl _, hΦ M' h1 h2⟩⟩
      rcases hk with hk | hk
      · rw [hk] at fin ⊢
        simp (decide := true) [-HC.put_cons, -HC.look_cons]
        exact fin
      · rw [hk] at fin ⊢
        simp (decide := true) [-HC.put_cons, -HC.look_cons]
        exact fin
    · rw [hk]
      simp (decide := true) [-HC.put_cons, -HC.look_cons]
      refine ⟨p, l, i, t, x, a, g, rfl, hp, hx, fun M1 h1 h2 => ?_⟩
      simp [-HC.put_cons, -HC.look_cons, h1]
      exact ⟨p, l, i + 1, x, t', a, g, rfl, h1, hn, ht', fun M' h3 h4 => ⟨M', HC.Fewer.refl _, hΦ M' h3 fun q hq => (h4 q hq).trans (h2 q hq)⟩⟩
theorem ok_closed (T : Txt P K mg w) : FnOk P w K mg base CX0 3 T.a_ConditionReader_read_closed T.fd_ConditionReader_read_closed ["self"] (HC.spH K (sClosed T.C_Group T.C_ConditionReader)) := by
  have G_Reader_step : FnOk P w K mg base CX0 1 T.a_Reader_step T.fd_Reader_step ["self"] (HC.spH K (sStep T.C_ConditionReader)) := ok_step T
  have G_Group_condition : FnOk P w K mg base CX0 2 T.a_Group_condition T.fd_Group_condition ["self"] (HC.spH K (sGC T.C_Group)) := ok_gcond T
  have G_Group_take_factor : FnOk P w K mg base CX0 1 T.a_Group_take_factor T.fd_Group_take_factor ["self", "factor"] (HC.spH K (sTF T.C_Group)) := ok_gfactor T
  refine HC.fnC T.F_ConditionReader_read_closed sc_ConditionReader_read_closed (k := 2) (fun cdv A outer s H E hr => ⟨_, (pss_one (ps_while PassesOwn.never (PW.pt (pw_and (pt_cmpR op_eq (pe_fld (pv 0) rfl) pe_str (nomark _)) (pw_and1 (pt_cmpR op_gt (pe_callB call_len (by rfl) T.n_len boot_len (pa_cons (pe_fld (pv 0) rfl) pa_nil)) pe_int (nomark _))))) (pss_cons (ps_expr (pe_meth0 (pv 0) T.cl_ConditionReader T.m_ConditionReader_step G_Reader_step (hr.mono (by omega)) T.b_Reader_step .nil pass0))
      (pss_cons (ps_set (i := 1) sc_ConditionReader_read_closed.nd rfl (by first | exact Or.inl rfl | exact Or.inr rfl) (pe_bm0 PySem.F.plainAttrs_list PySem.F.slot_list_pop PySem.F.type_list_pop mt_pop (pe_fld (pv 0) rfl)))
      (pss_one (ps_expr (pe_meth (pe_ix (show IxR _ (rIxL K) from ix_list) (pe_fld (pv 0) rfl) (pe_un un_neg pe_int) (fun _ _ => rfl)) T.cl_Group T.m_Group_take_factor G_Group_take_factor (hr.mono (by omega)) T.b_Group_take_factor .nil pass0 (pa_cons (pe_meth0 (pv 1) T.cl_Group T.m_Group_condition G_Group_condition (hr.mono (by omega)) T.b_Group_condition .nil pass0) pa_nil)))))))), (HC.xs_while (HC.xt_and (HC.xt_test (HC.xe_op ro_eq (HC.xe_fld T.cl_ConditionReader T.n_ConditionReader_token (HC.xe_raw 0)) HC.xe_str)) (HC.xt_test (HC.xe_op ro_B0 (HC.xe_len (HC.xe_fld T.cl_ConditionReader T.n_ConditionReader_groups (HC.xe_raw 0))) HC.xe_int))) (HC.xs_seq (HC.xs_drop (HC.xe_meth (HC.xe_raw 0) HC.xv_nil))
      (HC.xs_seq (HC.xs_asg (HC.xe_pop (HC.xe_fld T.cl_ConditionReader T.n_ConditionReader_groups (HC.xe_raw 0))) HC.xg_name)
      (HC.xs_drop (HC.xe_meth (HC.xe_ixL (HC.xe_fld T.cl_ConditionReader T.n_ConditionReader_groups (HC.xe_raw 0)) (HC.xe_neg HC.xe_int)) (HC.xv_cons (HC.xe_meth (HC.xe_raw 1) HC.xv_nil) HC.xv_nil))))))⟩) (fun ds M Φ h => ?_) (fun ds M Φ h => ?_)
  · obtain ⟨p, l, i, a, gc, gs, G, S, fs, rfl, _⟩ := h
    rfl
  · obtain ⟨p, l, i, a, gc, gs, G, S, fs, rfl, R0, I0, hl, wl, hΦ⟩ := h
    simp [-HC.put_cons, -HC.look_cons]
    refine HC.while_inv (fun m ρ M => ∃ i' gs' G' S' fs' b, ρ = [some (.fn p), b] ∧ Rd T.C_Group T.C_ConditionReader M p l i' a gc gs' (G' :: S') fs' ∧ SInv i' (G' :: S') ∧ i ≤ i' ∧ rc (l.drop i') true G' S' = rc (l.drop i) true G S ∧ i' + m = l.length) ?_ ?_
    · obtain ⟨t, ht, _⟩ := R0.ob
      have := (List.getElem?_eq_some_iff.mp ht).1
      exact ⟨l.length - i, i, gs, G, S, fs, none, rfl, R0, I0, Nat.le_refl _, rfl, by omega⟩
    · rintro m ρ M1 ⟨i', gs', G', S', fs', b, rfl, R, SI, hi, hr, hm⟩
      obtain ⟨t, ht, hp⟩ := R.ob
      simp [-HC.put_cons, -HC.look_cons, hp, R.gr]
      have hln := R.st.len
      simp at hln
      by_cases hc : sx t.1 = ")"
      · simp [-HC.put_cons, -HC.look_cons, hc]
        cases S' with
        | nil =>
          simp at hln
          match gs', hln with
          | [g1], _ =>
            simp [-HC.put_cons, -HC.look_cons]
            exact ⟨_, HC.Fewer.refl _, hΦ M1 i' _ G' [] fs' R SI hi hr fun _ _ _ => rfl⟩
        | cons G2 S2 =>
          cases hs : R.st with
          | @cons g1 _ fp gs2 _ fs2 h1 r1 =>
            cases r1 with
            | @cons g2 _ fp2 gs3 _ fs3 h2 r2 =>
              simp at hln
              simp [-HC.put_cons, -HC.look_cons]
              rw [if_pos (by omega)]
              have tne : t.1 ≠ [] := fun e => by rw [e] at hc; exact absurd hc (by decide +kernel)
              obtain ⟨t2, ht2⟩ := wl i' t ht tne
              refine ⟨p, l, i', t, t2, a, gc, rfl, hp, ht2, fun M2 e2 k2 => ?_⟩
              have R2 := R.step ht2 e2 k2
              obtain ⟨n1, n2, n3, n4⟩ := R.nds
              have h1' := h1.up (M' := M2) fun q hq => k2 q fun e => n2 (by rw [← e]; exact List.mem_append_left _ hq)
              have r1' : StAt T.C_Group M2 (g2 :: gs3) (G2 :: S2) (fp2 ++ fs3) := (StAt.cons h2 r2).up fun q hq => k2 q fun e => n2 (by rw [← e]; exact List.mem_append_right _ hq)
              obtain ⟨R3, h3, hn3⟩ := Rd.pop h1' r1' R2
              simp [-HC.put_cons, -HC.look_cons, e2]
              refine ⟨_, R2.gr, .fn g1, ?_, ?_⟩
              · simp
              have dl : (((g1 :: g2 :: gs3).reverse.map D.fn)).dropLast = (g2 :: gs3).reverse.map D.fn := by simp
              rw [dl]
              generalize HC.put M2 gc (.l ((g2 :: gs3).reverse.map D.fn)) = M3 at *
              obtain ⟨t3, ht3, hp3⟩ := R3.ob
              obtain ⟨f1, o1, _, c1, _⟩ := grp_obj h3
              have r3 := R3.st
              have Iz := SI.close
              obtain ⟨gi, gz⟩ := SI.top
              have hil := (List.getElem?_eq_some_iff.mp ht2).1
              have hG2 : ∃ fpx fsx, fpx ++ fsx = fp2 ++ fs3 ∧ GrpAt T.C_Group M3 g2 G2 fpx ∧ StAt T.C_Group M3 gs3 S2 fsx := by
                generalize fp2 ++ fs3 = ff at r3
                cases r3 with
                | cons h r => exact ⟨_, _, rfl, h, r⟩
              obtain ⟨fpx, fsx, ef, h4, r4⟩ := hG2
              rw [← ef] at R3 hn3
              obtain ⟨f2, o2, tf2, _⟩ := grp_obj h4
              have hcur : G2.cur.length ≤ gw G2 := by
                rw [gw_eq]
                have := ww_len G2.cur
                omega
              have hg2 := SI.len
              rw [sgw_cons, sgw_cons] at hg2
              simp [-HC.put_cons, -HC.look_cons, hp3, R3.gr]
              refine ⟨.fn g2, atI_last _ _, ⟨f2, by rw [HC.objOf_f, o2]; rfl, tf2⟩, ⟨f1, by rw [o1]; rfl, c1⟩, g1, G', fp, rfl, h3, gi.ok (by omega), fun M4 k4 => ?_⟩
              have R4 := R3.other k4 hn3
              have h5 := h4.up (M' := M4) fun q hq => k4 q fun z => (hn3 q z).2.2 (List.mem_append_left _ hq)
              have r5 := r4.up (M' := M4) fun q hq => k4 q fun z => (hn3 q z).2.2 (List.mem_append_right _ hq)
              refine ⟨g2, G'.cond, G2, fpx, rfl, h5, by omega, fun M5 h6 c6 => ?_⟩
              have R5 := Rd.top h5 r5 R4 h6 c6
              refine ⟨m - 1, by omega, i' + 1, g2 :: gs3, _, S2, ⟨_, R5⟩, Iz, by omega, ?_, by omega⟩
              rw [← hr, drop_at ht]
              obtain ⟨t1, tp⟩ := t
              rw [rc_1, if_pos hc]
      · simp [-HC.put_cons, -HC.look_cons, hc]
        exact ⟨_, HC.Fewer.refl _, hΦ M1 i' gs' G' S' fs' R SI hi hr fun t' h1 h2 => by
          rw [ht] at h1
          cases h1
          exact absurd h2 hc⟩
end
end K45
namespace K45
open PySem PySem.Spec PyProof.Rows L2 SX DL FD MF TR
def sJoint (C CR : Addr) : HC.SC := fun ds M Φ => ∃ (p : Addr) (l : List Tk) (i : Nat) (a : D) (gc : Addr) (gs : List Addr) (G G' : Grp) (S : List Grp) (fs : List Addr) (t t' : Tk), ds = [.fn p] ∧ Rd C CR M p l i a gc gs (G :: S) fs ∧ G.done.length < 1000000 ∧ l[i]? = some t ∧ l[i + 1]? = some t' ∧
  ((sx t.1 = "or" ∧ G' = G.next) ∨ (sx t.1 = "and" ∧ G' = G)) ∧ ∀ M' fs', Rd C CR M' p l (i + 1) a gc gs (G' :: S) fs' → Φ .non M'
def sRCond (C CR : Addr) : HC.SC := fun ds M Φ => ∃ (p : Addr) (l : List Tk) (a : D) (gc g : Addr) (fs : List Addr) (d : D), ds = [.fn p] ∧ Rd C CR M p l 0 a gc [g] [g0] fs ∧ l.length ≤ 900 ∧ WL l ∧ rc l false g0 [] = .inl d ∧
  ∀ M' i t, HC.look M' p = some (.o CR (rd6 l i t a gc)) → Φ d M'
theorem rd_inv {C CR : Addr} {M : HC.Cells} {p : Addr} {l : List Tk} {i : Nat} {a : D} {gc : Addr} {gs : List Addr} {G : Grp} {S : List Grp} {fs : List Addr} (R : Rd C CR M p l i a gc gs (G :: S) fs) : ∃ g gs' fp fs', gs = g :: gs' ∧ fs = fp ++ fs' ∧ GrpAt C M g G fp ∧ StAt C M gs' S fs' := by
  generalize hz : G :: S = z at R
  cases R.st with
  | nil => cases hz
  | cons h r => cases hz; exact ⟨_, _, _, _, rfl, rfl, h, r⟩
section
variable [I : Tbs] {P : Program} {w : World} {K : PySem.W.Frag} {mg : Str → Option Value} {base : Heap}
theorem ok_joint (T : Txt P K mg w) : FnOk P w K mg base CX0 2 T.a_ConditionReader_read_joint T.fd_ConditionReader_read_joint ["self"] (HC.spH K (sJoint T.C_Group T.C_ConditionReader)) := by
  have G_Reader_step : FnOk P w K mg base CX0 1 T.a_Reader_step T.fd_Reader_step ["self"] (HC.spH K (sStep T.C_ConditionReader)) := ok_step T
  have G_Group_begin_term : FnOk P w K mg base CX0 1 T.a_Group_begin_term T.fd_Group_begin_term ["self"] (HC.spH K (sBT T.C_Group)) := ok_gterm T
  have G_Reader_refuse : FnOk P w K mg base CX0 1 T.a_Reader_refuse T.fd_Reader_refuse ["self"] (HC.spH K sNo) := no_ok
  refine HC.fnC T.F_ConditionReader_read_joint sc_ConditionReader_read_joint (k := 1) (fun cdv A outer s H E hr => ⟨_, (pss_cons (ps_if (pt_cmpR op_eq (pe_fld (pv 0) rfl) pe_str (nomark _)) (pss_one (ps_expr (pe_meth0 (pe_ix (show IxR _ (rIxL K) from ix_list) (pe_fld (pv 0) rfl) (pe_un un_neg pe_int) (fun _ _ => rfl)) T.cl_Group T.m_Group_begin_term G_Group_begin_term (hr.mono (by omega)) T.b_Group_begin_term .nil pass0))) (pss_one (ps_if (pt_cmpR op_ne (pe_fld (pv 0) rfl) pe_str (nomark _)) (pss_one (ps_expr (pe_meth0 (pv 0) T.cl_ConditionReader T.m_ConditionReader_refuse G_Reader_refuse (hr.mono (by omega)) T.b_Reader_refuse .nil pass0))) pss_nil)))
      (pss_one (ps_expr (pe_meth0 (pv 0) T.cl_ConditionReader T.m_ConditionReader_step G_Reader_step (hr.mono (by omega)) T.b_Reader_step .nil pass0)))), (HC.xs_seq (HC.xs_if (HC.xt_test (HC.xe_op ro_eq (HC.xe_fld T.cl_ConditionReader T.n_ConditionReader_token (HC.xe_raw 0)) HC.xe_str)) (HC.xs_drop (HC.xe_meth (HC.xe_ixL (HC.xe_fld T.cl_ConditionReader T.n_ConditionReader_groups (HC.xe_raw 0)) (HC.xe_neg HC.xe_int)) HC.xv_nil)) (HC.xs_if (HC.xt_test (HC.xe_op ro_ne (HC.xe_fld T.cl_ConditionReader T.n_ConditionReader_token (HC.xe_raw 0)) HC.xe_str)) (HC.xs_drop (HC.xe_meth (HC.xe_raw 0) HC.xv_nil)) HC.xs_next))
      (HC.xs_drop (HC.xe_meth (HC.xe_raw 0) HC.xv_nil)))⟩) (fun ds M Φ h => ?_) (fun ds M Φ h => ?_)
  · obtain ⟨p, l, i, a, gc, gs, G, G', S, fs, t, t', rfl, _⟩ := h
    rfl
  · obtain ⟨p, l, i, a, gc, gs, G, G', S, fs, t, t', rfl, R, hd, ht, ht', hk, hΦ⟩ := h
    obtain ⟨t0, ht0, hp⟩ := R.ob
    rw [ht] at ht0
    cases ht0
    obtain ⟨g, gs', fp, fs', rfl, rfl, h1, r1⟩ := rd_inv R
    obtain ⟨f2, o2, _, _, _, bt⟩ := grp_obj h1
    simp [-HC.put_cons, -HC.look_cons, hp, R.gr]
    rcases hk with ⟨hk, rfl⟩ | ⟨hk, rfl⟩
    · simp (decide := true) [-HC.put_cons, -HC.look_cons, hk]
      refine ⟨.fn g, atI_last _ _, ⟨f2, by rw [HC.objOf_f, o2]; rfl, bt⟩, g, G, fp, rfl, h1, hd, fun M1 fp1 h2 c2 => ?_⟩
      have R1 := Rd.top h1 r1 R h2 c2
      obtain ⟨t1, ht1, hp1⟩ := R1.ob
      rw [ht] at ht1
      cases ht1
      simp [-HC.put_cons, -HC.look_cons, hp1]
      exact ⟨p, l, i, t, t', a, gc, rfl, hp1, ht', fun M2 e2 k2 => ⟨M2, HC.Fewer.refl _, hΦ M2 _ (R1.step ht' e2 k2)⟩⟩
    · simp (decide := true) [-HC.put_cons, -HC.look_cons, hk]
      exact ⟨p, l, i, t, t', a, gc, rfl, hp, ht', fun M2 e2 k2 => ⟨M2, HC.Fewer.refl _, hΦ M2 _ (R.step ht' e2 k2)⟩⟩
theorem isLook_eq (t : List Nat) : isLook t = true ↔ (sx t = "child" ∨ sx t = "below" ∨ sx t = "parent" ∨ sx t = "above" ∨ sx t = "earlier" ∨ sx t = "later") := by
  unfold isLook lookNames
  simp
theorem look_jk {t : List Nat} (h : sx t = "not" ∨ isLook t = true) : ¬ Jk (sx t) := by
  rcases h with h | h
  · rw [h]; decide +kernel
  · rcases (isLook_eq t).mp h with h | h | h | h | h | h <;> rw [h] <;> decide +kernel
theorem sgw_len : ∀ S : List Grp, S.length ≤ sgw S
  | [] => Nat.zero_le _
  | G :: S => by
    rw [sgw_cons, List.length_cons]
    have := sgw_len S
    have := gw_pos G
    omega
theorem sx_ne {t : List Nat} (h : t ≠ []) : ¬ sx t = "" := fun e => h (sx_nil e)
theorem sx_e : sx [] = "" := by decide +kernel
/-- what stands behind a factor, when the whole is read -/
theorem joint_of {t : Tk} {r : List Tk} {G : Grp} {S : List Grp} {d : D} (h : rc (t :: r) true G S = .inl d) (hc : sx t.1 = ")" → S = []) :
    (t.1 = [] ∧ S = [] ∧ d = G.cond) ∨ (¬ sx t.1 = "" ∧ ∃ G', ((sx t.1 = "or" ∧ G' = G.next) ∨ (sx t.1 = "and" ∧ G' = G)) ∧ rc r false G' S = .inl d) := by
  obtain ⟨t1, tp⟩ := t
  cases S with
  | nil =>
    rw [rc_0] at h
    by_cases e : t1 = []
    · rw [if_pos e] at h
      cases h
      exact .inl ⟨e, rfl, rfl⟩
    · rw [if_neg e] at h
      refine .inr ⟨sx_ne e, ?_⟩
      by_cases o : sx t1 = "or"
      · rw [if_pos o] at h
        exact ⟨_, .inl ⟨o, rfl⟩, h⟩
      · rw [if_neg o] at h
        by_cases n : sx t1 = "and"
        · rw [if_pos n] at h
          exact ⟨_, .inr ⟨n, rfl⟩, h⟩
        · rw [if_neg n] at h
          cases h
  | cons G2 S =>
    rw [rc_1] at h
    have c : ¬ sx t1 = ")" := fun e => by cases hc e
    rw [if_neg c] at h
    by_cases o : sx t1 = "or"
    · rw [if_pos o] at h
      exact .inr ⟨by rw [show sx (t1, tp).1 = sx t1 from rfl, o]; decide +kernel, _, .inl ⟨o, rfl⟩, h⟩
    · rw [if_neg o] at h
      by_cases n : sx t1 = "and"
      · rw [if_pos n] at h
        exact .inr ⟨by rw [show sx (t1, tp).1 = sx t1 from rfl, n]; decide +kernel, _, .inr ⟨n, rfl⟩, h⟩
      · rw [if_neg n] at h
        cases h
theorem rc_more {l : List Tk} {j : Nat} {b : Bool} {G : Grp} {S : List Grp} {d : D} (h : rc (l.drop j) b G S = .inl d) : ∃ t', l[j]? = some t' := by
  cases e : l[j]? with
  | some t => exact ⟨t, rfl⟩
  | none =>
    rw [List.drop_eq_nil_of_le (List.getElem?_eq_none_iff.mp e)] at h
    unfold rc at h
    cases h
theorem ok_rcond (T : Txt P K mg w) : FnOk P w K mg base CX0 4 T.a_ConditionReader_read_condition T.fd_ConditionReader_read_condition ["self"] (HC.spH K (sRCond T.C_Group T.C_ConditionReader)) := by
  have G_Reader_step : FnOk P w K mg base CX0 1 T.a_Reader_step T.fd_Reader_step ["self"] (HC.spH K (sStep T.C_ConditionReader)) := ok_step T
  have G_Group___init__ : FnOk P w K mg base CX0 1 T.a_Group___init__ T.fd_Group___init__ ["self"] (HC.spH K (sGI T.C_Group)) := ok_ginit T
  have G_Group_take_word : FnOk P w K mg base CX0 1 T.a_Group_take_word T.fd_Group_take_word ["self", "word"] (HC.spH K (sTW T.C_Group)) := ok_gword T
  have G_Group_take_factor : FnOk P w K mg base CX0 1 T.a_Group_take_factor T.fd_Group_take_factor ["self", "factor"] (HC.spH K (sTF T.C_Group)) := ok_gfactor T
  have G_Group_condition : FnOk P w K mg base CX0 2 T.a_Group_condition T.fd_Group_condition ["self"] (HC.spH K (sGC T.C_Group)) := ok_gcond T
  have G_ConditionReader_read_plain : FnOk P w K mg base CX0 3 T.a_ConditionReader_read_plain T.fd_ConditionReader_read_plain ["self"] (HC.spH K (sPlain T.C_ConditionReader)) := ok_plain T
  have G_ConditionReader_read_closed : FnOk P w K mg base CX0 3 T.a_ConditionReader_read_closed T.fd_ConditionReader_read_closed ["self"] (HC.spH K (sClosed T.C_Group T.C_ConditionReader)) := ok_closed T
  have G_ConditionReader_read_joint : FnOk P w K mg base CX0 2 T.a_ConditionReader_read_joint T.fd_ConditionReader_read_joint ["self"] (HC.spH K (sJoint T.C_Group T.C_ConditionReader)) := ok_joint T
  refine HC.fnC T.F_ConditionReader_read_condition sc_ConditionReader_read_condition (k := 3) (fun cdv A outer s H E hr => ⟨_, (pss_one (ps_while PassesOwn.never (pt_val pe_bl) (pss_one (ps_if (pt_cmpR op_eq (pe_fld (pv 0) rfl) pe_str (nomark _)) (pss_cons (ps_expr (pe_meth0 (pv 0) T.cl_ConditionReader T.m_ConditionReader_step G_Reader_step (hr.mono (by omega)) T.b_Reader_step .nil pass0))
      (pss_one (ps_expr (pe_bm PySem.F.plainAttrs_list PySem.F.slot_list_append PySem.F.type_list_append mt_append (pe_fld (pv 0) rfl) (pa_cons (pe_make0 T.M_Group G_Group___init__ (hr.mono (by omega)) (by rfl) T.g_Group T.b_Group___init__ .nil pass0) pa_nil))))) (pss_one (ps_if (PW.pt (pw_or (pt_cmpR op_eq (pe_fld (pv 0) rfl) pe_str (nomark _)) (pw_or1 (pt_cmpR op_in_seq (pe_fld (pv 0) rfl) (pe_glob (v := .ref T.d_LOOKS) (by rfl) T.g_LOOKS rfl) rfl)))) (pss_cons (ps_expr (pe_meth (pe_ix (show IxR _ (rIxL K) from ix_list) (pe_fld (pv 0) rfl) (pe_un un_neg pe_int) (fun _ _ => rfl)) T.cl_Group T.m_Group_take_word G_Group_take_word (hr.mono (by omega)) T.b_Group_take_word .nil pass0 (pa_cons (pe_fld (pv 0) rfl) pa_nil)))
      (pss_one (ps_expr (pe_meth0 (pv 0) T.cl_ConditionReader T.m_ConditionReader_step G_Reader_step (hr.mono (by omega)) T.b_Reader_step .nil pass0)))) (pss_cons (ps_expr (pe_meth (pe_ix (show IxR _ (rIxL K) from ix_list) (pe_fld (pv 0) rfl) (pe_un un_neg pe_int) (fun _ _ => rfl)) T.cl_Group T.m_Group_take_factor G_Group_take_factor (hr.mono (by omega)) T.b_Group_take_factor .nil pass0 (pa_cons (pe_meth0 (pv 0) T.cl_ConditionReader T.m_ConditionReader_read_plain G_ConditionReader_read_plain (hr.mono (by omega)) T.b_ConditionReader_read_plain .nil pass0) pa_nil)))
      (pss_cons (ps_expr (pe_meth0 (pv 0) T.cl_ConditionReader T.m_ConditionReader_read_closed G_ConditionReader_read_closed (hr.mono (by omega)) T.b_ConditionReader_read_closed .nil pass0))
      (pss_cons (ps_if (PW.pt (pw_and (pt_cmpR op_eq (pe_fld (pv 0) rfl) pe_str (nomark _)) (pw_and1 (pt_cmpR op_eq (pe_callB call_len (by rfl) T.n_len boot_len (pa_cons (pe_fld (pv 0) rfl) pa_nil)) pe_int (nomark _))))) (pss_one (ps_ret (pe_meth0 (pe_ix (show IxR _ (rIxL K) from ix_list) (pe_fld (pv 0) rfl) pe_int (fun _ _ => rfl)) T.cl_Group T.m_Group_condition G_Group_condition (hr.mono (by omega)) T.b_Group_condition .nil pass0))) pss_nil)
      (pss_one (ps_expr (pe_meth0 (pv 0) T.cl_ConditionReader T.m_ConditionReader_read_joint G_ConditionReader_read_joint (hr.mono (by omega)) T.b_ConditionReader_read_joint .nil pass0)))))))))))), (HC.xs_while (HC.xt_B HC.xe_bl) (HC.xs_if (HC.xt_test (HC.xe_op ro_eq (HC.xe_fld T.cl_ConditionReader T.n_ConditionReader_token (HC.xe_raw 0)) HC.xe_str)) (HC.xs_seq (HC.xs_drop (HC.xe_meth (HC.xe_raw 0) HC.xv_nil))
      (HC.xs_app (HC.xe_fld T.cl_ConditionReader T.n_ConditionReader_groups (HC.xe_raw 0)) (HC.xe_make HC.xv_nil))) (HC.xs_if (HC.xt_or (HC.xt_test (HC.xe_op ro_eq (HC.xe_fld T.cl_ConditionReader T.n_ConditionReader_token (HC.xe_raw 0)) HC.xe_str)) (HC.xt_test (HC.xe_in (HC.xe_fld T.cl_ConditionReader T.n_ConditionReader_token (HC.xe_raw 0)) (HC.xe_c T.D_LOOKS.dr)))) (HC.xs_seq (HC.xs_drop (HC.xe_meth (HC.xe_ixL (HC.xe_fld T.cl_ConditionReader T.n_ConditionReader_groups (HC.xe_raw 0)) (HC.xe_neg HC.xe_int)) (HC.xv_cons (HC.xe_fld T.cl_ConditionReader T.n_ConditionReader_token (HC.xe_raw 0)) HC.xv_nil)))
      (HC.xs_drop (HC.xe_meth (HC.xe_raw 0) HC.xv_nil))) (HC.xs_seq (HC.xs_drop (HC.xe_meth (HC.xe_ixL (HC.xe_fld T.cl_ConditionReader T.n_ConditionReader_groups (HC.xe_raw 0)) (HC.xe_neg HC.xe_int)) (HC.xv_cons (HC.xe_meth (HC.xe_raw 0) HC.xv_nil) HC.xv_nil)))
      (HC.xs_seq (HC.xs_drop (HC.xe_meth (HC.xe_raw 0) HC.xv_nil))
      (HC.xs_seq (HC.xs_if (HC.xt_and (HC.xt_test (HC.xe_op ro_eq (HC.xe_fld T.cl_ConditionReader T.n_ConditionReader_token (HC.xe_raw 0)) HC.xe_str)) (HC.xt_test (HC.xe_op ro_eq (HC.xe_len (HC.xe_fld T.cl_ConditionReader T.n_ConditionReader_groups (HC.xe_raw 0))) HC.xe_int))) (HC.xs_ret (HC.xe_meth (HC.xe_ixL (HC.xe_fld T.cl_ConditionReader T.n_ConditionReader_groups (HC.xe_raw 0)) HC.xe_int) HC.xv_nil)) HC.xs_next)
      (HC.xs_drop (HC.xe_meth (HC.xe_raw 0) HC.xv_nil))))))))⟩) (fun ds M Φ h => ?_) (fun ds M Φ h => ?_)
  · obtain ⟨p, l, a, gc, g, fs, d, rfl, _⟩ := h
    rfl
  · obtain ⟨p, l, a, gc, g, fs, d, rfl, R0, hl, wl, hr0, hΦ⟩ := h
    simp [-HC.put_cons, -HC.look_cons]
    refine HC.while_inv (fun m ρ M => ∃ i gs G S fs, ρ = [some (.fn p)] ∧ Rd T.C_Group T.C_ConditionReader M p l i a gc gs (G :: S) fs ∧ SInv i (G :: S) ∧ rc (l.drop i) false G S = .inl d ∧ i + m = l.length) ?_ ?_
    · exact ⟨l.length, 0, _, g0, [], _, rfl, R0, ⟨fun x hx => by rw [List.mem_singleton.mp hx]; exact g0_inv, by decide, fun x hx => by rw [List.mem_singleton.mp hx]; exact Nat.le_refl _⟩, hr0, by omega⟩
    · rintro m ρ M1 ⟨i, gs, G, S, fs, rfl, R, SI, hr, hm⟩
      obtain ⟨t, ht, hp⟩ := R.ob
      obtain ⟨g1, gs', fp, fs', rfl, rfl, h1, r1⟩ := rd_inv R
      obtain ⟨f1, o1, tf1, _, tw1, _⟩ := grp_obj h1
      have hil := (List.getElem?_eq_some_iff.mp ht).1
      obtain ⟨gi, gz⟩ := SI.top
      rw [drop_at ht] at hr
      obtain ⟨t1, tp⟩ := t
      rw [rc_f] at hr
      simp [-HC.put_cons, -HC.look_cons, hp, R.gr]
      by_cases c1 : sx t1 = "("
      · rw [if_pos c1] at hr ⊢
        obtain ⟨t2, ht2⟩ := rc_more hr
        refine ⟨p, l, i, (t1, tp), t2, a, gc, rfl, hp, ht2, fun M2 e2 k2 => ?_⟩
        have R2 := R.step ht2 e2 k2
        simp [-HC.put_cons, -HC.look_cons, e2, R2.gr]
        intro q hq
        refine ⟨q, rfl, look_eq, fun M3 fp3 h3 c3 => ⟨rfl, ?_⟩⟩
        obtain ⟨e3, R3⟩ := R2.push hq h3 c3
        exact ⟨_, e3, by have := R2.st.len; have := sgw_len (G :: S); have := SI.len; simp at *; omega, m - 1, by omega, i + 1, _, _, _, ⟨_, R3⟩, SI.push, hr, by omega⟩
      · rw [if_neg c1] at hr ⊢
        have at1 : atI ((gs'.map D.fn).reverse ++ [D.fn g1]) (-1) = some (.fn g1) := atI_last _ _
        by_cases c2 : sx t1 = "not" ∨ isLook t1 = true
        · rw [if_pos c2] at hr
          obtain ⟨t2, ht2⟩ := rc_more hr
          have fin : sTW T.C_Group [.fn g1, .str (sx t1)] M1 fun x M' => (∃ fs, HC.objC (HC.look M' p) = some (T.C_ConditionReader, fs) ∧ valD fs "step" = none) ∧ sStep T.C_ConditionReader [.fn p] M' fun x M' => ∃ m', m' < m ∧ ∃ x x_1 x_2 x_3, (∃ x_4, Rd T.C_Group T.C_ConditionReader M' p l x a gc x_1 (x_2 :: x_3) x_4) ∧ SInv x (x_2 :: x_3) ∧ rc (List.drop x l) false x_2 x_3 = Sum.inl d ∧ x + m' = l.length := by
            have hw := SI.wl G (by simp)
            refine ⟨g1, sx t1, G, fp, rfl, h1, by omega, fun M2 h2 c2' => ?_⟩
            have R2 := Rd.top h1 r1 R h2 c2'
            obtain ⟨tt, htt, hp2⟩ := R2.ob
            rw [ht] at htt
            cases htt
            refine ⟨⟨_, by rw [hp2]; rfl, rfl⟩, p, l, i, (t1, tp), t2, a, gc, rfl, hp2, ht2, fun M3 e3 k3 => ?_⟩
            obtain ⟨w1, w2⟩ := gi.word (look_jk c2)
            exact ⟨m - 1, by omega, i + 1, _, _, _, ⟨_, R2.step ht2 e3 k3⟩, SI.upd w1 (by omega) (by omega) (by simp [Grp.word]; omega), hr, by omega⟩
          by_cases c3 : sx t1 = "not"
          · rw [if_pos c3]
            exact ⟨.fn g1, at1, ⟨f1, by rw [HC.objOf_f, o1]; rfl, tw1⟩, fin⟩
          · rw [if_neg c3]
            have c4 := (isLook_eq t1).mp (c2.resolve_left c3)
            rw [if_pos (by rcases c4 with h | h | h | h | h | h <;> simp [h])]
            exact ⟨.fn g1, at1, ⟨f1, by rw [HC.objOf_f, o1]; rfl, tw1⟩, fin⟩
        · rw [if_neg c2] at hr
          have c3 : ¬ sx t1 = "not" := fun e => c2 (.inl e)
          have c4 : ¬ isLook t1 = true := fun e => c2 (.inr e)
          rw [isLook_eq] at c4
          rw [if_neg c3, if_neg (fun h => c4 (by rcases h with h | h | h | h | h | h <;> simp [← h]))]
          refine ⟨.fn g1, at1, ⟨f1, by rw [HC.objOf_f, o1]; rfl, tf1⟩, ?_⟩
          -- a plain factor
          have pl : ∃ j d0, PlainAt l i (t1, tp) j d0 ∧ rc (l.drop j) true (G.take d0) S = .inl d ∧ Trd d0 ∧ wdt d0 = 1 ∧ i + 1 ≤ j := by
            by_cases c5 : sx t1 = "all" ∨ sx t1 = "none"
            · rw [if_pos c5] at hr
              refine ⟨i + 1, _, .inl ⟨c5, rfl, rfl⟩, hr, ⟨sx t1, [], rfl, fun e => ?_⟩, rfl, Nat.le_refl _⟩
              rcases c5 with h | h <;> rw [h] at e <;> exact absurd e (by decide +kernel)
            · rw [if_neg c5] at hr
              by_cases c6 : sx t1 = "is"
              · rw [if_pos c6] at hr
                cases e : l.drop (i + 1) with
                | nil => rw [e] at hr; cases hr
                | cons x r' =>
                  rw [e] at hr
                  obtain ⟨x, q⟩ := x
                  dsimp only at hr
                  obtain ⟨ex, er⟩ : l[i + 1]? = some (x, q) ∧ l.drop (i + 2) = r' := by
                    constructor
                    · have h0 : (l.drop (i + 1))[0]? = some (x, q) := by rw [e]; rfl
                      rwa [List.getElem?_drop, Nat.add_zero] at h0
                    · rw [show i + 2 = (i + 1) + 1 from rfl, ← List.drop_drop, e]
                      rfl
                  by_cases c7 : SS.okName x = true
                  · rw [if_pos c7] at hr
                    exact ⟨i + 2, _, .inr ⟨c6, (x, q), ex, c7, rfl, rfl⟩, by rw [er]; exact hr, ⟨"is", _, rfl, fun e => absurd e (by decide +kernel)⟩, rfl, by omega⟩
                  · rw [if_neg c7] at hr
                    cases hr
              · rw [if_neg c6] at hr
                cases hr
          obtain ⟨j, d0, hpl, hr2, td, wd0, hj⟩ := pl
          obtain ⟨t2, ht2⟩ := rc_more hr2
          have hjl := (List.getElem?_eq_some_iff.mp ht2).1
          refine ⟨p, l, i, (t1, tp), a, gc, j, d0, t2, rfl, hp, hpl, ht2, fun M2 e2 k2 => ?_⟩
          have R2 := R.step ht2 e2 k2
          obtain ⟨n1, n2, n3, n4⟩ := R.nds
          have h2 := h1.up (M' := M2) fun q hq => k2 q fun e => n2 (by rw [← e]; exact List.mem_append_left _ hq)
          have r2 := r1.up (M' := M2) fun q hq => k2 q fun e => n2 (by rw [← e]; exact List.mem_append_right _ hq)
          refine ⟨g1, d0, G, fp, rfl, h2, by have := ww_len G.cur; have := gw_eq G; omega, fun M3 h3 c3' => ?_⟩
          have R3 := Rd.top h2 r2 R2 h3 c3'
          obtain ⟨t3, ht3, hp3⟩ := R3.ob
          obtain ⟨w1, w2⟩ := gi.take td
          refine ⟨⟨_, by rw [hp3]; rfl, rfl⟩, p, l, j, a, gc, _, _, _, _, rfl, R3, SI.upd w1 (by omega) (by omega) (Nat.zero_le _), hl, wl, fun M4 i4 gs4 G4 S4 fs4 R4 SI4 hi4 hr4 hc4 => ?_⟩
          rw [hr2] at hr4
          obtain ⟨t4, ht4, hp4⟩ := R4.ob
          simp [-HC.put_cons, -HC.look_cons, hp4, R4.gr]
          have hi4l := (List.getElem?_eq_some_iff.mp ht4).1
          obtain ⟨g4, gs5, fp4, fs5, rfl, rfl, h4, r4⟩ := rd_inv R4
          obtain ⟨gi4, gz4⟩ := SI4.top
          obtain ⟨f4, o4, _, cn4, _, _⟩ := grp_obj h4
          rw [drop_at ht4] at hr4
          rcases joint_of hr4 (hc4 t4 ht4) with ⟨z1, rfl, rfl⟩ | ⟨z1, G5, hG5, hr5⟩
          · cases r4
            rw [z1, sx_e]
            simp [-HC.put_cons, -HC.look_cons]
            refine ⟨⟨f4, by rw [o4]; rfl, cn4⟩, g4, G4, fp4, rfl, h4, gi4.ok (by omega), fun M5 k5 => ⟨M5, HC.Fewer.refl _, hΦ M5 i4 t4 ?_⟩⟩
            rw [k5 p fun z => R4.nds.2.1 (List.mem_append_left _ z)]
            exact hp4
          · rw [if_neg z1]
            obtain ⟨t5, ht5⟩ := rc_more hr5
            refine ⟨p, l, i4, a, gc, _, G4, G5, S4, _, t4, t5, rfl, R4, ?_, ht4, ht5, hG5, fun M5 fs6 R5 => ⟨l.length - (i4 + 1), by omega, i4 + 1, _, _, _, ⟨_, R5⟩, ?_, hr5, by omega⟩⟩
            · have := gi4.ok (by omega)
              have := this.len
              simp [Grp.terms] at this
              omega
            · rcases hG5 with ⟨_, rfl⟩ | ⟨_, rfl⟩
              · obtain ⟨w3, w4⟩ := gi4.next
                exact SI4.upd w3 (by omega) (by omega) (Nat.le_succ_of_le (SI4.wl G4 (by simp)))
              · exact SI4.upd gi4 (by omega) (by omega) (Nat.le_succ_of_le (SI4.wl _ (by simp)))
end
end K45
namespace K45
open PySem PySem.Spec PyProof.Rows L2 SX DL FD MF TR
def sCI (C CR : Addr) : HC.SC := fun ds M Φ => ∃ (p : Addr) (z : Str) (l : List Tk) (t : Tk), ds = [.fn p, .str z] ∧ HC.look M p = some (.o CR []) ∧ (cd z).length ≤ 1000000 ∧ SS.Lex [40, 41] (cd z) 0 l none ∧ l[0]? = some t ∧
  ∀ M' gc g fs, Rd C CR M' p l 0 (.int (t.2 : Nat)) gc [g] [g0] fs → Φ .non M'
section
variable [I : Tbs] {P : Program} {w : World} {K : PySem.W.Frag} {mg : Str → Option Value} {base : Heap}
theorem ok_crinit (T : Txt P K mg w) : FnOk P w K mg base CX0 4 T.a_ConditionReader___init__ T.fd_ConditionReader___init__ ["self", "text"] (HC.spH K (sCI T.C_Group T.C_ConditionReader)) := by
  have G_Group___init__ : FnOk P w K mg base CX0 1 T.a_Group___init__ T.fd_Group___init__ ["self"] (HC.spH K (sGI T.C_Group)) := ok_ginit T
  refine HC.init_su (k := 3) (N := ["self", "text", "__class__"]) T.su_ConditionReader___init__ (NdefX.nscope_by (by decide +kernel)) (by decide +kernel) (by rfl) (by rfl) (by decide) (ok_rinit T) (by omega) T.b_Reader___init__ (fun A outer s H E hr => ⟨_, _, (pa_cons (pv 1) (pa_cons pe_str pa_nil)), (pss_cons (ps_asg (pe_fld (pv 0) rfl) (SX.pg_fld (pv 0)))
      (pss_one (ps_asg (pe_lst (pa_cons (pe_make0 T.M_Group G_Group___init__ (hr.mono (by omega)) (by rfl) T.g_Group T.b_Group___init__ .nil pass0) pa_nil)) (SX.pg_fld (pv 0))))), (HC.xv_cons (HC.xe_raw 1) (HC.xv_cons HC.xe_str HC.xv_nil)), (HC.xs_seq (HC.xs_asg (HC.xe_fld T.cl_ConditionReader T.n_ConditionReader_place (HC.xe_raw 0)) (HC.xg_fld T.cl_ConditionReader T.n_ConditionReader_first (HC.xe_raw 0)))
      (HC.xs_asg (HC.XL.ce (HC.xl_lst (HC.xv_cons (HC.xe_make HC.xv_nil) HC.xv_nil))) (HC.xg_fld T.cl_ConditionReader T.n_ConditionReader_groups (HC.xe_raw 0))))⟩) (fun ds M Φ h => ?_) (fun ds M Φ h => ?_) (fun _ => rfl) (fun _ => rfl) (fun _ => rfl)
  · obtain ⟨p, z, l, t, rfl, _⟩ := h
    rfl
  · obtain ⟨p, z, l, t, rfl, hp, hz, hx, ht, hΦ⟩ := h
    refine ⟨p, [.str z], rfl, ⟨_, hp⟩, ?_⟩
    simp [-HC.put_cons, -HC.look_cons]
    refine ⟨p, z, "()", l, t, rfl, hp, hz, by rw [show cd ("()" : Str) = [40, 41] by decide +kernel]; exact hx, ht, fun M2 e2 k2 => ?_⟩
    refine ⟨rd4 l 0 t, by rw [e2]; rfl, .int (t.2 : Nat), rfl, rd4 l 0 t, e2, (show [("tokens" : Str), "at", "token", "place"].Nodup by decide +kernel), (show 4 < 1000 by decide), ?_⟩
    generalize hM3 : HC.put M2 p _ = M3
    have e3 : HC.look M3 p = some (.o T.C_ConditionReader (putD (rd4 l 0 t) "first" (.int (t.2 : Nat)))) := by
      rw [← hM3]
      exact HC.look_self e2
    intro q hq
    refine ⟨q, rfl, look_eq, fun M4 fp h4 c4 => ⟨rfl, fun gc hgc => ?_⟩⟩
    have nq : q ≠ p := fun e => by rw [e, e3] at hq; cases hq
    have ep : HC.look ((q, HC.Cell.o T.C_Group []) :: M3) p = HC.look M3 p := look_ne nq
    have e4 : HC.look M4 p = some (.o T.C_ConditionReader (putD (rd4 l 0 t) "first" (.int (t.2 : Nat)))) := by
      rw [c4.keep p (by rw [ep, e3]; exact fun z => (by cases z)) (by simpa using Ne.symm nq), ep, e3]
    have np : p ∉ fp := fun z => by
      rcases c4.sub p z with h | h
      · exact nq (List.mem_singleton.mp h).symm
      · rw [ep, e3] at h; cases h
    have ngp : gc ≠ p := fun e => by rw [e, e4] at hgc; cases hgc
    have ngf : gc ∉ fp := fun z => h4.some gc z hgc
    have e5 : HC.look ((gc, HC.Cell.l [D.fn q]) :: M4) p = some (.o T.C_ConditionReader (putD (rd4 l 0 t) "first" (.int (t.2 : Nat)))) := (look_ne ngp).trans e4
    refine ⟨_, e5, (show [("tokens" : Str), "at", "token", "place", "first"].Nodup by decide +kernel), (show 5 < 1000 by decide), _, HC.Fewer.refl _, hΦ _ gc q (fp ++ []) ⟨⟨t, ht, ?_⟩, ?_, .cons (h4.up fun x hx => ?_) .nil, ?_⟩⟩
    · rw [HC.look_self e5]
      rfl
    · rw [HC.look_other e5 ngp, look_eq]
      rfl
    · rw [HC.look_other e5 (fun e => np (by rw [← e]; exact hx)), look_ne (fun e => ngf (by rw [e]; exact hx))]
    · rw [List.append_nil, List.nodup_cons, List.nodup_cons]
      exact ⟨fun z => (List.mem_cons.mp z).elim (Ne.symm ngp) np, ngf, h4.nd⟩
end
/-! ### the size, and parse_condition -/
mutual
theorem num_subs : ∀ (t : Tr CL) (n : Nat), (num (subs t) n).map Prod.fst = pre t
  | .nd d ks, n => by rw [subs, num, pre, List.map_cons, nums_subs ks]
theorem nums_subs : ∀ (ks : List (Tr CL)) (n : Nat), (nums (subss ks) n).map Prod.fst = pres ks
  | [], n => by rw [subss, nums, pres]; rfl
  | k :: ks, n => by rw [subss, nums, pres, List.map_append, num_subs k, nums_subs ks]
end
theorem lks_pre (t : Tr CL) : ((pre t).filter fun s => isLk s.d).length = lks t := by
  refine Tr.ind (P := fun t => ((pre t).filter fun s => isLk s.d).length = lks t) (fun d ks ih => ?_) t
  rw [pre_nd, lks_nd, List.filter_cons]
  have e : ∀ l : List (Tr CL), (∀ k ∈ l, ((pre k).filter fun s => isLk s.d).length = lks k) → ((l.flatMap pre).filter fun s => isLk s.d).length = (l.map lks).sum := fun l => by
    induction l with
    | nil => exact fun _ => rfl
    | cons k l ih2 =>
      intro h
      rw [List.flatMap_cons, List.filter_append, List.length_append, List.map_cons, List.sum_cons, h k List.mem_cons_self, ih2 fun x hx => h x (List.mem_cons_of_mem _ hx)]
  have e1 := e ks ih
  rw [d_nd]
  cases isLk d with
  | true =>
    rw [if_pos rfl, if_pos rfl, List.length_cons, e1]
  | false =>
    rw [if_neg (by decide), if_neg (by decide), e1]
    rfl
def lkRow (r : Tr CL × List Nat) : D := .tup [cnD r.1, .lst (r.2.map fun n => .int (n : Nat))]
def isLR : D → Bool
  | .tup (d :: _) => decide (kindOf d ∈ lookNames)
  | _ => false
def fstD : D → D
  | .tup (d :: _) => d
  | _ => .non
theorem kind_look (d : CL) : decide (kindS d ∈ lookNames) = isLk d := by
  cases d with
  | look q => cases q <;> decide +kernel
  | conj b => cases b <;> decide +kernel
  | is x => exact (show decide (("is" : Str) ∈ lookNames) = false by decide +kernel)
  | _ => decide +kernel
def rowsC (c : Tr CL) : List D := (num (subs c) 0).map lkRow
theorem rows_eq (c : Tr CL) : (num (mapT cnD (subs c)) 0).map NB.rowD = rowsC c := by
  rw [num_map, List.map_map]
  rfl
theorem rows_looks (c : Tr CL) : ((rowsC c).filter isLR).length = lks c := by
  rw [← lks_pre, ← num_subs c 0]
  unfold rowsC
  generalize num (subs c) 0 = l
  induction l with
  | nil => rfl
  | cons r l ih =>
    have e : isLR (lkRow r) = isLk r.1.d := by
      show decide (kindOf (cnD r.1) ∈ lookNames) = _
      rw [kindOf_cn, kind_look]
    rw [List.map_cons, List.map_cons, List.filter_cons, List.filter_cons, e]
    cases isLk r.1.d with
    | true => rw [if_pos rfl, if_pos rfl, List.length_cons, List.length_cons, ih]
    | false => rw [if_neg (by decide), if_neg (by decide), ih]
def sSize : HC.SC := fun ds M Φ => ∃ (p : Addr) (n : Nat) (c : Tr CL), ds = [.fn p, cnD c] ∧ WC n c ∧ sz c ≤ 12 ∧ lks c ≤ 4 ∧ Φ .non M
/-- the trees in a tree are told by parts_of -/
def SI (a : Addr) : Addr → Option NB.SV := fun f => if f = a then some sParts else none
section
variable [I : Tbs] {P : Program} {w : World} {K : PySem.W.Frag} {mg : Str → Option Value} {base : Heap}
theorem si_ok (T : Txt P K mg w) : ∀ f sp, NB.spA K (SI T.a_parts_of) f = some sp → Held P w K mg base 1 f sp := fun f sp h => by
  unfold NB.spA SI at h
  by_cases e : f = T.a_parts_of
  · rw [if_pos e] at h
    cases h
    subst e
    exact ⟨_, _, ok_parts T, T.F_parts_of.kp, T.b_parts_of⟩
  · rw [if_neg e] at h
    cases h
theorem ok_size (T : Txt P K mg w) : FnOk P w K mg base CX0 4 T.a_ConditionReader_check_size T.fd_ConditionReader_check_size ["self", "condition"] (HC.spH K sSize) := by
  have G_numbered : FnOk P w K mg base CX0 2 T.a_numbered T.fd_numbered ["root", "inner_of"] (spOf K (pureS (FD.sNum (SI T.a_parts_of)))) := ok_numbered T _ (si_ok T)
  refine HC.fnC T.F_ConditionReader_check_size sc_ConditionReader_check_size (k := 3) (fun cdv A outer s H E hr => ⟨_, (pss_cons (ps_set (i := 2) sc_ConditionReader_check_size.nd rfl (by first | exact Or.inl rfl | exact Or.inr rfl) (pe_call G_numbered (hr.mono (by omega)) (by rfl) T.g_numbered T.F_numbered.kp T.b_numbered .nil pass0 (pa_cons (pv 1) (pa_cons (pe_glob (v := .ref T.a_parts_of) (by rfl) T.g_parts_of rfl) pa_nil))))
      (pss_cons (ps_if (pt_cmpR op_gt (pe_callB call_len (by rfl) T.n_len boot_len (pa_cons (pv 2) pa_nil)) (pe_glob (v := .int (12)) (by rfl) T.g_MOST_PARTS ⟨_, rfl⟩) (nomark _)) (pss_one DS.ps_never) pss_nil)
      (pss_cons (ps_setLc (i := 3) (own := [("part", 4), ("_", 5)]) (by rfl) sc_ConditionReader_check_size.nd rfl rfl (sw_true rfl rfl rfl (by decide +kernel)) (pi_list (pv 2)) (blkOk_by (own := [("part", 4), ("_", 5)]) (N := ["self", "condition", "parts", "looks", "part", "_"]) (sc := defScope s_ConditionReader_check_size) (by decide +kernel)) (fun _ _ _ _ _ => (pg_tup (n := 2) (by rfl) (pgs_cons (pg_name (i := 4) sc_ConditionReader_check_size.nd rfl (by first | exact Or.inl rfl | exact Or.inr rfl)) (pgs_cons (pg_name (i := 5) sc_ConditionReader_check_size.nd rfl (by first | exact Or.inl rfl | exact Or.inr rfl)) pgs_nil)))) (fun _ _ _ _ _ => (pts_one (pt_cmpR op_in_seq (pe_ix (show IxR _ (rIxT K) from ix_tup) (pv 4) pe_int (fun _ _ => rfl)) (pe_glob (v := .ref T.d_LOOKS) (by rfl) T.g_LOOKS rfl) rfl))) (fun _ _ _ _ _ => (pv 4)))
      (pss_one (ps_if (pt_cmpR op_gt (pe_callB call_len (by rfl) T.n_len boot_len (pa_cons (pv 3) pa_nil)) (pe_glob (v := .int (4)) (by rfl) T.g_MOST_LOOKS ⟨_, rfl⟩) (nomark _)) (pss_one DS.ps_never) pss_nil))))), (HC.xs_seq (HC.xs_asg (HC.xe_callO (HC.xv_cons (HC.xe_raw 1) (HC.xv_cons HC.xe_fn HC.xv_nil))) HC.xg_name)
      (HC.xs_seq (HC.xs_if (HC.xt_test (HC.xe_op ro_B0 (HC.xe_len (HC.xe_raw 2)) HC.xe_int)) DS.xs_never HC.xs_next)
      (HC.xs_seq (HC.xs_asg (HC.XL.re (HC.xl_lc (HC.xi_list (HC.xe_raw 2)) (HC.xg_tup (HC.xgs_cons HC.xg_name (HC.xgs_cons HC.xg_name HC.xgs_nil))) (HC.xt_test (HC.xe_in (HC.xe_op ro_ixT (HC.xe_raw 4) HC.xe_int) (HC.xe_c T.D_LOOKS.dr))) (HC.xe_raw 4))) HC.xg_name)
      (HC.xs_if (HC.xt_test (HC.xe_op ro_B0 (HC.xe_len (HC.xe_raw 3)) HC.xe_int)) DS.xs_never HC.xs_next))))⟩) (fun ds M Φ h => ?_) (fun ds M Φ h => ?_)
  · obtain ⟨p, n, c, rfl, _⟩ := h
    rfl
  · obtain ⟨p, n, c, rfl, hw, h12, h4, hΦ⟩ := h
    simp [-HC.put_cons, -HC.look_cons]
    refine ⟨mapT cnD (subs c), T.a_parts_of, sParts, ?_, if_pos rfl, good_cn hw, by rw [sz_map, subs_sz]; omega, ?_⟩
    · rw [mapT_d, subs_d]
    rw [rows_eq]
    have hl : (rowsC c).length = sz c := by unfold rowsC; rw [List.length_map, num_len, subs_sz]
    simp [-HC.put_cons, -HC.look_cons, hl]
    refine ⟨by omega, ?_⟩
    refine HC.lc_fp (rowsC c) M isLR fstD (fun Ψ q => ?_) rfl (by omega) (fun x hx A B h1 h2 => ?_) ?_
    · simp [-HC.put_cons, -HC.look_cons]
      exact q
    · obtain ⟨r, hr, rfl⟩ := List.mem_map.mp hx
      obtain ⟨rest, er⟩ := cn_kind r.1
      have hd : isLR (lkRow r) = decide (kindS r.1.d ∈ lookNames) := by
        show decide (kindOf (cnD r.1) ∈ lookNames) = _
        rw [kindOf_cn]
      have ef : fstD (lkRow r) = .tup (.str (kindS r.1.d) :: rest) := by rw [← er]; rfl
      rw [ef] at h1
      rw [hd] at h1 h2
      unfold lkRow
      rw [er]
      generalize kindS r.1.d = kd at *
      simp [-HC.put_cons, -HC.look_cons]
      have hin : (("child" : Str) = kd ∨ ("below" : Str) = kd ∨ ("parent" : Str) = kd ∨ ("above" : Str) = kd ∨ ("earlier" : Str) = kd ∨ ("later" : Str) = kd) ↔ kd ∈ lookNames := by
        unfold lookNames
        simp [eq_comm]
      by_cases hk : kd ∈ lookNames
      · rw [if_pos (hin.mpr hk)]
        exact h1 (decide_eq_true hk)
      · rw [if_neg fun z => hk (hin.mp z)]
        exact h2 (decide_eq_false hk)
    · rw [List.length_map, rows_looks]
      exact ⟨by omega, M, HC.Fewer.refl _, hΦ⟩
theorem lex_wl {sg : List Nat} {x : SS.Tx} {i : Nat} {l : List Tk} {e : Option Nat} (h : SS.Lex sg x i l e) : e = none → WL l ∧ ∃ t, l[0]? = some t := by
  have cons : ∀ {t : Tk} {l : List Tk}, (WL l ∧ ∃ t, l[0]? = some t) → WL (t :: l) ∧ ∃ t', (t :: l)[0]? = some t' := fun {t l} h => by
    refine ⟨fun j t' hj hn => ?_, t, rfl⟩
    cases j with
    | zero => exact h.2
    | succ j => exact h.1 j t' hj hn
  induction h with
  | done =>
    refine fun _ => ⟨fun j t hj hn => ?_, _, rfl⟩
    cases j with
    | zero => cases hj; exact absurd rfl hn
    | succ j => cases hj
  | word h0 h1 h2 r ih => exact fun e => cons (ih e)
  | sign h1 h2 r ih => exact fun e => cons (ih e)
  | space h1 h2 h3 r ih => exact ih
  | bad h1 h2 h3 => exact fun e => by cases e
def sPC : HC.SC := fun ds M Φ => ∃ (z : Str) (l : List Tk) (n : Nat) (c : Tr CL), ds = [.str z] ∧ (cd z).length ≤ 1000000 ∧ SS.Lex [40, 41] (cd z) 0 l none ∧ l.length ≤ 900 ∧ rc l false g0 [] = .inl (cnD c) ∧ WC n c ∧ sz c ≤ 12 ∧ lks c ≤ 4 ∧ ∀ M', Φ (cnD c) M'
theorem ok_parseH (T : Txt P K mg w) : FnOk P w K mg base CX0 6 T.a_parse_condition T.fd_parse_condition ["text"] (HC.spH K sPC) := by
  have G_ConditionReader___init__ : FnOk P w K mg base CX0 4 T.a_ConditionReader___init__ T.fd_ConditionReader___init__ ["self", "text"] (HC.spH K (sCI T.C_Group T.C_ConditionReader)) := ok_crinit T
  have G_ConditionReader_read_condition : FnOk P w K mg base CX0 4 T.a_ConditionReader_read_condition T.fd_ConditionReader_read_condition ["self"] (HC.spH K (sRCond T.C_Group T.C_ConditionReader)) := ok_rcond T
  have G_ConditionReader_check_size : FnOk P w K mg base CX0 4 T.a_ConditionReader_check_size T.fd_ConditionReader_check_size ["self", "condition"] (HC.spH K sSize) := ok_size T
  refine HC.fnC T.F_parse_condition sc_parse_condition (k := 5) (fun cdv A outer s H E hr => ⟨_, (pss_cons (ps_set (i := 1) sc_parse_condition.nd rfl (by first | exact Or.inl rfl | exact Or.inr rfl) (pe_make T.M_ConditionReader G_ConditionReader___init__ (hr.mono (by omega)) (by rfl) T.g_ConditionReader T.b_ConditionReader___init__ .nil pass0 (pa_cons (pv 0) pa_nil)))
      (pss_cons (ps_set (i := 2) sc_parse_condition.nd rfl (by first | exact Or.inl rfl | exact Or.inr rfl) (pe_meth0 (pv 1) T.cl_ConditionReader T.m_ConditionReader_read_condition G_ConditionReader_read_condition (hr.mono (by omega)) T.b_ConditionReader_read_condition .nil pass0))
      (pss_cons (ps_expr (pe_meth (pv 1) T.cl_ConditionReader T.m_ConditionReader_check_size G_ConditionReader_check_size (hr.mono (by omega)) T.b_ConditionReader_check_size .nil pass0 (pa_cons (pv 2) pa_nil)))
      (pss_one (ps_ret (pv 2)))))), (HC.xs_seq (HC.xs_asg (HC.xe_make (HC.xv_cons (HC.xe_raw 0) HC.xv_nil)) HC.xg_name)
      (HC.xs_seq (HC.xs_asg (HC.xe_meth (HC.xe_raw 1) HC.xv_nil) HC.xg_name)
      (HC.xs_seq (HC.xs_drop (HC.xe_meth (HC.xe_raw 1) (HC.xv_cons (HC.xe_raw 2) HC.xv_nil)))
      (HC.xs_ret (HC.xe_raw 2)))))⟩) (fun ds M Φ h => ?_) (fun ds M Φ h => ?_)
  · obtain ⟨z, l, n, c, rfl, _⟩ := h
    rfl
  · obtain ⟨z, l, n, c, rfl, hz, hx, hl, hr, hw, h12, h4, hΦ⟩ := h
    obtain ⟨wl, t, ht⟩ := lex_wl hx rfl
    simp [-HC.put_cons, -HC.look_cons]
    intro p hp
    refine ⟨p, z, l, t, rfl, look_eq, hz, hx, ht, fun M1 gc g fs R => ⟨rfl, ?_⟩⟩
    obtain ⟨t1, ht1, e1⟩ := R.ob
    simp [-HC.put_cons, -HC.look_cons, e1]
    refine ⟨p, l, _, gc, g, fs, cnD c, rfl, R, hl, wl, hr, fun M2 i t2 e2 => ?_⟩
    simp [-HC.put_cons, -HC.look_cons, e2]
    exact ⟨p, n, c, rfl, hw, h12, h4, M2, HC.Fewer.refl _, hΦ M2⟩
end
end K45
namespace K45
open PySem PySem.Spec PyProof.Rows L2 SX DL FD MF TR
/-! ### printing -/
section
variable [I : Tbs] {P : Program} {w : World} {K : PySem.W.Frag} {mg : Str → Option Value} {base : Heap}
theorem ok_written (T : Txt P K mg w) (SP : Addr → Option NB.SV) (HA : ∀ f sp, NB.spA K SP f = some sp → Held P w K mg base 2 f sp) : FnOk P w K mg base CX0 3 T.a_written T.fd_written ["tree", "pieces_of"] (spOf K (pureS (DH.sWr SP))) := by
  refine fnD T.F_written sc_written [] (k := 2) (fun cdv A outer s H E hr => ⟨_, (pss_cons (ps_set (i := 2) sc_written.nd rfl (by first | exact Or.inl rfl | exact Or.inr rfl) (pe_lst pa_nil))
      (pss_cons (ps_set (i := 3) sc_written.nd rfl (by first | exact Or.inl rfl | exact Or.inr rfl) (pe_lst (pa_cons (pe_tup (pa_cons (pv 0) (pa_cons (pe_glob (v := .int (0)) (by rfl) T.g_ALONE ⟨_, rfl⟩) pa_nil))) pa_nil)))
      (pss_cons (ps_while PassesOwn.never (pt_truth (pv 3) (by intro _; rfl)) (pss_cons (ps_set (i := 4) sc_written.nd rfl (by first | exact Or.inl rfl | exact Or.inr rfl) (pe_bm0 PySem.F.plainAttrs_list PySem.F.slot_list_pop PySem.F.type_list_pop mt_pop (pv 3)))
      (pss_one (ps_if (pt_val (pe_callB call_isi (by rfl) T.n_isinstance (by decide +kernel) (pa_cons (pv 4) (pa_cons (pe_bltn (v := .ty "str") (by rfl) T.n_str (by decide +kernel) rfl) pa_nil)))) (pss_one (ps_expr (pe_bm PySem.F.plainAttrs_list PySem.F.slot_list_append PySem.F.type_list_append mt_append (pv 2) (pa_cons (pv 4) pa_nil)))) (pss_one (ps_expr (pe_bm PySem.F.plainAttrs_list PySem.F.slot_list_extend PySem.F.type_list_extend mt_extend (pv 3) (pa_cons (pe_revL (pe_callA (i := 1) (S := NB.spA K SP) HA (hr.mono (by omega)) rfl (by first | exact Or.inl rfl | exact Or.inr (Or.inl rfl) | exact Or.inr (Or.inr rfl)) (pa_cons (pe_ix (show IxR _ (rIxT K) from ix_tup) (pv 4) pe_int (fun _ _ => rfl)) (pa_cons (pe_ix (show IxR _ (rIxT K) from ix_tup) (pv 4) pe_int (fun _ _ => rfl)) pa_nil)))) pa_nil))))))))
      (pss_one (ps_ret (pe_join pe_str (pv 2))))))), (rs_seq (rs_setL (rl_lst rv_nil))
      (rs_seq (rs_setL (rl_lst (rv_cons (re_tup (rv_cons (re_var 0) (rv_cons re_int rv_nil))) rv_nil)))
      (rs_seq (rs_while (rt_truthS (i := 3)) (rs_seq (rs_asg (re_pop (i := 3)) rg_name)
      (rs_if (rt_B (re_cb rc_isi (rv_cons (re_var 4) (rv_cons re_ty rv_nil)))) (rs_app (i := 2) (re_var 4)) (NB.rs_ext (i := 3) (rl_rev (NB.re_callA (i := 1) (rv_cons (re_op ro_ixT (re_var 4) re_int) (rv_cons (re_op ro_ixT (re_var 4) re_int) rv_nil))))))))
      (rs_ret (DT.re_join re_str (re_var 2))))))⟩) (pure_len fun ds Φ h => ?_) (fun os Φ h => ?_)
  · obtain ⟨t, f, s, ts, n, rfl, _⟩ := h
    rfl
  · obtain ⟨ds, rfl, t, f, s, ts, n, rfl, hs, hw, hn, hz, hΦ⟩ := h
    simp
    refine while_inv (fun m ρ => ∃ (acc st ts' : List _) (b : Option OV), ρ = [some (.d t), some (.d (.fn f)), some (.l (acc.map .str)), some (.l st.reverse), b] ∧ DH.WrL s st ts' m ∧ acc ++ ts' = ts ∧ acc.length + m ≤ n) ⟨n, [], [.tup [t, .int 0]], ts, none, rfl, hw, rfl, by simp⟩ ?_
    rintro m ρ ⟨acc, st, ts', b, rfl, hw', rfl, hm⟩
    simp
    cases hw' with
    | nil =>
      simp
      have e0 : ("" : Str).length = 0 := by decide +kernel
      rw [List.append_nil] at hz hΦ
      exact ⟨acc, rfl, by rw [e0]; omega, hΦ⟩
    | @txt x r ts2 n2 h =>
      simp
      exact ⟨by omega, n2, by omega, acc ++ [x], r, ⟨by simp, rfl⟩, ts2, h, by simp, by simp; omega⟩
    | @tree t2 pl ps r _ n2 hs2 h =>
      simp
      refine ⟨s, hs, hs2 _ ?_⟩
      have hl := h.len.1
      rw [List.length_append] at hl
      exact ⟨ps, rfl, by omega, n2, by omega, acc, ps ++ r, ⟨rfl, by simp⟩, ts', h, rfl, by omega⟩
/-- how tightly a condition holds together -/
def tight : CL → Int
  | .conj false => 0
  | .conj true => 1
  | _ => 2
def pcs (t : Tr CL) (pl : Int) : List D :=
  if tight t.d < pl then [.str "(", .tup [cnD t, .int 0], .str ")"] else
  match t.d with
  | .conj false => sepD " or " 1 (t.ks.map cnD)
  | .conj true => sepD " and " 2 (t.ks.map cnD)
  | .is x => [.str ("is " ++ x)]
  | .all => [.str "all"]
  | .none => [.str "none"]
  | d => .str (kindS d ++ " ") :: (t.ks.map fun k => pcD 2 (cnD k))
def sPcs : NB.SV := fun ds Φ => ∃ (n : Nat) (t : Tr CL) (pl : Int), ds = [cnD t, .int pl] ∧ WC n t ∧ Φ (.lst (pcs t pl))
theorem e_app (a : Str) : Str.empty ++ a = a := cd_inj (by rw [cd_append]; rfl)
theorem ok_pieces (T : Txt P K mg w) : FnOk P w K mg base CX0 2 T.a_pieces_of T.fd_pieces_of ["condition", "place"] (spOf K (pureS sPcs)) := by
  have G_separated : FnOk P w K mg base CX0 1 T.a_separated T.fd_separated ["trees", "sign", "place"] (spOf K (pureS sSep)) := ok_separated T
  refine fnD T.F_pieces_of sc_pieces_of [] (k := 1) (fun cdv A outer s H E hr => ⟨_, (pss_cons (ps_set (i := 2) sc_pieces_of.nd rfl (by first | exact Or.inl rfl | exact Or.inr rfl) (pe_ix (show IxR _ (rIxT K) from ix_tup) (pv 0) pe_int (fun _ _ => rfl)))
      (pss_cons (ps_if (pt_cmpR op_gt (pv 1) (DT.pe_getW T.D_TIGHTEST (pe_glob (v := .ref T.d_TIGHTEST) (by rfl) T.g_TIGHTEST rfl) (pv 2) (pe_glob (v := .int (2)) (by rfl) T.g_FACTOR ⟨_, rfl⟩) (by constructor <;> rfl)) (nomark _)) (pss_one (ps_ret (pe_lst (pa_cons pe_str (pa_cons (pe_tup (pa_cons (pv 0) (pa_cons (pe_glob (v := .int (0)) (by rfl) T.g_ALONE ⟨_, rfl⟩) pa_nil))) (pa_cons pe_str pa_nil)))))) pss_nil)
      (pss_cons (ps_if (pt_cmpR op_eq (pv 2) pe_str (nomark _)) (pss_one (ps_ret (pe_call G_separated (hr.mono (by omega)) (by rfl) T.g_separated T.F_separated.kp T.b_separated .nil pass0 (pa_cons (pe_ix (show IxR _ (rIxT K) from ix_tup) (pv 0) pe_int (fun _ _ => rfl)) (pa_cons pe_str (pa_cons (pe_glob (v := .int (1)) (by rfl) T.g_TERM ⟨_, rfl⟩) pa_nil)))))) pss_nil)
      (pss_cons (ps_if (pt_cmpR op_eq (pv 2) pe_str (nomark _)) (pss_one (ps_ret (pe_call G_separated (hr.mono (by omega)) (by rfl) T.g_separated T.F_separated.kp T.b_separated .nil pass0 (pa_cons (pe_ix (show IxR _ (rIxT K) from ix_tup) (pv 0) pe_int (fun _ _ => rfl)) (pa_cons pe_str (pa_cons (pe_glob (v := .int (2)) (by rfl) T.g_FACTOR ⟨_, rfl⟩) pa_nil)))))) pss_nil)
      (pss_cons (ps_if (pt_cmpR op_eq (pv 2) pe_str (nomark _)) (pss_one (ps_ret (pe_lst (pa_cons (pe_joined (.cons pe_str (.cons (pe_fmt (pe_ix (show IxR _ (rIxT K) from ix_tup) (pv 0) pe_int (fun _ _ => rfl))) .nil))) pa_nil)))) pss_nil)
      (pss_cons (ps_if (pt_cmpR op_in_seq (pv 2) (pe_tup (pa_cons pe_str (pa_cons pe_str pa_nil))) rfl) (pss_one (ps_ret (pe_lst (pa_cons (pv 2) pa_nil)))) pss_nil)
      (pss_one (ps_ret (pe_lst (pa_cons (pe_joined (.cons (pe_fmt (pv 2)) (.cons pe_str .nil))) (pa_cons (pe_tup (pa_cons (pe_ix (show IxR _ (rIxT K) from ix_tup) (pv 0) pe_int (fun _ _ => rfl)) (pa_cons (pe_glob (v := .int (2)) (by rfl) T.g_FACTOR ⟨_, rfl⟩) pa_nil))) pa_nil))))))))))), (rs_seq (rs_asg (re_op ro_ixT (re_var 0) re_int) rg_name)
      (rs_seq (rs_if (rt_test (re_op ro_B0 (re_var 1) (DT.re_getW re_fn (re_var 2) re_int))) (rs_ret (RL.re (rl_lst (rv_cons re_str (rv_cons (re_tup (rv_cons (re_var 0) (rv_cons re_int rv_nil))) (rv_cons re_str rv_nil)))))) rs_next)
      (rs_seq (rs_if (rt_test (re_op ro_eq (re_var 2) re_str)) (rs_ret (re_callV (rv_cons (re_op ro_ixT (re_var 0) re_int) (rv_cons re_str (rv_cons re_int rv_nil))))) rs_next)
      (rs_seq (rs_if (rt_test (re_op ro_eq (re_var 2) re_str)) (rs_ret (re_callV (rv_cons (re_op ro_ixT (re_var 0) re_int) (rv_cons re_str (rv_cons re_int rv_nil))))) rs_next)
      (rs_seq (rs_if (rt_test (re_op ro_eq (re_var 2) re_str)) (rs_ret (RL.re (rl_lst (rv_cons (DT.re_joined (DT.rj_cons re_str (DT.rj_cons (DT.re_fmt (re_op ro_ixT (re_var 0) re_int)) DT.rj_nil))) rv_nil)))) rs_next)
      (rs_seq (rs_if (rt_test (re_op ro_in (re_var 2) (re_tup (rv_cons re_str (rv_cons re_str rv_nil))))) (rs_ret (RL.re (rl_lst (rv_cons (re_var 2) rv_nil)))) rs_next)
      (rs_ret (RL.re (rl_lst (rv_cons (DT.re_joined (DT.rj_cons (DT.re_fmt (re_var 2)) (DT.rj_cons re_str DT.rj_nil))) (rv_cons (re_tup (rv_cons (re_op ro_ixT (re_var 0) re_int) (rv_cons re_int rv_nil))) rv_nil)))))))))))⟩) (pure_len fun ds Φ h => ?_) (fun os Φ h => ?_)
  · obtain ⟨n, t, pl, rfl, _⟩ := h
    rfl
  · obtain ⟨ds, rfl, n, t, pl, rfl, hw, hΦ⟩ := h
    cases hw with
    | @nd n d ks ha hb hk =>
      simp only [cn_nd] at hΦ ⊢
      unfold pcs at hΦ
      simp only [d_nd, ks_nd, cn_nd] at hΦ
      have sl := ha.le
      cases d with
      | all =>
        cases List.length_eq_zero_iff.mp ha
        simp (decide := true) [wrap]
        refine ⟨.int 2, rfl, ?_⟩
        simp
        by_cases hp : 2 < pl
        · simpa [hp, tight, wrap] using hΦ
        · simpa [hp, tight, wrap] using hΦ
      | none =>
        cases List.length_eq_zero_iff.mp ha
        simp (decide := true) [wrap]
        refine ⟨.int 2, rfl, ?_⟩
        simp
        by_cases hp : 2 < pl
        · simpa [hp, tight, wrap] using hΦ
        · simpa [hp, tight, wrap] using hΦ
      | is x =>
        cases List.length_eq_zero_iff.mp ha.1
        have hxl : x.length ≤ 2 := by rcases ha.2 with rfl | rfl | rfl | rfl <;> decide +kernel
        have e3 : ("is " : Str).length = 3 := by decide +kernel
        simp (decide := true) [wrap]
        refine ⟨.int 2, rfl, ?_⟩
        simp [e_app, app_len]
        by_cases hp : 2 < pl
        · simpa [hp, tight, wrap] using hΦ
        · simp [hp, tight, wrap] at hΦ ⊢
          first | exact hΦ | exact ⟨by omega, hΦ⟩ | exact ⟨by omega, by omega, hΦ⟩ | exact ⟨by omega, by omega, by omega, hΦ⟩
      | not =>
        match ks, ha, hΦ with
        | [k], _, hΦ =>
          simp (decide := true) [wrap]
          refine ⟨.int 2, rfl, ?_⟩
          simp [e_app, app_len]
          by_cases hp : 2 < pl
          · simpa [hp, tight, wrap] using hΦ
          · simp (decide := true) [hp, tight, wrap, pcD, kindS] at hΦ ⊢
            exact hΦ
      | look q =>
        match ks, ha, hΦ with
        | [k], _, hΦ =>
          cases q <;>
            (simp (decide := true) [wrap, lkS]
             refine ⟨.int 2, rfl, ?_⟩
             simp [e_app, app_len]
             by_cases hp : 2 < pl
             · simpa [hp, tight, wrap, lkS] using hΦ
             · simp (decide := true) [hp, tight, wrap, pcD, kindS, lkS] at hΦ ⊢
               exact hΦ)
      | conj b =>
        cases b with
        | false =>
          simp (decide := true) [wrap]
          refine ⟨.int 0, rfl, ?_⟩
          simp
          by_cases hp : 0 < pl
          · simpa [hp, tight, wrap] using hΦ
          · simp [hp, tight, wrap] at hΦ ⊢
            exact ⟨_, _, _, rfl, by rw [List.length_map]; omega, hΦ⟩
        | true =>
          simp (decide := true) [wrap]
          refine ⟨.int 1, rfl, ?_⟩
          simp
          by_cases hp : 1 < pl
          · simpa [hp, tight, wrap] using hΦ
          · simp [hp, tight, wrap] at hΦ ⊢
            exact ⟨_, _, _, rfl, by rw [List.length_map]; omega, hΦ⟩
end
end K45
namespace K45
open PySem PySem.Spec PyProof.Rows L2 SX DL FD MF TR DH
/-! ### the stack of pieces writes the canonical text -/
def Cl (t : Tr CL) (pl : Int) (x : Str) (b : Nat) : Prop := ∀ r ts k, WrL sPcs r ts k → ∃ ts' k', WrL sPcs (pcD pl (cnD t) :: r) (ts' ++ ts) (k + k') ∧ ts'.flatMap cd = cd x ∧ k' ≤ b
theorem prF_0 (b : Bool) (l : List (Str → Str)) : prF (.conj b) l "" = Txt.join (" " ++ cjS b ++ " ") (l.map fun f => f (cjS b)) := by
  unfold prF
  cases b <;> exact if_neg (by decide +kernel)
theorem prT_need (t : Tr CL) (w : Str) : prT t w = if need w t.d = true then "(" ++ prT t "" ++ ")" else prT t "" := by
  cases t with
  | nd d ks =>
    rw [prT_nd]
    cases d with
    | conj b =>
      have e0 : prF (.conj b) (ks.map prT) "" = Txt.join (" " ++ cjS b ++ " ") ((ks.map prT).map fun f => f (cjS b)) := prF_0 b _
      rw [e0]
      rfl
    | _ => rfl
theorem Cl.br {t : Tr CL} {n : Nat} (hw : WC n t) {pl : Int} {b : Nat} (h0 : Cl t 0 (prT t "") b) (hp : tight t.d < pl) : Cl t pl ("(" ++ prT t "" ++ ")") (b + 3) := fun r ts k hr => by
  obtain ⟨ts', k', h1, h2, h3⟩ := h0 _ _ _ (WrL.txt (x := ")") hr)
  refine ⟨("(" : Str) :: (ts' ++ [(")" : Str)]), k' + 3, ?_, ?_, by omega⟩
  · have hs : ∀ Φ : D → Prop, Φ (.lst [.str "(", .tup [cnD t, .int 0], .str ")"]) → sPcs [cnD t, .int pl] Φ := fun Φ h => ⟨n, t, pl, rfl, hw, by unfold pcs; rw [if_pos hp]; exact h⟩
    have := WrL.tree hs (ps := [.str "(", .tup [cnD t, .int 0], .str ")"]) (r := r) (WrL.txt (x := "(") h1)
    rw [show k + (k' + 3) = k + 1 + k' + 1 + 1 by omega]
    simpa [pcD] using this
  · rw [List.flatMap_cons, List.flatMap_append, h2, cd_append, cd_append]
    simp
theorem tight_nn (d : CL) : ¬ tight d < 0 := by unfold tight; split <;> decide
theorem tight_2 {d : CL} (h : ∀ b, d ≠ .conj b) : tight d = 2 := by
  cases d with
  | conj b => exact absurd rfl (h b)
  | _ => rfl
/-- the child k of a tree, here: its text in the law's place -/
theorem child_cl {k : Tr CL} {m : Nat} (hw : WC m k) (hA : ∀ pl : Int, ¬ tight k.d < pl → Cl k pl (prT k "") (10 * sz k)) {w : Str} {pl : Int} (h : (need w k.d = true ∧ tight k.d < pl) ∨ (need w k.d = false ∧ ¬ tight k.d < pl)) : Cl k pl (prT k w) (10 * sz k + 3) := by
  rw [prT_need k w]
  rcases h with ⟨h1, h2⟩ | ⟨h1, h2⟩
  · rw [if_pos h1]
    exact (hA 0 (tight_nn _)).br hw h2
  · rw [h1, if_neg (by decide)]
    intro r ts kk hr
    obtain ⟨ts', k', a, b, c⟩ := hA pl h2 r ts kk hr
    exact ⟨ts', k', a, b, by omega⟩
theorem fit_word (d : CL) : (need "word" d = true ∧ tight d < 2) ∨ (need "word" d = false ∧ ¬ tight d < 2) := by
  cases d with
  | conj b => cases b <;> exact .inl (by decide +kernel)
  | _ => exact .inr ⟨rfl, by rw [tight_2 fun b e => by cases e]; decide⟩
theorem fit_and {d : CL} (h : d ≠ .conj true) : (need "and" d = true ∧ tight d < 2) ∨ (need "and" d = false ∧ ¬ tight d < 2) := by
  cases d with
  | conj b =>
    cases b with
    | true => exact absurd rfl h
    | false => exact .inl (by decide +kernel)
  | _ => exact .inr ⟨rfl, by rw [tight_2 fun b e => by cases e]; decide⟩
theorem fit_or {d : CL} (h : d ≠ .conj false) : (need "or" d = true ∧ tight d < 1) ∨ (need "or" d = false ∧ ¬ tight d < 1) := by
  cases d with
  | conj b =>
    cases b with
    | false => exact absurd rfl h
    | true => exact .inr (by decide +kernel)
  | _ => exact .inr ⟨rfl, by rw [tight_2 fun b e => by cases e]; decide⟩
theorem wr_two {k1 k2 : Tr CL} {pl : Int} {x1 x2 sg : Str} {b1 b2 : Nat} (h1 : Cl k1 pl x1 b1) (h2 : Cl k2 pl x2 b2) : ∀ r ts k, WrL sPcs r ts k → ∃ ts' k', WrL sPcs (pcD pl (cnD k1) :: .str sg :: pcD pl (cnD k2) :: r) (ts' ++ ts) (k + k') ∧ ts'.flatMap cd = cd (x1 ++ sg ++ x2) ∧ k' ≤ b1 + b2 + 1 := fun r ts k hr => by
  obtain ⟨t2, n2, a2, e2, l2⟩ := h2 r ts k hr
  obtain ⟨t1, n1, a1, e1, l1⟩ := h1 _ _ _ (WrL.txt (x := sg) a2)
  refine ⟨t1 ++ sg :: t2, n1 + n2 + 1, ?_, ?_, by omega⟩
  · rw [show k + (n1 + n2 + 1) = k + n2 + 1 + n1 by omega, List.append_assoc]
    exact a1
  · rw [List.flatMap_append, List.flatMap_cons, e1, e2, cd_append, cd_append, List.append_assoc]
theorem wr_cond {n : Nat} {t : Tr CL} (hw : WC n t) : ∀ pl : Int, ¬ tight t.d < pl → Cl t pl (prT t "") (10 * sz t) := by
  induction hw with
  | @nd n d ks ha hb hk ih =>
    intro pl hp r ts k hr
    have hs : ∀ Φ : D → Prop, Φ (.lst (pcs (.nd d ks) pl)) → sPcs [cnD (.nd d ks), .int pl] Φ := fun Φ h => ⟨_, _, pl, rfl, .nd ha hb hk, h⟩
    have go : ∀ (ps : List D) (ts' : List Str) (k' : Nat), pcs (.nd d ks) pl = ps → WrL sPcs (ps ++ r) (ts' ++ ts) (k + k') → WrL sPcs (pcD pl (cnD (.nd d ks)) :: r) (ts' ++ ts) (k + (k' + 1)) := fun ps ts' k' e h => by
      rw [e] at hs
      exact WrL.tree hs h
    have hp' : ¬ tight (Tr.nd d ks).d < pl := hp
    rw [sz_nd, prT_nd]
    cases d with
    | all => exact ⟨["all"], 2, go [.str "all"] ["all"] 1 (by unfold pcs; rw [if_neg hp']; rfl) (.txt hr), by rw [List.flatMap_cons, List.flatMap_nil, List.append_nil]; rfl, by omega⟩
    | none => exact ⟨["none"], 2, go [.str "none"] ["none"] 1 (by unfold pcs; rw [if_neg hp']; rfl) (.txt hr), by rw [List.flatMap_cons, List.flatMap_nil, List.append_nil]; rfl, by omega⟩
    | is x => exact ⟨["is " ++ x], 2, go [.str ("is " ++ x)] ["is " ++ x] 1 (by unfold pcs; rw [if_neg hp']; rfl) (.txt hr), by rw [List.flatMap_cons, List.flatMap_nil, List.append_nil]; rfl, by omega⟩
    | not =>
      match ks, ha, hk, ih, go, hp' with
      | [c], _, hk, ih, go, hp' =>
        obtain ⟨t1, n1, a1, e1, l1⟩ := child_cl (hk c (by simp)) (ih c (by simp)) (fit_word c.d) r ts k hr
        refine ⟨("not" ++ " ") :: t1, n1 + 1 + 1, go [.str ("not" ++ " "), pcD 2 (cnD c)] _ _ (by unfold pcs; rw [if_neg hp']; rfl) (.txt a1), ?_, by simp; omega⟩
        rw [List.flatMap_cons, e1]
        show _ = cd ("not" ++ " " ++ prT c "word")
        rw [cd_append ("not" ++ " ")]
    | look q =>
      match ks, ha, hk, ih, go, hp' with
      | [c], _, hk, ih, go, hp' =>
        obtain ⟨t1, n1, a1, e1, l1⟩ := child_cl (hk c (by simp)) (ih c (by simp)) (fit_word c.d) r ts k hr
        refine ⟨(lkS q ++ " ") :: t1, n1 + 1 + 1, go [.str (lkS q ++ " "), pcD 2 (cnD c)] _ _ (by unfold pcs; rw [if_neg hp']; rfl) (.txt a1), ?_, by simp; omega⟩
        rw [List.flatMap_cons, e1]
        show _ = cd (lkS q ++ " " ++ prT c "word")
        rw [cd_append (lkS q ++ " ")]
    | conj b =>
      match ks, ha, hk, ih, hb, go, hp' with
      | [c1, c2], _, hk, ih, hb, go, hp' =>
        cases b with
        | true =>
          obtain ⟨t1, n1, a1, e1, l1⟩ := wr_two (sg := " and ") (child_cl (hk c1 (by simp)) (ih c1 (by simp)) (fit_and (hb c1 (by simp) true rfl))) (child_cl (hk c2 (by simp)) (ih c2 (by simp)) (fit_and (hb c2 (by simp) true rfl))) r ts k hr
          refine ⟨t1, n1 + 1, go [pcD 2 (cnD c1), .str " and ", pcD 2 (cnD c2)] _ _ (by unfold pcs; rw [if_neg hp']; rfl) a1, ?_, by simp; omega⟩
          rw [e1]
          rw [prF_0, show ([c1, c2].map prT).map (fun f => f (cjS true)) = [prT c1 "and", prT c2 "and"] from rfl, join2, show (" " ++ cjS true ++ " " : Str) = " and " by decide +kernel]
        | false =>
          obtain ⟨t1, n1, a1, e1, l1⟩ := wr_two (sg := " or ") (child_cl (hk c1 (by simp)) (ih c1 (by simp)) (fit_or (hb c1 (by simp) false rfl))) (child_cl (hk c2 (by simp)) (ih c2 (by simp)) (fit_or (hb c2 (by simp) false rfl))) r ts k hr
          refine ⟨t1, n1 + 1, go [pcD 1 (cnD c1), .str " or ", pcD 1 (cnD c2)] _ _ (by unfold pcs; rw [if_neg hp']; rfl) a1, ?_, by simp; omega⟩
          rw [e1]
          rw [prF_0, show ([c1, c2].map prT).map (fun f => f (cjS false)) = [prT c1 "or", prT c2 "or"] from rfl, join2, show (" " ++ cjS false ++ " " : Str) = " or " by decide +kernel]
theorem cd_join0 : ∀ ts : List Str, cd (Txt.join ("" : Str) ts) = ts.flatMap cd
  | [] => by rw [TL.join_eq]; rfl
  | [a] => by rw [TL.join_eq, List.flatMap_cons, List.flatMap_nil, List.append_nil]; rfl
  | a :: b :: r => by
    have ih := cd_join0 (b :: r)
    rw [TL.join_eq] at ih ⊢
    show cd (a ++ "" ++ Str.join "" (b :: r)) = _
    rw [cd_append, cd_append, ih, show cd ("" : Str) = [] by decide +kernel, List.append_nil]
    rfl
theorem wr_print {n : Nat} {t : Tr CL} (hw : WC n t) : ∃ ts k, WrL sPcs [.tup [cnD t, .int 0]] ts k ∧ Txt.join "" ts = prT t "" ∧ k ≤ 10 * sz t ∧ (ts.map (·.length)).sum = (prT t "").length := by
  obtain ⟨ts, k, h1, h2, h3⟩ := wr_cond hw 0 (tight_nn _) [] [] 0 .nil
  rw [List.append_nil, Nat.zero_add] at h1
  have e : Txt.join "" ts = prT t "" := cd_inj (by rw [cd_join0, h2])
  refine ⟨ts, k, h1, e, h3, ?_⟩
  rw [len_cd, ← h2, List.length_flatMap]
  exact congrArg List.sum (List.map_congr_left fun x _ => len_cd x)
def sPrint : NB.SV := fun ds Φ => ∃ (n : Nat) (t : Tr CL), ds = [cnD t] ∧ WC n t ∧ sz t ≤ 1000 ∧ Φ (.str (prT t ""))
section
variable [I : Tbs] {P : Program} {w : World} {K : PySem.W.Frag} {mg : Str → Option Value} {base : Heap}
theorem ok_print (T : Txt P K mg w) : FnOk P w K mg base CX0 4 T.a_print_condition T.fd_print_condition ["condition"] (spOf K (pureS sPrint)) := by
  let SP : Addr → Option NB.SV := fun f => if f = T.a_pieces_of then some sPcs else none
  have hSP : SP T.a_pieces_of = some sPcs := if_pos rfl
  have HA : ∀ f sp, NB.spA K SP f = some sp → Held P w K mg base 2 f sp := fun f sp e => by
    unfold NB.spA at e
    by_cases hf : f = T.a_pieces_of
    · subst hf
      rw [hSP] at e
      cases e
      exact ⟨_, _, ok_pieces T, T.F_pieces_of.kp, T.b_pieces_of⟩
    · rw [show SP f = none from if_neg hf] at e
      cases e
  have G_written : FnOk P w K mg base CX0 3 T.a_written T.fd_written ["tree", "pieces_of"] (spOf K (pureS (DH.sWr SP))) := ok_written T SP HA
  refine fnD T.F_print_condition sc_print_condition [] (k := 3) (fun cdv A outer s H E hr => ⟨_, (pss_one (ps_ret (pe_call G_written (hr.mono (by omega)) (by rfl) T.g_written T.F_written.kp T.b_written .nil pass0 (pa_cons (pv 0) (pa_cons (pe_glob (v := .ref T.a_pieces_of) (by rfl) T.g_pieces_of rfl) pa_nil))))), (rs_ret (re_callV (rv_cons (re_var 0) (rv_cons re_fn rv_nil))))⟩) (pure_len fun ds Φ h => ?_) (fun os Φ h => ?_)
  · obtain ⟨n, t, rfl, _⟩ := h
    rfl
  · obtain ⟨ds, rfl, n, t, rfl, hw, hz, hΦ⟩ := h
    obtain ⟨ts, k, h1, h2, h3, h4⟩ := wr_print hw
    have hl := pr_len hw ""
    simp
    exact ⟨_, _, _, ts, k, rfl, hSP, h1, by omega, by omega, by rw [h2]; exact hΦ⟩
end
end K45
namespace K45
open PySem PySem.Spec PyProof.Rows L2 SX DL FD MF TR DH
def sParse : NB.SV := fun ds Φ => ∃ (z : Str) (l : List Tk) (n : Nat) (c : Tr CL), ds = [.str z] ∧ (cd z).length ≤ 1000000 ∧ SS.Lex [40, 41] (cd z) 0 l none ∧ l.length ≤ 900 ∧ rc l false g0 [] = .inl (cnD c) ∧ WC n c ∧ sz c ≤ 12 ∧ lks c ≤ 4 ∧ Φ (cnD c)
theorem plain_le : ∀ {n : Nat} {d : D}, plain n d → plain (n + 1) d
  | 0, _, h => h.elim
  | n + 1, d, h => by
    cases d with
    | lst l => exact ⟨h.1, fun x hx => plain_le (h.2 x hx)⟩
    | tup l => exact ⟨h.1, fun x hx => plain_le (h.2 x hx)⟩
    | non => trivial
    | bl b => trivial
    | int i => trivial
    | str s => trivial
    | _ => exact (show False from h).elim
theorem plain_cn {n : Nat} {c : Tr CL} (h : WC n c) : plain (2 * n) (cnD c) := by
  induction h with
  | @nd n d ks ha hb hk ih =>
    rw [cn_nd]
    show plain (2 * n + 1 + 1) _
    have st : ∀ s : Str, plain (2 * n + 1) (.str s) := fun s => trivial
    have sb : ∀ k ∈ ks, plain (2 * n + 1) (cnD k) := fun k hk' => plain_le (ih k hk')
    have tw : ∀ x y : D, plain (2 * n + 1) x → plain (2 * n + 1) y → plain (2 * n + 1 + 1) (.tup [x, y]) := fun x y hx hy => ⟨(show 2 ≤ 1000000 by decide), fun z hz => by
      rcases List.mem_cons.mp hz with rfl | hz
      · exact hx
      · rw [List.mem_singleton.mp hz]; exact hy⟩
    have on : ∀ x : D, plain (2 * n + 1) x → plain (2 * n + 1 + 1) (.tup [x]) := fun x hx => ⟨(show 1 ≤ 1000000 by decide), fun z hz => by rw [List.mem_singleton.mp hz]; exact hx⟩
    cases d with
    | all => exact on _ (st _)
    | none => exact on _ (st _)
    | is x => exact tw _ _ (st _) (st _)
    | not =>
      match ks, ha, sb with
      | [k], _, sb => exact tw _ _ (st _) (sb k (by simp))
    | look q =>
      match ks, ha, sb with
      | [k], _, sb => exact tw _ _ (st _) (sb k (by simp))
    | conj b =>
      refine tw _ _ (st _) ⟨by rw [List.length_map]; have := ha.le; omega, fun x hx => ?_⟩
      obtain ⟨k, hk', rfl⟩ := List.mem_map.mp hx
      exact ih k hk'
def sLaw : NB.SV := fun ds Φ => ∃ ns, ds = [.scr ns] ∧ ns.length ≤ 63 ∧ Φ (.bl true)
section
variable [I : Tbs] {P : Program} {w : World} {K : PySem.W.Frag} {mg : Str → Option Value} {base : Heap}
theorem ok_parse (T : Txt P K mg w) : FnOk P w K mg base CX0 6 T.a_parse_condition T.fd_parse_condition ["text"] (spOf K (pureS sParse)) := (ok_parseH T).imp fun vs H Q E h => of_pure (fun ds Φ ⟨z, l, n, c, h1, h2, h3, h4, h5, h6, h7, h8, h9⟩ => ⟨z, l, n, c, h1, h2, h3, h4, h5, h6, h7, h8, fun _ => h9⟩) h
theorem ok_law' (T : Txt P K mg w) : FnOk P w K mg base CX0 21 T.a_law T.fd_law ["script"] (spOf K (pureS sLaw)) := by
  have G_law_draw := ok_drawS (base := base) T
  have G_law_next : FnOk P w K mg base CX0 1 T.a_law_next T.fd_law_next ["draw", "many"] (spOf K sNext) := ok_nextD T
  have G_law_condition : FnOk P w K mg base CX0 10 T.a_law_condition T.fd_law_condition ["draw", "depth"] (spOf K sCond) := ok_cond T
  have G_law_print : FnOk P w K mg base CX0 9 T.a_law_print T.fd_law_print ["tree", "within"] (spOf K (pureS (sPr 8))) := ok_lprint T 8
  have G_law_same : FnOk P w K mg base CX0 17 T.a_law_same T.fd_law_same ["actual", "due"] (spOf K (pureS (sSame 16))) := ok_same T 16
  have G_print_condition : FnOk P w K mg base CX0 4 T.a_print_condition T.fd_print_condition ["condition"] (spOf K (pureS sPrint)) := ok_print T
  have G_parse_condition : FnOk P w K mg base CX0 6 T.a_parse_condition T.fd_parse_condition ["text"] (spOf K (pureS sParse)) := ok_parse T
  have G_law_text : FnOk P w K mg base CX0 2 T.a_law_text T.fd_law_text ["draw", "tokens"] (spOf K sText) := ok_text T
  have G_law_condition_tokens : FnOk P w K mg base CX0 11 T.a_law_condition_tokens T.fd_law_condition_tokens ["draw", "tree", "within"] (spOf K (sCT 8)) := ok_ct T 8
  refine fnD T.F_law sc_law [] (k := 20) (fun cdv A outer s H E hr => ⟨_, (pss_cons (ps_set (i := 1) sc_law.nd rfl (by first | exact Or.inl rfl | exact Or.inr rfl) (pe_call G_law_draw (hr.mono (by omega)) (by rfl) T.g_law_draw T.F_law_draw.kp T.b_law_draw .nil pass0 (pa_cons (pv 0) pa_nil)))
      (pss_cons (ps_for PassesOwn.never rfl (pi_range1 (by rfl) T.n_range (pa_cons pe_int pa_nil)) (pg_name (i := 2) sc_law.nd rfl (by first | exact Or.inl rfl | exact Or.inr rfl)) (pss_cons (ps_set (i := 3) sc_law.nd rfl (by first | exact Or.inl rfl | exact Or.inr rfl) (pe_call G_law_condition (hr.mono (by omega)) (by rfl) T.g_law_condition T.F_law_condition.kp T.b_law_condition .nil pass0 (pa_cons (pv 1) (pa_cons (pe_op op_add pe_int (pe_call G_law_next (hr.mono (by omega)) (by rfl) T.g_law_next T.F_law_next.kp T.b_law_next .nil pass0 (pa_cons (pv 1) (pa_cons pe_int pa_nil)))) pa_nil))))
      (pss_cons (ps_set (i := 4) sc_law.nd rfl (by first | exact Or.inl rfl | exact Or.inr rfl) (pe_call G_law_print (hr.mono (by omega)) (by rfl) T.g_law_print T.F_law_print.kp T.b_law_print .nil pass0 (pa_cons (pv 3) (pa_cons pe_str pa_nil))))
      (pss_cons (ps_if (PW.pt (pw_or (pt_not (pt_val (pe_call G_law_same (hr.mono (by omega)) (by rfl) T.g_law_same T.F_law_same.kp T.b_law_same .nil pass0 (pa_cons (pe_call G_print_condition (hr.mono (by omega)) (by rfl) T.g_print_condition T.F_print_condition.kp T.b_print_condition .nil pass0 (pa_cons (pv 3) pa_nil)) (pa_cons (pv 4) pa_nil))))) (pw_or1 (pt_not (pt_val (pe_call G_law_same (hr.mono (by omega)) (by rfl) T.g_law_same T.F_law_same.kp T.b_law_same .nil pass0 (pa_cons (pe_call G_parse_condition (hr.mono (by omega)) (by rfl) T.g_parse_condition T.F_parse_condition.kp T.b_parse_condition .nil pass0 (pa_cons (pv 4) pa_nil)) (pa_cons (pv 3) pa_nil)))))))) (pss_one (ps_ret pe_bl)) pss_nil)
      (pss_cons (ps_asg (pe_call G_law_text (hr.mono (by omega)) (by rfl) T.g_law_text T.F_law_text.kp T.b_law_text .nil pass0 (pa_cons (pv 1) (pa_cons (pe_call G_law_condition_tokens (hr.mono (by omega)) (by rfl) T.g_law_condition_tokens T.F_law_condition_tokens.kp T.b_law_condition_tokens .nil pass0 (pa_cons (pv 1) (pa_cons (pv 3) (pa_cons pe_str pa_nil)))) pa_nil))) (pg_tup (n := 2) (by rfl) (pgs_cons (pg_name (i := 5) sc_law.nd rfl (by first | exact Or.inl rfl | exact Or.inr rfl)) (pgs_cons (pg_name (i := 6) sc_law.nd rfl (by first | exact Or.inl rfl | exact Or.inr rfl)) pgs_nil))))
      (pss_one (ps_if (PW.pt (pw_and (pt_cmpR op_le (pe_callB call_len (by rfl) T.n_len boot_len (pa_cons (pv 5) pa_nil)) pe_int (nomark _)) (pw_and1 (pt_not (pt_val (pe_call G_law_same (hr.mono (by omega)) (by rfl) T.g_law_same T.F_law_same.kp T.b_law_same .nil pass0 (pa_cons (pe_call G_parse_condition (hr.mono (by omega)) (by rfl) T.g_parse_condition T.F_parse_condition.kp T.b_parse_condition .nil pass0 (pa_cons (pv 5) pa_nil)) (pa_cons (pv 3) pa_nil)))))))) (pss_one (ps_ret pe_bl)) pss_nil)))))))
      (pss_one (ps_ret pe_bl)))), (rs_seq (DH.rs_draw (i := 0) (j := 1))
      (rs_seq (rs_for (ri_range1 (rv_cons re_int rv_nil)) rg_name (rs_seq (rs_asg (re_call (ra_slot (i := 1) (ra_cons (re_op ro_I0 re_int (re_call (ra_slot (i := 1) (ra_cons re_int ra_nil)))) ra_nil))) rg_name)
      (rs_seq (rs_asg (re_callV (rv_cons (re_var 3) (rv_cons re_str rv_nil))) rg_name)
      (rs_seq (rs_if (rt_or (rt_not (rt_B (re_callV (rv_cons (re_callV (rv_cons (re_var 3) rv_nil)) (rv_cons (re_var 4) rv_nil))))) (rt_not (rt_B (re_callV (rv_cons (re_callV (rv_cons (re_var 4) rv_nil)) (rv_cons (re_var 3) rv_nil)))))) (rs_ret re_bl) rs_next)
      (rs_seq (rs_asg (re_call (ra_slot (i := 1) (ra_cons (re_call (ra_slot (i := 1) (ra_cons (re_var 3) (ra_cons re_str ra_nil)))) ra_nil))) (rg_tup (rgs_cons rg_name (rgs_cons rg_name rgs_nil))))
      (rs_if (rt_and (rt_test (re_op ro_B0 (re_cb rc_len (rv_cons (re_var 5) rv_nil)) re_int)) (rt_not (rt_B (re_callV (rv_cons (re_callV (rv_cons (re_var 5) rv_nil)) (rv_cons (re_var 3) rv_nil)))))) (rs_ret re_bl) rs_next))))))
      (rs_ret re_bl)))⟩) (pure_len fun ds Φ h => ?_) (fun os Φ h => ?_)
  · obtain ⟨ns, rfl, _⟩ := h
    rfl
  · obtain ⟨ds, rfl, ns, rfl, hl, hΦ⟩ := h
    simp
    refine ⟨hl, for_inv (rngD 0 4) [some (.d (.scr ns)), some .draw, none, none, none, none, none] (fun k ρ => ∃ o2 o3 o4 o5 o6 : Option OV, ρ = [some (.d (.scr ns)), some .draw, o2, o3, o4, o5, o6]) (fun Ψ q => ?_) ⟨none, none, none, none, none, rfl⟩ ?_ ?_⟩
    · simp
      exact q
    · rintro k x ρ hx ⟨o2, o3, o4, o5, o6, rfl⟩
      simp
      refine ⟨3, rfl, by decide, by decide, fun r hr => ?_⟩
      simp
      refine ⟨1 + r, by simp, by omega, fun t ht h12 h4 => ?_⟩
      simp
      refine ⟨t, "", rfl, ht, by omega, ?_⟩
      simp
      have hpl := plain_cn ht
      have hlen := pr_len ht ""
      obtain ⟨z1, y1, x1, p1⟩ := pr_parse ht
      refine ⟨8, t, rfl, ht, by omega, ?_⟩
      refine ⟨_, rfl, trivial, ?_⟩
      simp
      refine ⟨_, _, 8, t, rfl, by rw [← len_cd]; omega, x1, by rw [List.length_append, List.length_singleton]; omega, p1, ht, h12, h4, _, rfl, hpl, ?_⟩
      simp
      refine ⟨t, "", rfl, ht, by omega, fun l hl2 => ?_⟩
      have hll := hl2.len
      have hsh := sum_bound (tc_short hl2 8 ht)
      simp
      refine ⟨l, rfl, by omega, fun pre z hz hzl => ?_⟩
      simp
      obtain ⟨z2, y2, x2, p2⟩ := noisy_parse ht hl2 hz
      have e2 : cd (sx (pre ++ SS.glue z)) = pre ++ SS.glue z := cd_mk _
      refine ⟨by rw [sx_len]; omega, fun _ => ?_⟩
      refine ⟨_, _, 8, t, rfl, by rw [e2]; omega, by rw [e2]; exact x2, by rw [List.length_append, List.length_singleton]; omega, p2, ht, h12, h4, _, rfl, hpl, ?_⟩
      simp
    · rintro ρ ⟨o2, o3, o4, o5, o6, rfl⟩
      simp
      exact hΦ
end
end K45
namespace K45
open PySem PySem.Spec PyProof.Rows L2 DL
theorem law_at {l : PySem.W.OpenLaw} {w : World} {K : PySem.W.Frag} {mg : Str → Option Value} {h : Heap} (T : Txt l.prog K mg w) (hb : ∀ (s : Shared) (v : Value), BindsTo s T.fd_law ⟨[v], []⟩ [("script", v)]) : LamX.LawAtS l w K CX0 21 63 "script" mg T.a_law h := by
  refine ⟨T.fd_law, [], @spOf ⟨[], fun _ => none⟩ K (pureS sLaw), fun p hp => (nomatch hp), fun p hp => (nomatch hp), fun p hp => (nomatch hp), hb, fun H a ns hl _ hH hS => ?_, fun base _ _ hT => ?_⟩
  · exact FE.law_entry (fun p hp => (nomatch hp)) hS fun Φ h => ⟨ns, rfl, hl, h⟩
  · exact @ok_law' ⟨[], fun _ => none⟩ _ _ _ _ _ T
theorem all_mk {l : PySem.W.OpenLaw} {w : World} {K : PySem.W.Frag} {h : Heap} {mg : Str → Option Value} {fa : Addr} (X : K.In h) (G : h.Ns mainGlobals mg) (hfa : mg "law" = some (.ref fa)) (tbs : ∀ x ∈ [], FE.TabAt mg h x)
    {prog : Program} (hprog : prog = l.prog)
    {C_ConditionReader : Addr}
    {C_Group : Addr}
    {f_word_end : Addr} {od_word_end an_word_end : Option Addr} {sl_word_end : Array (Option Value)} {oc_word_end kV_word_end dc_word_end pm_word_end cd_word_end ct_word_end : Value}
    {f_tokens_of : Addr} {od_tokens_of an_tokens_of : Option Addr} {sl_tokens_of : Array (Option Value)} {oc_tokens_of kV_tokens_of dc_tokens_of pm_tokens_of cd_tokens_of ct_tokens_of : Value}
    {f_Reader___init__ : Addr} {od_Reader___init__ an_Reader___init__ : Option Addr} {sl_Reader___init__ : Array (Option Value)} {oc_Reader___init__ kV_Reader___init__ dc_Reader___init__ pm_Reader___init__ cd_Reader___init__ ct_Reader___init__ : Value}
    {f_Reader_step : Addr} {od_Reader_step an_Reader_step : Option Addr} {sl_Reader_step : Array (Option Value)} {oc_Reader_step kV_Reader_step dc_Reader_step pm_Reader_step cd_Reader_step ct_Reader_step : Value}
    {f_Reader_refuse : Addr} {od_Reader_refuse an_Reader_refuse : Option Addr} {sl_Reader_refuse : Array (Option Value)} {oc_Reader_refuse kV_Reader_refuse dc_Reader_refuse pm_Reader_refuse cd_Reader_refuse ct_Reader_refuse : Value}
    {f_Reader_read_name : Addr} {od_Reader_read_name an_Reader_read_name : Option Addr} {sl_Reader_read_name : Array (Option Value)} {oc_Reader_read_name kV_Reader_read_name dc_Reader_read_name pm_Reader_read_name cd_Reader_read_name ct_Reader_read_name : Value}
    {f_parts_of : Addr} {od_parts_of an_parts_of : Option Addr} {sl_parts_of : Array (Option Value)} {oc_parts_of kV_parts_of dc_parts_of pm_parts_of cd_parts_of ct_parts_of : Value}
    {f_numbered : Addr} {od_numbered an_numbered : Option Addr} {sl_numbered : Array (Option Value)} {oc_numbered kV_numbered dc_numbered pm_numbered cd_numbered ct_numbered : Value}
    {f_joined : Addr} {od_joined an_joined : Option Addr} {sl_joined : Array (Option Value)} {oc_joined kV_joined dc_joined pm_joined cd_joined ct_joined : Value}
    {f_separated : Addr} {od_separated an_separated : Option Addr} {sl_separated : Array (Option Value)} {oc_separated kV_separated dc_separated pm_separated cd_separated ct_separated : Value}
    {f_written : Addr} {od_written an_written : Option Addr} {sl_written : Array (Option Value)} {oc_written kV_written dc_written pm_written cd_written ct_written : Value}
    {f_Group___init__ : Addr} {od_Group___init__ an_Group___init__ : Option Addr} {sl_Group___init__ : Array (Option Value)} {oc_Group___init__ kV_Group___init__ dc_Group___init__ pm_Group___init__ cd_Group___init__ ct_Group___init__ : Value}
    {f_Group_take_word : Addr} {od_Group_take_word an_Group_take_word : Option Addr} {sl_Group_take_word : Array (Option Value)} {oc_Group_take_word kV_Group_take_word dc_Group_take_word pm_Group_take_word cd_Group_take_word ct_Group_take_word : Value}
    {f_Group_take_factor : Addr} {od_Group_take_factor an_Group_take_factor : Option Addr} {sl_Group_take_factor : Array (Option Value)} {oc_Group_take_factor kV_Group_take_factor dc_Group_take_factor pm_Group_take_factor cd_Group_take_factor ct_Group_take_factor : Value}
    {f_Group_begin_term : Addr} {od_Group_begin_term an_Group_begin_term : Option Addr} {sl_Group_begin_term : Array (Option Value)} {oc_Group_begin_term kV_Group_begin_term dc_Group_begin_term pm_Group_begin_term cd_Group_begin_term ct_Group_begin_term : Value}
    {f_Group_condition : Addr} {od_Group_condition an_Group_condition : Option Addr} {sl_Group_condition : Array (Option Value)} {oc_Group_condition kV_Group_condition dc_Group_condition pm_Group_condition cd_Group_condition ct_Group_condition : Value}
    {f_ConditionReader___init__ cda_ConditionReader___init__ cc_ConditionReader___init__ : Addr} {od_ConditionReader___init__ an_ConditionReader___init__ cdd_ConditionReader___init__ cld_ConditionReader___init__ : Option Addr} {sl_ConditionReader___init__ ccs_ConditionReader___init__ csl_ConditionReader___init__ : Array (Option Value)} {oc_ConditionReader___init__ kV_ConditionReader___init__ dc_ConditionReader___init__ pm_ConditionReader___init__ ct_ConditionReader___init__ ccl_ConditionReader___init__ cl_ConditionReader___init__ : Value} {vs_ConditionReader___init__ : Array Value} {file_ConditionReader___init__ : Str} {tf_ConditionReader___init__ : Tok} {cdc_ConditionReader___init__ : ClassData}
    {f_ConditionReader_read_condition : Addr} {od_ConditionReader_read_condition an_ConditionReader_read_condition : Option Addr} {sl_ConditionReader_read_condition : Array (Option Value)} {oc_ConditionReader_read_condition kV_ConditionReader_read_condition dc_ConditionReader_read_condition pm_ConditionReader_read_condition cd_ConditionReader_read_condition ct_ConditionReader_read_condition : Value}
    {f_ConditionReader_read_plain : Addr} {od_ConditionReader_read_plain an_ConditionReader_read_plain : Option Addr} {sl_ConditionReader_read_plain : Array (Option Value)} {oc_ConditionReader_read_plain kV_ConditionReader_read_plain dc_ConditionReader_read_plain pm_ConditionReader_read_plain cd_ConditionReader_read_plain ct_ConditionReader_read_plain : Value}
    {f_ConditionReader_read_closed : Addr} {od_ConditionReader_read_closed an_ConditionReader_read_closed : Option Addr} {sl_ConditionReader_read_closed : Array (Option Value)} {oc_ConditionReader_read_closed kV_ConditionReader_read_closed dc_ConditionReader_read_closed pm_ConditionReader_read_closed cd_ConditionReader_read_closed ct_ConditionReader_read_closed : Value}
    {f_ConditionReader_read_joint : Addr} {od_ConditionReader_read_joint an_ConditionReader_read_joint : Option Addr} {sl_ConditionReader_read_joint : Array (Option Value)} {oc_ConditionReader_read_joint kV_ConditionReader_read_joint dc_ConditionReader_read_joint pm_ConditionReader_read_joint cd_ConditionReader_read_joint ct_ConditionReader_read_joint : Value}
    {f_ConditionReader_check_size : Addr} {od_ConditionReader_check_size an_ConditionReader_check_size : Option Addr} {sl_ConditionReader_check_size : Array (Option Value)} {oc_ConditionReader_check_size kV_ConditionReader_check_size dc_ConditionReader_check_size pm_ConditionReader_check_size cd_ConditionReader_check_size ct_ConditionReader_check_size : Value}
    {f_parse_condition : Addr} {od_parse_condition an_parse_condition : Option Addr} {sl_parse_condition : Array (Option Value)} {oc_parse_condition kV_parse_condition dc_parse_condition pm_parse_condition cd_parse_condition ct_parse_condition : Value}
    {f_pieces_of : Addr} {od_pieces_of an_pieces_of : Option Addr} {sl_pieces_of : Array (Option Value)} {oc_pieces_of kV_pieces_of dc_pieces_of pm_pieces_of cd_pieces_of ct_pieces_of : Value}
    {f_print_condition : Addr} {od_print_condition an_print_condition : Option Addr} {sl_print_condition : Array (Option Value)} {oc_print_condition kV_print_condition dc_print_condition pm_print_condition cd_print_condition ct_print_condition : Value}
    {f_law_draw : Addr} {od_law_draw an_law_draw : Option Addr} {sl_law_draw : Array (Option Value)} {oc_law_draw kV_law_draw dc_law_draw pm_law_draw cd_law_draw ct_law_draw : Value}
    {f_law_next : Addr} {od_law_next an_law_next : Option Addr} {sl_law_next : Array (Option Value)} {oc_law_next kV_law_next dc_law_next pm_law_next cd_law_next ct_law_next : Value}
    {f_law_same : Addr} {od_law_same an_law_same : Option Addr} {sl_law_same : Array (Option Value)} {oc_law_same kV_law_same dc_law_same pm_law_same cd_law_same ct_law_same : Value}
    {f_law_tree : Addr} {od_law_tree an_law_tree : Option Addr} {sl_law_tree : Array (Option Value)} {oc_law_tree kV_law_tree dc_law_tree pm_law_tree cd_law_tree ct_law_tree : Value}
    {f_law_parts : Addr} {od_law_parts an_law_parts : Option Addr} {sl_law_parts : Array (Option Value)} {oc_law_parts kV_law_parts dc_law_parts pm_law_parts cd_law_parts ct_law_parts : Value}
    {f_law_looks : Addr} {od_law_looks an_law_looks : Option Addr} {sl_law_looks : Array (Option Value)} {oc_law_looks kV_law_looks dc_law_looks pm_law_looks cd_law_looks ct_law_looks : Value}
    {f_law_condition : Addr} {od_law_condition an_law_condition : Option Addr} {sl_law_condition : Array (Option Value)} {oc_law_condition kV_law_condition dc_law_condition pm_law_condition cd_law_condition ct_law_condition : Value}
    {f_law_text : Addr} {od_law_text an_law_text : Option Addr} {sl_law_text : Array (Option Value)} {oc_law_text kV_law_text dc_law_text pm_law_text cd_law_text ct_law_text : Value}
    {f_law_bracket : Addr} {od_law_bracket an_law_bracket : Option Addr} {sl_law_bracket : Array (Option Value)} {oc_law_bracket kV_law_bracket dc_law_bracket pm_law_bracket cd_law_bracket ct_law_bracket : Value}
    {f_law_condition_tokens : Addr} {od_law_condition_tokens an_law_condition_tokens : Option Addr} {sl_law_condition_tokens : Array (Option Value)} {oc_law_condition_tokens kV_law_condition_tokens dc_law_condition_tokens pm_law_condition_tokens cd_law_condition_tokens ct_law_condition_tokens : Value}
    {f_law_print : Addr} {od_law_print an_law_print : Option Addr} {sl_law_print : Array (Option Value)} {oc_law_print kV_law_print dc_law_print pm_law_print cd_law_print ct_law_print : Value}
    {f_law : Addr} {od_law an_law : Option Addr} {sl_law : Array (Option Value)} {oc_law kV_law dc_law pm_law cd_law ct_law : Value}
    {d_TIGHTEST : Addr} {es_TIGHTEST : Array DictEntry} {n_TIGHTEST : Nat}
    {d_LOOKS : Addr} {od_LOOKS : Option Addr} {es_LOOKS : Array Value} {n_LOOKS : Nat} {sl_LOOKS : Array (Option Value)}
    {t_LETTERS : Tok}
    {t_LONGEST_NAME : Tok}
    {t_ALONE : Tok}
    {t_MOST_PARTS : Tok}
    {t_MOST_LOOKS : Tok}
    {t_FACTOR : Tok}
    {t_TERM : Tok}
    (g_Group : PySem.W.nsIn K mainGlobals "Group" = some (some (.ref C_Group)))
    (p1_Group : PySem.W.plainGet K C_Group Str.empty = true)
    (p2_Group : PySem.W.hasDictIn K C_Group = true)
    (p3_Group : PySem.W.plainOver K C_Group = true)
    (p4_Group : PySem.W.findIn K (.ref C_Group) "__setattr__" = some (some (.builtin "object.__setattr__")))
    (p5_Group : PySem.W.makesIn K C_Group = true)
    (p6_Group : PySem.W.keepIn K (.ref C_Group) = true)
    (n_Group_terms : PySem.W.findIn K (.ref C_Group) "terms" = some none)
    (n_Group_words : PySem.W.findIn K (.ref C_Group) "words" = some none)
    (g_ConditionReader : PySem.W.nsIn K mainGlobals "ConditionReader" = some (some (.ref C_ConditionReader)))
    (p1_ConditionReader : PySem.W.plainGet K C_ConditionReader Str.empty = true)
    (p2_ConditionReader : PySem.W.hasDictIn K C_ConditionReader = true)
    (p3_ConditionReader : PySem.W.plainOver K C_ConditionReader = true)
    (p4_ConditionReader : PySem.W.findIn K (.ref C_ConditionReader) "__setattr__" = some (some (.builtin "object.__setattr__")))
    (p5_ConditionReader : PySem.W.makesIn K C_ConditionReader = true)
    (p6_ConditionReader : PySem.W.keepIn K (.ref C_ConditionReader) = true)
    (n_ConditionReader_tokens : PySem.W.findIn K (.ref C_ConditionReader) "tokens" = some none)
    (n_ConditionReader_at : PySem.W.findIn K (.ref C_ConditionReader) "at" = some none)
    (n_ConditionReader_token : PySem.W.findIn K (.ref C_ConditionReader) "token" = some none)
    (n_ConditionReader_place : PySem.W.findIn K (.ref C_ConditionReader) "place" = some none)
    (n_ConditionReader_first : PySem.W.findIn K (.ref C_ConditionReader) "first" = some none)
    (n_ConditionReader_groups : PySem.W.findIn K (.ref C_ConditionReader) "groups" = some none)
    (susup_ConditionReader : PySem.W.ks_superIn K C_ConditionReader C_ConditionReader "__init__" = some (some (.ref f_Reader___init__)))
    (a_word_end : PySem.W.nsIn K mainGlobals "word_end" = some (some (.ref f_word_end)))
    (l_word_end : K.lookup f_word_end = some ⟨oc_word_end, od_word_end, .func (PySem.W.fnOf "word_end" "word_end" (defArgs s_word_end) (defBody s_word_end) (defScope s_word_end) .none kV_word_end dc_word_end pm_word_end an_word_end cd_word_end ct_word_end), sl_word_end⟩)
    (c_word_end : PySem.W.codeIn K cd_word_end "word_end" = true)
    (k_word_end : PySem.W.keepIn K (.ref f_word_end) = true)
    (a_tokens_of : PySem.W.nsIn K mainGlobals "tokens_of" = some (some (.ref f_tokens_of)))
    (l_tokens_of : K.lookup f_tokens_of = some ⟨oc_tokens_of, od_tokens_of, .func (PySem.W.fnOf "tokens_of" "tokens_of" (defArgs s_tokens_of) (defBody s_tokens_of) (defScope s_tokens_of) .none kV_tokens_of dc_tokens_of pm_tokens_of an_tokens_of cd_tokens_of ct_tokens_of), sl_tokens_of⟩)
    (c_tokens_of : PySem.W.codeIn K cd_tokens_of "tokens_of" = true)
    (k_tokens_of : PySem.W.keepIn K (.ref f_tokens_of) = true)
    (l_Reader___init__ : K.lookup f_Reader___init__ = some ⟨oc_Reader___init__, od_Reader___init__, .func (PySem.W.fnOf "__init__" "Reader.__init__" (defArgs s_Reader___init__) (defBody s_Reader___init__) (defScope s_Reader___init__) .none kV_Reader___init__ dc_Reader___init__ pm_Reader___init__ an_Reader___init__ cd_Reader___init__ ct_Reader___init__), sl_Reader___init__⟩)
    (c_Reader___init__ : PySem.W.codeIn K cd_Reader___init__ "Reader.__init__" = true)
    (k_Reader___init__ : PySem.W.keepIn K (.ref f_Reader___init__) = true)
    (fn_Reader___init__ : PySem.W.fnIn K f_Reader___init__ = true)
    (ty_Reader___init__ : PySem.W.typeIn K (.ref f_Reader___init__) = some (.type "function"))
    (a_Reader_step : PySem.W.findIn K (.ref C_ConditionReader) "step" = some (some (.ref f_Reader_step)))
    (fn_Reader_step : PySem.W.isFn K (.ref f_Reader_step) = true)
    (l_Reader_step : K.lookup f_Reader_step = some ⟨oc_Reader_step, od_Reader_step, .func (PySem.W.fnOf "step" "Reader.step" (defArgs s_Reader_step) (defBody s_Reader_step) (defScope s_Reader_step) .none kV_Reader_step dc_Reader_step pm_Reader_step an_Reader_step cd_Reader_step ct_Reader_step), sl_Reader_step⟩)
    (c_Reader_step : PySem.W.codeIn K cd_Reader_step "Reader.step" = true)
    (k_Reader_step : PySem.W.keepIn K (.ref f_Reader_step) = true)
    (a_Reader_refuse : PySem.W.findIn K (.ref C_ConditionReader) "refuse" = some (some (.ref f_Reader_refuse)))
    (fn_Reader_refuse : PySem.W.isFn K (.ref f_Reader_refuse) = true)
    (l_Reader_refuse : K.lookup f_Reader_refuse = some ⟨oc_Reader_refuse, od_Reader_refuse, .func (PySem.W.fnOf "refuse" "Reader.refuse" (defArgs s_Reader_refuse) (defBody s_Reader_refuse) (defScope s_Reader_refuse) .none kV_Reader_refuse dc_Reader_refuse pm_Reader_refuse an_Reader_refuse cd_Reader_refuse ct_Reader_refuse), sl_Reader_refuse⟩)
    (c_Reader_refuse : PySem.W.codeIn K cd_Reader_refuse "Reader.refuse" = true)
    (k_Reader_refuse : PySem.W.keepIn K (.ref f_Reader_refuse) = true)
    (a_Reader_read_name : PySem.W.findIn K (.ref C_ConditionReader) "read_name" = some (some (.ref f_Reader_read_name)))
    (fn_Reader_read_name : PySem.W.isFn K (.ref f_Reader_read_name) = true)
    (l_Reader_read_name : K.lookup f_Reader_read_name = some ⟨oc_Reader_read_name, od_Reader_read_name, .func (PySem.W.fnOf "read_name" "Reader.read_name" (defArgs s_Reader_read_name) (defBody s_Reader_read_name) (defScope s_Reader_read_name) .none kV_Reader_read_name dc_Reader_read_name pm_Reader_read_name an_Reader_read_name cd_Reader_read_name ct_Reader_read_name), sl_Reader_read_name⟩)
    (c_Reader_read_name : PySem.W.codeIn K cd_Reader_read_name "Reader.read_name" = true)
    (k_Reader_read_name : PySem.W.keepIn K (.ref f_Reader_read_name) = true)
    (a_parts_of : PySem.W.nsIn K mainGlobals "parts_of" = some (some (.ref f_parts_of)))
    (l_parts_of : K.lookup f_parts_of = some ⟨oc_parts_of, od_parts_of, .func (PySem.W.fnOf "parts_of" "parts_of" (defArgs s_parts_of) (defBody s_parts_of) (defScope s_parts_of) .none kV_parts_of dc_parts_of pm_parts_of an_parts_of cd_parts_of ct_parts_of), sl_parts_of⟩)
    (c_parts_of : PySem.W.codeIn K cd_parts_of "parts_of" = true)
    (k_parts_of : PySem.W.keepIn K (.ref f_parts_of) = true)
    (a_numbered : PySem.W.nsIn K mainGlobals "numbered" = some (some (.ref f_numbered)))
    (l_numbered : K.lookup f_numbered = some ⟨oc_numbered, od_numbered, .func (PySem.W.fnOf "numbered" "numbered" (defArgs s_numbered) (defBody s_numbered) (defScope s_numbered) .none kV_numbered dc_numbered pm_numbered an_numbered cd_numbered ct_numbered), sl_numbered⟩)
    (c_numbered : PySem.W.codeIn K cd_numbered "numbered" = true)
    (k_numbered : PySem.W.keepIn K (.ref f_numbered) = true)
    (a_joined : PySem.W.nsIn K mainGlobals "joined" = some (some (.ref f_joined)))
    (l_joined : K.lookup f_joined = some ⟨oc_joined, od_joined, .func (PySem.W.fnOf "joined" "joined" (defArgs s_joined) (defBody s_joined) (defScope s_joined) .none kV_joined dc_joined pm_joined an_joined cd_joined ct_joined), sl_joined⟩)
    (c_joined : PySem.W.codeIn K cd_joined "joined" = true)
    (k_joined : PySem.W.keepIn K (.ref f_joined) = true)
    (a_separated : PySem.W.nsIn K mainGlobals "separated" = some (some (.ref f_separated)))
    (l_separated : K.lookup f_separated = some ⟨oc_separated, od_separated, .func (PySem.W.fnOf "separated" "separated" (defArgs s_separated) (defBody s_separated) (defScope s_separated) .none kV_separated dc_separated pm_separated an_separated cd_separated ct_separated), sl_separated⟩)
    (c_separated : PySem.W.codeIn K cd_separated "separated" = true)
    (k_separated : PySem.W.keepIn K (.ref f_separated) = true)
    (a_written : PySem.W.nsIn K mainGlobals "written" = some (some (.ref f_written)))
    (l_written : K.lookup f_written = some ⟨oc_written, od_written, .func (PySem.W.fnOf "written" "written" (defArgs s_written) (defBody s_written) (defScope s_written) .none kV_written dc_written pm_written an_written cd_written ct_written), sl_written⟩)
    (c_written : PySem.W.codeIn K cd_written "written" = true)
    (k_written : PySem.W.keepIn K (.ref f_written) = true)
    (a_Group___init__ : PySem.W.findIn K (.ref C_Group) "__init__" = some (some (.ref f_Group___init__)))
    (fn_Group___init__ : PySem.W.isFn K (.ref f_Group___init__) = true)
    (l_Group___init__ : K.lookup f_Group___init__ = some ⟨oc_Group___init__, od_Group___init__, .func (PySem.W.fnOf "__init__" "Group.__init__" (defArgs s_Group___init__) (defBody s_Group___init__) (defScope s_Group___init__) .none kV_Group___init__ dc_Group___init__ pm_Group___init__ an_Group___init__ cd_Group___init__ ct_Group___init__), sl_Group___init__⟩)
    (c_Group___init__ : PySem.W.codeIn K cd_Group___init__ "Group.__init__" = true)
    (k_Group___init__ : PySem.W.keepIn K (.ref f_Group___init__) = true)
    (a_Group_take_word : PySem.W.findIn K (.ref C_Group) "take_word" = some (some (.ref f_Group_take_word)))
    (fn_Group_take_word : PySem.W.isFn K (.ref f_Group_take_word) = true)
    (l_Group_take_word : K.lookup f_Group_take_word = some ⟨oc_Group_take_word, od_Group_take_word, .func (PySem.W.fnOf "take_word" "Group.take_word" (defArgs s_Group_take_word) (defBody s_Group_take_word) (defScope s_Group_take_word) .none kV_Group_take_word dc_Group_take_word pm_Group_take_word an_Group_take_word cd_Group_take_word ct_Group_take_word), sl_Group_take_word⟩)
    (c_Group_take_word : PySem.W.codeIn K cd_Group_take_word "Group.take_word" = true)
    (k_Group_take_word : PySem.W.keepIn K (.ref f_Group_take_word) = true)
    (a_Group_take_factor : PySem.W.findIn K (.ref C_Group) "take_factor" = some (some (.ref f_Group_take_factor)))
    (fn_Group_take_factor : PySem.W.isFn K (.ref f_Group_take_factor) = true)
    (l_Group_take_factor : K.lookup f_Group_take_factor = some ⟨oc_Group_take_factor, od_Group_take_factor, .func (PySem.W.fnOf "take_factor" "Group.take_factor" (defArgs s_Group_take_factor) (defBody s_Group_take_factor) (defScope s_Group_take_factor) .none kV_Group_take_factor dc_Group_take_factor pm_Group_take_factor an_Group_take_factor cd_Group_take_factor ct_Group_take_factor), sl_Group_take_factor⟩)
    (c_Group_take_factor : PySem.W.codeIn K cd_Group_take_factor "Group.take_factor" = true)
    (k_Group_take_factor : PySem.W.keepIn K (.ref f_Group_take_factor) = true)
    (a_Group_begin_term : PySem.W.findIn K (.ref C_Group) "begin_term" = some (some (.ref f_Group_begin_term)))
    (fn_Group_begin_term : PySem.W.isFn K (.ref f_Group_begin_term) = true)
    (l_Group_begin_term : K.lookup f_Group_begin_term = some ⟨oc_Group_begin_term, od_Group_begin_term, .func (PySem.W.fnOf "begin_term" "Group.begin_term" (defArgs s_Group_begin_term) (defBody s_Group_begin_term) (defScope s_Group_begin_term) .none kV_Group_begin_term dc_Group_begin_term pm_Group_begin_term an_Group_begin_term cd_Group_begin_term ct_Group_begin_term), sl_Group_begin_term⟩)
    (c_Group_begin_term : PySem.W.codeIn K cd_Group_begin_term "Group.begin_term" = true)
    (k_Group_begin_term : PySem.W.keepIn K (.ref f_Group_begin_term) = true)
    (a_Group_condition : PySem.W.findIn K (.ref C_Group) "condition" = some (some (.ref f_Group_condition)))
    (fn_Group_condition : PySem.W.isFn K (.ref f_Group_condition) = true)
    (l_Group_condition : K.lookup f_Group_condition = some ⟨oc_Group_condition, od_Group_condition, .func (PySem.W.fnOf "condition" "Group.condition" (defArgs s_Group_condition) (defBody s_Group_condition) (defScope s_Group_condition) .none kV_Group_condition dc_Group_condition pm_Group_condition an_Group_condition cd_Group_condition ct_Group_condition), sl_Group_condition⟩)
    (c_Group_condition : PySem.W.codeIn K cd_Group_condition "Group.condition" = true)
    (k_Group_condition : PySem.W.keepIn K (.ref f_Group_condition) = true)
    (a_ConditionReader___init__ : PySem.W.findIn K (.ref C_ConditionReader) "__init__" = some (some (.ref f_ConditionReader___init__)))
    (fn_ConditionReader___init__ : PySem.W.isFn K (.ref f_ConditionReader___init__) = true)
    (sucls_ConditionReader___init__ : PySem.W.clsIn K C_ConditionReader = some cdc_ConditionReader___init__)
    (sumro_ConditionReader___init__ : PySem.W.mroIn K C_ConditionReader (.ref C_ConditionReader) = some true)
    (sul_ConditionReader___init__ : K.lookup f_ConditionReader___init__ = some ⟨oc_ConditionReader___init__, od_ConditionReader___init__, .func (PySem.W.ksFn "__init__" "ConditionReader.__init__" (defArgs s_ConditionReader___init__) (defBody s_ConditionReader___init__) (defScope s_ConditionReader___init__) .none kV_ConditionReader___init__ dc_ConditionReader___init__ pm_ConditionReader___init__ an_ConditionReader___init__ (.ref cda_ConditionReader___init__) ct_ConditionReader___init__ cc_ConditionReader___init__), sl_ConditionReader___init__⟩)
    (suc_ConditionReader___init__ : PySem.W.codeIn K (.ref cda_ConditionReader___init__) "ConditionReader.__init__" = true)
    (sucd_ConditionReader___init__ : K.lookup cda_ConditionReader___init__ = some ⟨ccl_ConditionReader___init__, cdd_ConditionReader___init__, .fields vs_ConditionReader___init__, ccs_ConditionReader___init__⟩)
    (suvs_ConditionReader___init__ : vs_ConditionReader___init__[2]? = some (.str file_ConditionReader___init__ tf_ConditionReader___init__))
    (sufile_ConditionReader___init__ : ((prog.main.file : Str) == file_ConditionReader___init__) = true)
    (sucell_ConditionReader___init__ : K.lookup cc_ConditionReader___init__ = some ⟨cl_ConditionReader___init__, cld_ConditionReader___init__, .cell (some (.ref C_ConditionReader)), csl_ConditionReader___init__⟩)
    (a_ConditionReader_read_condition : PySem.W.findIn K (.ref C_ConditionReader) "read_condition" = some (some (.ref f_ConditionReader_read_condition)))
    (fn_ConditionReader_read_condition : PySem.W.isFn K (.ref f_ConditionReader_read_condition) = true)
    (l_ConditionReader_read_condition : K.lookup f_ConditionReader_read_condition = some ⟨oc_ConditionReader_read_condition, od_ConditionReader_read_condition, .func (PySem.W.fnOf "read_condition" "ConditionReader.read_condition" (defArgs s_ConditionReader_read_condition) (defBody s_ConditionReader_read_condition) (defScope s_ConditionReader_read_condition) .none kV_ConditionReader_read_condition dc_ConditionReader_read_condition pm_ConditionReader_read_condition an_ConditionReader_read_condition cd_ConditionReader_read_condition ct_ConditionReader_read_condition), sl_ConditionReader_read_condition⟩)
    (c_ConditionReader_read_condition : PySem.W.codeIn K cd_ConditionReader_read_condition "ConditionReader.read_condition" = true)
    (k_ConditionReader_read_condition : PySem.W.keepIn K (.ref f_ConditionReader_read_condition) = true)
    (a_ConditionReader_read_plain : PySem.W.findIn K (.ref C_ConditionReader) "read_plain" = some (some (.ref f_ConditionReader_read_plain)))
    (fn_ConditionReader_read_plain : PySem.W.isFn K (.ref f_ConditionReader_read_plain) = true)
    (l_ConditionReader_read_plain : K.lookup f_ConditionReader_read_plain = some ⟨oc_ConditionReader_read_plain, od_ConditionReader_read_plain, .func (PySem.W.fnOf "read_plain" "ConditionReader.read_plain" (defArgs s_ConditionReader_read_plain) (defBody s_ConditionReader_read_plain) (defScope s_ConditionReader_read_plain) .none kV_ConditionReader_read_plain dc_ConditionReader_read_plain pm_ConditionReader_read_plain an_ConditionReader_read_plain cd_ConditionReader_read_plain ct_ConditionReader_read_plain), sl_ConditionReader_read_plain⟩)
    (c_ConditionReader_read_plain : PySem.W.codeIn K cd_ConditionReader_read_plain "ConditionReader.read_plain" = true)
    (k_ConditionReader_read_plain : PySem.W.keepIn K (.ref f_ConditionReader_read_plain) = true)
    (a_ConditionReader_read_closed : PySem.W.findIn K (.ref C_ConditionReader) "read_closed" = some (some (.ref f_ConditionReader_read_closed)))
    (fn_ConditionReader_read_closed : PySem.W.isFn K (.ref f_ConditionReader_read_closed) = true)
    (l_ConditionReader_read_closed : K.lookup f_ConditionReader_read_closed = some ⟨oc_ConditionReader_read_closed, od_ConditionReader_read_closed, .func (PySem.W.fnOf "read_closed" "ConditionReader.read_closed" (defArgs s_ConditionReader_read_closed) (defBody s_ConditionReader_read_closed) (defScope s_ConditionReader_read_closed) .none kV_ConditionReader_read_closed dc_ConditionReader_read_closed pm_ConditionReader_read_closed an_ConditionReader_read_closed cd_ConditionReader_read_closed ct_ConditionReader_read_closed), sl_ConditionReader_read_closed⟩)
    (c_ConditionReader_read_closed : PySem.W.codeIn K cd_ConditionReader_read_closed "ConditionReader.read_closed" = true)
    (k_ConditionReader_read_closed : PySem.W.keepIn K (.ref f_ConditionReader_read_closed) = true)
    (a_ConditionReader_read_joint : PySem.W.findIn K (.ref C_ConditionReader) "read_joint" = some (some (.ref f_ConditionReader_read_joint)))
    (fn_ConditionReader_read_joint : PySem.W.isFn K (.ref f_ConditionReader_read_joint) = true)
    (l_ConditionReader_read_joint : K.lookup f_ConditionReader_read_joint = some ⟨oc_ConditionReader_read_joint, od_ConditionReader_read_joint, .func (PySem.W.fnOf "read_joint" "ConditionReader.read_joint" (defArgs s_ConditionReader_read_joint) (defBody s_ConditionReader_read_joint) (defScope s_ConditionReader_read_joint) .none kV_ConditionReader_read_joint dc_ConditionReader_read_joint pm_ConditionReader_read_joint an_ConditionReader_read_joint cd_ConditionReader_read_joint ct_ConditionReader_read_joint), sl_ConditionReader_read_joint⟩)
    (c_ConditionReader_read_joint : PySem.W.codeIn K cd_ConditionReader_read_joint "ConditionReader.read_joint" = true)
    (k_ConditionReader_read_joint : PySem.W.keepIn K (.ref f_ConditionReader_read_joint) = true)
    (a_ConditionReader_check_size : PySem.W.findIn K (.ref C_ConditionReader) "check_size" = some (some (.ref f_ConditionReader_check_size)))
    (fn_ConditionReader_check_size : PySem.W.isFn K (.ref f_ConditionReader_check_size) = true)
    (l_ConditionReader_check_size : K.lookup f_ConditionReader_check_size = some ⟨oc_ConditionReader_check_size, od_ConditionReader_check_size, .func (PySem.W.fnOf "check_size" "ConditionReader.check_size" (defArgs s_ConditionReader_check_size) (defBody s_ConditionReader_check_size) (defScope s_ConditionReader_check_size) .none kV_ConditionReader_check_size dc_ConditionReader_check_size pm_ConditionReader_check_size an_ConditionReader_check_size cd_ConditionReader_check_size ct_ConditionReader_check_size), sl_ConditionReader_check_size⟩)
    (c_ConditionReader_check_size : PySem.W.codeIn K cd_ConditionReader_check_size "ConditionReader.check_size" = true)
    (k_ConditionReader_check_size : PySem.W.keepIn K (.ref f_ConditionReader_check_size) = true)
    (a_parse_condition : PySem.W.nsIn K mainGlobals "parse_condition" = some (some (.ref f_parse_condition)))
    (l_parse_condition : K.lookup f_parse_condition = some ⟨oc_parse_condition, od_parse_condition, .func (PySem.W.fnOf "parse_condition" "parse_condition" (defArgs s_parse_condition) (defBody s_parse_condition) (defScope s_parse_condition) .none kV_parse_condition dc_parse_condition pm_parse_condition an_parse_condition cd_parse_condition ct_parse_condition), sl_parse_condition⟩)
    (c_parse_condition : PySem.W.codeIn K cd_parse_condition "parse_condition" = true)
    (k_parse_condition : PySem.W.keepIn K (.ref f_parse_condition) = true)
    (a_pieces_of : PySem.W.nsIn K mainGlobals "pieces_of" = some (some (.ref f_pieces_of)))
    (l_pieces_of : K.lookup f_pieces_of = some ⟨oc_pieces_of, od_pieces_of, .func (PySem.W.fnOf "pieces_of" "pieces_of" (defArgs s_pieces_of) (defBody s_pieces_of) (defScope s_pieces_of) .none kV_pieces_of dc_pieces_of pm_pieces_of an_pieces_of cd_pieces_of ct_pieces_of), sl_pieces_of⟩)
    (c_pieces_of : PySem.W.codeIn K cd_pieces_of "pieces_of" = true)
    (k_pieces_of : PySem.W.keepIn K (.ref f_pieces_of) = true)
    (a_print_condition : PySem.W.nsIn K mainGlobals "print_condition" = some (some (.ref f_print_condition)))
    (l_print_condition : K.lookup f_print_condition = some ⟨oc_print_condition, od_print_condition, .func (PySem.W.fnOf "print_condition" "print_condition" (defArgs s_print_condition) (defBody s_print_condition) (defScope s_print_condition) .none kV_print_condition dc_print_condition pm_print_condition an_print_condition cd_print_condition ct_print_condition), sl_print_condition⟩)
    (c_print_condition : PySem.W.codeIn K cd_print_condition "print_condition" = true)
    (k_print_condition : PySem.W.keepIn K (.ref f_print_condition) = true)
    (a_law_draw : PySem.W.nsIn K mainGlobals "_law_draw" = some (some (.ref f_law_draw)))
    (l_law_draw : K.lookup f_law_draw = some ⟨oc_law_draw, od_law_draw, .func (PySem.W.fnOf "_law_draw" "_law_draw" (defArgs s_law_draw) (defBody s_law_draw) (defScope s_law_draw) .none kV_law_draw dc_law_draw pm_law_draw an_law_draw cd_law_draw ct_law_draw), sl_law_draw⟩)
    (c_law_draw : PySem.W.codeIn K cd_law_draw "_law_draw" = true)
    (k_law_draw : PySem.W.keepIn K (.ref f_law_draw) = true)
    (a_law_next : PySem.W.nsIn K mainGlobals "_law_next" = some (some (.ref f_law_next)))
    (l_law_next : K.lookup f_law_next = some ⟨oc_law_next, od_law_next, .func (PySem.W.fnOf "_law_next" "_law_next" (defArgs s_law_next) (defBody s_law_next) (defScope s_law_next) .none kV_law_next dc_law_next pm_law_next an_law_next cd_law_next ct_law_next), sl_law_next⟩)
    (c_law_next : PySem.W.codeIn K cd_law_next "_law_next" = true)
    (k_law_next : PySem.W.keepIn K (.ref f_law_next) = true)
    (a_law_same : PySem.W.nsIn K mainGlobals "_law_same" = some (some (.ref f_law_same)))
    (l_law_same : K.lookup f_law_same = some ⟨oc_law_same, od_law_same, .func (PySem.W.fnOf "_law_same" "_law_same" (defArgs s_law_same) (defBody s_law_same) (defScope s_law_same) .none kV_law_same dc_law_same pm_law_same an_law_same cd_law_same ct_law_same), sl_law_same⟩)
    (c_law_same : PySem.W.codeIn K cd_law_same "_law_same" = true)
    (k_law_same : PySem.W.keepIn K (.ref f_law_same) = true)
    (a_law_tree : PySem.W.nsIn K mainGlobals "_law_tree" = some (some (.ref f_law_tree)))
    (l_law_tree : K.lookup f_law_tree = some ⟨oc_law_tree, od_law_tree, .func (PySem.W.fnOf "_law_tree" "_law_tree" (defArgs s_law_tree) (defBody s_law_tree) (defScope s_law_tree) .none kV_law_tree dc_law_tree pm_law_tree an_law_tree cd_law_tree ct_law_tree), sl_law_tree⟩)
    (c_law_tree : PySem.W.codeIn K cd_law_tree "_law_tree" = true)
    (k_law_tree : PySem.W.keepIn K (.ref f_law_tree) = true)
    (a_law_parts : PySem.W.nsIn K mainGlobals "_law_parts" = some (some (.ref f_law_parts)))
    (l_law_parts : K.lookup f_law_parts = some ⟨oc_law_parts, od_law_parts, .func (PySem.W.fnOf "_law_parts" "_law_parts" (defArgs s_law_parts) (defBody s_law_parts) (defScope s_law_parts) .none kV_law_parts dc_law_parts pm_law_parts an_law_parts cd_law_parts ct_law_parts), sl_law_parts⟩)
    (c_law_parts : PySem.W.codeIn K cd_law_parts "_law_parts" = true)
    (k_law_parts : PySem.W.keepIn K (.ref f_law_parts) = true)
    (a_law_looks : PySem.W.nsIn K mainGlobals "_law_looks" = some (some (.ref f_law_looks)))
    (l_law_looks : K.lookup f_law_looks = some ⟨oc_law_looks, od_law_looks, .func (PySem.W.fnOf "_law_looks" "_law_looks" (defArgs s_law_looks) (defBody s_law_looks) (defScope s_law_looks) .none kV_law_looks dc_law_looks pm_law_looks an_law_looks cd_law_looks ct_law_looks), sl_law_looks⟩)
    (c_law_looks : PySem.W.codeIn K cd_law_looks "_law_looks" = true)
    (k_law_looks : PySem.W.keepIn K (.ref f_law_looks) = true)
    (a_law_condition : PySem.W.nsIn K mainGlobals "_law_condition" = some (some (.ref f_law_condition)))
    (l_law_condition : K.lookup f_law_condition = some ⟨oc_law_condition, od_law_condition, .func (PySem.W.fnOf "_law_condition" "_law_condition" (defArgs s_law_condition) (defBody s_law_condition) (defScope s_law_condition) .none kV_law_condition dc_law_condition pm_law_condition an_law_condition cd_law_condition ct_law_condition), sl_law_condition⟩)
    (c_law_condition : PySem.W.codeIn K cd_law_condition "_law_condition" = true)
    (k_law_condition : PySem.W.keepIn K (.ref f_law_condition) = true)
    (a_law_text : PySem.W.nsIn K mainGlobals "_law_text" = some (some (.ref f_law_text)))
    (l_law_text : K.lookup f_law_text = some ⟨oc_law_text, od_law_text, .func (PySem.W.fnOf "_law_text" "_law_text" (defArgs s_law_text) (defBody s_law_text) (defScope s_law_text) .none kV_law_text dc_law_text pm_law_text an_law_text cd_law_text ct_law_text), sl_law_text⟩)
    (c_law_text : PySem.W.codeIn K cd_law_text "_law_text" = true)
    (k_law_text : PySem.W.keepIn K (.ref f_law_text) = true)
    (a_law_bracket : PySem.W.nsIn K mainGlobals "_law_bracket" = some (some (.ref f_law_bracket)))
    (l_law_bracket : K.lookup f_law_bracket = some ⟨oc_law_bracket, od_law_bracket, .func (PySem.W.fnOf "_law_bracket" "_law_bracket" (defArgs s_law_bracket) (defBody s_law_bracket) (defScope s_law_bracket) .none kV_law_bracket dc_law_bracket pm_law_bracket an_law_bracket cd_law_bracket ct_law_bracket), sl_law_bracket⟩)
    (c_law_bracket : PySem.W.codeIn K cd_law_bracket "_law_bracket" = true)
    (k_law_bracket : PySem.W.keepIn K (.ref f_law_bracket) = true)
    (a_law_condition_tokens : PySem.W.nsIn K mainGlobals "_law_condition_tokens" = some (some (.ref f_law_condition_tokens)))
    (l_law_condition_tokens : K.lookup f_law_condition_tokens = some ⟨oc_law_condition_tokens, od_law_condition_tokens, .func (PySem.W.fnOf "_law_condition_tokens" "_law_condition_tokens" (defArgs s_law_condition_tokens) (defBody s_law_condition_tokens) (defScope s_law_condition_tokens) .none kV_law_condition_tokens dc_law_condition_tokens pm_law_condition_tokens an_law_condition_tokens cd_law_condition_tokens ct_law_condition_tokens), sl_law_condition_tokens⟩)
    (c_law_condition_tokens : PySem.W.codeIn K cd_law_condition_tokens "_law_condition_tokens" = true)
    (k_law_condition_tokens : PySem.W.keepIn K (.ref f_law_condition_tokens) = true)
    (a_law_print : PySem.W.nsIn K mainGlobals "_law_print" = some (some (.ref f_law_print)))
    (l_law_print : K.lookup f_law_print = some ⟨oc_law_print, od_law_print, .func (PySem.W.fnOf "_law_print" "_law_print" (defArgs s_law_print) (defBody s_law_print) (defScope s_law_print) .none kV_law_print dc_law_print pm_law_print an_law_print cd_law_print ct_law_print), sl_law_print⟩)
    (c_law_print : PySem.W.codeIn K cd_law_print "_law_print" = true)
    (k_law_print : PySem.W.keepIn K (.ref f_law_print) = true)
    (a_law : PySem.W.nsIn K mainGlobals "law" = some (some (.ref f_law)))
    (l_law : K.lookup f_law = some ⟨oc_law, od_law, .func (PySem.W.fnOf "law" "law" (defArgs s_law) (defBody s_law) (defScope s_law) .none kV_law dc_law pm_law an_law cd_law ct_law), sl_law⟩)
    (c_law : PySem.W.codeIn K cd_law "law" = true)
    (k_law : PySem.W.keepIn K (.ref f_law) = true)
    (g_TIGHTEST : PySem.W.nsIn K mainGlobals "TIGHTEST" = some (some (.ref d_TIGHTEST)))
    (kdl_TIGHTEST : K.lookup d_TIGHTEST = some ⟨.type "dict", none, .dict es_TIGHTEST n_TIGHTEST, #[]⟩)
    (kdk_TIGHTEST : PySem.W.KeysLit w.params es_TIGHTEST.toList)
    (kds_TIGHTEST : (d_TIGHTEST == sysModules) = false)
    (kde_TIGHTEST : SX.Ents es_TIGHTEST.toList [(("or" : Str), V.int 0), (("and" : Str), V.int 1)])
    (g_LOOKS : PySem.W.nsIn K mainGlobals "LOOKS" = some (some (.ref d_LOOKS)))
    (ktl_LOOKS : K.lookup d_LOOKS = some ⟨.type "tuple", od_LOOKS, .seq es_LOOKS n_LOOKS, sl_LOOKS⟩)
    (ktz_LOOKS : es_LOOKS.size ≤ sizeLine)
    (kte_LOOKS : Vals (List.map V.str [("child" : Str), ("below" : Str), ("parent" : Str), ("above" : Str), ("earlier" : Str), ("later" : Str)]) es_LOOKS.toList)
    (g_LETTERS : PySem.W.nsIn K mainGlobals "LETTERS" = some (some (.str "abcdefghijklmnopqrstuvwxyz" t_LETTERS)))
    (g_LONGEST_NAME : PySem.W.nsIn K mainGlobals "LONGEST_NAME" = some (some (.int 8 t_LONGEST_NAME)))
    (g_ALONE : PySem.W.nsIn K mainGlobals "ALONE" = some (some (.int 0 t_ALONE)))
    (g_MOST_PARTS : PySem.W.nsIn K mainGlobals "MOST_PARTS" = some (some (.int 12 t_MOST_PARTS)))
    (g_MOST_LOOKS : PySem.W.nsIn K mainGlobals "MOST_LOOKS" = some (some (.int 4 t_MOST_LOOKS)))
    (g_FACTOR : PySem.W.nsIn K mainGlobals "FACTOR" = some (some (.int 2 t_FACTOR)))
    (g_TERM : PySem.W.nsIn K mainGlobals "TERM" = some (some (.int 1 t_TERM)))
    (n_len : PySem.W.nsIn K mainGlobals "len" = some none)
    (n_isinstance : PySem.W.nsIn K mainGlobals "isinstance" = some none)
    (n_str : PySem.W.nsIn K mainGlobals "str" = some none)
    (n_tuple : PySem.W.nsIn K mainGlobals "tuple" = some none)
    (n_list : PySem.W.nsIn K mainGlobals "list" = some none)
    (n_abs : PySem.W.nsIn K mainGlobals "abs" = some none)
    (n_int : PySem.W.nsIn K mainGlobals "int" = some none)
    (n_all : PySem.W.nsIn K mainGlobals "all" = some none)
    (n_bool : PySem.W.nsIn K mainGlobals "bool" = some none)
    (n_range : PySem.W.nsIn K mainGlobals "range" = some none)
    (n_sum : PySem.W.nsIn K mainGlobals "sum" = some none)
    (te_opq : PySem.W.nsIn K cStatics "thirdparty.any" = some none)
    (te_noS : PySem.W.nsIn K mainGlobals "super" = some none)
    (te_top : (prog.main.scope.names.lookup ("super" : Str)).isSome = false) :
    LamX.LawAtS l w K CX0 21 63 "script" mg fa h := by
  have e := hfa.symm.trans (PySem.W.mg_of X G a_law)
  cases e
  subst hprog
  let T : Txt l.prog K mg w := {
    a_word_end := f_word_end, fd_word_end := _, F_word_end := fun_mk (st := s_word_end) l_word_end c_word_end k_word_end, g_word_end := PySem.W.mg_of X G a_word_end,
    a_tokens_of := f_tokens_of, fd_tokens_of := _, F_tokens_of := fun_mk (st := s_tokens_of) l_tokens_of c_tokens_of k_tokens_of, g_tokens_of := PySem.W.mg_of X G a_tokens_of,
    a_Reader___init__ := f_Reader___init__, fd_Reader___init__ := _, F_Reader___init__ := fun_mk (st := s_Reader___init__) l_Reader___init__ c_Reader___init__ k_Reader___init__,
    a_Reader_step := f_Reader_step, fd_Reader_step := _, F_Reader_step := fun_mk (st := s_Reader_step) l_Reader_step c_Reader_step k_Reader_step,
    a_Reader_refuse := f_Reader_refuse, fd_Reader_refuse := _, F_Reader_refuse := fun_mk (st := s_Reader_refuse) l_Reader_refuse c_Reader_refuse k_Reader_refuse,
    a_Reader_read_name := f_Reader_read_name, fd_Reader_read_name := _, F_Reader_read_name := fun_mk (st := s_Reader_read_name) l_Reader_read_name c_Reader_read_name k_Reader_read_name,
    a_parts_of := f_parts_of, fd_parts_of := _, F_parts_of := fun_mk (st := s_parts_of) l_parts_of c_parts_of k_parts_of, g_parts_of := PySem.W.mg_of X G a_parts_of,
    a_numbered := f_numbered, fd_numbered := _, F_numbered := fun_mk (st := s_numbered) l_numbered c_numbered k_numbered, g_numbered := PySem.W.mg_of X G a_numbered,
    a_joined := f_joined, fd_joined := _, F_joined := fun_mk (st := s_joined) l_joined c_joined k_joined, g_joined := PySem.W.mg_of X G a_joined,
    a_separated := f_separated, fd_separated := _, F_separated := fun_mk (st := s_separated) l_separated c_separated k_separated, g_separated := PySem.W.mg_of X G a_separated,
    a_written := f_written, fd_written := _, F_written := fun_mk (st := s_written) l_written c_written k_written, g_written := PySem.W.mg_of X G a_written,
    a_Group___init__ := f_Group___init__, fd_Group___init__ := _, F_Group___init__ := fun_mk (st := s_Group___init__) l_Group___init__ c_Group___init__ k_Group___init__,
    a_Group_take_word := f_Group_take_word, fd_Group_take_word := _, F_Group_take_word := fun_mk (st := s_Group_take_word) l_Group_take_word c_Group_take_word k_Group_take_word,
    a_Group_take_factor := f_Group_take_factor, fd_Group_take_factor := _, F_Group_take_factor := fun_mk (st := s_Group_take_factor) l_Group_take_factor c_Group_take_factor k_Group_take_factor,
    a_Group_begin_term := f_Group_begin_term, fd_Group_begin_term := _, F_Group_begin_term := fun_mk (st := s_Group_begin_term) l_Group_begin_term c_Group_begin_term k_Group_begin_term,
    a_Group_condition := f_Group_condition, fd_Group_condition := _, F_Group_condition := fun_mk (st := s_Group_condition) l_Group_condition c_Group_condition k_Group_condition,
    a_ConditionReader___init__ := f_ConditionReader___init__, fd_ConditionReader___init__ := _, cda_ConditionReader___init__ := cda_ConditionReader___init__, cc_ConditionReader___init__ := cc_ConditionReader___init__, su_ConditionReader___init__ := { cls := ⟨_, sucls_ConditionReader___init__⟩, mro := sumro_ConditionReader___init__, sup := susup_ConditionReader, ty2 := ty_Reader___init__, fn2 := fn_Reader___init__, opq := te_opq, noS := te_noS, topS := te_top, fn := ⟨_, _, _, _, _, _, _, _, _, _, _, _, _, _, _, _, _, rfl, sul_ConditionReader___init__, suc_ConditionReader___init__, sucd_ConditionReader___init__, suvs_ConditionReader___init__, sufile_ConditionReader___init__, sucell_ConditionReader___init__⟩ },
    a_ConditionReader_read_condition := f_ConditionReader_read_condition, fd_ConditionReader_read_condition := _, F_ConditionReader_read_condition := fun_mk (st := s_ConditionReader_read_condition) l_ConditionReader_read_condition c_ConditionReader_read_condition k_ConditionReader_read_condition,
    a_ConditionReader_read_plain := f_ConditionReader_read_plain, fd_ConditionReader_read_plain := _, F_ConditionReader_read_plain := fun_mk (st := s_ConditionReader_read_plain) l_ConditionReader_read_plain c_ConditionReader_read_plain k_ConditionReader_read_plain,
    a_ConditionReader_read_closed := f_ConditionReader_read_closed, fd_ConditionReader_read_closed := _, F_ConditionReader_read_closed := fun_mk (st := s_ConditionReader_read_closed) l_ConditionReader_read_closed c_ConditionReader_read_closed k_ConditionReader_read_closed,
    a_ConditionReader_read_joint := f_ConditionReader_read_joint, fd_ConditionReader_read_joint := _, F_ConditionReader_read_joint := fun_mk (st := s_ConditionReader_read_joint) l_ConditionReader_read_joint c_ConditionReader_read_joint k_ConditionReader_read_joint,
    a_ConditionReader_check_size := f_ConditionReader_check_size, fd_ConditionReader_check_size := _, F_ConditionReader_check_size := fun_mk (st := s_ConditionReader_check_size) l_ConditionReader_check_size c_ConditionReader_check_size k_ConditionReader_check_size,
    a_parse_condition := f_parse_condition, fd_parse_condition := _, F_parse_condition := fun_mk (st := s_parse_condition) l_parse_condition c_parse_condition k_parse_condition, g_parse_condition := PySem.W.mg_of X G a_parse_condition,
    a_pieces_of := f_pieces_of, fd_pieces_of := _, F_pieces_of := fun_mk (st := s_pieces_of) l_pieces_of c_pieces_of k_pieces_of, g_pieces_of := PySem.W.mg_of X G a_pieces_of,
    a_print_condition := f_print_condition, fd_print_condition := _, F_print_condition := fun_mk (st := s_print_condition) l_print_condition c_print_condition k_print_condition, g_print_condition := PySem.W.mg_of X G a_print_condition,
    a_law_draw := f_law_draw, fd_law_draw := _, F_law_draw := fun_mk (st := s_law_draw) l_law_draw c_law_draw k_law_draw, g_law_draw := PySem.W.mg_of X G a_law_draw,
    a_law_next := f_law_next, fd_law_next := _, F_law_next := fun_mk (st := s_law_next) l_law_next c_law_next k_law_next, g_law_next := PySem.W.mg_of X G a_law_next,
    a_law_same := f_law_same, fd_law_same := _, F_law_same := fun_mk (st := s_law_same) l_law_same c_law_same k_law_same, g_law_same := PySem.W.mg_of X G a_law_same,
    a_law_tree := f_law_tree, fd_law_tree := _, F_law_tree := fun_mk (st := s_law_tree) l_law_tree c_law_tree k_law_tree, g_law_tree := PySem.W.mg_of X G a_law_tree,
    a_law_parts := f_law_parts, fd_law_parts := _, F_law_parts := fun_mk (st := s_law_parts) l_law_parts c_law_parts k_law_parts, g_law_parts := PySem.W.mg_of X G a_law_parts,
    a_law_looks := f_law_looks, fd_law_looks := _, F_law_looks := fun_mk (st := s_law_looks) l_law_looks c_law_looks k_law_looks, g_law_looks := PySem.W.mg_of X G a_law_looks,
    a_law_condition := f_law_condition, fd_law_condition := _, F_law_condition := fun_mk (st := s_law_condition) l_law_condition c_law_condition k_law_condition, g_law_condition := PySem.W.mg_of X G a_law_condition,
    a_law_text := f_law_text, fd_law_text := _, F_law_text := fun_mk (st := s_law_text) l_law_text c_law_text k_law_text, g_law_text := PySem.W.mg_of X G a_law_text,
    a_law_bracket := f_law_bracket, fd_law_bracket := _, F_law_bracket := fun_mk (st := s_law_bracket) l_law_bracket c_law_bracket k_law_bracket, g_law_bracket := PySem.W.mg_of X G a_law_bracket,
    a_law_condition_tokens := f_law_condition_tokens, fd_law_condition_tokens := _, F_law_condition_tokens := fun_mk (st := s_law_condition_tokens) l_law_condition_tokens c_law_condition_tokens k_law_condition_tokens, g_law_condition_tokens := PySem.W.mg_of X G a_law_condition_tokens,
    a_law_print := f_law_print, fd_law_print := _, F_law_print := fun_mk (st := s_law_print) l_law_print c_law_print k_law_print, g_law_print := PySem.W.mg_of X G a_law_print,
    a_law := fa, fd_law := _, F_law := fun_mk (st := s_law) l_law c_law k_law, g_law := PySem.W.mg_of X G a_law,
    C_Group := C_Group, cl_Group := ⟨p1_Group, p2_Group, p3_Group, p4_Group⟩, g_Group := PySem.W.mg_of X G g_Group, M_Group := ⟨p5_Group, a_Group___init__, fn_Group___init__, p6_Group⟩,
    m_Group_take_word := ⟨a_Group_take_word, fn_Group_take_word, k_Group_take_word⟩,
    m_Group_take_factor := ⟨a_Group_take_factor, fn_Group_take_factor, k_Group_take_factor⟩,
    m_Group_begin_term := ⟨a_Group_begin_term, fn_Group_begin_term, k_Group_begin_term⟩,
    m_Group_condition := ⟨a_Group_condition, fn_Group_condition, k_Group_condition⟩,
    n_Group_terms := n_Group_terms, n_Group_words := n_Group_words,
    C_ConditionReader := C_ConditionReader, cl_ConditionReader := ⟨p1_ConditionReader, p2_ConditionReader, p3_ConditionReader, p4_ConditionReader⟩, g_ConditionReader := PySem.W.mg_of X G g_ConditionReader, M_ConditionReader := ⟨p5_ConditionReader, a_ConditionReader___init__, fn_ConditionReader___init__, p6_ConditionReader⟩,
    m_ConditionReader_step := ⟨a_Reader_step, fn_Reader_step, k_Reader_step⟩,
    m_ConditionReader_refuse := ⟨a_Reader_refuse, fn_Reader_refuse, k_Reader_refuse⟩,
    m_ConditionReader_read_name := ⟨a_Reader_read_name, fn_Reader_read_name, k_Reader_read_name⟩,
    m_ConditionReader_read_condition := ⟨a_ConditionReader_read_condition, fn_ConditionReader_read_condition, k_ConditionReader_read_condition⟩,
    m_ConditionReader_read_plain := ⟨a_ConditionReader_read_plain, fn_ConditionReader_read_plain, k_ConditionReader_read_plain⟩,
    m_ConditionReader_read_closed := ⟨a_ConditionReader_read_closed, fn_ConditionReader_read_closed, k_ConditionReader_read_closed⟩,
    m_ConditionReader_read_joint := ⟨a_ConditionReader_read_joint, fn_ConditionReader_read_joint, k_ConditionReader_read_joint⟩,
    m_ConditionReader_check_size := ⟨a_ConditionReader_check_size, fn_ConditionReader_check_size, k_ConditionReader_check_size⟩,
    n_ConditionReader_tokens := n_ConditionReader_tokens, n_ConditionReader_at := n_ConditionReader_at, n_ConditionReader_token := n_ConditionReader_token, n_ConditionReader_place := n_ConditionReader_place, n_ConditionReader_first := n_ConditionReader_first, n_ConditionReader_groups := n_ConditionReader_groups,
    t_LETTERS := t_LETTERS, g_LETTERS := PySem.W.mg_of X G g_LETTERS,
    t_LONGEST_NAME := t_LONGEST_NAME, g_LONGEST_NAME := PySem.W.mg_of X G g_LONGEST_NAME,
    t_ALONE := t_ALONE, g_ALONE := PySem.W.mg_of X G g_ALONE,
    t_MOST_PARTS := t_MOST_PARTS, g_MOST_PARTS := PySem.W.mg_of X G g_MOST_PARTS,
    t_MOST_LOOKS := t_MOST_LOOKS, g_MOST_LOOKS := PySem.W.mg_of X G g_MOST_LOOKS,
    t_FACTOR := t_FACTOR, g_FACTOR := PySem.W.mg_of X G g_FACTOR,
    t_TERM := t_TERM, g_TERM := PySem.W.mg_of X G g_TERM,
    d_LOOKS := d_LOOKS, g_LOOKS := PySem.W.mg_of X G g_LOOKS, D_LOOKS := DT.td_of ktl_LOOKS ktz_LOOKS kte_LOOKS,
    d_TIGHTEST := d_TIGHTEST, g_TIGHTEST := PySem.W.mg_of X G g_TIGHTEST, D_TIGHTEST := SX.wd_of kdl_TIGHTEST kdk_TIGHTEST kds_TIGHTEST kde_TIGHTEST,
    n_len := PySem.W.mg_none_of X G n_len, n_isinstance := PySem.W.mg_none_of X G n_isinstance, n_str := PySem.W.mg_none_of X G n_str, n_tuple := PySem.W.mg_none_of X G n_tuple, n_list := PySem.W.mg_none_of X G n_list, n_abs := PySem.W.mg_none_of X G n_abs, n_int := PySem.W.mg_none_of X G n_int, n_all := PySem.W.mg_none_of X G n_all, n_bool := PySem.W.mg_none_of X G n_bool, n_range := PySem.W.mg_none_of X G n_range, n_sum := PySem.W.mg_none_of X G n_sum }
  exact law_at T (fun s v => .of_eq rfl) 
end K45
open PySem PySem.W PyProof.Rows
set_option maxHeartbeats 0 in
theorem PySem.Challenge.cw_soonsettled_k45_conditions_are_read_and_holds : PySem.Challenge.rw_soonsettled_k45_conditions_are_read_and.Holds := by
  w_on; o_law; k_head; (case hw => w_witness2)
  k_fill
  refine FE.walk_tab (l := PySem.Challenge.rw_soonsettled_k45_conditions_are_read_and) (n := 63) (k := 21) (x := "script") (CX := fun _ => L2.CX0) [] rfl (by decide) rfl ⟨rfl, by decide, by decide⟩ (by decide +kernel) (fun w h Y => PySem.W.kIn_of Y) ?F (fun _ _ _ _ _ z => z)
  case F =>
    intro w mg fa h KX G hmg tbs
    refine' K45.all_mk (prog := PySem.Challenge.rw_soonsettled_k45_conditions_are_read_and.prog) KX G hmg tbs rfl ?g_Group ?p1_Group ?p2_Group ?p3_Group ?p4_Group ?p5_Group ?p6_Group ?n_Group_terms ?n_Group_words ?g_ConditionReader ?p1_ConditionReader ?p2_ConditionReader ?p3_ConditionReader ?p4_ConditionReader ?p5_ConditionReader ?p6_ConditionReader ?n_ConditionReader_tokens ?n_ConditionReader_at ?n_ConditionReader_token ?n_ConditionReader_place ?n_ConditionReader_first ?n_ConditionReader_groups ?susup_ConditionReader ?a_word_end ?l_word_end ?c_word_end ?k_word_end ?a_tokens_of ?l_tokens_of ?c_tokens_of ?k_tokens_of ?l_Reader___init__ ?c_Reader___init__ ?k_Reader___init__ ?fn_Reader___init__ ?ty_Reader___init__ ?a_Reader_step ?fn_Reader_step ?l_Reader_step ?c_Reader_step ?k_Reader_step ?a_Reader_refuse ?fn_Reader_refuse ?l_Reader_refuse ?c_Reader_refuse ?k_Reader_refuse ?a_Reader_read_name ?fn_Reader_read_name ?l_Reader_read_name ?c_Reader_read_name ?k_Reader_read_name ?a_parts_of ?l_parts_of ?c_parts_of ?k_parts_of ?a_numbered ?l_numbered ?c_numbered ?k_numbered ?a_joined ?l_joined ?c_joined ?k_joined ?a_separated ?l_separated ?c_separated ?k_separated ?a_written ?l_written ?c_written ?k_written ?a_Group___init__ ?fn_Group___init__ ?l_Group___init__ ?c_Group___init__ ?k_Group___init__ ?a_Group_take_word ?fn_Group_take_word ?l_Group_take_word ?c_Group_take_word ?k_Group_take_word ?a_Group_take_factor ?fn_Group_take_factor ?l_Group_take_factor ?c_Group_take_factor ?k_Group_take_factor ?a_Group_begin_term ?fn_Group_begin_term ?l_Group_begin_term ?c_Group_begin_term ?k_Group_begin_term ?a_Group_condition ?fn_Group_condition ?l_Group_condition ?c_Group_condition ?k_Group_condition ?a_ConditionReader___init__ ?fn_ConditionReader___init__ ?sucls_ConditionReader___init__ ?sumro_ConditionReader___init__ ?sul_ConditionReader___init__ ?suc_ConditionReader___init__ ?sucd_ConditionReader___init__ ?suvs_ConditionReader___init__ ?sufile_ConditionReader___init__ ?sucell_ConditionReader___init__ ?a_ConditionReader_read_condition ?fn_ConditionReader_read_condition ?l_ConditionReader_read_condition ?c_ConditionReader_read_condition ?k_ConditionReader_read_condition ?a_ConditionReader_read_plain ?fn_ConditionReader_read_plain ?l_ConditionReader_read_plain ?c_ConditionReader_read_plain ?k_ConditionReader_read_plain ?a_ConditionReader_read_closed ?fn_ConditionReader_read_closed ?l_ConditionReader_read_closed ?c_ConditionReader_read_closed ?k_ConditionReader_read_closed ?a_ConditionReader_read_joint ?fn_ConditionReader_read_joint ?l_ConditionReader_read_joint ?c_ConditionReader_read_joint ?k_ConditionReader_read_joint ?a_ConditionReader_check_size ?fn_ConditionReader_check_size ?l_ConditionReader_check_size ?c_ConditionReader_check_size ?k_ConditionReader_check_size ?a_parse_condition ?l_parse_condition ?c_parse_condition ?k_parse_condition ?a_pieces_of ?l_pieces_of ?c_pieces_of ?k_pieces_of ?a_print_condition ?l_print_condition ?c_print_condition ?k_print_condition ?a_law_draw ?l_law_draw ?c_law_draw ?k_law_draw ?a_law_next ?l_law_next ?c_law_next ?k_law_next ?a_law_same ?l_law_same ?c_law_same ?k_law_same ?a_law_tree ?l_law_tree ?c_law_tree ?k_law_tree ?a_law_parts ?l_law_parts ?c_law_parts ?k_law_parts ?a_law_looks ?l_law_looks ?c_law_looks ?k_law_looks ?a_law_condition ?l_law_condition ?c_law_condition ?k_law_condition ?a_law_text ?l_law_text ?c_law_text ?k_law_text ?a_law_bracket ?l_law_bracket ?c_law_bracket ?k_law_bracket ?a_law_condition_tokens ?l_law_condition_tokens ?c_law_condition_tokens ?k_law_condition_tokens ?a_law_print ?l_law_print ?c_law_print ?k_law_print ?a_law ?l_law ?c_law ?k_law ?g_TIGHTEST ?kdl_TIGHTEST ?kdk_TIGHTEST ?kds_TIGHTEST ?kde_TIGHTEST ?g_LOOKS ?ktl_LOOKS ?ktz_LOOKS ?kte_LOOKS ?g_LETTERS ?g_LONGEST_NAME ?g_ALONE ?g_MOST_PARTS ?g_MOST_LOOKS ?g_FACTOR ?g_TERM ?n_len ?n_isinstance ?n_str ?n_tuple ?n_list ?n_abs ?n_int ?n_all ?n_bool ?n_range ?n_sum ?te_opq ?te_noS ?te_top
    (case g_Group => k_is); (case p1_Group => k_is); (case p2_Group => k_is); (case p3_Group => k_is); (case p4_Group => k_is); (case p5_Group => k_is); (case p6_Group => k_is); (case n_Group_terms => k_is); (case n_Group_words => k_is); (case g_ConditionReader => k_is); (case p1_ConditionReader => k_is); (case p2_ConditionReader => k_is); (case p3_ConditionReader => k_is); (case p4_ConditionReader => k_is); (case p5_ConditionReader => k_is); (case p6_ConditionReader => k_is); (case n_ConditionReader_tokens => k_is); (case n_ConditionReader_at => k_is); (case n_ConditionReader_token => k_is); (case n_ConditionReader_place => k_is); (case n_ConditionReader_first => k_is); (case n_ConditionReader_groups => k_is); (case susup_ConditionReader => ks_is); (case a_word_end => k_is); (case l_word_end => k_is); (case c_word_end => k_is); (case k_word_end => k_is); (case a_tokens_of => k_is); (case l_tokens_of => k_is); (case c_tokens_of => k_is); (case k_tokens_of => k_is); (case l_Reader___init__ => k_is); (case c_Reader___init__ => k_is); (case k_Reader___init__ => k_is); (case fn_Reader___init__ => k_is); (case ty_Reader___init__ => k_is); (case a_Reader_step => k_is); (case fn_Reader_step => k_is); (case l_Reader_step => k_is); (case c_Reader_step => k_is); (case k_Reader_step => k_is); (case a_Reader_refuse => k_is); (case fn_Reader_refuse => k_is); (case l_Reader_refuse => k_is); (case c_Reader_refuse => k_is); (case k_Reader_refuse => k_is); (case a_Reader_read_name => k_is); (case fn_Reader_read_name => k_is); (case l_Reader_read_name => k_is); (case c_Reader_read_name => k_is); (case k_Reader_read_name => k_is); (case a_parts_of => k_is); (case l_parts_of => k_is); (case c_parts_of => k_is); (case k_parts_of => k_is); (case a_numbered => k_is); (case l_numbered => k_is); (case c_numbered => k_is); (case k_numbered => k_is); (case a_joined => k_is); (case l_joined => k_is); (case c_joined => k_is); (case k_joined => k_is); (case a_separated => k_is); (case l_separated => k_is); (case c_separated => k_is); (case k_separated => k_is); (case a_written => k_is); (case l_written => k_is); (case c_written => k_is); (case k_written => k_is); (case a_Group___init__ => k_is); (case fn_Group___init__ => k_is); (case l_Group___init__ => k_is); (case c_Group___init__ => k_is); (case k_Group___init__ => k_is); (case a_Group_take_word => k_is); (case fn_Group_take_word => k_is); (case l_Group_take_word => k_is); (case c_Group_take_word => k_is); (case k_Group_take_word => k_is); (case a_Group_take_factor => k_is); (case fn_Group_take_factor => k_is); (case l_Group_take_factor => k_is); (case c_Group_take_factor => k_is); (case k_Group_take_factor => k_is); (case a_Group_begin_term => k_is); (case fn_Group_begin_term => k_is); (case l_Group_begin_term => k_is); (case c_Group_begin_term => k_is); (case k_Group_begin_term => k_is); (case a_Group_condition => k_is); (case fn_Group_condition => k_is); (case l_Group_condition => k_is); (case c_Group_condition => k_is); (case k_Group_condition => k_is); (case a_ConditionReader___init__ => k_is); (case fn_ConditionReader___init__ => k_is); (case sucls_ConditionReader___init__ => k_is); (case sumro_ConditionReader___init__ => first | k_is | kernel_rfl); (case sul_ConditionReader___init__ => k_is); (case suc_ConditionReader___init__ => k_is); (case sucd_ConditionReader___init__ => k_is); (case suvs_ConditionReader___init__ => first | rfl | kernel_rfl); (case sufile_ConditionReader___init__ => first | rfl | decide +kernel); (case sucell_ConditionReader___init__ => k_is); (case a_ConditionReader_read_condition => k_is); (case fn_ConditionReader_read_condition => k_is); (case l_ConditionReader_read_condition => k_is); (case c_ConditionReader_read_condition => k_is); (case k_ConditionReader_read_condition => k_is); (case a_ConditionReader_read_plain => k_is); (case fn_ConditionReader_read_plain => k_is); (case l_ConditionReader_read_plain => k_is); (case c_ConditionReader_read_plain => k_is); (case k_ConditionReader_read_plain => k_is); (case a_ConditionReader_read_closed => k_is); (case fn_ConditionReader_read_closed => k_is); (case l_ConditionReader_read_closed => k_is); (case c_ConditionReader_read_closed => k_is); (case k_ConditionReader_read_closed => k_is); (case a_ConditionReader_read_joint => k_is); (case fn_ConditionReader_read_joint => k_is); (case l_ConditionReader_read_joint => k_is); (case c_ConditionReader_read_joint => k_is); (case k_ConditionReader_read_joint => k_is); (case a_ConditionReader_check_size => k_is); (case fn_ConditionReader_check_size => k_is); (case l_ConditionReader_check_size => k_is); (case c_ConditionReader_check_size => k_is); (case k_ConditionReader_check_size => k_is); (case a_parse_condition => k_is); (case l_parse_condition => k_is); (case c_parse_condition => k_is); (case k_parse_condition => k_is); (case a_pieces_of => k_is); (case l_pieces_of => k_is); (case c_pieces_of => k_is); (case k_pieces_of => k_is); (case a_print_condition => k_is); (case l_print_condition => k_is); (case c_print_condition => k_is); (case k_print_condition => k_is); (case a_law_draw => k_is); (case l_law_draw => k_is); (case c_law_draw => k_is); (case k_law_draw => k_is); (case a_law_next => k_is); (case l_law_next => k_is); (case c_law_next => k_is); (case k_law_next => k_is); (case a_law_same => k_is); (case l_law_same => k_is); (case c_law_same => k_is); (case k_law_same => k_is); (case a_law_tree => k_is); (case l_law_tree => k_is); (case c_law_tree => k_is); (case k_law_tree => k_is); (case a_law_parts => k_is); (case l_law_parts => k_is); (case c_law_parts => k_is); (case k_law_parts => k_is); (case a_law_looks => k_is); (case l_law_looks => k_is); (case c_law_looks => k_is); (case k_law_looks => k_is); (case a_law_condition => k_is); (case l_law_condition => k_is); (case c_law_condition => k_is); (case k_law_condition => k_is); (case a_law_text => k_is); (case l_law_text => k_is); (case c_law_text => k_is); (case k_law_text => k_is); (case a_law_bracket => k_is); (case l_law_bracket => k_is); (case c_law_bracket => k_is); (case k_law_bracket => k_is); (case a_law_condition_tokens => k_is); (case l_law_condition_tokens => k_is); (case c_law_condition_tokens => k_is); (case k_law_condition_tokens => k_is); (case a_law_print => k_is); (case l_law_print => k_is); (case c_law_print => k_is); (case k_law_print => k_is); (case a_law => k_is); (case l_law => k_is); (case c_law => k_is); (case k_law => k_is); (case g_TIGHTEST => k_is); (case kdl_TIGHTEST => k_is); (case kdk_TIGHTEST => (repeat' (first | exact True.intro | refine ⟨⟨_, _, rfl, rfl⟩, ?_⟩))); (case kds_TIGHTEST => first | rfl | decide | kernel_rfl); (case kde_TIGHTEST => (repeat' (first | exact True.intro | refine ⟨⟨_, rfl⟩, ⟨_, rfl⟩, ?_⟩ | refine ⟨⟨_, rfl⟩, rfl, ?_⟩))); (case g_LOOKS => k_is); (case ktl_LOOKS => k_is); (case ktz_LOOKS => first | decide | (show _ ≤ 16777216; decide) | kernel_rfl); (case kte_LOOKS => (repeat' (first | exact .nil | refine .cons ⟨_, rfl⟩ ?_))); (case g_LETTERS => k_is); (case g_LONGEST_NAME => k_is); (case g_ALONE => k_is); (case g_MOST_PARTS => k_is); (case g_MOST_LOOKS => k_is); (case g_FACTOR => k_is); (case g_TERM => k_is); (case n_len => k_is); (case n_isinstance => k_is); (case n_str => k_is); (case n_tuple => k_is); (case n_list => k_is); (case n_abs => k_is); (case n_int => k_is); (case n_all => k_is); (case n_bool => k_is); (case n_range => k_is); (case n_sum => k_is); (case te_opq => k_is); (case te_noS => k_is); (case te_top => kernel_rfl)
