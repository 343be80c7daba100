import PyProof.Rows.All
import Wide.All
import OpenK.AllK
import Wide.FinOn
import HandS.ForMost
import HandS.ForExc
import HandS.ExcCtx
import HandS.ExcInit
import HandS.ExcSuper
import HandS.FStr
import KE.KExcSuper
import KE.KExcMore
import KE.KExcIs
import HandS.IsInst
import HandS.TupAny
import HandS.Style
import KE.KRevSl
import HandS.Nested
import KE.KSuper
import KE.RegKSuper
import HandS.Dict
import HandS.More
import HandS.Small
import HandS.Lambda
import HandS.Rev
import HandS.RevRange
import HandS.Walk
import KE.DataMinMax
import HandS.SortKw
import HandS.CallLocal
import HandS.Iter
import HandS.DictComp
import HandS.EndOwn
import PySem.Challenge.RW_soonsettled_k49_types_that_have_elements
set_option Elab.async false
set_option linter.all false
set_option maxRecDepth 100000
set_option maxHeartbeats 4000000
/-! TextError: an own error of two generations below ValueError, whose __init__ tells a text to super() and keeps two fields. Part 1: over the heap. -/
namespace TE
open PySem PySem.W PySem.Calls PyProof.Rows PySem.HandSPX
/-- "MESSAGE at PLACE" -/
def says (m : Str) (p : Int) : Str := Str.empty ++ m ++ (" at " : Str) ++ (toString p : Str)
/-! ### the text of __init__ -/
def iArgs : Arguments :=
  { posonlyargs := [], args := [{ arg := "self", annotation := none, pos := ⟨9, 17, 9, 21⟩ }, { arg := "place", annotation := none, pos := ⟨9, 23, 9, 28⟩ }, { arg := "message", annotation := none, pos := ⟨9, 30, 9, 37⟩ }],
    vararg := none, kwonlyargs := [], kw_defaults := [], kwarg := none, defaults := [] }
def iBody : List Stmt :=
  [.Expr (.Call (.Attribute (.Call (.Name "super" ⟨10, 8, 10, 13⟩) [] [] ⟨10, 8, 10, 15⟩) "__init__" ⟨10, 8, 10, 24⟩)
      [.JoinedStr [.FormattedValue (.Name "message" ⟨10, 28, 10, 35⟩) (-1) none ⟨10, 27, 10, 36⟩, .Constant (.str " at ") 0 ⟨10, 36, 10, 40⟩,
        .FormattedValue (.Name "place" ⟨10, 41, 10, 46⟩) (-1) none ⟨10, 40, 10, 47⟩] ⟨10, 25, 10, 48⟩] [] ⟨10, 8, 10, 49⟩) ⟨10, 8, 10, 49⟩,
   .Assign [.Attribute (.Name "self" ⟨11, 8, 11, 12⟩) "place" ⟨11, 8, 11, 18⟩] (.Name "place" ⟨11, 21, 11, 26⟩) ⟨11, 8, 11, 26⟩,
   .Assign [.Attribute (.Name "self" ⟨12, 8, 12, 12⟩) "message" ⟨12, 8, 12, 20⟩] (.Name "message" ⟨12, 23, 12, 30⟩) ⟨12, 8, 12, 30⟩]
def iScope : Scope :=
  { kind := .function, names := [(Str.ofString "self", .local), (Str.ofString "place", .local), (Str.ofString "message", .local), (Str.ofString "__class__", .free), (Str.ofString "super", .globalImplicit)],
    isGenerator := false, isCoroutine := false, more := [] }
/-- what the written part says of TextError, at C, and of its __init__, at fI -/
structure Txt (prog : Program) (K : Frag) (mg : Str → Option Value) (C fI : Addr) : Prop where
  gC : mg "TextError" = some (.ref C)
  cls : ∃ nm q N bs bm sn sub ab col dd k0 k1 k2 k3 k5, K.lookup C = some (excClassObj nm q C N bs bm true sn sub ab col dd k0 k1 k2 k3 k5 "ValueError.__new__") ∧ refsVE bm = true
  sup : ks_superIn K C C "__init__" = some (some (.builtin "ValueError.__init__"))
  ini : excInitIn K C [.type "ValueError", .type "Exception", .type "BaseException", .type "object"] "ValueError.__new__" = true
  subV : subIn K (.ref C) (.type "ValueError") = some true
  opq : nsIn K cStatics "thirdparty.any" = some none
  noS : nsIn K mainGlobals "super" = some none
  topS : (prog.main.scope.names.lookup ("super" : Str)).isSome = false
  sa : findIn K (.ref C) "__setattr__" = some (some (.builtin "object.__setattr__"))
  noP : findIn K (.ref C) "place" = some none
  noM : findIn K (.ref C) "message" = some none
  iC : findIn K (.ref C) "__init__" = some (some (.ref fI))
  tI : typeIn K (.ref fI) = some (.type "function")
  kC : keepIn K (.ref C) = true
  exC : subIn K (.ref C) (.type "BaseException") = some true
  tyC : typeIn K (.ref C) = some (.type "type")
  fn : ∃ (oc : Value) (od : Option Addr) (kV doc pm : Value) (an : Option Addr) (cda : Addr) (ct : Value) (cc : Addr) (osl : Array (Option Value))
      (ccl : Value) (cdd : Option Addr) (vs : Array Value) (ccs : Array (Option Value)) (file : Str) (tf : Tok) (cl : Value) (cld : Option Addr) (csl : Array (Option Value)),
    K.lookup fI = some ⟨oc, od, .func (ksFn "__init__" "TextError.__init__" iArgs iBody iScope .none kV doc pm an (.ref cda) ct cc), osl⟩ ∧
    codeIn K (.ref cda) "TextError.__init__" = true ∧ K.lookup cda = some ⟨ccl, cdd, .fields vs, ccs⟩ ∧ vs[2]? = some (.str file tf) ∧ ((prog.main.file : Str) == file) = true ∧
    K.lookup cc = some ⟨cl, cld, .cell (some (.ref C)), csl⟩
/-- what __init__ leaves of a fresh error at x -/
structure InitEnd (h h' : Heap) (x C dx t1 : Addr) (p : Int) (tp : Tok) (m : Str) (tm : Tok) : Prop where
  keep : ∀ b o, b ≠ x → h.get? b = some o → h'.get? b = some o
  obj : h'.get? x = some (excObj C t1 (some dx) .none)
  tup : ∃ tk, h'.get? t1 = some (excTup [.str (says m p) tk])
  dbig : h.objs.size ≤ dx
  dne : dx ≠ x
  tbig : h.objs.size ≤ t1
  tne : t1 ≠ x
  td : t1 ≠ dx
  ns : h'.Ns1 dx (fun y => if y = "message" then some (.str m tm) else if y = "place" then some (.int p tp) else none)
section
variable {prog : Program} {w : World} {A : Around} {R : Result → Shared → Prop} {s : Shared} {K : Frag} {mg : Str → Option Value} {base : Heap} {C fI : Addr}
theorem init (T : Txt prog K mg C fI) (Md : L2.Mod K mg base) (kb : ∀ b o, base.get? b = some o → s.heap.get? b = some o) {x t0 : Addr} {p : Int} {m : Str} {tp tm : Tok} (hx : s.heap.get? x = some (excO C t0)) (hnx : base.get? x = none)
    (hlim : s.heap.NoLimit) (hroom : A.depth < recursionLimit) (hp : p.natAbs.log2 < 1920) (hm : m.length ≤ 1000000)
    (hq : ∀ h' tk dx t1, InitEnd s.heap h' x C dx t1 p tp m tm → R (.ok (.ret .none)) { s with heap := h', toks := tk }) :
    codeAny (model prog w) A (.call (.ref fI) ⟨[.ref x, .int p tp, .str m tm], []⟩) R s := by
  obtain ⟨oc, od, kV, doc, pm, an, cda, ct, cc, osl, ccl, cdd, vs, ccs, file, tf, cl, cld, csl, ho, hcd, hcode, hvs, hfile, hcell⟩ := T.fn
  have X : K.In s.heap := Md.kin.keeps kb
  refine ks_codeAny_call_defAt (binds := [(("self" : Str), .ref x), (("place" : Str), .int p tp), (("message" : Str), .str m tm)]) hroom (X _ _ ho) rfl hlim (codeRec_of X hcd) rfl (BindsTo.of_eq (by first | rfl | with_unfolding_all rfl)) (show ∀ x ∈ iScope.names, x.2 ≠ .cell by decide) ?loc (fun h₁ hns hk => ?_) rfl rfl rfl
  case loc =>
    intro y hy
    rcases List.mem_cons.mp hy with rfl | hy
    · rfl
    rcases List.mem_cons.mp hy with rfl | hy
    · rfl
    rcases List.mem_cons.mp hy with rfl | hy
    · rfl
    cases hy
  -- super().__init__(f'{message} at {place}')
  refine ks_wpAt_execs_cons (ks_wpAt_Expr_any (ks_wpAt_MethodCall ?_))
  obtain ⟨nm, q, N, bs, bm, sn, sub, ab, col, dd, k0, k1, k2, k3, k5, hC, hbm⟩ := T.cls
  obtain ⟨mb, hbl, hbb⟩ := Md.blt
  have kb1 : ∀ b o, base.get? b = some o → h₁.get? b = some o := fun b o e => hk b o (kb b o e)
  have X₁ : K.In h₁ := X.keeps hk
  have hC₁ := X₁ _ _ hC
  have hx₁ := hk _ _ hx
  have hsuper : mg ("super" : Str) = none := mg_none_of Md.kin Md.glob T.noS
  have hboot : mb ("super" : Str) = some (.type "super") := (hbb _ (by decide)).trans (by decide +kernel)
  have hcl : clsIn K C = some { name := nm, bases := bs, mro := .ref C :: bm, ns := N, qualname := q, hasDict := true, slotNames := sn, subclasses := sub, abstract := ab, collection := col, hasDel := false } := by
    unfold clsIn
    rw [hC] <;> rfl
  refine ks_wpAt_super_base (vs := vs) rfl rfl (by decide) rfl (X₁ _ _ ho) rfl rfl rfl (X₁ _ _ hcode) rfl hvs hfile T.topS ?_
  refine ks_loadName_global rfl rfl (loadGlobal_builtin (Md.glob.keeps kb1) hsuper (hbl.keeps kb1) hboot ⟨rfl, ?_⟩)
  refine wpAny_loadName_free rfl rfl rfl ⟨_, X₁ _ _ hcell, rfl⟩ ?_
  refine wpAny_loadName_local rfl rfl hns rfl ?_
  refine ks_wpAny_isType_cls hC₁ rfl ⟨rfl, ?_⟩
  refine ks_wpAny_call_super hC₁ rfl hx₁ rfl (fun c e => by cases e) (looks_mroIn X₁ ?hmro) (fun h₂ e2 k2' => ?_)
  case hmro =>
    unfold mroIn
    rw [hcl]
    show (if (Value.ref C :: bm).isEmpty = true then none else some ((Value.ref C :: bm).contains (.ref C))) = some true
    rw [if_neg (show ¬ ((Value.ref C :: bm).isEmpty = true) from Bool.false_ne_true), List.contains_cons]
    simp
  -- from here on by the ledger, over all that stood but the error itself
  have hxL : x < s.heap.objs.size := Heap.lt_size hx
  have hg : ∀ b o, b ≠ x → s.heap.get? b = some o → (hideAll s.heap [x]).get? b = some o := fun b o hb e => hideAll_get [x] e (by simpa using hb)
  have X0 : K.In (hideAll s.heap [x]) := fun b o e => hg b o (fun z => by rw [z] at e; rw [Md.kin _ _ e] at hnx; cases hnx) (X b o e)
  have F₂ : Fr (hideAll s.heap [x]) s.heap.objs.size h₂ (fun y => [(("self" : Str), Value.ref x), (("place" : Str), Value.int p tp), (("message" : Str), Value.str m tm)].reverse.lookup y) := by
    obtain ⟨oL, es, ep, hL, r⟩ := hns
    exact ⟨⟨oL, es, ep, k2' _ _ hL, r⟩, fun b o e => k2' _ _ (hk _ _ (of_hideAll _ e)), Nat.le_of_eq (hideAll_size _ _)⟩
  have hxg : (hideAll s.heap [x]).get? x = none := hideAll_none [x] (by simp)
  have h₁L : s.heap.objs.size < h₁.objs.size := hns.lt
  have N₂ : News (hideAll s.heap [x]) s.heap.objs.size h₂ [(h₁.objs.size, ks_superObj C x C), (x, excObj C t0 none .none)] := by
    intro b hb
    rcases List.mem_cons.mp hb with rfl | hb
    · refine ⟨e2, Nat.ne_of_gt h₁L, ?_⟩
      cases z : (hideAll s.heap [x]).get? h₁.objs.size with
      | none => rfl
      | some o =>
        have z' : h₁.objs.size < s.heap.objs.size := Heap.lt_size (of_hideAll _ z)
        exact absurd (Nat.lt_trans h₁L z') (Nat.lt_irrefl _)
    · rcases List.mem_cons.mp hb with rfl | hb
      · exact ⟨k2' _ _ hx₁, Nat.ne_of_lt hxL, hxg⟩
      · cases hb
  have I₂ : W.InstAt h₂ x (excObj C t0 none .none) C none := ⟨k2' _ _ hx₁, rfl, rfl, trivial⟩
  refine kxs_method kxs_ValueError F₂ X0 N₂ List.mem_cons_self I₂ T.opq T.sup T.subV (by decide) (fun u h₃ F₃ N₃ l₃ => ?_)
  show wpAny _ _ (callWith _ (Value.ref u) [] _ []) _ _ _
  refine kxs_callWith1 N₃ List.mem_cons_self ?_
  refine spliced_cons (wpAny_JoinedStr (pos := ⟨10, 25, 10, 48⟩) ?_)
  -- the three parts
  have hm4 : (Str.empty ++ m).length ≤ 1000000 := by
    rw [Str.length_append]
    show 0 + m.length ≤ _
    omega
  have h4 : (Str.empty ++ m ++ (" at " : Str)).length ≤ 1000004 := by
    rw [Str.length_append]
    show _ + 4 ≤ _
    omega
  have hall : (says m p).length ≤ 1001925 := by
    unfold says
    rw [Str.length_append]
    have z := int_text_len_1921 hp
    omega
  refine wpAny_FormattedValue_plain (ESX.ldL (v := .str m tm) F₃.ns rfl ?_ (by first | rfl | with_unfolding_all rfl) (by first | rfl | with_unfolding_all rfl))
  have sz : ∀ {n : Nat}, n ≤ 1100000 → n ≤ sizeLine := fun h => by
    rw [sizeLine_eq]
    omega
  have neu : u ≠ x := Nat.ne_of_gt (l₃ (x, excObj C t0 none .none) (List.mem_cons_of_mem _ List.mem_cons_self))
  have nes : h₁.objs.size ≠ x := Nat.ne_of_gt (Nat.lt_trans hxL h₁L)
  have mE : ((x, excObj C t0 none .none) : Addr × Obj) ∈ [(u, kxs_mw "ValueError.__init__" x), (h₁.objs.size, ks_superObj C x C), (x, excObj C t0 none .none)] := List.mem_cons_of_mem _ (List.mem_cons_of_mem _ List.mem_cons_self)
  refine wpAny_formatField_str ?_ ?_ (sz (by omega))
  all_goals
    refine ⟨_, _, rfl, sz (by omega), ?_⟩
    refine wpAny_Constant_str ⟨_, _, rfl, sz (by omega), ?_⟩
    refine wpAny_FormattedValue_plain (ESX.ldL (v := .int p tp) F₃.ns rfl ?_ (by first | rfl | with_unfolding_all rfl) (by first | rfl | with_unfolding_all rfl))
    refine wpAny_formatField_int hp ⟨_, _, rfl, sz (Nat.le_trans hall (by decide)), ?_⟩
    refine ⟨sz (Nat.le_trans hall (by decide)), ?_⟩
    refine spliced_nil ⟨kxs_at N₃ List.mem_cons_self, ?_⟩
    refine kxs_call F₃ X0 N₃ F.excBase_ValueError T.ini List.mem_cons_self (.tail neu (.tail nes (.head fun _ h => nomatch h))) (sz (show 1 ≤ 1100000 by decide)) (fun t1 h₄ F₄ N₄ l₄ => ?_)
    -- self.place = place
    have X₄ : K.In h₄ := X0.keeps F₄.keep
    have hx₄ : h₄.get? x = some (excObj C t1 none .none) := (N₄ (x, excObj C t1 none .none) (by simp)).1
    have lx1 : x < t1 := l₄ _ mE
    have ht₄ := (N₄ (t1, _) List.mem_cons_self).1
    refine wpAt_of_wpAny (wpAny_execs_cons (plainObj_wpAny_Assign_Attribute ?_))
    refine ESX.ldL (v := .int p tp) F₄.ns rfl (ESX.ldL (v := .ref x) F₄.ns rfl ?_ (by first | rfl | with_unfolding_all rfl) (by first | rfl | with_unfolding_all rfl)) (by first | rfl | with_unfolding_all rfl) (by first | rfl | with_unfolding_all rfl)
    refine set_plain X₄ (ox := excObj C t1 none .none) (od := none) ⟨hx₄, rfl, rfl, trivial⟩ T.sa ?_
    refine exc_osa X₄ hx₄ hcl (show refsVE (.ref C :: bm) = true from hbm) rfl T.noP (fun h₅ tk₅ dx k₅ dn dne hx₅ hn₅ => ?_)
    -- self.message = message
    have X₅ : K.In h₅ := fun b o e => k₅ b o (fun z => by rw [z] at e; rw [Md.kin _ _ e] at hnx; cases hnx) (X₄ b o e)
    have ns₅ : h₅.Ns s.heap.objs.size (fun y => [(("self" : Str), Value.ref x), (("place" : Str), Value.int p tp), (("message" : Str), Value.str m tm)].reverse.lookup y) := by
      obtain ⟨oL, es, ep, hL, r⟩ := F₄.ns
      exact ⟨oL, es, ep, k₅ _ _ (Nat.ne_of_gt hxL) hL, r⟩
    obtain ⟨oD, esD, epD, hoD, rD⟩ := id hn₅
    refine wpAny_execs_cons (plainObj_wpAny_Assign_Attribute ?_)
    refine ESX.ldL (v := .str m tm) ns₅ rfl (ESX.ldL (v := .ref x) ns₅ rfl ?_ (by first | rfl | with_unfolding_all rfl) (by first | rfl | with_unfolding_all rfl)) (by first | rfl | with_unfolding_all rfl) (by first | rfl | with_unfolding_all rfl)
    refine set_plain X₅ (ox := excObj C t1 (some dx) .none) (od := some oD) ⟨hx₅, rfl, rfl, hoD⟩ T.sa ?_
    refine OEX.osa_old X₅ hx₅ hn₅ (nl := [("place" : Str)]) ?_ (by decide) hcl (show refsVE (.ref C :: bm) = true from hbm) rfl T.noM (fun h₆ tk₆ k₆ hn₆ => ?_)
    · exact Within.cons _ _ Within.nil
    · have bigT : t1 < h₄.objs.size := Heap.lt_size ht₄
      have bigL : s.heap.objs.size < h₄.objs.size := F₄.ns.lt
      have lso : h₁.objs.size < t1 := l₄ (h₁.objs.size, ks_superObj C x C) (List.mem_cons_of_mem _ List.mem_cons_self)
      have ntd : t1 ≠ dx := Nat.ne_of_lt (Nat.lt_of_lt_of_le bigT dn)
      have ntx : t1 ≠ x := Nat.ne_of_gt lx1
      refine wpAny_execs_nil (hq h₆ tk₆ dx t1 ⟨fun b o hb e => ?_, k₆ x _ dne.symm hx₅, ⟨_, k₆ t1 _ ntd (k₅ t1 _ ntx ht₄)⟩, Nat.le_of_lt (Nat.lt_of_lt_of_le bigL dn), dne, Nat.le_of_lt (Nat.lt_trans h₁L lso), ntx, ntd, hn₆⟩)
      have e4 := F₄.keep b o (hg b o hb e)
      exact k₆ b o (Nat.ne_of_lt (Nat.lt_of_lt_of_le (Heap.lt_size e4) dn)) (k₅ b o hb e4)
/-- a made TextError -/
structure Made (h h' : Heap) (e C d t1 : Addr) (p : Int) (tp : Tok) (m : Str) (tm : Tok) : Prop where
  keep : ∀ b o, h.get? b = some o → h'.get? b = some o
  new : h.objs.size ≤ e
  obj : h'.get? e = some (excObj C t1 (some d) .none)
  tup : ∃ tk, h'.get? t1 = some (excTup [.str (says m p) tk])
  dbig : h.objs.size ≤ d
  dne : d ≠ e
  tbig : h.objs.size ≤ t1
  tne : t1 ≠ e
  td : t1 ≠ d
  ns : h'.Ns1 d (fun y => if y = "message" then some (.str m tm) else if y = "place" then some (.int p tp) else none)
theorem made (T : Txt prog K mg C fI) (Md : L2.Mod K mg base) (kb : ∀ b o, base.get? b = some o → s.heap.get? b = some o) {p : Int} {m : Str} {tp tm : Tok} (hlim : s.heap.NoLimit) (hroom : A.depth + 1 < recursionLimit)
    (hp : p.natAbs.log2 < 1920) (hm : m.length ≤ 1000000) (hq : ∀ h' tk e d t1, Made s.heap h' e C d t1 p tp m tm → R (.ok (.ret (.ref e))) { s with heap := h', toks := tk }) :
    codeAny (model prog w) A (.call (.ref C) ⟨[.int p tp, .str m tm], []⟩) R s := by
  obtain ⟨nm, q, N, bs, bm, sn, sub, ab, col, dd, k0, k1, k2, k3, k5, hC, hbm⟩ := T.cls
  obtain ⟨hh, g, dr, tk, os⟩ := s
  have X : K.In hh := Md.kin.keeps kb
  have k : ∀ b o, hh.get? b = some o → ((hh.push (kdv_tup [.int p tp, .str m tm])).push (excO C hh.objs.size)).get? b = some o := fun b o e => Heap.get?_push_of_some _ (Heap.get?_push_of_some _ e)
  have hget : ((hh.push (kdv_tup [.int p tp, .str m tm])).push (excO C hh.objs.size)).get? (hh.objs.size + 1) = some (excO C hh.objs.size) := by heap_get
  have hnx : base.get? (hh.objs.size + 1) = none := by
    cases e : base.get? (hh.objs.size + 1) with
    | none => rfl
    | some o => exact absurd (Nat.lt_of_succ_lt (Heap.lt_size (kb _ _ e))) (Nat.lt_irrefl _)
  have two : ([.int p tp, .str m tm] : List Value).length ≤ sizeLine := by
    rw [sizeLine_eq]
    show 2 ≤ 16777216
    decide
  refine call_own F.excBase_ValueError (fun Y => refsVE_contains Y bm hbm) (X _ _ hC) (looks_findIn X T.iC) (fun self => bind_fn X self T.tI) two ?_
  have hs : ((hh.push (kdv_tup [.int p tp, .str m tm])).push (excO C hh.objs.size)).objs.size = hh.objs.size + 1 + 1 := by simp [Heap.size_push]
  refine init (s := ⟨(hh.push (kdv_tup [.int p tp, .str m tm])).push (excO C hh.objs.size), g, dr, tk, os⟩) T Md (fun b o e => k b o (kb b o e)) hget hnx (hlim.keeps k) ?_ hp hm fun h' tk' dx t1 Z => ?_
  · show A.depth + 1 < recursionLimit
    exact hroom
  · have zd : hh.objs.size + 1 + 1 ≤ dx := by
      rw [← hs]
      exact Z.dbig
    have zt : hh.objs.size + 1 + 1 ≤ t1 := by
      rw [← hs]
      exact Z.tbig
    exact ⟨rfl, hq h' tk' (hh.objs.size + 1) dx t1 ⟨fun b o e => Z.keep b o (Nat.ne_of_lt (Nat.lt_succ_of_lt (Heap.lt_size e))) (k b o e), Nat.le_succ _, Z.obj, Z.tup, Nat.le_of_succ_le (Nat.le_of_succ_le zd), Z.dne, Nat.le_of_succ_le (Nat.le_of_succ_le zt), Z.tne, Z.td, Z.ns⟩⟩
end
end TE
/-! TextError. Part 2: raised, let out of defs, caught; the text of the error is kept (its arguments' tuple stays tracked). -/
namespace TE
open PySem PySem.Spec PyProof.Rows L2 HandSPX
abbrev St := L2.St
/-- the error's own dict -/
def fs (m : Str) (p : Int) : List (Str × V) := [(("message" : Str), .str m), (("place" : Str), .int p)]
/-- the dict at d and the arguments at t tell one error -/
def Tells (H : Hp) (d t : Addr) : Prop := ∃ (m : Str) (p : Int), H d = some (.xd (fs m p)) ∧ H t = some (.tup [.str (says m p)])
/-- what is kept of the error's object -/
def Ze (cls : Value) (d t : Addr) (o : Obj) : Prop := o.cls = cls ∧ o.dict = some d ∧ ∀ vs, o.data = .fields vs → vs[0]? = some (.ref t)
theorem Ze.steady {cls : Value} {d t : Addr} : PXN.Steady1 (Ze cls d t) := by
  rintro ⟨c, dd, dt, sl⟩ v ⟨h1, h2, h3⟩
  cases dt with
  | fields vs0 =>
    refine ⟨h1, h2, fun vs e => ?_⟩
    cases (show Data.fields (vs0.setIfInBounds 1 v) = Data.fields vs from e)
    rw [Array.getElem?_setIfInBounds_ne (by decide)]
    exact h3 vs0 rfl
  | _ => exact ⟨h1, h2, h3⟩
/-- an error in the air of X, above the ground B; sI is the state without it -/
structure Air (X : Cx) (a : Addr) (s' : Shared) (B : Heap) (sI : Shared) (pins : List (Addr × Obj)) (σ : St) (H : Hp) (cls : Value) (d t : Addr) : Prop where
  inv : Inv X pins σ H sI
  gnd : ∀ b o, sI.heap.get? b = some o → b ∉ frs X.stack → B.get? b = some o
  up : sI.heap.UpToSlots s'.heap
  sky : Sky B X.stack a (Ze cls d t) X.env.locals s'.heap
  na : H a = none
  os : s'.os = sI.os
  bare : AllBare s'.gens
  tells : Tells H d t
def XE (X : Cx) (W : WX) (u : Value) (s' : Shared) : Prop := ∃ a B sI pins σ H cls d t, u = .ref a ∧ Air X a s' B sI pins σ H cls d t ∧ W cls (some d) σ H
def Takes (X : Cx) (W : WX) : Prop := ∀ u s', XE X W u s' → X.xe u s'
/-- an error that a call let out -/
structure Out (P : Program) (w : World) (outer : List Env) (H : Hp) (s : Shared) (a : Addr) (s' : Shared) (B : Heap) (H' : Hp) (cls : Value) (d t : Addr) : Prop where
  fl : FlyingZ B outer a (Ze cls d t) s'.heap
  hok : HOk P w H' B
  ub : UB (frs outer) H H' s.heap B s'.heap
  na : H' a = none
  os : s'.os = s.os
  bare : AllBare s'.gens
  tells : Tells H' d t
def CX (P : Program) (w : World) : CXT := fun outer H s E u s' => ∃ a B H' cls d t, u = .ref a ∧ Out P w outer H s a s' B H' cls d t ∧ E cls (some d) H'
section
variable {X : Cx} {pins : List (Addr × Obj)} {σ : St} {H : Hp} {sI s s' : Shared} {B : Heap} {W : WX} {E : XK}
/-- out of a call into our air -/
theorem XE.called (I : Inv X pins σ H s) (hW : ∀ cls d H', E cls d H' → W cls d σ H') {u : Value} (c : CX X.prog X.w X.stack H s E u s') : XE X W u s' := by
  obtain ⟨a, B, H', cls, d, t, rfl, ⟨fl, hok, ub, na, os, ag, te⟩, hE⟩ := c
  obtain ⟨G, gIn, gOut⟩ := restrict s'.heap (fun b => decide (b ∈ frs X.stack) || (B.get? b).isSome)
  have toG : ∀ {b o}, B.get? b = some o → G.get? b = some o := fun {b o} e => (gIn b (by simp [e])).trans (fl.1 b o e)
  have frG : ∀ {b}, b ∈ frs X.stack → G.get? b = s'.heap.get? b := fun {b} hb => gIn b (by simp [hb])
  have ofG : ∀ {b o}, G.get? b = some o → s'.heap.get? b = some o ∧ (b ∈ frs X.stack ∨ (B.get? b).isSome = true) := fun {b o} e => by
    by_cases q : (decide (b ∈ frs X.stack) || (B.get? b).isSome) = true
    · rw [gIn b q] at e
      exact ⟨e, by simpa using q⟩
    · rw [gOut b (by simpa using q)] at e
      cases e
  have J : Inv X pins σ H' { s with heap := G, gens := s'.gens, drawn := s'.drawn, toks := s'.toks } := by
    refine I.call (ch := []) ⟨?_, ?_, ?_, ?_, ub.tups, ub.frzs, ub.tbls⟩ (hok.kept fun b o e => toG e) ag (fun _ z => nomatch z)
    · exact fun b o e n hb _ => toG (ub.keep b o e n hb)
    · intro b o e n hb _
      obtain ⟨sl, q⟩ := ub.slot b o e hb
      exact ⟨sl, (frG hb).trans q⟩
    · exact fun b o e n _ => ub.free b o e n
    · intro b o e _
      by_cases hb : b ∈ frs X.stack
      · obtain ⟨sl, q⟩ := ub.slot b o e hb
        exact ⟨_, (frG hb).trans q⟩
      · obtain ⟨o', q⟩ := ub.there b o e hb
        exact ⟨o', toG q⟩
  refine ⟨a, B, _, pins, σ, H', cls, d, t, rfl, ⟨J, ?_, Heap.UpToSlots.of_keeps fun b o e => (ofG e).1, .inr (.inl fl), na, os, ag, te⟩, hW _ _ _ hE⟩
  intro b o e hb
  obtain ⟨e1, q | q⟩ := ofG e
  · exact absurd q hb
  · obtain ⟨o', q'⟩ := Option.isSome_iff_exists.mp q
    have e2 := fl.1 b o' q'
    rw [e1] at e2
    cases e2
    exact q'
/-- a new one in our air -/
theorem XE.fresh {a : Addr} {oe : Obj} {vs : Array Value} {cls : Value} {d t : Addr} (I : Inv X pins σ H sI) (k : ∀ b o, sI.heap.get? b = some o → s'.heap.get? b = some o) (hne : sI.heap.get? a = none) (he : s'.heap.get? a = some oe)
    (hz : Ze cls d t oe) (hd : oe.data = .fields vs) (h1 : vs[1]? = some .none) (na : H a = none) (os : s'.os = sI.os) (ag : AllBare s'.gens) (te : Tells H d t) (hw : W cls (some d) σ H) : XE X W (.ref a) s' := by
  have hide : ∀ {b o}, (PySem.W.hideAll sI.heap (frs X.stack)).get? b = some o → sI.heap.get? b = some o := fun {b o} e => PySem.W.of_hideAll _ e
  have no : (PySem.W.hideAll sI.heap (frs X.stack)).get? a = none := by
    cases q : (PySem.W.hideAll sI.heap (frs X.stack)).get? a with
    | none => rfl
    | some o =>
      rw [hide q] at hne
      cases hne
  have ff : s'.heap.FunFrames (PySem.W.hideAll sI.heap (frs X.stack)) X.stack := Heap.FunFrames.of_keeps (fun b o e _ => ⟨o, k b o e, rfl⟩) (funFrames_none I.stack fun b hb => PySem.W.hideAll_none _ hb)
  exact ⟨a, _, sI, pins, σ, H, cls, d, t, rfl, ⟨I, fun b o e hb => PySem.W.hideAll_get _ e hb, Heap.UpToSlots.of_keeps k, .inl ⟨fun b o e => k b o (hide e), no, ff, oe, vs, he, hz, hd, h1⟩, na, os, ag, te⟩, hw⟩
/-- it leaves the def -/
theorem XE.leave (hs : X.stack = X.env :: X.outer) (hf : X.env.frame = some X.env.locals) (hex : X.ex = []) {E₁ : Value → Shared → Prop} {u : Value} (x : XE X (fun cls d _ H => E cls d H) u s') :
    wpAny (model X.prog X.w) X.A (leaving X.env u) (fun _ s'' => CX X.prog X.w X.outer X.H_0 X.s_0 E u s'') E₁ s' := by
  obtain ⟨a, B, sI, pins, σ, H, cls, d, t, rfl, ⟨I, gnd, up, sky, na, os, ag, te⟩, hw⟩ := x
  have hfr : X.A.frames = some (X.env :: X.outer) := I.ok.frames.trans (congrArg some hs)
  have nex : ∀ b, b ∉ X.ex := fun b hb => by
    rw [hex] at hb
    cases hb
  have apart : ∀ {b o}, X.s_0.heap.get? b = some o → b ∉ X.fs → b ∉ frs X.stack := fun {b o} e hb hm => by
    rcases List.mem_cons.mp (I.stkSub b hm) with rfl | z
    · exact absurd (Nat.lt_of_lt_of_le (Heap.lt_size e) I.ok.above) (Nat.lt_irrefl _)
    · exact hb z
  have done : ∀ h', FlyingZ B X.outer a (Ze cls d t) h' → s'.heap.UpToSlots h' → CX X.prog X.w X.outer X.H_0 X.s_0 E (.ref a) { s' with heap := h' } := fun h' fl up' => by
    refine ⟨a, B, H, cls, d, t, rfl, ⟨fl, I.inGround gnd, ⟨?_, ?_, ?_, ?_, I.base.tups, I.base.frzs, I.base.tbls⟩, na, os.trans I.os, ag, te⟩, hw⟩
    · exact fun b o e n hb => gnd b o (I.base.keep b o e n hb (nex b)) (apart e hb)
    · intro b o e hb
      obtain ⟨_, o₀, e₀, nf⟩ := I.ok.funs.mem hb
      rw [e] at e₀
      cases e₀
      obtain ⟨sl1, e1⟩ := I.base.slot b o e (I.ok.frf b hb) hb (nex b)
      obtain ⟨sl2, e2⟩ := up b _ e1 nf
      obtain ⟨sl3, e3⟩ := up' b _ e2 nf
      exact ⟨sl3, e3⟩
    · exact fun b o e n => I.base.free b o e n (nex b)
    · intro b o e hb
      obtain ⟨o', e1⟩ := I.base.there b o e (nex b)
      exact ⟨o', gnd b o' e1 (apart e hb)⟩
  rw [hs] at sky
  rcases sky with ⟨c1, c2, c3, oe, vs, c4, c5, c6, c7⟩ | fl | hh
  · exact PXN.leaving_firstZ Ze.steady hfr c3 hf c4 c1 c2 c6 c7 c5 done
  · exact PXN.leaves_onZ Ze.steady hfr hf fl done
  · exact leaves_heldZ hf hh done
theorem takes_of (hs : X.stack = X.env :: X.outer) (hf : X.env.frame = some X.env.locals) (hex : X.ex = []) {E₁ : Value → Shared → Prop}
    (hx : X.xe = fun e s' => wpAny (model X.prog X.w) X.A (leaving X.env e) (fun _ s'' => CX X.prog X.w X.outer X.H_0 X.s_0 E e s'') E₁ s') : Takes X (fun cls d _ H => E cls d H) := by
  intro u s' x
  rw [hx]
  exact x.leave hs hf hex
theorem passes (tk : Takes X (fun cls d _ H => E cls d H)) : Passes (CX X.prog X.w) X E := fun _ _ _ _ e s' I c => tk e s' (XE.called I (fun _ _ _ h => h) c)
theorem passesAt (tk : Takes X W) (σ : St) : PassesAt (CX X.prog X.w) X σ (WE W σ) := fun _ _ _ e s' I c => tk e s' (XE.called I (fun _ _ _ h => h) c)
end
/-! ### made, raised -/
def MkP (X : Cx) (pins : List (Addr × Obj)) (σ : St) (Q : XK) (u : Value) (s' : Shared) : Prop :=
  ∃ (a : Addr) (oe : Obj) (vs : Array Value) (sI : Shared) (H' : Hp) (cls : Value) (d t : Addr), u = .ref a ∧ Inv X pins σ H' sI ∧ (∀ b o, sI.heap.get? b = some o → s'.heap.get? b = some o) ∧ sI.heap.get? a = none ∧ s'.heap.get? a = some oe ∧
    Ze cls d t oe ∧ oe.data = .fields vs ∧ vs[1]? = some .none ∧ H' a = none ∧ s'.os = sI.os ∧ AllBare s'.gens ∧ Raises X cls ∧ Tells H' d t ∧ Q cls (some d) H'
def PMk (X : Cx) (e : Expr) (t : St → Hp → XK → Prop) : Prop :=
  ∀ (pins : List (Addr × Obj)) (s : Shared) (σ : St) (H : Hp) (Q : XK), Inv X pins σ H s → t σ H Q → wpAny (model X.prog X.w) X.A (eval e X.env) (MkP X pins σ Q) X.xe s
def tRaise (W : WX) (t : St → Hp → XK → Prop) : TS := fun _ σ H => t σ H fun cls d H' => W cls d σ H'
theorem ps_raise {X : Cx} {W : WX} {e : Expr} {t : St → Hp → XK → Prop} {pos : Pos} (hc : X.calm = true) (tk : Takes X W) (he : PMk X e t) : PS X (.Raise (some e) none pos) (tRaise W t) := by
  constructor
  intro pins s σ H D I h
  show wpAny _ _ (standAt pos >>= fun _ => raiseStmt X.env (some (eval e X.env >>= fun v => standAt pos >>= fun _ => pure v)) none) _ _ _
  refine wpAny_bind (wpAny_standAt (raise_made (I.ok.hd hc) (wpAny_bind (wpAny_mono (he pins s σ H _ I h) ?_ fun _ _ z => z))))
  rintro u s1 ⟨a, oe, vs, sI, H', cls, d, t', rfl, J, k, hne, ha, hz, hd, h1, na, os, ag, r, te, q⟩
  have R := r (model X.prog X.w) s1.heap (J.kIn.keeps k)
  exact wpAny_bind (wpAny_standAt (wpAny_pure ⟨a, oe, vs, cls, rfl, ha, hz.1, hd, h1, R.1, R.2, tk _ _ (XE.fresh J k hne ha hz hd h1 na os ag te q)⟩))
end TE
/-! TextError. Part 3: made, raised, caught as a name; its fields, its text, its class asked. -/
namespace TE
open PySem PySem.Spec PyProof.Rows L2 HandSPX
/-- two new objects are tracked at once -/
theorem laid2 {X : Cx} {pins : List (Addr × Obj)} {σ : St} {H : Hp} {hp G : Heap} {g : Array GenState} {dr : Drawn} {tk tk' : Nat} {os : OsState} {t d : Addr} {ot od : HO} (I : L2.Inv X pins σ H ⟨hp, g, dr, tk, os⟩)
    (k : ∀ b u, hp.get? b = some u → G.get? b = some u) (ht : hp.objs.size ≤ t) (hd : hp.objs.size ≤ d) (ntd : t ≠ d) (et : ObjOk X.prog X.w (upd (upd H t ot) d od) G t ot) (ed : ObjOk X.prog X.w (upd (upd H t ot) d od) G d od) :
    L2.Inv X pins σ (upd (upd H t ot) d od) ⟨G, g, dr, tk', os⟩ := by
  have nt := I.hok.fresh ht
  have nd := I.hok.fresh hd
  have old : ∀ {b u}, H b = some u → upd (upd H t ot) d od b = some u := fun {b u} e => by
    rw [upd_ne (ne_of_none e nd), upd_ne (ne_of_none e nt)]
    exact e
  have free : ∀ {b u}, hp.get? b = some u → H b = none → upd (upd H t ot) d od b = none := fun {b u} e n => by
    have z := Heap.lt_size e
    rw [upd_ne (Nat.ne_of_lt (Nat.lt_of_lt_of_le z hd)), upd_ne (Nat.ne_of_lt (Nat.lt_of_lt_of_le z ht))]
    exact n
  refine I.call' (ch := []) rfl ⟨fun b u e _ _ _ => k b u e, fun b u e _ _ _ => ⟨u.slots, k b u e⟩, fun b u e n _ => free e n, fun b u e _ => ⟨u, k b u e⟩, fun b xs e => old e, fun b u xs e => old e, fun b ps e => ⟨#[], by simpa using old e⟩⟩ ?_ I.bare (fun b z => absurd z (by simp))
  intro b o e
  by_cases h1 : b = d
  · subst h1
    rw [upd_same] at e
    cases e
    exact ed
  · rw [upd_ne h1] at e
    by_cases h2 : b = t
    · subst h2
      rw [upd_same] at e
      cases e
      exact et
    · rw [upd_ne h2] at e
      exact (I.hok b o e).stay (fun c u _ q => k c u q) (fun c q => old q) fun c xs q => old q
theorem rel_fs {m : Str} {p : Int} {tm tp : Tok} (f : Str) : RelO ((fs m p).lookup f) (if f = "message" then some (Value.str m tm) else if f = "place" then some (Value.int p tp) else none) := by
  unfold fs
  rw [lookup_put, lookup_put]
  by_cases h1 : f = "message"
  · rw [if_pos h1, if_pos h1]
    exact ⟨tm, rfl⟩
  · rw [if_neg h1, if_neg h1]
    by_cases h2 : f = "place"
    · rw [if_pos h2, if_pos h2]
      exact ⟨tp, rfl⟩
    · rw [if_neg h2, if_neg h2]
      trivial
section
variable {X : Cx} {C fI : Addr}
/-- TextError(place, message) -/
def tMk (C : Addr) (ta : TA) : St → Hp → XK → Prop := fun σ H Q => ta σ H fun vs H1 => ∃ (p : Int) (m : Str), vs = [.int p, .str m] ∧ p.natAbs.log2 < 1920 ∧ m.length ≤ 1000000 ∧
  ∀ d t, H1 d = none → H1 t = none → t ≠ d → Q (.ref C) (some d) (upd (upd H1 t (.tup [.str (says m p)])) d (.xd (fs m p)))
theorem pmk {a b : Expr} {ta : TA} {p0 pos : Pos} {k : Nat} (T : Txt X.prog X.K X.mg C fI) (hr : Room k X.A) (ha : PA X [a, b] ta) (hg : Gl X "TextError" := by rfl)
    (he : starEach (a :: [b]) X.env = (false, eval a X.env) :: starEach [b] X.env := by rfl) (hpl : (backTo pos (starEach [b] X.env)).any (·.1) = false := by rfl) :
    PMk X (.Call (.Name "TextError" p0) [a, b] [] pos) (tMk C ta) := by
  intro pins s σ H Q I h
  refine wpAny_Call_Name_kw (ld_glob I hg T.gC ?_)
  refine PySem.W.callWith_K (h₀ := X.base) I.ok.mod.kin T.kC (thn (ha.run pos pins s σ H _ I h) ?_) he hpl
  rintro us s1 ⟨vs, H1, I1, r1, p, m, rfl, hp, hm, q⟩
  refine ⟨I1.kIn, ?_⟩
  cases r1 with
  | cons rp r1 =>
    cases r1 with
    | cons rm r1 =>
      cases r1
      obtain ⟨tp, rfl⟩ := rp
      obtain ⟨tm, rfl⟩ := rm
      have hlim := I1.nolimit
      have kb := I1.bs
      obtain ⟨hh, g, dr, tk, os⟩ := s1
      refine wpAny_call (made T I1.ok.mod (fun b o e => (kb b o e).1) hlim (by have := hr.dp; omega) hp hm fun h' tk' e d t M => ?_)
      show MkP X pins σ Q (.ref e) ⟨h', g, dr, tk', os⟩
      obtain ⟨G, gIn, gOut⟩ := restrict h' fun b => decide (b ≠ e)
      have gk : ∀ {b}, b ≠ e → G.get? b = h'.get? b := fun {b} hb => gIn b (decide_eq_true hb)
      have ge : G.get? e = none := gOut e (by simp)
      obtain ⟨tk1, ht⟩ := M.tup
      have hz : (1 : Nat) ≤ sizeLine := by
        rw [sizeLine_eq]
        decide
      have J := laid2 (tk' := tk') (t := t) (d := d) (ot := .tup [.str (says m p)]) (od := .xd (fs m p)) I1 (fun b o z => (gk (Nat.ne_of_lt (Nat.lt_of_lt_of_le (Heap.lt_size z) M.new))).trans (M.keep b o z)) M.tbig M.dbig M.td
        ⟨hz, [.str (says m p) tk1], .cons ⟨tk1, rfl⟩ .nil, _, (gk M.tne).trans ht, rfl, 0, rfl⟩ ⟨_, M.ns.at (fun o z => (gk M.dne).trans z), rel_fs⟩
      have ne := I1.hok.fresh M.new
      refine ⟨e, _, _, ⟨G, g, dr, tk', os⟩, _, .ref C, d, t, rfl, J, fun b o z => ?_, ge, M.obj, ⟨rfl, rfl, fun vs z => by cases z; rfl⟩, rfl, rfl, ?_, rfl, I1.bare, raises_own T.exC T.tyC, ⟨m, p, upd_same, ?_⟩, q d t (I1.hok.fresh M.dbig) (I1.hok.fresh M.tbig) M.td⟩
      · by_cases hb : b = e
        · subst hb
          rw [show (⟨G, g, dr, tk', os⟩ : Shared).heap.get? b = none from ge] at z
          cases z
        · exact (gk hb).symm.trans z
      · rw [upd_ne (Ne.symm M.dne), upd_ne (Ne.symm M.tne)]
        exact ne
      · rw [upd_ne M.td, upd_same]
/-- raise TextError(place, message) -/
theorem ps_raiseTE {a b : Expr} {ta : TA} {W : WX} {p0 pos pos2 : Pos} {k : Nat} (hc : X.calm = true) (T : Txt X.prog X.K X.mg C fI) (hr : Room k X.A) (tk : Takes X W) (ha : PA X [a, b] ta) (hg : Gl X "TextError" := by rfl)
    (he : starEach (a :: [b]) X.env = (false, eval a X.env) :: starEach [b] X.env := by rfl) (hpl : (backTo pos (starEach [b] X.env)).any (·.1) = false := by rfl) :
    PS X (.Raise (some (.Call (.Name "TextError" p0) [a, b] [] pos)) none pos2) (tRaise W (tMk C ta)) := ps_raise hc tk (pmk T hr ha hg he hpl)
end
end TE
/-! TextError. Part 4: try .. except TextError as n, and what the suite asks of n. -/
namespace TE
open PySem PySem.Spec PyProof.Rows L2 HandSPX
/-- the suite's ends: its name goes behind each of them -/
def suiteEnds (i : Nat) (D : Ends) : Ends := { nx := fun σ H => D.nx (σ.set i none) H, rt := D.rt, bk := fun σ H => D.bk (σ.set i none) H, ct := fun σ H => D.ct (σ.set i none) H }
/-- what the clause wishes of an error of the body -/
def wAs (K : PySem.W.Frag) (c : Value) (i : Nat) (ts : Addr → Value → Addr → Addr → TS) (D : Ends) : WX := fun cls d σ H =>
  PySem.W.exmOne K cls c = some true ∧ ∀ a dd t, d = some dd → H a = none → Tells H dd t → ts a cls dd t (suiteEnds i D) (σ.set i (some (.ref a))) H
section
variable {X : Cx} {x n : Str} {c : Value} {i : Nat} {body suite : List Stmt} {b₀ : Stmt} {np pos pos' : Pos} {tb : WX → TS} {ts : Addr → Value → Addr → Addr → TS}
theorem ps_try_as (hs : X.stack = X.env :: X.outer) (hf : X.env.frame = some X.env.locals) (hN : X.N.Nodup) (hi : X.N[i]? = some n) (hln : X.env.kindOf n = some .local) (hc : Names X x c)
    (hb : ∀ (W : WX) (pn : List (Addr × Obj)) (xe : Value → Shared → Prop), Takes (X.tr pn xe) W → PassesOwn (model X.prog X.w) X.A X.env xe → PSs (X.tr pn xe) body (tb W))
    (hsu : ∀ (a : Addr) (oe : Obj) (cls : Value) (d t : Addr) (pn : List (Addr × Obj)), Ze cls d t oe → (∃ vs, oe.data = .fields vs) → PSs (X.suite a ((a, oe) :: pn)) (b₀ :: suite) (ts a cls d t)) :
    PS X (.Try body [.ExceptHandler (some (.Name x np)) (some n) (b₀ :: suite) pos'] [] [] pos) (fun D σ H => tb (wAs X.K c i ts D) D σ H) := by
  constructor
  intro pins s σ H D I h
  have ok := I.ok
  have hfr : X.A.frames = some (X.env :: X.outer) := ok.frames.trans (congrArg some hs)
  refine wpAny_Try_except ?_
  have caught : Takes (X.tr (X.pn ++ pins) fun e s₁ => wpAny (model X.prog X.w) X.A (noteFrame e X.env) (fun _ s₂ => wpAny (model X.prog X.w) X.A (setFlight e none)
      (fun _ s₃ => wpAny (model X.prog X.w) X.A (handleBy e X.env [.ExceptHandler (some (.Name x np)) (some n) (b₀ :: suite) pos']) (SP X pins D) X.xe s₃) X.xe s₂) X.xe s₁) (wAs X.K c i ts D) := by
    rintro u s' ⟨a, B, sI, pins', σ', H', cls, d, t, rfl, Z, hm, hyes⟩
    have J : L2.Inv X pins σ' H' sI := Z.inv.ofTry ok
    have sky : Sky B (X.env :: X.outer) a (Ze cls d t) X.env.locals s'.heap := by
      rw [← hs]
      exact Z.sky
    show wpAny (model X.prog X.w) X.A (noteFrame (.ref a) X.env) _ _ _
    refine L2N.Sky.land Ze.steady hfr hf sky fun h3 fl3 up3 => ?_
    have J3 : L2.Inv X pins σ' H' { s' with heap := h3 } := J.landed Z.gnd fl3.1 (Z.up.trans up3) Z.os Z.bare
    obtain ⟨oe3, vs3, e3, z3, d3⟩ := fl3.there
    have apart : a ∉ frs (X.env :: X.outer) := fun hm => by
      obtain ⟨_, o, e, nf⟩ := fl3.2.2.1.mem hm
      rw [e3] at e
      cases e
      exact nf _ d3
    have nL : a ≠ X.env.locals := fun z => apart (List.mem_filterMap.mpr ⟨X.env, List.mem_cons_self, hf.trans (congrArg some z.symm)⟩)
    have nF : a ∉ X.fs := fun hm => by
      obtain ⟨v, hv, q⟩ := List.mem_filterMap.mp hm
      exact apart (List.mem_filterMap.mpr ⟨v, List.mem_cons_of_mem _ hv, q⟩)
    have S3 := J3.suite e3 d3 Z.na nL nF
    have asked : ∀ {Q : Value → Shared → Prop} {E : Value → Shared → Prop}, Q c { s' with heap := h3 } → wpAny (model X.prog X.w) (X.A.mark (some (.ref a))) (eval (.Name x np) X.env) Q E { s' with heap := h3 } := fun {Q E} q => by
      obtain ⟨hg, hdb, hm | ⟨hm, hv, hn⟩⟩ := hc
      · exact ld_glob S3 hg hm q hdb
      · exact ld_blt S3 hg hm hv q hn hdb
    have LT : PySem.W.Looks (model X.prog X.w) h3 (typeOf (.ref a)) cls := fun A Q E s k q => wpAny_typeOf_ref (k _ _ e3) (by rw [z3.1]; exact q)
    refine wpAny_handleBy_cons (codeAny_handlers_test (asked ((PySem.W.exm_one (M := model X.prog X.w) J3.kIn LT hm).here ?_))) (by intro q; cases q)
    refine codeAny_handlers_suite_as (lands_againZ fl3 fun h4 fl4 up4 => ?_)
    have J4 : L2.Inv X pins σ' H' { s' with heap := h4 } := J.landed Z.gnd fl4.1 ((Z.up.trans up3).trans up4) Z.os Z.bare
    obtain ⟨oe4, vs4, e4, z4, d4⟩ := fl4.there
    refine store_ok (X := X.suite a ((a, oe4) :: (X.pn ++ pins))) (v := .ref a) (J4.suite e4 d4 Z.na nL nF) hN hi (.inl hln) rfl (fun s5 S5 => ?_) (.inr hln)
    refine wpAny_mono ((hsu a oe4 cls d t (X.pn ++ pins) z4 ⟨_, d4⟩).run [] s5 _ H' _ S5 (hyes a d t rfl Z.na Z.tells)) ?_ (fun _ _ z => False.elim z)
    intro f s6 hsp
    cases f with
    | next =>
      obtain ⟨σ6, H6, S6, q6⟩ := hsp
      exact gone_ok (S6.unsuite ok) hN hi hln fun s7 J7 => ⟨_, _, J7, q6⟩
    | brk =>
      obtain ⟨σ6, H6, S6, q6⟩ := hsp
      exact gone_ok (S6.unsuite ok) hN hi hln fun s7 J7 => ⟨_, _, J7, q6⟩
    | cont =>
      obtain ⟨σ6, H6, S6, q6⟩ := hsp
      exact gone_ok (S6.unsuite ok) hN hi hln fun s7 J7 => ⟨_, _, J7, q6⟩
    | ret u =>
      obtain ⟨v6, σ6, H6, S6, r6, q6⟩ := hsp
      exact gone_ok (S6.unsuite ok) hN hi hln fun s7 J7 => ⟨_, _, _, J7, r6, q6⟩
  refine wpAny_mono ((hb (wAs X.K c i ts D) (X.pn ++ pins) _ caught PassesOwn.looking).run [] s σ H D (I.toTry _) h) ?_ (fun e s1 he => he)
  intro f s1 hsp
  cases f with
  | next =>
    obtain ⟨σ', H', J', q⟩ := hsp
    exact wpAny_execs_nil ⟨σ', H', J'.ofTry ok, q⟩
  | brk =>
    obtain ⟨σ', H', J', q⟩ := hsp
    exact ⟨σ', H', J'.ofTry ok, q⟩
  | cont =>
    obtain ⟨σ', H', J', q⟩ := hsp
    exact ⟨σ', H', J'.ofTry ok, q⟩
  | ret u =>
    obtain ⟨v, σ', H', J', r, q⟩ := hsp
    exact ⟨v, σ', H', J'.ofTry ok, r, q⟩
end
/-- what is asked of the caught error beside Txt -/
structure Ask (K : PySem.W.Frag) (C : Addr) : Prop where
  ga : PySem.W.findIn K (.ref C) "__getattribute__" = some (some (.builtin "BaseException.__getattribute__"))
  gg : PySem.W.findIn K (.ref C) "__getattr__" = some none
  hd : PySem.W.hasDictIn K C = true
  cl : PySem.W.findIn K (.ref C) "__class__" = some (some (.builtin "object.__class__"))
  gs : PySem.W.specialIn K (.builtin "object.__class__") "__get__" = some (some (.builtin "getset_descriptor.__get__"))
  tk : PySem.W.takesIn K (.builtin "object.__class__") = some true
  mo : PySem.W.mroIn K C (.type "object") = some true
  st : PySem.W.findIn K (.ref C) "__str__" = some (some (.builtin "BaseException.__str__"))
section
variable {X : Cx} {C fI a d t : Addr} {oe : Obj} {cls : Value} {pn : List (Addr × Obj)}
/-- the error's own dict, read in the suite -/
theorem inst {pins : List (Addr × Obj)} {σ : St} {H : Hp} {s : Shared} {f : Str} {l : List (Str × V)} {v : V} (I : L2.Inv (X.suite a ((a, oe) :: pn)) pins σ H s) (hz : Ze (.ref C) d t oe) (hf : ∃ vs, oe.data = .fields vs) (hd : H d = some (.xd l)) (hl : l.lookup f = some v) :
    ∃ od u, PySem.W.InstAt s.heap a oe C (some od) ∧ PySem.W.lookIn f od = some (some u) ∧ RelV v u := by
  obtain ⟨ha, _⟩ := I.pin (a, oe) (List.mem_append_left _ List.mem_cons_self)
  obtain ⟨vs, hv⟩ := hf
  have hx : ObjOk X.prog X.w H s.heap d (.xd l) := I.hok d _ hd
  obtain ⟨mA, hns, hr⟩ := hx
  obtain ⟨od, ho, hlk⟩ := lookIn_ns hns
  have r := hr f
  rw [hl] at r
  cases em : mA f with
  | none =>
    rw [em] at r
    exact r.elim
  | some u =>
    rw [em] at r
    refine ⟨od, u, ⟨ha, hz.1, by unfold PySem.W.notCls; rw [hv] <;> rfl, by rw [hz.2.1]; exact ho⟩, ?_, r⟩
    rw [hlk, em]
/-- n.f, n the error that the suite holds -/
def tByF (C a : Addr) (cls : Value) (d : Addr) (f : Str) (te : TE) : TE := fun σ H Q => te σ H fun x H1 => x = .ref a ∧ cls = .ref C ∧ ∃ l v, H1 d = some (.xd l) ∧ l.lookup f = some v ∧ Q v H1
theorem pe_byF {e : Expr} {te : TE} {pos : Pos} {f : Str} (T : Txt X.prog X.K X.mg C fI) (G : Ask X.K C) (hno : PySem.W.findIn X.K (.ref C) f = some none) (hz : Ze cls d t oe) (hf : ∃ vs, oe.data = .fields vs) (he : PE (X.suite a ((a, oe) :: pn)) e te)
    (hb : attributeBase e f X.env (eval e X.env) = eval e X.env := by rfl) : PE (X.suite a ((a, oe) :: pn)) (.Attribute e f pos) (tByF C a cls d f te) := by
  constructor
  intro pins s σ H Q I h
  refine attr_of hb (thn (he.run pins s σ H _ I h) ?_)
  rintro u s1 ⟨x, H1, I1, rx, rfl, rfl, l, v, hd, hl, q⟩
  obtain rfl : u = Value.ref a := rx
  obtain ⟨od, w, J, hlk, rw'⟩ := inst (C := C) I1 hz hf hd hl
  exact exc_get I1.kIn J G.ga G.gg T.exC (PySem.W.findObj_own G.hd hno rfl hlk) (handed_of rw') ⟨v, H1, I1.tok _, rw', q⟩
/-- str(n) -/
def rStr (C a : Addr) (cls : Value) (t : Addr) : List V → Hp → VK → Prop := fun xs H Q => xs = [.ref a] ∧ cls = .ref C ∧ ∃ y, H t = some (.tup [.str y]) ∧ Q (.str y) H
theorem call_str (T : Txt X.prog X.K X.mg C fI) (G : Ask X.K C) (hr : X.A.units + 2 < cLine) (hz : Ze cls d t oe) (hf : ∃ vs, oe.data = .fields vs) : CallR (X.suite a ((a, oe) :: pn)) (.type "str") (rStr C a cls t) := by
  intro pins s σ H xs us Q I r h
  obtain ⟨rfl, rfl, y, hy, q⟩ := h
  obtain ⟨u, rfl, ru⟩ := vals1 r
  obtain rfl : u = Value.ref a := ru
  obtain ⟨ha, _⟩ := I.pin (a, oe) (List.mem_append_left _ List.mem_cons_self)
  obtain ⟨vs, hv⟩ := hf
  have ht : ObjOk X.prog X.w H s.heap t (.tup [.str y]) := I.hok t _ hy
  obtain ⟨_, its, ri, o, ho, hc, n, hdt⟩ := ht
  cases ri with
  | cons ry ri =>
    cases ri
    obtain ⟨tk, rfl⟩ := ry
    refine PySem.P.str_of_C_one (prog := X.prog) (w := X.w) (A := X.A.mark (some (.ref a))) (K := X.K) (C := C) (e := a) (t0 := t) (s := s) (m := y) (tk := tk) (show (X.A.mark (some (.ref a))).units + 2 < cLine from hr) (show PySem.ExcC X.K C a t s.heap from ⟨I.kIn, oe, vs, ha, hz.1, hv, hz.2.2 vs hv⟩) (show s.heap.TupAt t [.str y tk] from ⟨o, n, ho, hc, hdt⟩) G.st T.exC ?_
    exact ⟨.str y, H, I, ⟨_, rfl⟩, q⟩
/-- isinstance(n, c), c an own class -/
def rIsi (K : PySem.W.Frag) (C a : Addr) (cls : Value) : List V → Hp → VK → Prop := fun xs H Q => ∃ (D : Addr) (b : Bool), xs = [.ref a, .ref D] ∧ cls = .ref C ∧ PySem.W.kitOne K (.ref C) (.ref D) = some b ∧ Q (.bl b) H
theorem call_isi (T : Txt X.prog X.K X.mg C fI) (G : Ask X.K C) (hz : Ze cls d t oe) (hf : ∃ vs, oe.data = .fields vs) :
    CallR (X.suite a ((a, oe) :: pn)) (.builtin "isinstance") (fun xs H Q => (∃ l, H d = some (.xd l)) ∧ rIsi X.K C a cls xs H Q) := by
  intro pins s σ H xs us Q I r h
  obtain ⟨⟨l, hd⟩, D, b, rfl, rfl, e, q⟩ := h
  cases r with
  | cons rx r =>
    cases r with
    | cons ry r =>
      cases r
      cases rx
      cases ry
      obtain ⟨ha, _⟩ := I.pin (a, oe) (List.mem_append_left _ List.mem_cons_self)
      obtain ⟨vs, hv⟩ := hf
      have hx : ObjOk X.prog X.w H s.heap d (.xd l) := I.hok d _ hd
      obtain ⟨mA, ⟨od, es, ep, ho, _⟩, _⟩ := hx
      have J : PySem.W.InstAt s.heap a oe C (some od) := ⟨ha, hz.1, by unfold PySem.W.notCls; rw [hv] <;> rfl, by rw [hz.2.1]; exact ho⟩
      have hcl : (PySem.W.clsIn X.K C).isSome = true := by
        obtain ⟨cd, hc, _⟩ := PySem.W.any_some G.hd
        rw [hc]
        rfl
      exact PySem.W.kia_one (PySem.W.kitx_exc hcl G.ga G.gg T.exC G.cl G.gs G.tk G.mo) I.kIn J e (fun z => nomatch z) fun tk => ⟨.bl b, H, I.kept (t' := tk) fun _ _ z => z, rfl, q⟩
end
end TE
/-! Texts of beginnings: their tokens, their reading, and the law's own look at the same tokens. Plain Lean. -/
namespace SS
abbrev Tx := List Nat
/-- a letter from a to z -/
def isLow (c : Nat) : Bool := decide (97 ≤ c ∧ c ≤ 122)
/-- the tokens of a text from place i on, or the place of the first character that belongs to none -/
inductive Lex (sg : List Nat) : Tx → Nat → List (Tx × Nat) → Option Nat → Prop
  | done {i : Nat} : Lex sg [] i [([], i)] none
  | word {w s : Tx} {i : Nat} {l : List (Tx × Nat)} {e : Option Nat} (h0 : w ≠ []) (h1 : ∀ c ∈ w, isLow c = true) (h2 : ∀ c, s.head? = some c → isLow c = false) (r : Lex sg s (i + w.length) l e) : Lex sg (w ++ s) i ((w, i) :: l) e
  | sign {c : Nat} {s : Tx} {i : Nat} {l : List (Tx × Nat)} {e : Option Nat} (h1 : isLow c = false) (h2 : c ∈ sg) (r : Lex sg s (i + 1) l e) : Lex sg (c :: s) i (([c], i) :: l) e
  | space {c : Nat} {s : Tx} {i : Nat} {l : List (Tx × Nat)} {e : Option Nat} (h1 : isLow c = false) (h2 : c ∉ sg) (h3 : c = 32 ∨ c = 10) (r : Lex sg s (i + 1) l e) : Lex sg (c :: s) i l e
  | bad {c : Nat} {s : Tx} {i : Nat} (h1 : isLow c = false) (h2 : c ∉ sg) (h3 : ¬ (c = 32 ∨ c = 10)) : Lex sg (c :: s) i [] (some i)
/-- a word that may stand as a name -/
def okName (t : Tx) : Bool := !t.isEmpty && t.all isLow && decide (t.length ≤ 8)
/-- reading a beginning: the events, or the place of the error and whether it is that of the end -/
def rd : List (Tx × Nat) → Nat → Bool → List Tx × Option (Nat × Bool)
  | [], _, _ => ([], none)
  | (t, p) :: r, d, b =>
    if t = [] then ([], none)
    else if b = true ∧ d = 0 then ([], some (p, false))
    else if t = [41] ∧ 0 < d then ([41] :: (rd r (d - 1) true).1, (rd r (d - 1) true).2)
    else if okName t = true then
      match r with
      | [] => ([], none)
      | (t2, p2) :: r2 => if t2 = [40] then (t :: (rd r2 (d + 1) true).1, (rd r2 (d + 1) true).2) else ([], some (p2, decide (t2 = [])))
    else ([], some (p, false))
theorem rd_eq (t : Tx) (p : Nat) (r : List (Tx × Nat)) (d : Nat) (b : Bool) : rd ((t, p) :: r) d b =
    if t = [] then ([], none)
    else if b = true ∧ d = 0 then ([], some (p, false))
    else if t = [41] ∧ 0 < d then ([41] :: (rd r (d - 1) true).1, (rd r (d - 1) true).2)
    else if okName t = true then
      match r with
      | [] => ([], none)
      | (t2, p2) :: r2 => if t2 = [40] then (t :: (rd r2 (d + 1) true).1, (rd r2 (d + 1) true).2) else ([], some (p2, decide (t2 = [])))
    else ([], some (p, false)) := by
  cases r with
  | nil => first | rfl | (conv => lhs; unfold rd)
  | cons q r2 =>
    obtain ⟨t2, p2⟩ := q
    rw [rd]
/-- the law's own look: the index of the first token that is wrong -/
def fw : List Tx → Nat → Bool → Bool → Option Nat
  | [], _, _, _ => none
  | t :: r, v, op, nm =>
    if nm = true then (if t ≠ [40] then some 0 else (fw r (v + 1) true false).map (· + 1))
    else if t = [41] then (if v = 0 then some 0 else (fw r (v - 1) op false).map (· + 1))
    else if t = [40] ∨ (op = true ∧ v = 0) ∨ 8 < t.length then some 0
    else (fw r v op true).map (· + 1)
/-- the tokens that the law draws, the wrong signs left out -/
def Fine (t : Tx) : Prop := t = [40] ∨ t = [41] ∨ (t ≠ [] ∧ t.all isLow = true)
theorem fine_ne {t : Tx} (h : Fine t) : t ≠ [] := by
  rcases h with h | h | h
  · rw [h]; exact List.cons_ne_nil _ _
  · rw [h]; exact List.cons_ne_nil _ _
  · exact h.1
def lastName (ts : List Tx) : Bool :=
  match ts.getLast? with
  | some t => decide (t ≠ [40]) && decide (t ≠ [41])
  | none => false
def toks (ts : List Tx) (ps : List Nat) (n : Nat) : List (Tx × Nat) := ts.zip ps ++ [([], n)]
theorem low_not {t : Tx} (h : t ≠ [] ∧ t.all isLow = true) : t ≠ [40] ∧ t ≠ [41] := by
  constructor
  · intro e
    rw [e] at h
    exact absurd h.2 (by decide)
  · intro e
    rw [e] at h
    exact absurd h.2 (by decide)
theorem last_cons {t t2 : Tx} {r : List Tx} : lastName (t :: t2 :: r) = lastName (t2 :: r) := by
  unfold lastName
  rw [List.getLast?_cons_cons]
theorem last_paren {t : Tx} {r : List Tx} (h : t = [40] ∨ t = [41]) : lastName (t :: r) = lastName r := by
  cases r with
  | nil => rcases h with h | h <;> subst h <;> rfl
  | cons t2 r => exact last_cons
theorem ok_of {t : Tx} (h : t ≠ [] ∧ t.all isLow = true) (h8 : ¬ 8 < t.length) : okName t = true := by
  have e : t.isEmpty = false := by
    cases t with
    | nil => exact absurd rfl h.1
    | cons a b => rfl
  simp [okName, e, h.2]
  omega
theorem ok_not {t : Tx} (h8 : 8 < t.length) : okName t = false := by
  have z : decide (t.length ≤ 8) = false := decide_eq_false (by omega)
  simp [okName, z]
/-- what reading gives, by the law's own look -/
def Agree (ts : List Tx) (ps : List Nat) (n v : Nat) (op : Bool) : Prop :=
  match fw ts v op false with
  | some k => (rd (toks ts ps n) v op).2 = some (ps.getD k 0, false)
  | none => if lastName ts = true then (rd (toks ts ps n) v op).2 = some (n, true) else rd (toks ts ps n) v op = (ts.filter (fun t => decide (t ≠ [40])), none)
theorem agree_map {o : Option Nat} {A : Nat → Prop} {B : Prop} (h : match o with | some k => A (k + 1) | none => B) : match o.map (· + 1) with | some k => A k | none => B := by
  cases o with
  | none => exact h
  | some k => exact h
theorem agree (n : Nat) : ∀ (m : Nat) (ts : List Tx) (ps : List Nat) (v : Nat) (op : Bool), ts.length ≤ m → ts.length = ps.length → (∀ t ∈ ts, Fine t) → (0 < v → op = true) → Agree ts ps n v op := by
  intro m
  induction m with
  | zero =>
    intro ts ps v op hm hl hf hv
    have e : ts = [] := List.length_eq_zero_iff.mp (by omega)
    subst e
    rfl
  | succ m ih =>
    intro ts ps v op hm hl hf hv
    cases ts with
    | nil => rfl
    | cons t r =>
      cases ps with
      | nil => simp at hl
      | cons p ps =>
        have hr : r.length ≤ m := by simp at hm; omega
        have hl' : r.length = ps.length := by simpa using hl
        have hfr : ∀ x ∈ r, Fine x := fun x hx => hf x (List.mem_cons_of_mem _ hx)
        have ht := hf t List.mem_cons_self
        have htn := fine_ne ht
        have et : toks (t :: r) (p :: ps) n = (t, p) :: toks r ps n := rfl
        by_cases hb : op = true ∧ v = 0
        · -- behind the end
          have e1 : fw (t :: r) v op false = some 0 := by
            by_cases h41 : t = [41]
            · simp [fw, h41, hb.2]
            · simp [fw, h41, hb]
          unfold Agree
          rw [e1, et]
          simp only [rd_eq, if_neg htn, if_pos hb]
          rfl
        · by_cases h41 : t = [41]
          · by_cases hv0 : v = 0
            · have e1 : fw (t :: r) v op false = some 0 := by simp [fw, h41, hv0]
              have no : ¬ (t = [41] ∧ 0 < v) := fun z => by omega
              have nk : ¬ okName t = true := by rw [h41]; decide
              unfold Agree
              rw [e1, et]
              simp only [rd_eq, if_neg htn, if_neg hb, if_neg no, if_neg nk]
              rfl
            · have hop := hv (by omega)
              have yes : t = [41] ∧ 0 < v := ⟨h41, by omega⟩
              have e1 : fw (t :: r) v op false = (fw r (v - 1) true false).map (· + 1) := by
                simp [fw, h41, hv0, hop]
              have A := ih r ps (v - 1) true hr hl' hfr (fun _ => rfl)
              have e2 : rd (toks (t :: r) (p :: ps) n) v op = ([41] :: (rd (toks r ps n) (v - 1) true).1, (rd (toks r ps n) (v - 1) true).2) := by
                rw [et]
                simp only [rd_eq, if_neg htn, if_neg hb, if_pos yes]
              unfold Agree
              rw [e1, e2, last_paren (.inr h41)]
              refine agree_map (A := fun k => (rd (toks r ps n) (v - 1) true).2 = some ((p :: ps).getD k 0, false)) ?_
              unfold Agree at A
              cases q : fw r (v - 1) true false with
              | some k =>
                rw [q] at A
                exact A
              | none =>
                rw [q] at A
                dsimp only at A ⊢
                by_cases hn : lastName r = true
                · rw [if_pos hn] at A ⊢
                  exact A
                · rw [if_neg hn] at A ⊢
                  rw [A, List.filter_cons, h41]
                  rfl
          · by_cases h40 : t = [40]
            · have e1 : fw (t :: r) v op false = some 0 := by simp [fw, h40]
              have no : ¬ (t = [41] ∧ 0 < v) := fun z => h41 z.1
              have nk : ¬ okName t = true := by rw [h40]; decide
              unfold Agree
              rw [e1, et]
              simp only [rd_eq, if_neg htn, if_neg hb, if_neg no, if_neg nk]
              rfl
            · have hw : t ≠ [] ∧ t.all isLow = true := by
                rcases ht with z | z | z
                · exact absurd z h40
                · exact absurd z h41
                · exact z
              have no : ¬ (t = [41] ∧ 0 < v) := fun z => h41 z.1
              by_cases h8 : 8 < t.length
              · have e1 : fw (t :: r) v op false = some 0 := by simp [fw, h41, h8]
                have nk : ¬ okName t = true := by rw [ok_not h8]; decide
                unfold Agree
                rw [e1, et]
                simp only [rd_eq, if_neg htn, if_neg hb, if_neg no, if_neg nk]
                rfl
              · have hk := ok_of hw h8
                have e1 : fw (t :: r) v op false = (fw r v op true).map (· + 1) := by
                  simp only [fw, if_neg h41]
                  have z : ¬ (t = [40] ∨ (op = true ∧ v = 0) ∨ 8 < t.length) := fun z => by
                    rcases z with z | z | z
                    · exact h40 z
                    · exact hb z
                    · exact h8 z
                  simp only [if_neg z]
                  rfl
                cases r with
                | nil =>
                  cases ps with
                  | cons _ _ => simp at hl'
                  | nil =>
                    have hn : lastName [t] = true := by simp [lastName, h40, h41]
                    unfold Agree
                    rw [e1, et]
                    simp only [fw, Option.map_none, if_pos hn]
                    show (rd [(t, p), ([], n)] v op).2 = _
                    simp only [rd_eq, if_neg htn, if_neg hb, if_neg no, if_pos hk]
                    rfl
                | cons t2 r2 =>
                  cases ps with
                  | nil => simp at hl'
                  | cons p2 ps2 =>
                    have ht2 := fine_ne (hfr t2 List.mem_cons_self)
                    have et2 : toks (t2 :: r2) (p2 :: ps2) n = (t2, p2) :: toks r2 ps2 n := rfl
                    by_cases h2 : t2 = [40]
                    · have e3 : fw (t2 :: r2) v op true = (fw r2 (v + 1) true false).map (· + 1) := by
                        simp [fw, h2]
                      have A := ih r2 ps2 (v + 1) true (by simp at hr; omega) (by simpa using hl') (fun x hx => hfr x (List.mem_cons_of_mem _ hx)) (fun _ => rfl)
                      have e4 : rd (toks (t :: t2 :: r2) (p :: p2 :: ps2) n) v op = (t :: (rd (toks r2 ps2 n) (v + 1) true).1, (rd (toks r2 ps2 n) (v + 1) true).2) := by
                        rw [et, et2]
                        simp only [rd_eq, if_neg htn, if_neg hb, if_neg no, if_pos hk, if_pos h2]
                      unfold Agree
                      rw [e1, e3, e4, last_cons, last_paren (.inl h2)]
                      refine agree_map (A := fun k => (rd (toks r2 ps2 n) (v + 1) true).2 = some ((p :: p2 :: ps2).getD k 0, false)) ?_
                      refine agree_map (A := fun k => (rd (toks r2 ps2 n) (v + 1) true).2 = some ((p :: p2 :: ps2).getD (k + 1) 0, false)) ?_
                      unfold Agree at A
                      cases q : fw r2 (v + 1) true false with
                      | some k =>
                        rw [q] at A
                        exact A
                      | none =>
                        rw [q] at A
                        dsimp only at A ⊢
                        by_cases hn : lastName r2 = true
                        · rw [if_pos hn] at A ⊢
                          exact A
                        · rw [if_neg hn] at A ⊢
                          rw [A, List.filter_cons, List.filter_cons, h2, if_pos (decide_eq_true h40)]
                          rfl
                    · have e3 : fw (t2 :: r2) v op true = some 0 := by simp [fw, h2]
                      unfold Agree
                      rw [e1, e3, et, et2]
                      simp only [rd_eq, if_neg htn, if_neg hb, if_neg no, if_pos hk, if_neg h2, decide_eq_false ht2]
                      rfl
/-! ### texts glued of tokens and blanks -/
def glue : List (Tx × Tx) → Tx
  | [] => []
  | x :: r => x.1 ++ (x.2 ++ glue r)
def spots : Nat → List (Tx × Tx) → List Nat
  | _, [] => []
  | n, x :: r => n :: spots (n + x.1.length + x.2.length) r
def Blank (s : Tx) : Prop := ∀ c ∈ s, c = 32 ∨ c = 10
theorem glue_snoc (t s : Tx) : ∀ z : List (Tx × Tx), glue (z ++ [(t, s)]) = glue z ++ (t ++ s)
  | [] => by simp [glue]
  | x :: r => by
    show x.1 ++ (x.2 ++ glue (r ++ [(t, s)])) = _
    rw [glue_snoc t s r]
    simp [glue]
theorem spots_snoc (t s : Tx) : ∀ (z : List (Tx × Tx)) (n : Nat), spots n (z ++ [(t, s)]) = spots n z ++ [n + (glue z).length]
  | [], n => by simp [spots, glue]
  | x :: r, n => by
    show n :: spots _ (r ++ [(t, s)]) = _
    rw [spots_snoc t s r]
    simp [spots, glue]
    omega
theorem spots_len : ∀ (z : List (Tx × Tx)) (n : Nat), (spots n z).length = z.length
  | [], _ => rfl
  | x :: r, n => by
    show (spots _ r).length + 1 = r.length + 1
    rw [spots_len r]
theorem lex_blank {sg : List Nat} (hs : 32 ∉ sg ∧ 10 ∉ sg) {x : Tx} {l : List (Tx × Nat)} {e : Option Nat} : ∀ {s : Tx} {i : Nat}, Blank s → Lex sg x (i + s.length) l e → Lex sg (s ++ x) i l e
  | [], i, _, h => h
  | c :: s, i, hb, h => by
    have hc := hb c List.mem_cons_self
    have h' : Lex sg x (i + 1 + s.length) l e := by
      have e1 : i + (c :: s).length = i + 1 + s.length := by simp; omega
      rw [e1] at h
      exact h
    have r := lex_blank hs (s := s) (i := i + 1) (fun c h => hb c (List.mem_cons_of_mem _ h)) h'
    rcases hc with rfl | rfl
    · exact .space (by decide) hs.1 (.inl rfl) r
    · exact .space (by decide) hs.2 (.inr rfl) r
/-- the wrong signs that the law draws -/
def bad (t : Tx) : Bool := t == [45] || t == [61] || t == [65] || t == [55]
def firstBad : List Tx → Option Nat
  | [] => none
  | t :: r => if bad t = true then some 0 else (firstBad r).map (· + 1)
theorem lex_glue : ∀ (z : List (Tx × Tx)) (i : Nat), (∀ x ∈ z, Blank x.2 ∧ x.2 ≠ [] ∧ (Fine x.1 ∨ bad x.1 = true)) →
    match firstBad (z.map (·.1)) with
    | some k => ∃ l, Lex [40, 41] (glue z) i l (some ((spots i z).getD k 0))
    | none => Lex [40, 41] (glue z) i (toks (z.map (·.1)) (spots i z) (i + (glue z).length)) none
  | [], i, _ => .done
  | x :: r, i, h => by
    obtain ⟨hb, hn, ht⟩ := h x List.mem_cons_self
    have ih := lex_glue r (i + x.1.length + x.2.length) fun y hy => h y (List.mem_cons_of_mem _ hy)
    have hs : (32 : Nat) ∉ [40, 41] ∧ (10 : Nat) ∉ [40, 41] := by decide
    by_cases hbad : bad x.1 = true
    · have e1 : firstBad ((x :: r).map (·.1)) = some 0 := by simp [firstBad, hbad]
      rw [e1]
      refine ⟨[], ?_⟩
      have e2 : ∃ c, x.1 = [c] ∧ (c = 45 ∨ c = 61 ∨ c = 65 ∨ c = 55) := by
        simp only [bad, Bool.or_eq_true, beq_iff_eq] at hbad
        rcases hbad with ((h | h) | h) | h
        · exact ⟨45, h, .inl rfl⟩
        · exact ⟨61, h, .inr (.inl rfl)⟩
        · exact ⟨65, h, .inr (.inr (.inl rfl))⟩
        · exact ⟨55, h, .inr (.inr (.inr rfl))⟩
      obtain ⟨c, e3, hc⟩ := e2
      show Lex [40, 41] (x.1 ++ (x.2 ++ glue r)) i [] (some i)
      rw [e3]
      rcases hc with rfl | rfl | rfl | rfl
      · exact .bad (by decide) (by decide) (by decide)
      · exact .bad (by decide) (by decide) (by decide)
      · exact .bad (by decide) (by decide) (by decide)
      · exact .bad (by decide) (by decide) (by decide)
    · have hf : Fine x.1 := ht.resolve_right hbad
      have e1 : firstBad ((x :: r).map (·.1)) = (firstBad (r.map (·.1))).map (· + 1) := by simp [firstBad, hbad]
      -- the token in front of what is read
      have step : ∀ {l : List (Tx × Nat)} {e : Option Nat}, Lex [40, 41] (glue r) (i + x.1.length + x.2.length) l e → Lex [40, 41] (x.1 ++ (x.2 ++ glue r)) i ((x.1, i) :: l) e := by
        intro l e h0
        have h1 := lex_blank hs hb h0
        rcases hf with hf | hf | hf
        · rw [hf] at h1 ⊢
          exact .sign (by decide) (by decide) h1
        · rw [hf] at h1 ⊢
          exact .sign (by decide) (by decide) h1
        · refine .word hf.1 (fun c hc => List.all_eq_true.mp hf.2 c hc) (fun c hc => ?_) h1
          cases e2 : x.2 with
          | nil => exact absurd e2 hn
          | cons a b =>
            rw [e2] at hc
            cases hc
            have := hb c (by rw [e2]; exact List.mem_cons_self)
            rcases this with rfl | rfl <;> decide
      rw [e1]
      cases q : firstBad (r.map (·.1)) with
      | some k =>
        rw [q] at ih
        obtain ⟨l, hl⟩ := ih
        exact ⟨_, step hl⟩
      | none =>
        rw [q] at ih
        have e4 : i + (glue (x :: r)).length = i + x.1.length + x.2.length + (glue r).length := by
          show i + (x.1 ++ (x.2 ++ glue r)).length = _
          simp
          omega
        rw [e4]
        exact step ih
end SS
/-! Rules of one's own beside the layer's: a field as a target, defs that let TextErrors out, texts as lists of codes. -/
namespace SX
open PySem PySem.Spec PyProof.Rows L2
abbrev St := L2.St
/-- o.f as a target -/
def gFld (K : PySem.W.Frag) (to : TE) (f : Str) : TG := fun v σ H Q => to σ H fun x H1 => ∃ a C dx fs, x = .ref a ∧ H1 a = some (.ins C dx fs) ∧ Cls K C ∧ NoAttr K C f ∧ fs.length < 1000 ∧ Q σ (upd H1 a (.ins C dx (putF f v fs)))
theorem pg_fld {X : Cx} {o : Expr} {f : Str} {pos : Pos} {to : TE} (ho : PE X o to) : PG X (.Attribute o f pos) (gFld X.K to f) := by
  constructor
  intro pins s σ H v u Q I r h
  rw [assign_Attribute]
  refine wpAny_bind (wpAny_holding (wpAny_mono (ho.run pins s σ H _ I h) ?_ fun _ _ z => z))
  rintro ov s1 ⟨x, H1, I1, rx, a, C, dx, fs, rfl, ea, c, n, l, q⟩
  obtain rfl : ov = Value.ref a := rx
  refine wpAny_bind (wpAny_standAt (wpAny_bind (wpAny_holding (setattr_ok I1 ea c n l r fun s2 I2 => ?_))))
  exact wpAny_release ⟨σ, _, I2, q⟩
section
variable {P : Program} {w : World} {K : PySem.W.Frag} {mg : Str → Option Value} {base : Heap}
/-- a def that lets TextErrors out -/
theorem okT {x qual : Str} {st : Stmt} {f : Addr} {fd : FuncData} {N ps : List Str} {k : Nat} {sp : Sp} (F : Fun K x qual st f fd) (S : FnScope N ps (defScope st)) (len : ∀ vs H Q E, sp vs H Q E → vs.length = ps.length)
    (hbody : ∀ (cdv : Value) (A : Around) (outer : List Env) (s : Shared) (H : Hp) (vs : List V) (Q : VK) (E : XK), Room k (A.deeper (envOfC qual (defScope st) s.heap.objs.size f cdv)) → sp vs H Q E →
      ∃ t, PSs (cxOf (TE.CX P w) P w K mg base N qual (defScope st) f cdv A outer s H E) (defBody st) t ∧ t { nx := fun _ H' => Q .non H', rt := Q } (start N vs) H) : FnOk P w K mg base (TE.CX P w) (k + 1) f fd ps sp := by
  obtain ⟨oc, od, kV, doc, pm, an, cdv, ct, osl, rfl, lk, hcd⟩ := F.ex
  exact fn_of lk hcd S len fun A outer s H vs Q E hr hsp => hbody cdv A outer s H vs Q E hr hsp
end
theorem iT {c : Bool} {A B : Prop} (hc : c = true) (h : A) : if c = true then A else B := by
  rw [if_pos hc]
  exact h
theorem iF {c : Bool} {A B : Prop} (hc : c = false) (h : B) : if c = true then A else B := by
  rw [if_neg (by rw [hc]; exact Bool.false_ne_true)]
  exact h
theorem same_upd {H : Hp} {p : Addr} {o : HO} (h : H p = none) : Same H (upd H p o) := fun b u e => by
  rw [upd_ne (ne_of_none e h)]
  exact e
theorem log_small {n : Nat} (h : n ≤ 1100000) : ((n : Int)).natAbs.log2 < 1920 := by
  have e : ((n : Int)).natAbs = n := rfl
  rw [e]
  by_cases h0 : n = 0
  · subst h0
    decide
  · exact (Nat.log2_lt h0).mpr (Nat.lt_of_le_of_lt h (Nat.lt_of_lt_of_le (show 1100000 < 2 ^ 21 by decide) (Nat.pow_le_pow_right (by decide) (by decide))))
/-! ### texts and their codes -/
abbrev cd (z : Str) : List Nat := z.cps.toList
theorem len_cd (z : Str) : z.length = (cd z).length := by
  show z.cps.size = z.cps.toList.length
  simp
theorem cd_inj {a b : Str} (h : cd a = cd b) : a = b := by
  obtain ⟨a⟩ := a
  obtain ⟨b⟩ := b
  have : a = b := by simpa using h
  rw [this]
theorem cd_append (a b : Str) : cd (a ++ b) = cd a ++ cd b := by
  obtain ⟨a⟩ := a
  obtain ⟨b⟩ := b
  show (a ++ b).toList = _
  simp
theorem cd_mk (l : List Nat) : cd ⟨l.toArray⟩ = l := by simp [cd]
theorem len_mk (l : List Nat) : (⟨l.toArray⟩ : Str).length = l.length := by rw [len_cd, cd_mk]
theorem wEnd_le (l : List Nat) (i : Nat) (h : i ≤ l.length) : i + ((l.drop i).takeWhile SS.isLow).length ≤ l.length := by
  have e : ((l.drop i).takeWhile SS.isLow).length ≤ (l.drop i).length := (List.takeWhile_sublist _).length_le
  rw [List.length_drop] at e
  omega
theorem letters_in : ∀ c, (c ∈ cd ("abcdefghijklmnopqrstuvwxyz" : Str)) ↔ SS.isLow c = true := by
  intro c
  have e : cd ("abcdefghijklmnopqrstuvwxyz" : Str) = (List.range 26).map (· + 97) := by decide +kernel
  rw [e]
  simp only [List.mem_map, List.mem_range, SS.isLow, decide_eq_true_eq]
  constructor
  · rintro ⟨a, h, rfl⟩
    omega
  · intro h
    exact ⟨c - 97, by omega, by omega⟩
end SX
namespace SX
open PySem PySem.Spec PyProof.Rows L2 HT
open PySem.AutoSeq1 (wpAny_loadPart')
section
variable {prog : Program} {w : World} {A : Around} {E : Value → Shared → Prop} {s : Shared}
theorem sliceApplied_rev {sl : Addr} {vs : Value} {n : Nat} {Q : Int × Int × Nat → Shared → Prop} (hs : s.heap.IsSliceOf sl .none .none vs) (ps : IsPart vs (some (-1)))
    (h : Q ((n : Int) - 1, -1, n) s) : wpAny (model prog w) A (Builtin.Slice.sliceApplied (.ref sl) (pure (n : Int))) Q E s := by
  obtain ⟨os, hos, hcs, hds⟩ := id hs
  unfold Builtin.Slice.sliceApplied Builtin.Slice.sliceFields
  refine wpAny_bind (wpAny_bind (wpAny_field hos hds (x := .none) rfl (wpAny_bind (wpAny_field hos hds (x := .none) rfl (wpAny_bind (wpAny_field hos hds (x := vs) rfl (wpAny_pure ?_)))))))
  refine wpAny_bind (slicePart_ ps ?_)
  show wpAny _ _ (if ((-1 : Int) == 0) = true then _ else _) _ _ s
  rw [if_neg (by decide)]
  refine wpAny_bind (slicePart_ .none (wpAny_bind (slicePart_ .none (wpAny_bind (wpAny_pure ?_)))))
  show wpAny _ _ (match Builtin.Slice.sliceAdjust none none (-1) (n : Int) with | (lo, hi) => pure (lo, (-1 : Int), Builtin.Slice.slicePlaces lo hi (-1))) _ _ s
  have e1 : Builtin.Slice.sliceAdjust none none (-1) (n : Int) = ((n : Int) - 1, -1) := by
    unfold Builtin.Slice.sliceAdjust
    simp
  rw [e1]
  have e2 : Builtin.Slice.slicePlaces ((n : Int) - 1) (-1) (-1) = n := by
    unfold Builtin.Slice.slicePlaces
    have h1 : ¬ ((-1 : Int) > 0) := by omega
    simp only [h1, if_false, show (- -1 : Int) = 1 by decide, Int.ediv_one]
    split <;> omega
  show wpAny _ _ (pure ((n : Int) - 1, (-1 : Int), Builtin.Slice.slicePlaces ((n : Int) - 1) (-1) (-1))) _ _ s
  rw [e2]
  exact wpAny_pure h
theorem pick_rev (xs : Array Value) : ((List.range xs.size).filterMap fun (m : Nat) => xs[(((xs.size : Int) - 1) + (m : Int) * (-1)).toNat]?).toArray = xs.toList.reverse.toArray := by
  congr 1
  have h : ∀ k : Nat, k ≤ xs.size → ((List.range k).filterMap fun (m : Nat) => xs[(((xs.size : Int) - 1) + (m : Int) * (-1)).toNat]?) = xs.toList.reverse.take k := by
    intro k
    induction k with
    | zero => intro _; simp
    | succ k ih =>
      intro hk
      rw [List.range_succ, List.filterMap_append, ih (by omega), List.take_add_one]
      congr 1
      have e : (((xs.size : Int) - 1) + (k : Int) * (-1)).toNat = xs.size - 1 - k := by omega
      have hl : xs.size - 1 - k < xs.size := by omega
      have hr : xs.toList.reverse[k]? = some xs[xs.size - 1 - k] := by
        rw [List.getElem?_reverse (by rw [Array.length_toList]; omega)]
        simp only [Array.length_toList, Array.getElem?_toList]
        exact Array.getElem?_eq_getElem hl
      rw [hr]
      simp only [List.filterMap_cons, List.filterMap_nil, e, Array.getElem?_eq_getElem hl, Option.toList]
  rw [h _ (Nat.le_refl _)]
  exact List.take_of_length_le (by simp)
theorem getItem_tuple_rev {t sl : Addr} {items : Array Value} {vs : Value} {Q : Value → Shared → Prop} (ht : IsTup s.heap t items) (hs : s.heap.IsSliceOf sl .none .none vs) (ps : IsPart vs (some (-1)))
    (h : Q (.ref s.heap.objs.size) { s with heap := s.heap.push { cls := .type "tuple", data := .seq items.toList.reverse.toArray } })
    (hsz : items.size ≤ sizeLine) : wpAny (model prog w) A (getItem (.ref t) (.ref sl)) Q E s := by
  have htake : sizeOk (.seq items.toList.reverse.toArray) := by
    show items.toList.reverse.toArray.size ≤ sizeLine
    rw [List.size_toArray, List.length_reverse, Array.length_toList]
    exact hsz
  obtain ⟨os, hos, hcs, hds⟩ := id hs
  have hTs : s.TypeIs (.ref sl) "slice" := ⟨os, hos, hcs⟩
  unfold getItem
  try with_reducible refine wpAny_holding ?_
  first | refine wpAny_bind (wpAny_pure ?_) | skip
  refine wpAny_bind (wpAny_sequenceKey ht.typeIs (by decide) ?_)
  refine wpAny_bind (wpAny_callSpecial?_slot (name := Str.ofString "__getitem__") ht.typeIs PyProof.Rows.slot_tuple_getitem
    (wpAny_call_entry PyProof.Rows.slot_tuple_getitem ht.typeIs entry_tuple_getitem ?_ (args_tuple_getitem _ _)))
  show wpAny _ _ (Builtin.Tuple.tupleItemsOf (.ref t) >>= _) _ _ s
  refine wpAny_bind (tupleItemsOf_ ht ?_)
  refine wpAny_bind (wpAny_typeOf hTs ?_)
  rw [if_pos (by decide)]
  refine wpAny_bind (sliceApplied_rev hs ps ?_)
  have hno : ¬ ((((items.size : Int) - 1) == 0 && (-1 : Int) == 1 && items.size == items.size) = true) := by
    intro q
    rw [Bool.and_eq_true, Bool.and_eq_true] at q
    exact absurd q.1.2 (by decide)
  show wpAny _ _ (if (((items.size : Int) - 1) == 0 && (-1 : Int) == 1 && items.size == items.size) = true then _ else _) _ _ s
  rw [if_neg hno, pick_rev]
  first
    | exact wpAny_bind (m := Builtin.Tuple.tupleExact _) (wpAny_newObj_type (wpAny_pure ⟨_, rfl, wpAny_pure h⟩) htake)
    | exact wpAny_bind (m := Builtin.Tuple.tupleExact _) (wpAny_newObj_type (wpAny_bind (wpAny_pure (wpAny_pure ⟨_, rfl, wpAny_pure h⟩))) htake)
    | exact wpAny_bind (wpAny_bind (m := Builtin.Tuple.tupleExact _) (wpAny_newObj_type (wpAny_pure (wpAny_pure ⟨_, rfl, wpAny_pure h⟩)) htake))
    | exact wpAny_bind (wpAny_bind (m := Builtin.Tuple.tupleExact _) (wpAny_newObj_type (wpAny_pure ⟨_, rfl, wpAny_pure h⟩) htake))
theorem list_extend_tuple (l : Addr) (items : Array Value) (n : Nat) (b : Addr) (items2 : Array Value) (n2 : Nat) (dd : Option Addr) (sl : Array (Option Value)) (hs0 : ¬(!items.isEmpty && Builtin.List.listTooLong (items.size + items2.size)) = true) (hs1 : items.size ≤ sizeLine) (hs2 : items.size + items2.size ≤ sizeLine + 1) :
    Meets (Builtin.«list.extend» ⟨[.ref l, .ref b], []⟩) (fun _ R s => s.heap.get? l = some { cls := .type "list", dict := none, data := .seq items n, slots := #[] } ∧ s.heap.get? b = some { cls := .type "tuple", dict := dd, data := .seq items2 n2, slots := sl } ∧ R (.ok (.ret Value.none)) { s with heap := s.heap.update l (Obj.mapSeq fun x => x ++ items2), toks := s.toks }) :=
  .of_wp fun prog w A R s h => by
    obtain ⟨hp, g, d, tk, os⟩ := s; obtain ⟨hl, hb, h⟩ := h; have f1 := AutoSeq1.idx_int; have f2 := AutoSeq1.sub_tuple_tuple; have f3 := AutoSeq1.sub_list_list; have f4 := AutoSeq1.sub_tuple_list; have f5 := AutoSeq1.sub_list_tuple;
    have hz' : (items ++ items2).size ≤ sizeLine + 1 := by rw [Array.size_append]; exact hs2
    wp_walk using (wpAny_updateSeq hl rfl (hz := hs1) (_hz' := hz')), wpAny_loadPart' hl, wpAny_loadPart' hb; exact ⟨_, rfl, h⟩
end
section
variable {X : Cx}
/-- t[::-1], a tuple -/
def tRevT (K : PySem.W.Frag) (te : TE) : TE := fun σ H Q => te σ H fun x H1 => ∃ a xs, x = .ref a ∧ SqT K H1 a xs ∧ ∀ p, H1 p = none → Q (.ref p) (upd H1 p (.tup xs.reverse))
theorem pe_revT {e : Expr} {te : TE} {k : Nat} {p1 p2 p3 pos : Pos} (he : PE X e te) : PE X (.Subscript e (.Slice none none (some (.UnaryOp .USub (.Constant (.int 1) k p1) p2)) p3) pos) (tRevT X.K te) := by
  refine ⟨fun pins s σ H Q I h => ?_⟩
  refine Subscript_ (thn (he.run pins s σ H _ I h) fun v s1 ⟨x, H1, I1, r1, q1⟩ => ?_)
  obtain ⟨a, xs, ex, hx, q⟩ := q1
  subst ex
  cases r1
  have hst : PO X (some (.UnaryOp .USub (.Constant (.int 1) k p1) p2)) (tPart (tUn (rU fun i => .int (-i)) (tC (.int 1)))) := po_some (pe_un un_neg pe_int)
  refine wpAny_Slice (thn (po_none.run pins s1 σ H1 (fun o H2 => o = none ∧ H2 = H1) I1 ⟨rfl, rfl⟩) fun vl s2 ⟨l, H2, I2, pl, el, e2⟩ => ?_)
  subst el e2
  refine thn (po_none.run pins s2 σ H2 (fun o H3 => o = none ∧ H3 = H2) I2 ⟨rfl, rfl⟩) fun vu s3 ⟨u, H3, I3, pu, eu, e3⟩ => ?_
  subst eu e3
  refine thn (hst.run pins s3 σ H3 (fun o H4 => o = some (-1) ∧ H4 = H3) I3 ⟨1, rfl, -1, rfl, rfl, rfl⟩) fun vs s4 ⟨o, H4, I4, ps, eo, e4⟩ => ?_
  subst eo e4
  have I5 : Inv X pins σ H4 { s4 with heap := s4.heap.push { cls := .type "slice", data := .fields #[vl, vu, vs] } } := I4.kept (t' := s4.toks) fun b ob q => Heap.get?_push_of_some _ q
  obtain ⟨its, r, ht, hz⟩ := I5.tuple hx
  have hlen := r.length
  cases pl
  cases pu
  show wpAny (model X.prog X.w) X.A (subscriptTail e (.Slice none none (some (.UnaryOp .USub (.Constant (.int 1) k p1) p2)) p3) (.ref a) (.ref s4.heap.objs.size)) (EP X pins σ Q) X.xe { s4 with heap := s4.heap.push { cls := .type "slice", data := .fields #[.none, .none, vs] } }
  refine tail_any (ops := [.ref a, .ref s4.heap.objs.size]) ht.typeIs (PyProof.Rows.slot_tuple_getitem.lookup) ?_ (by with_unfolding_all rfl)
  refine getItem_tuple_rev ht (Heap.IsSliceOf.new _ .none .none vs) ps ?_ (by rw [List.size_toArray]; omega)
  refine ⟨.ref _, _, I5.laid (t' := s4.toks) (o := .tup xs.reverse) (fun b ob q => Heap.get?_push_of_some _ q) (Nat.le_refl _) ?_, rfl, q _ (I5.hok.fresh (Nat.le_refl _))⟩
  exact ⟨by rw [List.length_reverse]; exact hz, its.reverse, r.reverse, IsTup.new _ _⟩

/-- l.extend(t), a tuple -/
def rExtendT (K : PySem.W.Frag) : V → List V → Hp → VK → Prop := fun x vs H Q => ∃ l b xs zs, x = .ref l ∧ vs = [.ref b] ∧ H l = some (.lst xs) ∧ SqT K H b zs ∧ xs.length + zs.length ≤ sizeLine ∧ Q .non (upd H l (.lst (xs ++ zs)))
theorem mt_extendT : MtM X "list.extend" (rExtendT X.K) := by
  intro pins s σ H x vs v us Q I rx rv h
  obtain ⟨l, b, xs, zs, rfl, rfl, hH, hB, hz, q⟩ := h
  cases rx
  obtain ⟨u, rfl, ru⟩ := rv.one
  cases ru
  obtain ⟨z, its, n, r, hl, e⟩ := I.lstM hH
  obtain ⟨its2, r2, ht, hz2⟩ := I.tuple hB
  have hl2 := r2.length
  have hl1 := r.length
  obtain ⟨⟨cls2, dd2, data2, sl2⟩, ho2, hc2, n2, hd2⟩ := id ht
  simp only at hc2 hd2
  subst hc2 hd2
  have hsz : its.toArray.size + its2.toArray.size ≤ sizeLine := by rw [List.size_toArray, List.size_toArray]; omega
  have hlong : ¬ (!its.toArray.isEmpty && Builtin.List.listTooLong (its.toArray.size + its2.toArray.size)) = true := by
    rw [notLongL hsz, Bool.and_false]
    exact Bool.false_ne_true
  refine call_meets F.slot_list_extend ⟨_, e, rfl⟩ F.entry_list_extend (F.args_list_extend_2 _ _)
    (list_extend_tuple l its.toArray n b its2.toArray n2 dd2 sl2 hlong (by rw [List.size_toArray]; omega) (by omega)) ⟨e, ho2, ?_⟩
  refine ⟨.non, _, I.lset (its' := its ++ its2) hH e (by simp) (r.append r2) ?_, rfl, q⟩
  rw [List.length_append]
  omega
/-- a call that lets no error out here, of a def that may let TextErrors out -/
theorem passN : Passes (TE.CX X.prog X.w) X (fun _ _ _ => False) := fun _ _ _ _ _ _ _ ⟨_, _, _, _, _, _, _, _, h⟩ => h.elim
end
end SX
/-! A method whose first row is super().__init__(..), the __init__ above being one of the program's own. -/
namespace SU
open PySem PySem.W PySem.Calls PyProof.Rows L2 NdefX
/-- what the written part says of the class at D, of its __init__ at f, and of the __init__ above, at f2 -/
structure Txt (prog : Program) (K : Frag) (D f f2 cda cc : Addr) (qual : Str) (params : Arguments) (body : List Stmt) (scope : Scope) (fd : FuncData) : Prop where
  cls : ∃ cd, clsIn K D = some cd
  mro : mroIn K D (.ref D) = some true
  sup : ks_superIn K D D "__init__" = some (some (.ref f2))
  ty2 : typeIn K (.ref f2) = some (.type "function")
  fn2 : fnIn K f2 = true
  opq : nsIn K cStatics "thirdparty.any" = some none
  noS : nsIn K mainGlobals "super" = some none
  topS : (prog.main.scope.names.lookup ("super" : Str)).isSome = false
  fn : ∃ (oc : Value) (od : Option Addr) (kV doc pm : Value) (an : Option Addr) (ct : Value) (osl : Array (Option Value)) (ccl : Value) (cdd : Option Addr) (vs : Array Value) (ccs : Array (Option Value)) (file : Str) (tf : Tok) (cl : Value) (cld : Option Addr) (csl : Array (Option Value)),
    fd = ksFn "__init__" qual params body scope .none kV doc pm an (.ref cda) ct cc ∧
    K.lookup f = some ⟨oc, od, .func fd, osl⟩ ∧
    codeIn K (.ref cda) qual = true ∧ K.lookup cda = some ⟨ccl, cdd, .fields vs, ccs⟩ ∧ vs[2]? = some (.str file tf) ∧ ((prog.main.file : Str) == file) = true ∧
    K.lookup cc = some ⟨cl, cld, .cell (some (.ref D)), csl⟩
abbrev sb (p0 p1 p2 p3 p4 : Pos) (e : Expr) (es : List Expr) (rest : List Stmt) : List Stmt := .Expr (.Call (.Attribute (.Call (.Name "super" p0) [] [] p1) "__init__" p2) (e :: es) [] p3) p4 :: rest
abbrev nf (qual : Str) (params : Arguments) (body : List Stmt) (scope : Scope) (cda cc : Addr) : NF := ⟨"__init__", qual, params, body, scope, [("__class__", cc)], cda⟩
section
variable {CX CX2 : CXT} {P : Program} {w : World} {K : Frag} {mg : Str → Option Value} {base : Heap} {k k2 : Nat} {D f f2 cda cc : Addr} {qual : Str} {params : Arguments} {scope : Scope} {fd fd2 : FuncData} {N ps ps2 : List Str} {sp sp2 : Sp}
  {p0 p1 p2 p3 p4 : Pos} {e : Expr} {es : List Expr} {rest : List Stmt} {ar : Arg}
theorem init_of (T : Txt P K D f f2 cda cc qual params (sb p0 p1 p2 p3 p4 e es rest) scope fd)
    (S : NScope N ps ["__class__"] scope) (hks : scope.names.lookup ("super" : Str) = some .globalImplicit) (hp : (params.posonlyargs ++ params.args).head? = some ar) (hps : ps.head? = some ar.arg)
    (F2 : FnOk P w K mg base CX2 k2 f2 fd2 ps2 sp2) (hk : k2 ≤ k) (hb2 : Binds K fd2 ps2 [])
    (len : ∀ vs H Q E, sp vs H Q E → vs.length = ps.length)
    (hbody : ∀ (A : Around) (outer : List Env) (s : Shared) (H : Hp) (vs : List V) (Q : VK) (E : XK), Room k (A.deeper (envF (nf qual params (sb p0 p1 p2 p3 p4 e es rest) scope cda cc) f s.heap.objs.size)) → sp vs H Q E →
      ∃ (x : Addr) (dx : Addr) (fs : List (Str × V)) (ws : List V) (E2 : XK) (t : TA) (tr : TS), vs = .ref x :: ws ∧ H x = some (.ins D dx fs) ∧
        PA (ncx CX P w K mg base N (nf qual params (sb p0 p1 p2 p3 p4 e es rest) scope cda cc) f A outer s H E) (e :: es) t ∧
        PSs (ncx CX P w K mg base N (nf qual params (sb p0 p1 p2 p3 p4 e es rest) scope cda cc) f A outer s H E) rest tr ∧
        Passes CX2 (ncx CX P w K mg base N (nf qual params (sb p0 p1 p2 p3 p4 e es rest) scope cda cc) f A outer s H E) E2 ∧
        t (startF N vs [none]) H fun us H1 => sp2 (.ref x :: us) H1 (fun _ H2 => tr { nx := fun _ H' => Q .non H', rt := Q } (startF N vs [none]) H2) E2)
    {pl : Env → Sem Bool} (he : ∀ env, eval (.Call (.Attribute (.Call (.Name "super" p0) [] [] p1) "__init__" p2) (e :: es) [] p3) env = (do
      let ov ← attributeBase (.Call (.Name "super" p0) [] [] p1) "__init__" env (eval (.Call (.Name "super" p0) [] [] p1) env)
      standAt p2.atName
      let (f, first) ← holding [ov] (getMethod ov "__init__" (pl env))
      callWith p3 f first (backTo p3 (starEach (e :: es) env)) []))
    (hst : ∀ env, starEach (e :: es) env = (false, eval e env) :: starEach es env) (hpl : ∀ env, (backTo p3 (starEach es env)).any (·.1) = false) :
    FnOk P w K mg base CX (k + 1) f fd ps sp := by
  obtain ⟨oc, od, kV, doc, pm, an, ct, osl, ccl, cdd, vs, ccs, file, tf, cl, cld, csl, hfd, lk, hcd, hcode, hvs, hfile, hcell⟩ := T.fn
  subst hfd
  refine ⟨len, fun A outer s H args us vv Q E hr e0 hb r hsp => ?_⟩
  have hl := len _ _ _ _ hsp
  have kb : ∀ b o, base.get? b = some o → s.heap.get? b = some o := fun b o e => (e0.bs b o e).1
  have KX : K.In s.heap := e0.mod.kin.keeps kb
  have lim : s.heap.NoLimit := e0.mod.nolimit.keeps kb
  obtain ⟨x, dx, fs, ws, E2, t, tr, rfl, hx, hA, hR, hE2, hq⟩ := hbody A outer s H vv Q E (hr.deeper _) hsp
  refine ks_codeAny_call_defAt (binds := ps.zip us) hr.depth (KX _ _ lk) rfl lim (codeRec_of KX hcd) rfl hb S.nocell (fun y hy => S.par y.1 (List.of_mem_zip (show (y.1, y.2) ∈ ps.zip us from hy)).1) (fun h₁ hns hk₁ => ?_) S.co S.gen S.kind
  let F : NF := nf qual params (sb p0 p1 p2 p3 p4 e es rest) scope cda cc
  have hccb : base.get? cc = some ⟨cl, cld, .cell (some (.ref D)), csl⟩ := e0.mod.kin _ _ hcell
  have one : ∀ {y : Str} {c : Addr}, List.lookup y [(("__class__" : Str), cc)] = some c → y = "__class__" ∧ c = cc := fun {y c} h => by
    have := PySem.mem_of_lookup h
    rcases List.mem_cons.mp this with h' | h'
    · exact ⟨congrArg Prod.fst h', congrArg Prod.snd h'⟩
    · cases h'
  have C : CellsAt F.cl ["__class__"] [none] s.heap H := by
    refine ⟨rfl, fun y c h => ?_, fun y z c h1 h2 => (one h1).1.trans (one h2).1.symm, fun i y h => ?_⟩
    · obtain ⟨rfl, rfl⟩ := one h
      exact ⟨(e0.bs _ _ hccb).2, _, _, kb _ _ hccb, rfl⟩
    · match i, h with
      | 0, h =>
        cases h
        exact ⟨cc, rfl, fun v h => by cases h⟩
  have I : Inv (ncx CX P w K mg base N F f A outer s H E) [] (startF N (.ref x :: ws) [none]) H { s with heap := h₁, toks := s.toks + (ps.zip us).length } := inv_startN S hr.hd e0 hl r C hns hk₁
  have hint : ∀ (q : Str) (L a : Addr) (cd : Value) (cl : List (Str × Addr)), interactive (envX q scope L a cd cl) = false := fun _ _ _ _ _ => by
    show (scope.kind == .module && _) = false
    rw [S.kind]
    rfl
  refine ks_wpAt_execs_cons (ks_wpAt_Expr_any (ks_wpAt_MethodCall ?_ (he _)) (hint _ _ _ _ _))
  have KX1 : K.In h₁ := KX.keeps hk₁
  obtain ⟨cdD, hD⟩ := T.cls
  obtain ⟨oD, hD1, hD2⟩ : ∃ oD, h₁.get? D = some oD ∧ oD.data = .cls cdD := by
    unfold clsIn at hD
    split at hD
    · rename_i c d cd' sl ho
      cases hD
      exact ⟨_, KX1 _ _ ho, rfl⟩
    · cases hD
  obtain ⟨mb, hbl, hbb⟩ := e0.mod.blt
  have kb1 : ∀ b o, base.get? b = some o → h₁.get? b = some o := fun b o e => hk₁ b o (kb b o e)
  have hsuper : mg ("super" : Str) = none := mg_none_of e0.mod.kin e0.mod.glob T.noS
  have hboot : mb ("super" : Str) = some (.type "super") := (hbb _ (by decide)).trans (by decide +kernel)
  have hkc : scope.names.lookup ("__class__" : Str) = some .free := S.frk _ List.mem_cons_self
  refine ks_wpAt_super_base (vs := vs) (ar := ar) hks hkc (by decide) rfl (KX1 _ _ lk) rfl hp rfl (KX1 _ _ hcode) rfl hvs hfile T.topS ?_
  refine ks_loadName_global S.kind hks (loadGlobal_builtin (e0.mod.glob.keeps kb1) hsuper (hbl.keeps kb1) hboot ⟨rfl, ?_⟩)
  refine wpAny_loadName_free S.kind hkc rfl ⟨_, KX1 _ _ hcell, rfl⟩ ?_
  have hpar : ps[0]? = some ar.arg := by rw [← hps]; cases ps <;> rfl
  have hu0 : us[0]? = some (.ref x) := by
    cases r with
    | cons a b =>
      cases a
      rfl
  have hndp : ps.Nodup := by
    have q := S.nd.sublist (List.take_sublist (ps.length + 1) N)
    have e : N.take (ps.length + 1) = ps ++ [("__class__" : Str)] := S.pre
    rw [e] at q
    exact (List.nodup_append.mp q).1
  refine wpAny_loadName_local S.kind (S.par _ (List.mem_of_getElem? hpar)) hns (zip_look hndp hpar hu0) ?_
  refine ks_wpAny_isType_cls hD1 hD2 ⟨rfl, ?_⟩
  obtain ⟨hown, hfs, hdx, hxo, mA, hns1, hrel, hwi⟩ := (show ObjOk P w H h₁ x (.ins D dx fs) from I.hok x _ hx)
  refine ks_wpAny_call_super hD1 hD2 hxo rfl (fun c e => by cases e) (looks_mroIn KX1 T.mro) (fun h₂ e2 k2' => ?_)
  have KX2 : K.In h₂ := KX1.keeps k2'
  have hnxD : x ≠ D := fun z => by
    rw [z, hD1] at hxo
    rw [Option.some.inj hxo] at hD2
    cases hD2
  have hsup : alongIn K "__init__" ((cdD.mro.dropWhile (· != .ref D)).drop 1) = some (some (.ref f2)) := by
    have := T.sup
    unfold ks_superIn at this
    rw [hD] at this
    exact this
  obtain ⟨of, hof, hofc⟩ : ∃ of, h₂.get? f2 = some of ∧ of.cls = .type "function" := by
    have ht' : (K.lookup f2).map (·.cls) = some (.type "function") := T.ty2
    cases z : K.lookup f2 with
    | none => rw [z] at ht'; cases ht'
    | some of => rw [z] at ht'; exact ⟨of, KX2 _ _ z, Option.some.inj ht'⟩
  refine ks_wpAny_getMethod_super e2 (looks_opaque KX2 T.opq) (l₀ := cdD.mro) (fun A Q E s k q => wpAny_bind ((looks_clsIn KX2 hD) A _ E s k (wpAny_pure q))) rfl KX2 hsup hof hofc hnxD (by decide) ?_
  -- the arguments, the method object pinned
  have kq : ∀ b o, h₁.get? b = some o → (h₂.push { cls := .type "method", data := .fields #[.ref f2, .ref x] }).get? b = some o := fun b o e => Heap.get?_push_of_some _ (k2' _ _ e)
  have I2 := I.kept (h' := h₂.push { cls := .type "method", data := .fields #[.ref f2, .ref x] }) (t' := s.toks + (ps.zip us).length + 1) kq
  have hl2 : h₁.objs.size ≤ h₂.objs.size := Nat.le_of_lt (Heap.lt_size e2)
  have I3 : Inv (ncx CX P w K mg base N F f A outer s H E) [(h₂.objs.size, methodObj (.ref f2) (.ref x))] (startF N (.ref x :: ws) [none]) H { s with heap := h₂.push { cls := .type "method", data := .fields #[.ref f2, .ref x] }, toks := s.toks + (ps.zip us).length + 1 } := by
    refine I2.pins_of fun p hp => ?_
    rcases List.mem_cons.mp hp with rfl | hp
    · refine ⟨Heap.get?_push_at rfl rfl, I.hok.fresh hl2, fun z => ?_, I.nofs hl2, fun v z => by cases z⟩
      have := I.lt
      have z : h₂.objs.size = (ncx CX P w K mg base N F f A outer s H E).env.locals := z
      rw [← z] at this
      exact absurd this (Nat.not_lt.mpr hl2)
    · cases hp
  show wpAny _ _ (callWith p3 (.ref h₂.objs.size) [] (backTo p3 (starEach (e :: es) (envF F f s.heap.objs.size))) []) _ _ _
  have hA' := hA.run p3 _ _ _ _ _ I3 hq
  have hst' := hst (envF F f s.heap.objs.size)
  have hpl' := hpl (envF F f s.heap.objs.size)
  rw [hst']
  refine callWith_of (P := MethP K h₂.objs.size f2 (.ref x)) (by
    show ((false || (backTo p3 (starEach es (envF F f s.heap.objs.size))).any (·.1)) || false) = false
    rw [hpl'] <;> rfl) (keeps_M T.fn2) (evalArgs_plain ?_)
  have hA2 : wpAny (model P w) (A.deeper (envF F f s.heap.objs.size)) (spliced (backTo p3 (starEach (e :: es) (envF F f s.heap.objs.size)))) _ _ _ := hA'
  rw [hst'] at hA2
  refine wpAny_mono hA2 (fun us2 s4 hs4 => ?_) fun _ _ z => z
  obtain ⟨vs2, H4, I4, r4, q4⟩ := hs4
  have hpin := I4.pin _ (List.mem_append_right _ List.mem_cons_self)
  refine ⟨⟨hpin.1, I4.kIn⟩, ?_⟩
  have hl4 : (Value.ref x :: us2 ++ []).length = ps2.length := by
    have := F2.len _ _ _ _ q4
    rw [List.append_nil, ← this, List.length_cons, List.length_cons, r4.length]
  refine wpAny_call (ks_codeAny_call_bound hpin.1 (codeAny_mono (F2.run _ _ s4 H4 ⟨.ref x :: us2, []⟩ (.ref x :: us2) (.ref x :: vs2) _ E2 ((hr.deeper _).mono hk) I4.env0 (by have := hb2 s4 (.ref x :: us2) I4.kIn hl4; rwa [List.append_nil] at this) (.cons rfl r4) q4) fun r s5 hq5 => ?_))
  cases r with
  | error e => exact hE2 _ _ _ _ e s5 I4 hq5
  | ok fl =>
    cases fl with
    | next => exact False.elim hq5
    | brk => exact False.elim hq5
    | cont => exact False.elim hq5
    | ret u =>
      obtain ⟨v5, H5, I5, rv5, q5⟩ := I4.after hq5
      have I6 := I5.pins_of (pins' := []) fun p hp => by cases hp
      refine wpAt_of_wpAny (wpAny_mono (hR.run [] s5 _ H5 _ I6 q5) (fun fl s' hs => ?_) fun e s' hs => hs)
      have fin : ∀ {σ' : L2.St} {H' : Hp} {v : V} {u : Value}, Inv (ncx CX P w K mg base N F f A outer s H E) [] σ' H' s' → L2.RelV v u → Q v H' → CE outer P w H s Q u s' :=
        fun {σ' H' v u} J rv q => ⟨v, H', J.os, J.bare, J.base, J.hok, rv, q⟩
      cases fl with
      | ret u =>
        obtain ⟨v, σ', H', J, rv, q⟩ := hs
        exact fin J rv q
      | next =>
        obtain ⟨σ', H', J, q⟩ := hs
        exact fin (v := V.non) (u := Value.none) J rfl q
      | brk =>
        obtain ⟨_, _, _, q⟩ := hs
        exact False.elim q
      | cont =>
        obtain ⟨_, _, _, q⟩ := hs
        exact False.elim q
end
end SU
/-! Written dicts of the module by any text key; dicts made in the call: in, not in, [..]; l == [[]] of lists of lists. -/
namespace SX
open PySem PySem.Spec PyProof.Rows L2
/-- at d a written dict of these text keys -/
structure WD (K : PySem.W.Frag) (w : World) (d : Addr) (kvs : List (Str × V)) : Prop where
  ex : ∃ es n, KDict K w d es n ∧ ∀ z : Str, ∃ r, PySem.W.nsIn K d z = some r ∧ RelO (kvs.lookup z) r
/-- the entries are these -/
def Ents : List DictEntry → List (Str × V) → Prop
  | [], [] => True
  | e :: es, kv :: kvs => (∃ t, e.key = .str kv.1 t) ∧ RelV kv.2 e.val ∧ Ents es kvs
  | _, _ => False
theorem ents_find {z : Str} : ∀ {es : List DictEntry} {kvs : List (Str × V)}, Ents es kvs → RelO (kvs.lookup z) ((es.find? (·.key.isStr z)).map (·.val)) ∧ es.any (·.refKey) = false
  | [], [], _ => ⟨True.intro, rfl⟩
  | [], _ :: _, h => (show False from h).elim
  | _ :: _, [], h => (show False from h).elim
  | e :: es, kv :: kvs, h => by
    obtain ⟨⟨t, hk⟩, hv, hr⟩ := h
    obtain ⟨k, v⟩ := kv
    obtain ⟨ih1, ih2⟩ := ents_find (z := z) hr
    have hs : e.key.isStr z = (k == z) := by
      rw [hk, PySem.W.isStr_of]
      rfl
    have hrf : e.refKey = false := by
      unfold DictEntry.refKey
      rw [hk]
    refine ⟨?_, by rw [List.any_cons, hrf, ih2]; rfl⟩
    rw [List.find?_cons, hs, List.lookup_cons]
    by_cases hkz : k = z
    · subst hkz
      rw [show (k == k) = true from beq_self_eq_true k]
      exact hv
    · have e1 : (k == z) = false := beq_eq_false_iff_ne.mpr hkz
      have e2 : (z == k) = false := beq_eq_false_iff_ne.mpr (Ne.symm hkz)
      rw [e1, e2]
      exact ih1
theorem wd_of {K : PySem.W.Frag} {w : World} {d : Addr} {es : Array DictEntry} {n : Nat} {kvs : List (Str × V)} (hl : K.lookup d = some ⟨.type "dict", none, .dict es n, #[]⟩) (lit : PySem.W.KeysLit w.params es.toList) (low : (d == sysModules) = false) (h : Ents es.toList kvs) : WD K w d kvs := by
  refine ⟨es, n, ⟨hl, lit, low⟩, fun z => ?_⟩
  obtain ⟨h1, h2⟩ := ents_find (z := z) h
  refine ⟨_, ?_, h1⟩
  unfold PySem.W.nsIn
  rw [hl]
  dsimp only
  cases e : es.toList.find? (·.key.isStr z) with
  | some en => rfl
  | none =>
    dsimp only
    rw [h2]
    rfl
section
variable {X : Cx} {d : Addr} {kvs : List (Str × V)}
theorem relO_some {o : Option V} {r : Option Value} (h : RelO o r) : r.isSome = o.isSome := by
  cases o <;> cases r <;> first | rfl | exact (show False from h).elim
theorem op_in_wd (D : WD X.K X.w d kvs) : OpR X (compareOp .In) (fun x y H Q => ∃ z : Str, x = .str z ∧ y = .ref d ∧ Q (.bl (kvs.lookup z).isSome) H) := by
  intro pins s σ H x y v u Q I rx ry h
  obtain ⟨z, rfl, rfl, q⟩ := h
  obtain ⟨es, n, D', f⟩ := D.ex
  obtain ⟨r, e, rel⟩ := f z
  exact op_in_kd D' pins s σ H _ _ v u Q I rx ry ⟨z, r, rfl, rfl, e, by rw [relO_some rel]; exact q⟩
theorem op_notIn_wd (D : WD X.K X.w d kvs) : OpR X (compareOp .NotIn) (fun x y H Q => ∃ z : Str, x = .str z ∧ y = .ref d ∧ Q (.bl (!(kvs.lookup z).isSome)) H) := by
  intro pins s σ H x y v u Q I rx ry h
  obtain ⟨z, rfl, rfl, q⟩ := h
  obtain ⟨es, n, D', f⟩ := D.ex
  obtain ⟨r, e, rel⟩ := f z
  exact op_notIn_kd D' pins s σ H _ _ v u Q I rx ry ⟨z, r, rfl, rfl, e, by rw [relO_some rel]; exact q⟩
theorem ix_wd (D : WD X.K X.w d kvs) : IxR X (fun x y H Q => ∃ (z : Str) (v : V), x = .ref d ∧ y = .str z ∧ kvs.lookup z = some v ∧ Q v H) := by
  intro value slice pins s σ H x y v u Q I rx ry h hs
  obtain ⟨z, r, rfl, rfl, el, q⟩ := h
  obtain ⟨es, n, D', f⟩ := D.ex
  obtain ⟨o, e, rel⟩ := f z
  rw [el] at rel
  cases o with
  | none => exact (show False from rel).elim
  | some u0 => exact ix_kdict value slice pins s σ H _ _ v u Q I rx ry ⟨d, z, r, rfl, rfl, ⟨es, n, u0, D'.at_, D'.lit, e, rel⟩, q⟩ hs
theorem u1 {k : Nat} {A : Around} (r : Room k A) : A.units + 1 < cLine := by
  have := r.units
  omega
/-- k in a dict made in the call -/
theorem op_in_dK (hu : X.A.units + 1 < cLine) : OpR X (compareOp .In) (fun x y H Q => ∃ (z : Str) (a : Addr) (ks : List (Key × V)), x = .str z ∧ y = .ref a ∧ H a = some (.dK ks) ∧ Q (.bl (valV ks (.inr z)).isSome) H) := by
  intro pins s σ H x y v u Q I rx ry h
  obtain ⟨z, a, ks, rfl, rfl, e, q⟩ := h
  cases ry
  exact d_in hu I (DGet.k (k := .inr z) e) rx fun s' I' => ⟨.bl _, H, I', rfl, q⟩
theorem op_notIn_dK (hu : X.A.units + 1 < cLine) : OpR X (compareOp .NotIn) (fun x y H Q => ∃ (z : Str) (a : Addr) (ks : List (Key × V)), x = .str z ∧ y = .ref a ∧ H a = some (.dK ks) ∧ Q (.bl (!(valV ks (.inr z)).isSome)) H) := by
  intro pins s σ H x y v u Q I rx ry h
  obtain ⟨z, a, ks, rfl, rfl, e, q⟩ := h
  cases ry
  exact d_notIn hu I (DGet.k (k := .inr z) e) rx fun s' I' => ⟨.bl _, H, I', rfl, q⟩
end
end SX
namespace SX
open PySem PySem.Spec PyProof.Rows L2
/-! l == [[]], l a list of lists -/
/-- the lists at ls hold xss -/
def LsAt (H : Hp) : List Addr → List (List V) → Prop
  | [], [] => True
  | r :: ls, xs :: xss => H r = some (.lst xs) ∧ LsAt H ls xss
  | _, _ => False
theorem LsAt.len {H : Hp} : ∀ {ls : List Addr} {xss : List (List V)}, LsAt H ls xss → ls.length = xss.length
  | [], [], _ => rfl
  | [], _ :: _, h => (show False from h).elim
  | _ :: _, [], h => (show False from h).elim
  | _ :: _, _ :: _, h => congrArg (· + 1) (LsAt.len h.2)
section
variable {X : Cx}
def rEqNest : R2 := fun x y H Q => ∃ (a b c : Addr) (ls : List Addr) (xss : List (List V)), x = .ref a ∧ y = .ref b ∧ H a = some (.lst (ls.map V.ref)) ∧ LsAt H ls xss ∧ H b = some (.lst [.ref c]) ∧ H c = some (.lst []) ∧ Q (.bl (decide (xss = [[]]))) H
theorem op_eqNest (hu : X.A.units + 64 < cLine) : OpR X (compareOp .Eq) rEqNest := by
  intro pins s σ H x y v u Q I rx ry h
  obtain ⟨a, b, c, ls, xss, rfl, rfl, ha, hls, hb, hc, q⟩ := h
  cases (show v = Value.ref a from rx)
  cases (show u = Value.ref b from ry)
  obtain ⟨us, r1, p1, _⟩ := I.list (SqL.of ha)
  obtain ⟨ws, r2, p2, _⟩ := I.list (SqL.of hb)
  have l1 : us.length = ls.length := by rw [← r1.length, List.length_map]
  have l2 : ws.length = 1 := by rw [← r2.length]; rfl
  have hl := hls.len
  by_cases h1 : ls.length = 1
  · match ls, xss, hls, h1, r1, l1, hl with
    | [r], [xs], hls, _, r1, l1, _ =>
      obtain ⟨hr, _⟩ := hls
      obtain ⟨u0, rfl, ra⟩ := r1.one
      obtain ⟨w0, rfl, rb⟩ := r2.one
      cases (show u0 = Value.ref r from ra)
      cases (show w0 = Value.ref c from rb)
      have he : SeqAt.EqAt X.A.in1 s (.ref r) (.ref c) (decide (xs = [])) := by
        by_cases e : r = c
        · subst e
          rw [hc] at hr
          cases hr
          rw [decide_eq_true rfl]
          exact SeqAt.EqAt.same _
        · obtain ⟨us2, r3, p3, _⟩ := I.list (SqL.of hr)
          obtain ⟨ws2, r4, p4, _⟩ := I.list (SqL.of hc)
          cases r4
          by_cases hx : xs = []
          · subst hx
            cases r3
            rw [decide_eq_true rfl]
            exact SeqAt.EqAt.of_refs e (SeqAt.RcAt.lists (e := fun _ => true) p3.isList p4.isList rfl (by show X.A.units + 1 < cLine; omega) fun j h1 h2 => absurd h1 (Nat.not_lt_zero _))
          · have : us2.toArray.size ≠ 0 := by
              rw [List.size_toArray, ← r3.length]
              exact fun h => hx (List.length_eq_zero_iff.mp h)
            rw [decide_eq_false hx]
            exact SeqAt.EqAt.of_refs e (SeqAt.RcAt.lists_lengths p3.isList p4.isList (by simpa using this) (by show X.A.units + 1 < cLine; omega))
      have fin := SeqAt.RcAt.lists (e := fun _ => decide (xs = [])) p1.isList p2.isList rfl (show X.A.units < cLine by omega) fun j h1 h2 => by
        have : j = 0 := by simpa using h1
        subst this
        exact he
      refine fin _ _ _ _ ⟨.bl (decide ([xs] = [[]])), H, I, ?_, q⟩
      show Value.bool _ = Value.bool _
      congr 1
      simp
  · have ne : (us.toArray.size != ws.toArray.size) = true := by
      rw [List.size_toArray, List.size_toArray, l1, l2]
      simpa using h1
    refine SeqAt.RcAt.lists_lengths p1.isList p2.isList ne (by omega) _ _ _ _ ⟨.bl false, H, I, rfl, ?_⟩
    have : decide (xss = [[]]) = false := decide_eq_false fun h => h1 (by rw [hl, h]; rfl)
    rw [this] at q
    exact q
end
end SX
/-! A layer over the readings: data without the heap. Part 1: data, how values hold them, what stands in the slots. -/
namespace DL
open PySem PySem.Spec PyProof.Rows L2
abbrev St := L2.St
/-- data: what is never changed any more -/
inductive D where
  | non | bl (b : Bool) | int (i : Int) | str (x : Str) | ty (n : String) | fn (a : Addr) | scr (ns : List Int)
  | tup (l : List D) | lst (l : List D) | dct (l : List (Key × D)) | obj (C : Addr) (fs : List (Str × D))
/-- the part F of the heap is kept for good; v holds d in it -/
inductive Dr (K : PySem.W.Frag) (F : Hp) : V → D → Prop
  | non : Dr K F .non .non
  | bl (b : Bool) : Dr K F (.bl b) (.bl b)
  | int (i : Int) : Dr K F (.int i) (.int i)
  | str (x : Str) : Dr K F (.str x) (.str x)
  | ty (n : String) : Dr K F (.ty n) (.ty n)
  | fn (a : Addr) : Dr K F (.ref a) (.fn a)
  | scr {a : Addr} {ns : List Int} (e : SqL K F a (ns.map V.int)) : Dr K F (.ref a) (.scr ns)
  | tup {a : Addr} {xs : List V} {ds : List D} (e : SqT K F a xs) (hl : xs.length = ds.length) (h : ∀ (i : Nat) (v : V) (d : D), xs[i]? = some v → ds[i]? = some d → Dr K F v d) : Dr K F (.ref a) (.tup ds)
  | lst {a : Addr} {xs : List V} {ds : List D} (e : F a = some (.lst xs)) (hl : xs.length = ds.length) (h : ∀ (i : Nat) (v : V) (d : D), xs[i]? = some v → ds[i]? = some d → Dr K F v d) : Dr K F (.ref a) (.lst ds)
  | dct {a : Addr} {xs : List (Key × V)} {ds : List (Key × D)} (e : F a = some (.dK xs)) (hk : xs.map (·.1) = ds.map (·.1)) (h : ∀ (i : Nat) (v : Key × V) (d : Key × D), xs[i]? = some v → ds[i]? = some d → Dr K F v.2 d.2) : Dr K F (.ref a) (.dct ds)
  | obj {a C dx : Addr} {xs : List (Str × V)} {ds : List (Str × D)} (e : F a = some (.ins C dx xs)) (hk : xs.map (·.1) = ds.map (·.1)) (h : ∀ (i : Nat) (v : Str × V) (d : Str × D), xs[i]? = some v → ds[i]? = some d → Dr K F v.2 d.2) : Dr K F (.ref a) (.obj C ds)
/-- the values hold the data -/
def DA (K : PySem.W.Frag) (F : Hp) (xs : List V) (ds : List D) : Prop := xs.length = ds.length ∧ ∀ (i : Nat) (v : V) (d : D), xs[i]? = some v → ds[i]? = some d → Dr K F v d
/-- the pairs of a dict hold .. -/
def DM {κ : Type} (K : PySem.W.Frag) (F : Hp) (xs : List (κ × V)) (ds : List (κ × D)) : Prop := xs.map (·.1) = ds.map (·.1) ∧ ∀ (i : Nat) (v : κ × V) (d : κ × D), xs[i]? = some v → ds[i]? = some d → Dr K F v.2 d.2
section
variable {K : PySem.W.Frag} {F F' : Hp}
theorem sqT_same {a : Addr} {xs : List V} (s : Same F F') (h : SqT K F a xs) : SqT K F' a xs := by
  rcases h with (h | ⟨o, h⟩) | h
  · exact .inl (.inl (s _ _ h))
  · exact .inl (.inr ⟨o, s _ _ h⟩)
  · exact .inr h
theorem sqL_same {a : Addr} {xs : List V} (s : Same F F') (h : SqL K F a xs) : SqL K F' a xs := Same.seq s h
theorem Dr.up (s : Same F F') {v : V} {d : D} (h : Dr K F v d) : Dr K F' v d := by
  induction h with
  | non => exact .non
  | bl b => exact .bl b
  | int i => exact .int i
  | str x => exact .str x
  | ty n => exact .ty n
  | fn a => exact .fn a
  | scr e => exact .scr (sqL_same s e)
  | tup e hl _ ih => exact .tup (sqT_same s e) hl ih
  | lst e hl _ ih => exact .lst (s _ _ e) hl ih
  | dct e hk _ ih => exact .dct (s _ _ e) hk ih
  | obj e hk _ ih => exact .obj (s _ _ e) hk ih
theorem DA.up (s : Same F F') {xs : List V} {ds : List D} (h : DA K F xs ds) : DA K F' xs ds := ⟨h.1, fun i v d a b => (h.2 i v d a b).up s⟩
theorem DM.up {κ : Type} (s : Same F F') {xs : List (κ × V)} {ds : List (κ × D)} (h : DM K F xs ds) : DM K F' xs ds := ⟨h.1, fun i v d a b => (h.2 i v d a b).up s⟩
theorem DA.nil : DA K F [] [] := ⟨rfl, fun i v d h => (nomatch h)⟩
theorem DA.cons {v : V} {d : D} {xs : List V} {ds : List D} (h : Dr K F v d) (t : DA K F xs ds) : DA K F (v :: xs) (d :: ds) :=
  ⟨congrArg Nat.succ t.1, fun i u e a b => match i, a, b with
    | 0, a, b => by cases a; cases b; exact h
    | i + 1, a, b => t.2 i u e a b⟩
theorem DA.one {v : V} {d : D} (h : Dr K F v d) : DA K F [v] [d] := .cons h .nil
theorem DA.inv_nil {xs : List V} (h : DA K F xs []) : xs = [] := List.length_eq_zero_iff.mp h.1
theorem DA.inv {d : D} {xs : List V} {ds : List D} (h : DA K F xs (d :: ds)) : ∃ v r, xs = v :: r ∧ Dr K F v d ∧ DA K F r ds := by
  cases xs with
  | nil => cases h.1
  | cons v r => exact ⟨v, r, rfl, h.2 0 v d rfl rfl, Nat.succ.inj h.1, fun i u e a b => h.2 (i + 1) u e a b⟩
theorem DA.app {xs ys : List V} {ds es : List D} (h : DA K F xs ds) (t : DA K F ys es) : DA K F (xs ++ ys) (ds ++ es) := by
  refine ⟨by rw [List.length_append, List.length_append, h.1, t.1], fun i u e a b => ?_⟩
  by_cases hi : i < xs.length
  · rw [List.getElem?_append_left hi] at a
    rw [List.getElem?_append_left (by have := h.1; omega)] at b
    exact h.2 i u e a b
  · rw [List.getElem?_append_right (by omega)] at a
    rw [List.getElem?_append_right (by have := h.1; omega), ← h.1] at b
    exact t.2 _ u e a b
theorem DA.get {xs : List V} {ds : List D} (h : DA K F xs ds) {i : Nat} {d : D} (e : ds[i]? = some d) : ∃ v, xs[i]? = some v ∧ Dr K F v d := by
  have hi : i < ds.length := (List.getElem?_eq_some_iff.mp e).1
  have g := List.getElem?_eq_getElem (show i < xs.length by rw [h.1]; exact hi)
  exact ⟨_, g, h.2 i _ d g e⟩
theorem DA.getV {xs : List V} {ds : List D} (h : DA K F xs ds) {i : Nat} {v : V} (e : xs[i]? = some v) : ∃ d, ds[i]? = some d ∧ Dr K F v d := by
  have hi : i < xs.length := (List.getElem?_eq_some_iff.mp e).1
  have g := List.getElem?_eq_getElem (show i < ds.length by rw [← h.1]; exact hi)
  exact ⟨_, g, h.2 i v _ e g⟩
theorem DA.atI {xs : List V} {ds : List D} (h : DA K F xs ds) {i : Int} {d : D} (e : L2.atI ds i = some d) : ∃ v, L2.atI xs i = some v ∧ Dr K F v d := by
  unfold L2.atI at e ⊢
  rw [h.1]
  cases q : ixN ds.length i with
  | none => rw [q] at e; cases e
  | some j =>
    rw [q] at e
    obtain ⟨v, h1, h2⟩ := h.get (show ds[j]? = some d from e)
    exact ⟨v, h1, h2⟩
theorem DA.take {xs : List V} {ds : List D} (h : DA K F xs ds) (n : Nat) : DA K F (xs.take n) (ds.take n) := by
  refine ⟨by rw [List.length_take, List.length_take, h.1], fun i u e a b => ?_⟩
  rw [List.getElem?_take] at a b
  split at a
  · rename_i hi
    rw [if_pos hi] at b
    exact h.2 i u e a b
  · cases a
theorem DA.drop {xs : List V} {ds : List D} (h : DA K F xs ds) (n : Nat) : DA K F (xs.drop n) (ds.drop n) := by
  refine ⟨by rw [List.length_drop, List.length_drop, h.1], fun i u e a b => ?_⟩
  rw [List.getElem?_drop] at a b
  exact h.2 _ u e a b
theorem DA.set {xs : List V} {ds : List D} (h : DA K F xs ds) {n : Nat} {v : V} {d : D} (hd : Dr K F v d) : DA K F (xs.set n v) (ds.set n d) := by
  refine ⟨by rw [List.length_set, List.length_set, h.1], fun i u e a b => ?_⟩
  by_cases hi : n = i
  · subst hi
    have hl : n < xs.length := by
      rcases Nat.lt_or_ge n xs.length with z | z
      · exact z
      · rw [List.getElem?_eq_none (by rw [List.length_set]; exact z)] at a
        cases a
    rw [List.getElem?_set_self hl] at a
    rw [List.getElem?_set_self (by rw [← h.1]; exact hl)] at b
    cases a
    cases b
    exact hd
  · rw [List.getElem?_set_ne hi] at a b
    exact h.2 i u e a b
theorem DA.rev {xs : List V} {ds : List D} (h : DA K F xs ds) : DA K F xs.reverse ds.reverse := by
  refine ⟨by rw [List.length_reverse, List.length_reverse, h.1], fun i u e a b => ?_⟩
  have hi : i < xs.length := by
    have := (List.getElem?_eq_some_iff.mp a).1
    rwa [List.length_reverse] at this
  rw [List.getElem?_reverse hi] at a
  rw [List.getElem?_reverse (by rw [← h.1]; exact hi), ← h.1] at b
  exact h.2 _ u e a b
theorem DA.dropLast {xs : List V} {ds : List D} (h : DA K F xs ds) : DA K F xs.dropLast ds.dropLast := by
  rw [List.dropLast_eq_take, List.dropLast_eq_take, h.1]
  exact h.take _
theorem Dr.inv_tup {v : V} {ds : List D} (h : Dr K F v (.tup ds)) : ∃ a xs, v = .ref a ∧ SqT K F a xs ∧ DA K F xs ds := by
  cases h with | tup e hl h => exact ⟨_, _, rfl, e, hl, h⟩
theorem Dr.inv_lst {v : V} {ds : List D} (h : Dr K F v (.lst ds)) : ∃ a xs, v = .ref a ∧ F a = some (.lst xs) ∧ DA K F xs ds := by
  cases h with | lst e hl h => exact ⟨_, _, rfl, e, hl, h⟩
theorem Dr.inv_dct {v : V} {ds : List (Key × D)} (h : Dr K F v (.dct ds)) : ∃ a xs, v = .ref a ∧ F a = some (.dK xs) ∧ DM K F xs ds := by
  cases h with | dct e hk h => exact ⟨_, _, rfl, e, hk, h⟩
theorem Dr.inv_obj {v : V} {C : Addr} {ds : List (Str × D)} (h : Dr K F v (.obj C ds)) : ∃ a dx xs, v = .ref a ∧ F a = some (.ins C dx xs) ∧ DM K F xs ds := by
  cases h with | obj e hk h => exact ⟨_, _, _, rfl, e, hk, h⟩
theorem Dr.inv_scr {v : V} {ns : List Int} (h : Dr K F v (.scr ns)) : ∃ a, v = .ref a ∧ SqL K F a (ns.map V.int) := by
  cases h with | scr e => exact ⟨_, rfl, e⟩
theorem Dr.inv_int {v : V} {i : Int} (h : Dr K F v (.int i)) : v = .int i := by cases h; rfl
theorem Dr.inv_bl {v : V} {i : Bool} (h : Dr K F v (.bl i)) : v = .bl i := by cases h; rfl
theorem Dr.inv_str {v : V} {i : Str} (h : Dr K F v (.str i)) : v = .str i := by cases h; rfl
theorem Dr.inv_non {v : V} (h : Dr K F v .non) : v = .non := by cases h; rfl
theorem Dr.inv_ty {v : V} {n : String} (h : Dr K F v (.ty n)) : v = .ty n := by cases h; rfl
theorem Dr.inv_fn {v : V} {a : Addr} (h : Dr K F v (.fn a)) : v = .ref a := by cases h; rfl
/-! ### dicts -/
def valD {κ : Type} [DecidableEq κ] (kvs : List (κ × D)) (k : κ) : Option D := (kvs.find? fun kv => decide (kv.1 = k)).map (·.2)
def putD {κ : Type} [DecidableEq κ] (kvs : List (κ × D)) (k : κ) (v : D) : List (κ × D) :=
  if (kvs.any fun kv => decide (kv.1 = k)) = true then kvs.map (fun kv => if kv.1 = k then (kv.1, v) else kv) else kvs ++ [(k, v)]
theorem DM.nil {κ : Type} : DM K F ([] : List (κ × V)) [] := ⟨rfl, fun i v d h => (nomatch h)⟩
theorem DM.cons {κ : Type} {k : κ} {v : V} {d : D} {xs : List (κ × V)} {ds : List (κ × D)} (h : Dr K F v d) (t : DM K F xs ds) : DM K F ((k, v) :: xs) ((k, d) :: ds) :=
  ⟨by rw [List.map_cons, List.map_cons, t.1], fun i u e a b => match i, a, b with
    | 0, a, b => by cases a; cases b; exact h
    | i + 1, a, b => t.2 i u e a b⟩
theorem DM.len {κ : Type} {xs : List (κ × V)} {ds : List (κ × D)} (h : DM K F xs ds) : xs.length = ds.length := by
  have := congrArg List.length h.1
  rwa [List.length_map, List.length_map] at this
theorem DM.inv {κ : Type} {p : κ × D} {xs : List (κ × V)} {ds : List (κ × D)} (h : DM K F xs (p :: ds)) : ∃ v r, xs = (p.1, v) :: r ∧ Dr K F v p.2 ∧ DM K F r ds := by
  cases xs with
  | nil => have := h.1; cases this
  | cons v r =>
    obtain ⟨k, v⟩ := v
    have h1 := h.1
    rw [List.map_cons, List.map_cons] at h1
    injection h1 with h1 h2
    have h1' : k = p.1 := h1
    subst h1'
    exact ⟨v, r, rfl, h.2 0 _ p rfl rfl, h2, fun i u e a b => h.2 (i + 1) u e a b⟩
theorem DM.val {κ : Type} [DecidableEq κ] {k : κ} : ∀ {xs : List (κ × V)} {ds : List (κ × D)}, DM K F xs ds → match valD ds k with
    | none => valV xs k = none
    | some d => ∃ v, valV xs k = some v ∧ Dr K F v d
  | xs, [], h => by
    have e : xs = [] := by have := h.len; exact List.length_eq_zero_iff.mp this
    rw [e]
    rfl
  | xs, p :: ds, h => by
    obtain ⟨v, r, rfl, hd, t⟩ := h.inv
    by_cases e : p.1 = k
    · have e1 : valD (p :: ds) k = some p.2 := by simp [valD, List.find?_cons, e]
      rw [e1]
      exact ⟨v, valV_pos e, hd⟩
    · have e1 : valD (p :: ds) k = valD ds k := by simp [valD, List.find?_cons, e]
      rw [e1, valV_neg (p := (p.1, v)) e]
      exact DM.val t
theorem DM.app {κ : Type} {xs ys : List (κ × V)} {ds es : List (κ × D)} (h : DM K F xs ds) (t : DM K F ys es) : DM K F (xs ++ ys) (ds ++ es) := by
  refine ⟨by rw [List.map_append, List.map_append, h.1, t.1], fun i u e a b => ?_⟩
  have hl := h.len
  by_cases hi : i < xs.length
  · rw [List.getElem?_append_left hi] at a
    rw [List.getElem?_append_left (by omega)] at b
    exact h.2 i u e a b
  · rw [List.getElem?_append_right (by omega)] at a
    rw [List.getElem?_append_right (by omega), ← hl] at b
    exact t.2 _ u e a b
theorem any_key {κ : Type} [DecidableEq κ] {α β : Type} {k : κ} : ∀ {xs : List (κ × α)} {ds : List (κ × β)}, xs.map (·.1) = ds.map (·.1) → (xs.any fun kv => decide (kv.1 = k)) = (ds.any fun kv => decide (kv.1 = k))
  | [], [], _ => rfl
  | [], _ :: _, h => by cases h
  | _ :: _, [], h => by cases h
  | x :: xs, d :: ds, h => by
    rw [List.map_cons, List.map_cons] at h
    injection h with h1 h2
    have h1' : x.1 = d.1 := h1
    rw [List.any_cons, List.any_cons, any_key h2, h1']
theorem DM.put {κ : Type} [DecidableEq κ] {k : κ} {v : V} {d : D} {xs : List (κ × V)} {ds : List (κ × D)} (h : DM K F xs ds) (hd : Dr K F v d) : DM K F (putK xs k v) (putD ds k d) := by
  unfold putK putD
  rw [any_key h.1]
  split
  · refine ⟨?_, fun i u e a b => ?_⟩
    · rw [List.map_map, List.map_map]
      have e1 : ((fun x : κ × V => x.1) ∘ fun kv : κ × V => if kv.1 = k then (kv.1, v) else kv) = fun x => x.1 := by
        funext x
        show (if x.1 = k then (x.1, v) else x).1 = x.1
        split <;> rfl
      have e2 : ((fun x : κ × D => x.1) ∘ fun kv : κ × D => if kv.1 = k then (kv.1, d) else kv) = fun x => x.1 := by
        funext x
        show (if x.1 = k then (x.1, d) else x).1 = x.1
        split <;> rfl
      rw [e1, e2]
      exact h.1
    · rw [List.getElem?_map] at a b
      obtain ⟨x, hx, rfl⟩ := Option.map_eq_some_iff.mp a
      obtain ⟨y, hy, rfl⟩ := Option.map_eq_some_iff.mp b
      have hk : x.1 = y.1 := by
        have := congrArg (fun l => l[i]?) h.1
        simp only [List.getElem?_map, hx, hy, Option.map_some] at this
        exact Option.some.inj this
      by_cases e : y.1 = k
      · rw [if_pos (hk.trans e), if_pos e]
        exact hd
      · rw [if_neg (by rw [hk]; exact e), if_neg e]
        exact h.2 i x y hx hy
  · exact h.app (.cons hd .nil)
theorem putD_len {κ : Type} [DecidableEq κ] (ds : List (κ × D)) (k : κ) (d : D) : (putD ds k d).length ≤ ds.length + 1 := by
  unfold putD
  split
  · rw [List.length_map]; omega
  · rw [List.length_append]; exact Nat.le_refl _
end
end DL
/-! Part 2: the slots' contents, what a reading comes to over them. -/
namespace DL
open PySem PySem.Spec PyProof.Rows L2
/-- what a slot holds: data, or a thing of one's own that may change: a list, a dict, a draw -/
inductive OV where
  | d (x : D) | l (ds : List D) | m (ks : List (Key × D)) | draw
def OV.own : OV → Bool
  | .d _ => false
  | _ => true
abbrev Env := List (Option OV)
/-- the def's entry: the heap, its kept part, the arguments, which addresses are handed in to be changed -/
structure Bs where
  H0 : Hp
  F0 : Hp
  vs : List V
  O : Addr → Prop
def DrawIn (F H : Hp) (p : Addr) : Prop := ∃ (sc : Addr) (ns : List Int) (i : Nat) (b s : Int), H p = some (.lst [.ref sc, .int (i : Nat), .int b, .int s]) ∧ F sc = some (.lst (ns.map V.int)) ∧ ns.length ≤ 63 ∧ 0 ≤ b ∧ 0 ≤ s ∧ s < 2147483648
/-- the own thing o stands at p -/
def At (K : PySem.W.Frag) (F H : Hp) (p : Addr) : OV → Prop
  | .d _ => False
  | .l ds => ∃ xs, H p = some (.lst xs) ∧ DA K F xs ds
  | .m ks => ∃ xs, H p = some (.dK xs) ∧ DM K F xs ks
  | .draw => DrawIn F H p
def Ok (K : PySem.W.Frag) (b : Bs) (F H : Hp) (v : V) (o : OV) : Prop :=
  match o with
  | .d x => Dr K F v x
  | o => ∃ p, v = .ref p ∧ F p = none ∧ (b.H0 p = none ∨ b.O p) ∧ At K F H p o
/-- no table of code objects -/
def NT (o : HO) : Prop := ∀ t, o ≠ .tbl t
/-- the tables of code objects that may grow -/
class Tbs where
  T : List (Addr × Str)
  /-- what stays for good -/
  B : Hp
/-- the kept part has grown from these two -/
structure Gr [Tbs] (A F : Hp) : Prop where
  a : Same A F
  b : Same Tbs.B F
theorem Gr.trans [Tbs] {A F F' : Hp} (g : Gr A F) (s : Same F F') : Gr A F' := ⟨g.a.trans s, g.b.trans s⟩
theorem tabs_but {T : List (Addr × Str)} {H H' : Hp} {p : Addr} {u : HO} (t : LamX.Tabs T H) (e : H p = some u) (n1 : NT u) (n2 : ∀ c q, u ≠ LamX.CodeO c q) (hs : ∀ a u, a ≠ p → H a = some u → H' a = some u) : LamX.Tabs T H' := by
  intro x hx
  obtain ⟨ps, h1, h2, h3⟩ := t x hx
  refine ⟨ps, hs _ _ (fun z => ?_) h1, h2, fun pos cv hc => ?_⟩
  · rw [z, e] at h1
    exact n1 _ (Option.some.inj h1)
  · obtain ⟨c, e1, e2⟩ := h3 pos cv hc
    refine ⟨c, e1, hs _ _ (fun z => ?_) e2⟩
    rw [z, e] at e2
    exact n2 _ _ (Option.some.inj e2)
theorem lst_nc (xs : List V) (c : Addr) (q : Str) : (HO.lst xs) ≠ LamX.CodeO c q := fun z => by
  unfold LamX.CodeO at z
  cases z
theorem dK_nc (xs : List (Key × V)) (c : Addr) (q : Str) : (HO.dK xs) ≠ LamX.CodeO c q := fun z => by
  unfold LamX.CodeO at z
  cases z
structure Rep [Tbs] (K : PySem.W.Frag) (ps : List Nat) (b : Bs) (σ : St) (H F : Hp) (ρ : Env) : Prop where
  sub : ∀ a o, F a = some o → H a = some o
  grow : Gr b.F0 F
  keep : ∀ a o, b.H0 a = some o → ¬ b.O a → NT o → H a = some o
  there : ∀ a, b.O a → ∃ o, H a = some o
  new : ∀ a o, F a = some o → b.F0 a = some o ∨ b.H0 a = none ∨ b.O a
  slot : ∀ (i : Nat) o, ρ[i]? = some (some o) → ∃ v, σ[i]? = some (some v) ∧ Ok K b F H v o
  apart : ∀ (i j : Nat) o u v, i ≠ j → ρ[i]? = some (some o) → o.own = true → ρ[j]? = some (some u) → u.own = true → σ[i]? = some (some v) → σ[j]? ≠ some (some v)
  len : ρ.length = σ.length
  pin : ∀ i ∈ ps, ∃ v, σ[i]? = some (some v) ∧ b.vs[i]? = some v
  nt : ∀ a o, F a = some o → NT o
  dom : ∀ a o, b.H0 a = some o → ∃ o', H a = some o'
  tabs : LamX.Tabs Tbs.T H
section
variable [Tbs] {K : PySem.W.Frag} {ps : List Nat} {b : Bs} {σ : St} {H F : Hp} {ρ : Env}
theorem At.kind {p : Addr} {o : OV} (h : At K F H p o) : ∃ u, H p = some u ∧ NT u ∧ ∀ c q, u ≠ LamX.CodeO c q := by
  cases o with
  | d _ => exact h.elim
  | l ds => obtain ⟨xs, e, _⟩ := h; exact ⟨_, e, (fun t z => by cases z), lst_nc _⟩
  | m ks => obtain ⟨xs, e, _⟩ := h; exact ⟨_, e, (fun t z => by cases z), dK_nc _⟩
  | draw => obtain ⟨_, _, _, _, _, e, _⟩ := h; exact ⟨_, e, (fun t z => by cases z), lst_nc _⟩
theorem At.ex {p : Addr} {o : OV} (h : At K F H p o) : ∃ u, H p = some u := by
  cases o with
  | d _ => exact h.elim
  | l ds => obtain ⟨xs, e, _⟩ := h; exact ⟨_, e⟩
  | m ks => obtain ⟨xs, e, _⟩ := h; exact ⟨_, e⟩
  | draw => obtain ⟨_, _, _, _, _, e, _⟩ := h; exact ⟨_, e⟩
theorem At.up {F' H' : Hp} {p : Addr} {o : OV} (h : At K F H p o) (s : Same F F') (e : H' p = H p) : At K F' H' p o := by
  cases o with
  | d _ => exact h.elim
  | l ds => obtain ⟨xs, h1, h2⟩ := h; exact ⟨xs, e.trans h1, h2.up s⟩
  | m ks => obtain ⟨xs, h1, h2⟩ := h; exact ⟨xs, e.trans h1, h2.up s⟩
  | draw => obtain ⟨sc, ns, i, x, y, h1, h2, h3⟩ := h; exact ⟨sc, ns, i, x, y, e.trans h1, s _ _ h2, h3⟩
theorem Ok.mk {v : V} {o : OV} {p : Addr} (hv : v = .ref p) (ho : o.own = true) (hF : F p = none) (hb : b.H0 p = none ∨ b.O p) (h : At K F H p o) : Ok K b F H v o := by
  cases o with
  | d _ => cases ho
  | l ds => exact ⟨p, hv, hF, hb, h⟩
  | m ks => exact ⟨p, hv, hF, hb, h⟩
  | draw => exact ⟨p, hv, hF, hb, h⟩
theorem Ok.inv {v : V} {o : OV} (h : Ok K b F H v o) (ho : o.own = true) : ∃ p, v = .ref p ∧ F p = none ∧ (b.H0 p = none ∨ b.O p) ∧ At K F H p o := by
  cases o with
  | d _ => cases ho
  | l ds => exact h
  | m ks => exact h
  | draw => exact h
/-- the heap has grown, also in its kept part; the own things are as they were -/
theorem Ok.up {F' H' : Hp} {v : V} {o : OV} (h : Ok K b F H v o) (s : Same F F') (e : ∀ p, v = .ref p → o.own = true → F' p = none ∧ H' p = H p) : Ok K b F' H' v o := by
  by_cases ho : o.own = true
  · obtain ⟨p, hv, hF, hb, ha⟩ := h.inv ho
    obtain ⟨e1, e2⟩ := e p hv ho
    exact .mk hv ho e1 hb (ha.up s e2)
  · cases o with
    | d x => exact Dr.up s h
    | _ => exact absurd rfl ho
theorem nt_upd {F : Hp} {p : Addr} {u : HO} (h : ∀ a o, F a = some o → NT o) (hu : NT u) : ∀ a o, upd F p u a = some o → NT o := fun a o e => by
  by_cases ha : a = p
  · subst ha
    rw [upd_same] at e
    cases e
    exact hu
  · rw [upd_ne ha] at e
    exact h a o e
theorem Rep.fresh (R : Rep K ps b σ H F ρ) {p : Addr} (h : H p = none) : F p = none ∧ b.H0 p = none ∧ ¬ b.O p := by
  have n1 : ¬ b.O p := fun z => by
    obtain ⟨o, e⟩ := R.there p z
    rw [h] at e
    cases e
  refine ⟨?_, ?_, n1⟩
  · cases e : F p with
    | none => rfl
    | some o => rw [R.sub _ _ e] at h; cases h
  · cases e : b.H0 p with
    | none => rfl
    | some o =>
      obtain ⟨o', e'⟩ := R.dom _ _ e
      rw [e'] at h
      cases h
/-- the heap has grown; the kept part may have grown by new things -/
theorem Rep.grown {H' F' : Hp} (R : Rep K ps b σ H F ρ) (hs : Same H H') (fs : Same F F') (sub : ∀ a o, F' a = some o → H' a = some o) (new : ∀ a o, F' a = some o → F a = some o ∨ H a = none) (nn : ∀ a o, F' a = some o → F a = some o ∨ NT o) : Rep K ps b σ H' F' ρ where
  nt := fun a o e => (nn a o e).elim (R.nt a o) id
  dom := fun a o e => by
    obtain ⟨o', e'⟩ := R.dom a o e
    exact ⟨o', hs _ _ e'⟩
  tabs := R.tabs.ext hs
  sub := sub
  grow := R.grow.trans fs
  keep := fun a o e n z => hs _ _ (R.keep a o e n z)
  there := fun a h => by
    obtain ⟨o, e⟩ := R.there a h
    exact ⟨o, hs _ _ e⟩
  new := fun a o e => by
    rcases new a o e with h | h
    · exact R.new a o h
    · exact .inr (.inl (R.fresh h).2.1)
  slot := fun i o e => by
    obtain ⟨v, h1, h2⟩ := R.slot i o e
    refine ⟨v, h1, h2.up fs fun p hv ho => ?_⟩
    obtain ⟨q, hq, hF, _, ha⟩ := h2.inv ho
    rw [hv] at hq
    cases hq
    obtain ⟨u, eu⟩ := ha.ex
    refine ⟨?_, (hs _ _ eu).trans eu.symm⟩
    cases e' : F' p with
    | none => rfl
    | some o' =>
      rcases new p o' e' with h | h
      · rw [hF] at h; cases h
      · rw [eu] at h; cases h
  apart := R.apart
  len := R.len
  pin := R.pin
/-- .. also the tables -/
theorem Rep.grownT {H' F' : Hp} (R : Rep K ps b σ H F ρ) (hs : ∀ a o, H a = some o → NT o → H' a = some o) (th : ∀ a o, H a = some o → ∃ o', H' a = some o') (fs : Same F F') (sub : ∀ a o, F' a = some o → H' a = some o) (new : ∀ a o, F' a = some o → F a = some o ∨ H a = none) (nn : ∀ a o, F' a = some o → NT o) (tb : LamX.Tabs Tbs.T H') : Rep K ps b σ H' F' ρ where
  nt := nn
  dom := fun a o e => by
    obtain ⟨o', e'⟩ := R.dom a o e
    exact th _ _ e'
  tabs := tb
  sub := sub
  grow := R.grow.trans fs
  keep := fun a o e n z => hs _ _ (R.keep a o e n z) z
  there := fun a h => by
    obtain ⟨o, e⟩ := R.there a h
    exact th _ _ e
  new := fun a o e => by
    rcases new a o e with h | h
    · exact R.new a o h
    · exact .inr (.inl (R.fresh h).2.1)
  slot := fun i o e => by
    obtain ⟨v, h1, h2⟩ := R.slot i o e
    refine ⟨v, h1, h2.up fs fun p hv ho => ?_⟩
    obtain ⟨q, hq, hF, _, ha⟩ := h2.inv ho
    rw [hv] at hq
    cases hq
    obtain ⟨u, eu, nu, _⟩ := ha.kind
    refine ⟨?_, (hs _ _ eu nu).trans eu.symm⟩
    cases e' : F' p with
    | none => rfl
    | some o' =>
      rcases new p o' e' with h | h
      · rw [hF] at h; cases h
      · rw [eu] at h; cases h
  apart := R.apart
  len := R.len
  pin := R.pin
/-- a new kept thing -/
theorem Rep.alloc (R : Rep K ps b σ H F ρ) {p : Addr} {o : HO} (h : H p = none) (hn : NT o := by intro t z; cases z) : Rep K ps b σ (upd H p o) (upd F p o) ρ := by
  obtain ⟨hF, _, _⟩ := R.fresh h
  refine R.grown (SX.same_upd h) (SX.same_upd hF) (fun a u e => ?_) (fun a u e => ?_) fun a u e => ?_
  · by_cases ha : a = p
    · subst ha
      rw [upd_same] at e ⊢
      exact e
    · rw [upd_ne ha] at e ⊢
      exact R.sub _ _ e
  · by_cases ha : a = p
    · subst ha
      exact .inr h
    · rw [upd_ne ha] at e
      exact .inl e
  · by_cases ha : a = p
    · subst ha
      rw [upd_same] at e
      cases e
      exact .inr hn
    · rw [upd_ne ha] at e
      exact .inl e
/-- a new thing that may change -/
theorem Rep.put (R : Rep K ps b σ H F ρ) {p : Addr} {o : HO} (h : H p = none) : Rep K ps b σ (upd H p o) F ρ := by
  obtain ⟨hF, _, _⟩ := R.fresh h
  refine R.grown (SX.same_upd h) (Same.refl F) (fun a u e => ?_) (fun a u e => .inl e) fun a u e => .inl e
  have ha : a ≠ p := fun z => by rw [z, hF] at e; cases e
  rw [upd_ne ha]
  exact R.sub _ _ e
/-- fewer slots told -/
theorem Rep.weak {ρ' : Env} (R : Rep K ps b σ H F ρ) (hl : ρ'.length = ρ.length) (h : ∀ (i : Nat) o, ρ'[i]? = some (some o) → ρ[i]? = some (some o)) : Rep K ps b σ H F ρ' :=
  ⟨R.sub, R.grow, R.keep, R.there, R.new, fun i o e => R.slot i o (h i o e), fun i j o u v n e1 o1 e2 o2 => R.apart i j o u v n (h i o e1) o1 (h j u e2) o2, hl.trans R.len, R.pin, R.nt, R.dom, R.tabs⟩
/-- p is none of the own things of the slots -/
def Loose (b : Bs) (σ : St) (F : Hp) (ρ : Env) (p : Addr) : Prop := F p = none ∧ b.H0 p = none ∧ ∀ (i : Nat) o, ρ[i]? = some (some o) → o.own = true → σ[i]? ≠ some (some (.ref p))
theorem Rep.loose (R : Rep K ps b σ H F ρ) {p : Addr} (h : H p = none) : Loose b σ F ρ p := by
  obtain ⟨hF, h0, _⟩ := R.fresh h
  refine ⟨hF, h0, fun i o e ho z => ?_⟩
  obtain ⟨v, h1, h2⟩ := R.slot i o e
  obtain ⟨q, hq, _, _, ha⟩ := h2.inv ho
  rw [h1] at z
  cases z
  cases hq
  obtain ⟨u, eu⟩ := ha.ex
  rw [h] at eu
  cases eu
theorem set_some {α : Type} {l : List (Option α)} {i j : Nat} {x : Option α} {y : α} (h : (l.set i x)[j]? = some (some y)) : (j = i ∧ x = some y) ∨ (j ≠ i ∧ l[j]? = some (some y)) := by
  by_cases hj : i = j
  · subst hj
    have hl : i < l.length := by
      rcases Nat.lt_or_ge i l.length with z | z
      · exact z
      · rw [List.getElem?_eq_none (by rw [List.length_set]; exact z)] at h
        cases h
    rw [List.getElem?_set_self hl] at h
    exact .inl ⟨rfl, Option.some.inj h⟩
  · rw [List.getElem?_set_ne hj] at h
    exact .inr ⟨fun z => hj z.symm, h⟩
/-- data into a slot -/
theorem Rep.setD (R : Rep K ps b σ H F ρ) {i : Nat} {v : V} {d : D} (hi : i ∉ ps) (h : Dr K F v d) : Rep K ps b (σ.set i (some v)) H F (ρ.set i (some (.d d))) where
  sub := R.sub
  grow := R.grow
  nt := R.nt
  dom := R.dom
  tabs := R.tabs
  keep := R.keep
  there := R.there
  new := R.new
  slot := fun j o e => by
    rcases set_some e with ⟨rfl, q1⟩ | ⟨n, q1⟩
    · cases q1
      have hl : j < σ.length := by
        have := (List.getElem?_eq_some_iff.mp e).1
        rw [List.length_set, R.len] at this
        exact this
      exact ⟨v, List.getElem?_set_self hl, h⟩
    · rw [List.getElem?_set_ne (Ne.symm n)]
      exact R.slot j o q1
  apart := fun j k o u w n e1 o1 e2 o2 s1 => by
    rcases set_some e1 with ⟨rfl, q1⟩ | ⟨n1, q1⟩
    · cases q1; cases o1
    · rcases set_some e2 with ⟨rfl, q2⟩ | ⟨n2, q2⟩
      · cases q2; cases o2
      · rw [List.getElem?_set_ne (Ne.symm n1)] at s1
        rw [List.getElem?_set_ne (Ne.symm n2)]
        exact R.apart j k o u w n q1 o1 q2 o2 s1
  len := by rw [List.length_set, List.length_set, R.len]
  pin := fun j hj => by
    rw [List.getElem?_set_ne (fun z => hi (by rw [z]; exact hj))]
    exact R.pin j hj
/-- a loose thing into a slot -/
theorem Rep.setO (R : Rep K ps b σ H F ρ) {i : Nat} {p : Addr} {o : OV} (hi : i ∉ ps) (ho : o.own = true) (hp : Loose b σ F ρ p) (h : At K F H p o) : Rep K ps b (σ.set i (some (.ref p))) H F (ρ.set i (some o)) where
  sub := R.sub
  grow := R.grow
  nt := R.nt
  dom := R.dom
  tabs := R.tabs
  keep := R.keep
  there := R.there
  new := R.new
  slot := fun j u e => by
    rcases set_some e with ⟨rfl, q1⟩ | ⟨n, q1⟩
    · cases q1
      have hl : j < σ.length := by
        have := (List.getElem?_eq_some_iff.mp e).1
        rw [List.length_set, R.len] at this
        exact this
      exact ⟨_, List.getElem?_set_self hl, .mk rfl ho hp.1 (.inl hp.2.1) h⟩
    · rw [List.getElem?_set_ne (Ne.symm n)]
      exact R.slot j u q1
  apart := fun j k u w z n e1 o1 e2 o2 s1 => by
    rcases set_some e1 with ⟨rfl, q1⟩ | ⟨n1, q1⟩
    · rcases set_some e2 with ⟨rfl, q2⟩ | ⟨n2, q2⟩
      · exact absurd rfl n
      · have hl : j < σ.length := by
          rcases Nat.lt_or_ge j σ.length with q | q
          · exact q
          · rw [List.getElem?_eq_none (by rw [List.length_set]; exact q)] at s1
            cases s1
        rw [List.getElem?_set_self hl] at s1
        cases s1
        rw [List.getElem?_set_ne (Ne.symm n2)]
        exact hp.2.2 k w q2 o2
    · rcases set_some e2 with ⟨rfl, q2⟩ | ⟨n2, q2⟩
      · rw [List.getElem?_set_ne (Ne.symm n1)] at s1
        intro q
        have hl : k < σ.length := by
          rcases Nat.lt_or_ge k σ.length with q' | q'
          · exact q'
          · rw [List.getElem?_eq_none (by rw [List.length_set]; exact q')] at q
            cases q
        rw [List.getElem?_set_self hl] at q
        cases q
        exact hp.2.2 j u q1 o1 s1
      · rw [List.getElem?_set_ne (Ne.symm n1)] at s1
        rw [List.getElem?_set_ne (Ne.symm n2)]
        exact R.apart j k u w z n q1 o1 q2 o2 s1
  len := by rw [List.length_set, List.length_set, R.len]
  pin := fun j hj => by
    rw [List.getElem?_set_ne (fun z => hi (by rw [z]; exact hj))]
    exact R.pin j hj
/-- an own thing, found -/
theorem Rep.own (R : Rep K ps b σ H F ρ) {i : Nat} {o : OV} (e : ρ[i]? = some (some o)) (ho : o.own = true) : ∃ p, σ[i]? = some (some (.ref p)) ∧ F p = none ∧ (b.H0 p = none ∨ b.O p) ∧ At K F H p o := by
  obtain ⟨v, h1, h2⟩ := R.slot i o e
  obtain ⟨p, rfl, h3⟩ := h2.inv ho
  exact ⟨p, h1, h3⟩
/-- .. changed; the heap elsewhere as it was or grown -/
theorem Rep.write {H' F' : Hp} (R : Rep K ps b σ H F ρ) {i : Nat} {p : Addr} {o o' : OV} (e : ρ[i]? = some (some o)) (ho : o.own = true) (ho' : o'.own = true) (hp : σ[i]? = some (some (.ref p)))
    (hs : ∀ a u, a ≠ p → H a = some u → H' a = some u) (fs : Same F F') (sub : ∀ a o, F' a = some o → H' a = some o) (new : ∀ a o, F' a = some o → F a = some o ∨ H a = none) (nn : ∀ a o, F' a = some o → F a = some o ∨ NT o) (h : At K F' H' p o') : Rep K ps b σ H' F' (ρ.set i (some o')) := by
  obtain ⟨q, h1, hF, hb, ha⟩ := R.own e ho
  rw [hp] at h1
  cases h1
  obtain ⟨u0, eu0⟩ := ha.ex
  obtain ⟨u1, eu1⟩ := h.ex
  have hFp : F' p = none := by
    cases e' : F' p with
    | none => rfl
    | some o'' =>
      rcases new p o'' e' with z | z
      · rw [hF] at z; cases z
      · rw [eu0] at z; cases z
  refine ⟨sub, R.grow.trans fs, fun a u e1 n tz => ?_, fun a z => ?_, fun a u e1 => ?_, fun j u e1 => ?_, fun j k u w z n e1 o1 e2 o2 s1 => ?_, by rw [List.length_set, R.len], R.pin, fun a o e => (nn a o e).elim (R.nt a o) id, fun a o0 e0 => ?_, ?_⟩
  · have na : a ≠ p := fun z => by
      rcases hb with z' | z'
      · rw [z, z'] at e1; cases e1
      · exact n (by rw [z]; exact z')
    exact hs _ _ na (R.keep a u e1 n tz)
  · by_cases ha' : a = p
    · subst ha'
      exact ⟨_, eu1⟩
    · obtain ⟨u, eu⟩ := R.there a z
      exact ⟨u, hs _ _ ha' eu⟩
  · rcases new a u e1 with z | z
    · exact R.new a u z
    · exact .inr (.inl (R.fresh z).2.1)
  · rcases set_some e1 with ⟨rfl, q1⟩ | ⟨n, q1⟩
    · cases q1
      exact ⟨_, hp, .mk rfl ho' hFp hb h⟩
    · obtain ⟨v, g1, g2⟩ := R.slot j u q1
      refine ⟨v, g1, g2.up fs fun q hv hu => ?_⟩
      obtain ⟨q', hq', hFq, _, haq⟩ := g2.inv hu
      rw [hv] at hq'
      cases hq'
      obtain ⟨uq, euq⟩ := haq.ex
      have nq : q ≠ p := fun z => by
        subst z
        rw [hv] at g1
        exact R.apart j i u o _ n q1 hu e ho g1 hp
      refine ⟨?_, (hs _ _ nq euq).trans euq.symm⟩
      cases e' : F' q with
      | none => rfl
      | some o'' =>
        rcases new q o'' e' with z | z
        · rw [hFq] at z; cases z
        · rw [euq] at z; cases z
  · have z1 : ∃ u', ρ[j]? = some (some u') ∧ u'.own = true := by
      rcases set_some e1 with ⟨rfl, _⟩ | ⟨_, q1⟩
      · exact ⟨o, e, ho⟩
      · exact ⟨u, q1, o1⟩
    have z2 : ∃ u', ρ[k]? = some (some u') ∧ u'.own = true := by
      rcases set_some e2 with ⟨rfl, _⟩ | ⟨_, q2⟩
      · exact ⟨o, e, ho⟩
      · exact ⟨w, q2, o2⟩
    obtain ⟨u1, a1, a2⟩ := z1
    obtain ⟨u2, c1, c2⟩ := z2
    exact R.apart j k u1 u2 z n a1 a2 c1 c2 s1
  · by_cases ha' : a = p
    · subst ha'
      exact ⟨_, eu1⟩
    · obtain ⟨u, eu⟩ := R.dom a o0 e0
      exact ⟨u, hs _ _ ha' eu⟩
  · obtain ⟨u, g1, g2, g3⟩ := ha.kind
    exact tabs_but R.tabs g1 g2 g3 hs
/-- a list of one's own is kept for good from now on -/
theorem Rep.frzL (R : Rep K ps b σ H F ρ) {i : Nat} {ds : List D} (e : ρ[i]? = some (some (.l ds))) : ∃ p xs, σ[i]? = some (some (.ref p)) ∧ H p = some (.lst xs) ∧ F p = none ∧ Same F (upd F p (.lst xs)) ∧ Dr K (upd F p (.lst xs)) (.ref p) (.lst ds) ∧ Rep K ps b σ H (upd F p (.lst xs)) (ρ.set i (some (.d (.lst ds)))) := by
  obtain ⟨p, h1, hF, hb, xs, hx, hda⟩ := R.own e rfl
  have sF : Same F (upd F p (.lst xs)) := SX.same_upd hF
  have hd : Dr K (upd F p (.lst xs)) (.ref p) (.lst ds) := .lst upd_same hda.1 fun j v d a c => (hda.2 j v d a c).up sF
  refine ⟨p, xs, h1, hx, hF, sF, hd, ⟨fun a u e1 => ?_, R.grow.trans sF, R.keep, R.there, fun a u e1 => ?_, fun j u e1 => ?_, fun j k u w z n e1 o1 e2 o2 s1 => ?_, by rw [List.length_set, R.len], R.pin, nt_upd R.nt (fun t z => by cases z), R.dom, R.tabs⟩⟩
  · by_cases ha : a = p
    · subst ha
      rw [upd_same] at e1
      cases e1
      exact hx
    · rw [upd_ne ha] at e1
      exact R.sub _ _ e1
  · by_cases ha : a = p
    · subst ha
      rcases hb with z | z
      · exact .inr (.inl z)
      · exact .inr (.inr z)
    · rw [upd_ne ha] at e1
      exact R.new _ _ e1
  · rcases set_some e1 with ⟨rfl, q1⟩ | ⟨n, q1⟩
    · cases q1
      exact ⟨_, h1, hd⟩
    · obtain ⟨v, g1, g2⟩ := R.slot j u q1
      refine ⟨v, g1, g2.up sF fun q hv hu => ⟨?_, rfl⟩⟩
      obtain ⟨q', hq', hFq, _, haq⟩ := g2.inv hu
      rw [hv] at hq'
      cases hq'
      have nq : q ≠ p := fun z => by
        subst z
        rw [hv] at g1
        exact R.apart j i u _ _ n q1 hu e rfl g1 h1
      rw [upd_ne nq]
      exact hFq
  · rcases set_some e1 with ⟨rfl, q1⟩ | ⟨n1, q1⟩
    · cases q1; cases o1
    · rcases set_some e2 with ⟨rfl, q2⟩ | ⟨n2, q2⟩
      · cases q2; cases o2
      · exact R.apart j k u w z n q1 o1 q2 o2 s1
theorem Rep.frzM (R : Rep K ps b σ H F ρ) {i : Nat} {ds : List (Key × D)} (e : ρ[i]? = some (some (.m ds))) : ∃ p xs, σ[i]? = some (some (.ref p)) ∧ H p = some (.dK xs) ∧ F p = none ∧ Same F (upd F p (.dK xs)) ∧ Dr K (upd F p (.dK xs)) (.ref p) (.dct ds) ∧ Rep K ps b σ H (upd F p (.dK xs)) (ρ.set i (some (.d (.dct ds)))) := by
  obtain ⟨p, h1, hF, hb, xs, hx, hda⟩ := R.own e rfl
  have sF : Same F (upd F p (.dK xs)) := SX.same_upd hF
  have hd : Dr K (upd F p (.dK xs)) (.ref p) (.dct ds) := .dct upd_same hda.1 fun j v d a c => (hda.2 j v d a c).up sF
  refine ⟨p, xs, h1, hx, hF, sF, hd, ⟨fun a u e1 => ?_, R.grow.trans sF, R.keep, R.there, fun a u e1 => ?_, fun j u e1 => ?_, fun j k u w z n e1 o1 e2 o2 s1 => ?_, by rw [List.length_set, R.len], R.pin, nt_upd R.nt (fun t z => by cases z), R.dom, R.tabs⟩⟩
  · by_cases ha : a = p
    · subst ha
      rw [upd_same] at e1
      cases e1
      exact hx
    · rw [upd_ne ha] at e1
      exact R.sub _ _ e1
  · by_cases ha : a = p
    · subst ha
      rcases hb with z | z
      · exact .inr (.inl z)
      · exact .inr (.inr z)
    · rw [upd_ne ha] at e1
      exact R.new _ _ e1
  · rcases set_some e1 with ⟨rfl, q1⟩ | ⟨n, q1⟩
    · cases q1
      exact ⟨_, h1, hd⟩
    · obtain ⟨v, g1, g2⟩ := R.slot j u q1
      refine ⟨v, g1, g2.up sF fun q hv hu => ⟨?_, rfl⟩⟩
      obtain ⟨q', hq', hFq, _, haq⟩ := g2.inv hu
      rw [hv] at hq'
      cases hq'
      have nq : q ≠ p := fun z => by
        subst z
        rw [hv] at g1
        exact R.apart j i u _ _ n q1 hu e rfl g1 h1
      rw [upd_ne nq]
      exact hFq
  · rcases set_some e1 with ⟨rfl, q1⟩ | ⟨n1, q1⟩
    · cases q1; cases o1
    · rcases set_some e2 with ⟨rfl, q2⟩ | ⟨n2, q2⟩
      · cases q2; cases o2
      · exact R.apart j k u w z n q1 o1 q2 o2 s1
/-- a loose list is kept for good -/
theorem Rep.frzLoose (R : Rep K ps b σ H F ρ) {p : Addr} {u : HO} (hp : Loose b σ F ρ p) (hx : H p = some u) (hn : NT u := by intro t z; cases z) : Same F (upd F p u) ∧ Rep K ps b σ H (upd F p u) ρ := by
  have sF : Same F (upd F p u) := SX.same_upd hp.1
  refine ⟨sF, ⟨fun a w e1 => ?_, R.grow.trans sF, R.keep, R.there, fun a w e1 => ?_, fun j w e1 => ?_, R.apart, R.len, R.pin, nt_upd R.nt hn, R.dom, R.tabs⟩⟩
  · by_cases ha : a = p
    · subst ha
      rw [upd_same] at e1
      cases e1
      exact hx
    · rw [upd_ne ha] at e1
      exact R.sub _ _ e1
  · by_cases ha : a = p
    · subst ha
      exact .inr (.inl hp.2.1)
    · rw [upd_ne ha] at e1
      exact R.new _ _ e1
  · obtain ⟨v, g1, g2⟩ := R.slot j w e1
    refine ⟨v, g1, g2.up sF fun q hv hu => ⟨?_, rfl⟩⟩
    obtain ⟨q', hq', hFq, _, haq⟩ := g2.inv hu
    rw [hv] at hq'
    cases hq'
    have nq : q ≠ p := fun z => by
      subst z
      rw [hv] at g1
      exact hp.2.2 j w e1 hu g1
    rw [upd_ne nq]
    exact hFq
end
end DL
/-! Part 3: what expressions come to. -/
namespace DL
variable [Tbs]
open PySem PySem.Spec PyProof.Rows L2
abbrev DE := Env → (D → Env → Prop) → Prop
abbrev DLs := Env → (List D → Env → Prop) → Prop
abbrev DDs := Env → (List (Key × D) → Env → Prop) → Prop
abbrev DT := Env → (Bool → Env → Prop) → Prop
/-- an argument: data, or the own thing in a slot -/
inductive AV where
  | v (d : D) | s (i : Nat)
abbrev DAs := Env → (List AV → Env → Prop) → Prop
def RE (K : PySem.W.Frag) (ps : List Nat) (t : TE) (T : DE) : Prop := ∀ (b : Bs) (σ : St) (H F : Hp) (ρ : Env) (Φ : D → Env → Prop) (Q : VK), Rep K ps b σ H F ρ → T ρ Φ →
  (∀ v H' F' ρ' d, Same F F' → Rep K ps b σ H' F' ρ' → Dr K F' v d → Φ d ρ' → Q v H') → t σ H Q
/-- a new list -/
def RL (K : PySem.W.Frag) (ps : List Nat) (t : TE) (T : DLs) : Prop := ∀ (b : Bs) (σ : St) (H F : Hp) (ρ : Env) (Φ : List D → Env → Prop) (Q : VK), Rep K ps b σ H F ρ → T ρ Φ →
  (∀ p xs H' F' ρ' ds, Same F F' → Rep K ps b σ H' F' ρ' → Loose b σ F' ρ' p → H' p = some (.lst xs) → DA K F' xs ds → Φ ds ρ' → Q (.ref p) H') → t σ H Q
/-- a new dict -/
def RD (K : PySem.W.Frag) (ps : List Nat) (t : TE) (T : DDs) : Prop := ∀ (b : Bs) (σ : St) (H F : Hp) (ρ : Env) (Φ : List (Key × D) → Env → Prop) (Q : VK), Rep K ps b σ H F ρ → T ρ Φ →
  (∀ p xs H' F' ρ' ds, Same F F' → Rep K ps b σ H' F' ρ' → Loose b σ F' ρ' p → H' p = some (.dK xs) → DM K F' xs ds → Φ ds ρ' → Q (.ref p) H') → t σ H Q
def RT (K : PySem.W.Frag) (ps : List Nat) (t : TT) (T : DT) : Prop := ∀ (b : Bs) (σ : St) (H F : Hp) (ρ : Env) (Φ : Bool → Env → Prop) (Q : Bool → Hp → Prop), Rep K ps b σ H F ρ → T ρ Φ →
  (∀ c H' F' ρ', Same F F' → Rep K ps b σ H' F' ρ' → Φ c ρ' → Q c H') → t σ H Q
inductive ArgRel (K : PySem.W.Frag) (σ : St) (F : Hp) : List V → List AV → Prop
  | nil : ArgRel K σ F [] []
  | v {x : V} {d : D} {xs : List V} {as : List AV} (h : Dr K F x d) (t : ArgRel K σ F xs as) : ArgRel K σ F (x :: xs) (.v d :: as)
  | s {x : V} {i : Nat} {xs : List V} {as : List AV} (h : σ[i]? = some (some x)) (t : ArgRel K σ F xs as) : ArgRel K σ F (x :: xs) (.s i :: as)
def RA (K : PySem.W.Frag) (ps : List Nat) (t : TA) (T : DAs) : Prop := ∀ (b : Bs) (σ : St) (H F : Hp) (ρ : Env) (Φ : List AV → Env → Prop) (Q : List V → Hp → Prop), Rep K ps b σ H F ρ → T ρ Φ →
  (∀ vs H' F' ρ' as, Same F F' → Rep K ps b σ H' F' ρ' → ArgRel K σ F' vs as → Φ as ρ' → Q vs H') → t σ H Q
/-- arguments that are all data -/
def RV (K : PySem.W.Frag) (ps : List Nat) (t : TA) (T : DLs) : Prop := ∀ (b : Bs) (σ : St) (H F : Hp) (ρ : Env) (Φ : List D → Env → Prop) (Q : List V → Hp → Prop), Rep K ps b σ H F ρ → T ρ Φ →
  (∀ vs H' F' ρ' ds, Same F F' → Rep K ps b σ H' F' ρ' → DA K F' vs ds → Φ ds ρ' → Q vs H') → t σ H Q
section
variable {K : PySem.W.Frag} {ps : List Nat}
/-! ### names, constants -/
def dVarG (o : Option (Option OV)) (i : Nat) (ρ : Env) (Φ : D → Env → Prop) : Prop := match o with
  | some (some (.d d)) => Φ d ρ
  | some (some (.l ds)) => Φ (.lst ds) (ρ.set i (some (.d (.lst ds))))
  | some (some (.m ks)) => Φ (.dct ks) (ρ.set i (some (.d (.dct ks))))
  | _ => False
def dVar (i : Nat) : DE := fun ρ Φ => dVarG ρ[i]? i ρ Φ
theorem re_var (i : Nat) : RE K ps (tVar i) (dVar i) := by
  intro b σ H F ρ Φ Q R h k
  unfold dVar dVarG at h
  split at h
  · rename_i d e
    obtain ⟨v, h1, h2⟩ := R.slot i _ e
    exact ⟨v, h1, k v H F ρ d (Same.refl F) R h2 h⟩
  · rename_i ds e
    obtain ⟨p, xs, h1, hx, hF, sF, hd, R'⟩ := R.frzL e
    exact ⟨_, h1, k _ H _ _ _ sF R' hd h⟩
  · rename_i ks e
    obtain ⟨p, xs, h1, hx, hF, sF, hd, R'⟩ := R.frzM e
    exact ⟨_, h1, k _ H _ _ _ sF R' hd h⟩
  · exact h.elim
def dC (d : D) : DE := fun ρ Φ => Φ d ρ
theorem re_c {v : V} {d : D} (h : ∀ F, Dr K F v d) : RE K ps (tC v) (dC d) := fun b σ H F ρ Φ Q R hT k => k v H F ρ d (Same.refl F) R (h F) hT
theorem re_int {i : Int} : RE K ps (tC (.int i)) (dC (.int i)) := re_c fun _ => .int i
theorem re_str {x : Str} : RE K ps (tC (.str x)) (dC (.str x)) := re_c fun _ => .str x
theorem re_bl {x : Bool} : RE K ps (tC (.bl x)) (dC (.bl x)) := re_c fun _ => .bl x
theorem re_non : RE K ps (tC .non) (dC .non) := re_c fun _ => .non
theorem re_fn {a : Addr} : RE K ps (tC (.ref a)) (dC (.fn a)) := re_c fun _ => .fn a
theorem re_ty {n : String} : RE K ps (tC (.ty n)) (dC (.ty n)) := re_c fun _ => .ty n
/-- a new list is kept -/
def dK (T : DLs) : DE := fun ρ Φ => T ρ fun ds ρ' => Φ (.lst ds) ρ'
theorem RL.re {t : TE} {T : DLs} (h : RL K ps t T) : RE K ps t (dK T) := by
  intro b σ H F ρ Φ Q R hT k
  refine h b σ H F ρ _ Q R hT fun p xs H' F' ρ' ds s R' lo hx hd hΦ => ?_
  obtain ⟨sF, R2⟩ := R'.frzLoose lo hx
  exact k _ H' _ ρ' (.lst ds) (s.trans sF) R2 (.lst upd_same hd.1 fun j v d a c => (hd.2 j v d a c).up sF) hΦ
def dKd (T : DDs) : DE := fun ρ Φ => T ρ fun ds ρ' => Φ (.dct ds) ρ'
theorem RD.re {t : TE} {T : DDs} (h : RD K ps t T) : RE K ps t (dKd T) := by
  intro b σ H F ρ Φ Q R hT k
  refine h b σ H F ρ _ Q R hT fun p xs H' F' ρ' ds s R' lo hx hd hΦ => ?_
  obtain ⟨sF, R2⟩ := R'.frzLoose lo hx
  exact k _ H' _ ρ' (.dct ds) (s.trans sF) R2 (.dct upd_same hd.1 fun j v d a c => (hd.2 j v d a c).up sF) hΦ
/-! ### operators -/
abbrev DO := D → D → (D → Prop) → Prop
/-- an operation on two values, by data -/
def RO (K : PySem.W.Frag) (ps : List Nat) (r : R2) (R : DO) : Prop := ∀ (b : Bs) (σ : St) (H F : Hp) (ρ : Env) (x y : V) (d e : D) (Φ : D → Prop) (Q : VK), Rep K ps b σ H F ρ → Dr K F x d → Dr K F y e → R d e Φ →
  (∀ v H' F' z, Same F F' → Rep K ps b σ H' F' ρ → Dr K F' v z → Φ z → Q v H') → r x y H Q
def dOp (R : DO) (Ta Tb : DE) : DE := fun ρ Φ => Ta ρ fun x ρ1 => Tb ρ1 fun y ρ2 => R x y fun z => Φ z ρ2
theorem re_op {r : R2} {R : DO} {ta tb : TE} {Ta Tb : DE} (ho : RO K ps r R) (ha : RE K ps ta Ta) (hb : RE K ps tb Tb) : RE K ps (tOp r ta tb) (dOp R Ta Tb) := by
  intro b σ H F ρ Φ Q R0 hT k
  refine ha b σ H F ρ _ _ R0 hT fun x H1 F1 ρ1 d s1 R1 h1 hT => ?_
  refine hb b σ H1 F1 ρ1 _ _ R1 hT fun y H2 F2 ρ2 e s2 R2 h2 hT => ?_
  exact ho b σ H2 F2 ρ2 x y d e _ Q R2 (h1.up s2) h2 hT fun v H3 F3 z s3 R3 h3 hz => k v H3 F3 ρ2 z ((s1.trans s2).trans s3) R3 h3 hz
/-- .. that makes a list -/
def ROL (K : PySem.W.Frag) (ps : List Nat) (r : R2) (R : D → D → (List D → Prop) → Prop) : Prop := ∀ (b : Bs) (σ : St) (H F : Hp) (ρ : Env) (x y : V) (d e : D) (Φ : List D → Prop) (Q : VK), Rep K ps b σ H F ρ → Dr K F x d → Dr K F y e → R d e Φ →
  (∀ p xs H' F' ds, Same F F' → Rep K ps b σ H' F' ρ → Loose b σ F' ρ p → H' p = some (.lst xs) → DA K F' xs ds → Φ ds → Q (.ref p) H') → r x y H Q
def dOpL (R : D → D → (List D → Prop) → Prop) (Ta Tb : DE) : DLs := fun ρ Φ => Ta ρ fun x ρ1 => Tb ρ1 fun y ρ2 => R x y fun z => Φ z ρ2
theorem rl_op {r : R2} {R : D → D → (List D → Prop) → Prop} {ta tb : TE} {Ta Tb : DE} (ho : ROL K ps r R) (ha : RE K ps ta Ta) (hb : RE K ps tb Tb) : RL K ps (tOp r ta tb) (dOpL R Ta Tb) := by
  intro b σ H F ρ Φ Q R0 hT k
  refine ha b σ H F ρ _ _ R0 hT fun x H1 F1 ρ1 d s1 R1 h1 hT => ?_
  refine hb b σ H1 F1 ρ1 _ _ R1 hT fun y H2 F2 ρ2 e s2 R2 h2 hT => ?_
  exact ho b σ H2 F2 ρ2 x y d e _ Q R2 (h1.up s2) h2 hT fun p xs H3 F3 ds s3 R3 lo hx hd hz => k p xs H3 F3 ρ2 ds ((s1.trans s2).trans s3) R3 lo hx hd hz
def oI (C : Int → Int → Prop) (g : Int → Int → D) : DO := fun d e Φ => match d, e with
  | .int i, .int j => C i j ∧ Φ (g i j)
  | _, _ => False
theorem ro_I {C : Int → Int → Prop} {g : Int → Int → Int} : RO K ps (rI C fun i j => .int (g i j)) (oI C fun i j => .int (g i j)) := by
  intro b σ H F ρ x y d e Φ Q R h1 h2 hT k
  cases d <;> try exact hT.elim
  cases e <;> try exact hT.elim
  exact ⟨_, _, h1.inv_int, h2.inv_int, hT.1, k _ H F _ (Same.refl F) R (.int _) hT.2⟩
def oI0 (g : Int → Int → D) : DO := fun d e Φ => match d, e with
  | .int i, .int j => Φ (g i j)
  | _, _ => False
theorem ro_I0 {g : Int → Int → Int} : RO K ps (rI0 fun i j => .int (g i j)) (oI0 fun i j => .int (g i j)) := by
  intro b σ H F ρ x y d e Φ Q R h1 h2 hT k
  cases d <;> try exact hT.elim
  cases e <;> try exact hT.elim
  exact ⟨_, _, h1.inv_int, h2.inv_int, k _ H F _ (Same.refl F) R (.int _) hT⟩
theorem ro_B0 {g : Int → Int → Bool} : RO K ps (rI0 fun i j => .bl (g i j)) (oI0 fun i j => .bl (g i j)) := by
  intro b σ H F ρ x y d e Φ Q R h1 h2 hT k
  cases d <;> try exact hT.elim
  cases e <;> try exact hT.elim
  exact ⟨_, _, h1.inv_int, h2.inv_int, k _ H F _ (Same.refl F) R (.bl _) hT⟩
/-- == of small data -/
def eqS : D → D → Option Bool
  | .non, .non => some true | .non, .int _ => some false | .int _, .non => some false | .non, .bl _ => some false | .bl _, .non => some false | .non, .str _ => some false | .str _, .non => some false
  | .int i, .int j => some (decide (i = j)) | .bl i, .bl j => some (decide (i = j)) | .str i, .str j => some (decide (i = j))
  | .int _, .str _ => some false | .str _, .int _ => some false | .bl _, .str _ => some false | .str _, .bl _ => some false
  | _, _ => none
def oEqG (o : Option Bool) (Φ : D → Prop) : Prop := match o with
  | some c => Φ (.bl c)
  | none => False
def oNeG (o : Option Bool) (Φ : D → Prop) : Prop := match o with
  | some c => Φ (.bl (!c))
  | none => False
def oEq : DO := fun d e Φ => oEqG (eqS d e) Φ
def oNe : DO := fun d e Φ => oNeG (eqS d e) Φ
theorem eqS_ok {F : Hp} {x y : V} {d e : D} {c : Bool} (h1 : Dr K F x d) (h2 : Dr K F y e) (h : eqS d e = some c) : scal x y = true ∧ decide (x = y) = c := by
  cases d <;> cases e <;> first
    | (cases h; done)
    | (first | cases h1.inv_non | cases h1.inv_int | cases h1.inv_bl | cases h1.inv_str
       first | cases h2.inv_non | cases h2.inv_int | cases h2.inv_bl | cases h2.inv_str
       first
         | exact ⟨rfl, Option.some.inj h⟩
         | (refine ⟨rfl, ?_⟩
            have h3 := Option.some.inj h
            rw [← h3]
            simp))
theorem ro_eq : RO K ps rEq oEq := by
  intro b σ H F ρ x y d e Φ Q R h1 h2 hT k
  unfold oEq oEqG at hT
  split at hT
  · rename_i c hc
    obtain ⟨a1, a2⟩ := eqS_ok h1 h2 hc
    refine ⟨a1, ?_⟩
    rw [a2]
    exact k _ H F _ (Same.refl F) R (.bl c) hT
  · exact hT.elim
theorem ro_ne : RO K ps rNe oNe := by
  intro b σ H F ρ x y d e Φ Q R h1 h2 hT k
  unfold oNe oNeG at hT
  split at hT
  · rename_i c hc
    obtain ⟨a1, a2⟩ := eqS_ok h1 h2 hc
    refine ⟨a1, ?_⟩
    rw [a2]
    exact k _ H F _ (Same.refl F) R (.bl (!c)) hT
  · exact hT.elim
def isNon : D → Bool
  | .non => true
  | _ => false
theorem isNon_ok {F : Hp} {x : V} {d : D} (h : Dr K F x d) : decide (x = .non) = isNon d := by
  cases h <;> rfl
def oIsN : DO := fun d e Φ => isNon e = true ∧ Φ (.bl (isNon d))
def oNotN : DO := fun d e Φ => isNon e = true ∧ Φ (.bl (!isNon d))
theorem ro_isN : RO K ps (fun x y H Q => y = .non ∧ Q (.bl (decide (x = .non))) H) oIsN := by
  intro b σ H F ρ x y d e Φ Q R h1 h2 hT k
  obtain ⟨he, hT⟩ := hT
  have h3 := isNon_ok h2
  rw [he] at h3
  refine ⟨of_decide_eq_true h3, ?_⟩
  rw [isNon_ok h1]
  exact k _ H F _ (Same.refl F) R (.bl _) hT
theorem ro_notN : RO K ps (fun x y H Q => y = .non ∧ Q (.bl (!decide (x = .non))) H) oNotN := by
  intro b σ H F ρ x y d e Φ Q R h1 h2 hT k
  obtain ⟨he, hT⟩ := hT
  have h3 := isNon_ok h2
  rw [he] at h3
  refine ⟨of_decide_eq_true h3, ?_⟩
  rw [isNon_ok h1]
  exact k _ H F _ (Same.refl F) R (.bl _) hT
/-- texts put together -/
def oCatS : DO := fun d e Φ => match d, e with
  | .str i, .str j => i.length + j.length ≤ sizeLine ∧ Φ (.str (i ++ j))
  | _, _ => False
theorem ro_catS : RO K ps (fun x y H Q => ∃ i j, x = .str i ∧ y = .str j ∧ i.length + j.length ≤ sizeLine ∧ Q (.str (i ++ j)) H) oCatS := by
  intro b σ H F ρ x y d e Φ Q R h1 h2 hT k
  cases d <;> try exact hT.elim
  cases e <;> try exact hT.elim
  exact ⟨_, _, h1.inv_str, h2.inv_str, hT.1, k _ H F _ (Same.refl F) R (.str _) hT.2⟩
/-- lists put together -/
def oCat : D → D → (List D → Prop) → Prop := fun d e Φ => match d, e with
  | .lst i, .lst j => i.length + j.length ≤ sizeLine ∧ Φ (i ++ j)
  | _, _ => False
theorem rol_cat : ROL K ps rCat oCat := by
  intro b σ H F ρ x y d e Φ Q R h1 h2 hT k
  cases d <;> try exact hT.elim
  cases e <;> try exact hT.elim
  obtain ⟨a, xs, rfl, ea, ha⟩ := h1.inv_lst
  obtain ⟨c, ys, rfl, ec, hc⟩ := h2.inv_lst
  refine ⟨a, c, xs, ys, rfl, rfl, R.sub _ _ ea, R.sub _ _ ec, by rw [ha.1, hc.1]; exact hT.1, fun p hp => ?_⟩
  exact k p _ _ F _ (Same.refl F) (R.put hp) (R.loose hp) upd_same (ha.app hc) hT.2
end
end DL
/-! Part 4: more of what expressions come to. -/
namespace DL
variable [Tbs]
open PySem PySem.Spec PyProof.Rows L2
section
variable {X : Cx}
/-- k in d, any key -/
def rInDK : R2 := fun x y H Q => ∃ a o, y = .ref a ∧ DGet H a x o ∧ Q (.bl o.isSome) H
def rNotInDK : R2 := fun x y H Q => ∃ a o, y = .ref a ∧ DGet H a x o ∧ Q (.bl (!o.isSome)) H
theorem op_inDK (hu : X.A.units + 1 < cLine) : OpR X (compareOp .In) rInDK := by
  intro pins s σ H x y v u Q I rx ry h
  obtain ⟨a, o, rfl, e, q⟩ := h
  cases ry
  exact d_in hu I e rx fun s' I' => ⟨.bl _, H, I', rfl, q⟩
theorem op_notInDK (hu : X.A.units + 1 < cLine) : OpR X (compareOp .NotIn) rNotInDK := by
  intro pins s σ H x y v u Q I rx ry h
  obtain ⟨a, o, rfl, e, q⟩ := h
  cases ry
  exact d_notIn hu I e rx fun s' I' => ⟨.bl _, H, I', rfl, q⟩
end
section
variable {K : PySem.W.Frag} {ps : List Nat}
/-! ### tuples put together -/
def oCatT : DO := fun d e Φ => match d, e with
  | .tup i, .tup j => i.length + j.length ≤ sizeLine ∧ Φ (.tup (i ++ j))
  | _, _ => False
theorem ro_catT : RO K ps (rCatA K) oCatT := by
  intro b σ H F ρ x y d e Φ Q R h1 h2 hT k
  cases d <;> try exact hT.elim
  cases e <;> try exact hT.elim
  rename_i i j
  obtain ⟨a, xs, rfl, ea, ha⟩ := h1.inv_tup
  obtain ⟨c, ys, rfl, ec, hc⟩ := h2.inv_tup
  have up : ∀ {q : Addr} {zs : List V}, SqT K F q zs → SqT K H q zs := fun h => sqT_same R.sub h
  refine ⟨a, c, xs, ys, rfl, rfl, up ea, up ec, by rw [ha.1, hc.1]; exact hT.1, fun hx => ?_, fun _ hy => ?_, fun _ _ p hp => ?_⟩
  · subst hx
    have hi : i = [] := List.length_eq_zero_iff.mp ha.1.symm
    subst hi
    exact k _ H F _ (Same.refl F) R h2 hT.2
  · subst hy
    have hj : j = [] := List.length_eq_zero_iff.mp hc.1.symm
    subst hj
    refine k _ H F (.tup i) (Same.refl F) R h1 ?_
    have := hT.2
    rwa [List.append_nil] at this
  · obtain ⟨hF, _⟩ := R.fresh hp
    have sF : Same F (upd F p (.tup (xs ++ ys))) := SX.same_upd hF
    exact k _ _ _ _ sF (R.alloc hp) (.tup (SqT.of upd_same) (ha.app hc).1 fun j v d a c' => ((ha.app hc).2 j v d a c').up sF) hT.2
/-! ### arguments -/
def dNil : DLs := fun ρ Φ => Φ [] ρ
theorem rv_nil : RV K ps tNil dNil := fun b σ H F ρ Φ Q R hT k => k [] H F ρ [] (Same.refl F) R .nil hT
def dCons (Ta : DE) (Tr : DLs) : DLs := fun ρ Φ => Ta ρ fun x ρ1 => Tr ρ1 fun xs ρ2 => Φ (x :: xs) ρ2
theorem rv_cons {ta : TE} {tr : TA} {Ta : DE} {Tr : DLs} (ha : RE K ps ta Ta) (hr : RV K ps tr Tr) : RV K ps (tCons ta tr) (dCons Ta Tr) := by
  intro b σ H F ρ Φ Q R0 hT k
  refine ha b σ H F ρ _ _ R0 hT fun x H1 F1 ρ1 d s1 R1 h1 hT => ?_
  exact hr b σ H1 F1 ρ1 _ _ R1 hT fun xs H2 F2 ρ2 ds s2 R2 h2 hT => k _ H2 F2 ρ2 _ (s1.trans s2) R2 (.cons (h1.up s2) h2) hT
def dANil : DAs := fun ρ Φ => Φ [] ρ
theorem ra_nil : RA K ps tNil dANil := fun b σ H F ρ Φ Q R hT k => k [] H F ρ [] (Same.refl F) R .nil hT
theorem ArgRel.up {σ : St} {F F' : Hp} (s : Same F F') {vs : List V} {as : List AV} (h : ArgRel K σ F vs as) : ArgRel K σ F' vs as := by
  induction h with
  | nil => exact .nil
  | v h _ ih => exact .v (h.up s) ih
  | s h _ ih => exact .s h ih
def dACons (Ta : DE) (Tr : DAs) : DAs := fun ρ Φ => Ta ρ fun x ρ1 => Tr ρ1 fun xs ρ2 => Φ (.v x :: xs) ρ2
theorem ra_cons {ta : TE} {tr : TA} {Ta : DE} {Tr : DAs} (ha : RE K ps ta Ta) (hr : RA K ps tr Tr) : RA K ps (tCons ta tr) (dACons Ta Tr) := by
  intro b σ H F ρ Φ Q R0 hT k
  refine ha b σ H F ρ _ _ R0 hT fun x H1 F1 ρ1 d s1 R1 h1 hT => ?_
  exact hr b σ H1 F1 ρ1 _ _ R1 hT fun xs H2 F2 ρ2 ds s2 R2 h2 hT => k _ H2 F2 ρ2 _ (s1.trans s2) R2 (.v (h1.up s2) h2) hT
/-- the own thing in slot i -/
def dASlot (i : Nat) (Tr : DAs) : DAs := fun ρ Φ => (ρ[i]?.join).isSome = true ∧ Tr ρ fun xs ρ2 => Φ (.s i :: xs) ρ2
theorem slot_some {b : Bs} {σ : St} {H F : Hp} {ρ : Env} (R : Rep K ps b σ H F ρ) {i : Nat} (h : (ρ[i]?.join).isSome = true) : ∃ v, σ[i]? = some (some v) := by
  cases e : ρ[i]? with
  | none => rw [e] at h; cases h
  | some o =>
    cases o with
    | none => rw [e] at h; cases h
    | some o =>
      obtain ⟨v, h1, _⟩ := R.slot i o e
      exact ⟨v, h1⟩
theorem ra_slot {i : Nat} {tr : TA} {Tr : DAs} (hr : RA K ps tr Tr) : RA K ps (tCons (tVar i) tr) (dASlot i Tr) := by
  intro b σ H F ρ Φ Q R0 hT k
  obtain ⟨v, hv⟩ := slot_some R0 hT.1
  exact ⟨v, hv, hr b σ H F ρ _ _ R0 hT.2 fun xs H2 F2 ρ2 as s2 R2 h2 hT => k _ H2 F2 ρ2 _ s2 R2 (.s hv h2) hT⟩
/-! ### displays -/
def dTup (T : DLs) : DE := fun ρ Φ => T ρ fun ds ρ' => ds.length ≤ sizeLine ∧ Φ (.tup ds) ρ'
theorem re_tup {t : TA} {T : DLs} (h : RV K ps t T) : RE K ps (tTup t) (dTup T) := by
  intro b σ H F ρ Φ Q R0 hT k
  refine h b σ H F ρ _ _ R0 hT fun xs H1 F1 ρ1 ds s1 R1 h1 hT => ⟨by rw [h1.1]; exact hT.1, fun p hp => ?_⟩
  obtain ⟨hF, _⟩ := R1.fresh hp
  have sF : Same F1 (upd F1 p (.tup xs)) := SX.same_upd hF
  exact k _ _ _ ρ1 _ (s1.trans sF) (R1.alloc hp) (.tup (SqT.of upd_same) h1.1 fun j v d a c => (h1.2 j v d a c).up sF) hT.2
def dLst (T : DLs) : DLs := fun ρ Φ => T ρ fun ds ρ' => ds.length ≤ sizeLine ∧ Φ ds ρ'
theorem rl_lst {t : TA} {T : DLs} (h : RV K ps t T) : RL K ps (tLst t) (dLst T) := by
  intro b σ H F ρ Φ Q R0 hT k
  refine h b σ H F ρ _ _ R0 hT fun xs H1 F1 ρ1 ds s1 R1 h1 hT => ⟨by rw [h1.1]; exact hT.1, fun p hp => ?_⟩
  exact k p xs _ F1 ρ1 ds s1 (R1.put hp) (R1.loose hp) upd_same h1 hT.2
def dNewD : DDs := fun ρ Φ => Φ [] ρ
theorem rd_new : RD K ps tDNewK dNewD := by
  intro b σ H F ρ Φ Q R0 hT k
  exact fun p hp => k p [] _ F ρ [] (Same.refl F) (R0.put hp) (R0.loose hp) upd_same .nil hT
/-! ### places -/
def oIx : DO := fun d e Φ => match d, e with
  | .tup ds, .int i => ∃ x, atI ds i = some x ∧ Φ x
  | .lst ds, .int i => ∃ x, atI ds i = some x ∧ Φ x
  | _, _ => False
def oIxT : DO := fun d e Φ => match d, e with
  | .tup ds, .int i => ∃ x, atI ds i = some x ∧ Φ x
  | _, _ => False
theorem ro_ixT : RO K ps (rIxT K) oIxT := by
  intro b σ H F ρ x y d e Φ Q R h1 h2 hT k
  cases d <;> try exact hT.elim
  cases e <;> try exact hT.elim
  obtain ⟨z, hz, hT⟩ := hT
  obtain ⟨a, xs, rfl, ea, ha⟩ := h1.inv_tup
  obtain ⟨v, hv, hd⟩ := ha.atI hz
  exact ⟨a, xs, _, v, rfl, h2.inv_int, sqT_same R.sub ea, hv, k v H F z (Same.refl F) R hd hT⟩
def oIxL : DO := fun d e Φ => match d, e with
  | .lst ds, .int i => ∃ x, atI ds i = some x ∧ Φ x
  | _, _ => False
theorem ro_ixL : RO K ps (rIxL K) oIxL := by
  intro b σ H F ρ x y d e Φ Q R h1 h2 hT k
  cases d <;> try exact hT.elim
  cases e <;> try exact hT.elim
  obtain ⟨z, hz, hT⟩ := hT
  obtain ⟨a, xs, rfl, ea, ha⟩ := h1.inv_lst
  obtain ⟨v, hv, hd⟩ := ha.atI hz
  exact ⟨a, xs, _, v, rfl, h2.inv_int, SqL.of (R.sub _ _ ea), hv, k v H F z (Same.refl F) R hd hT⟩
theorem ro_ix : RO K ps (rIx K) oIx := by
  intro b σ H F ρ x y d e Φ Q R h1 h2 hT k
  cases d <;> try exact hT.elim
  · cases e <;> try exact hT.elim
    exact .inr (.inl (ro_ixT b σ H F ρ x y _ _ Φ Q R h1 h2 hT k))
  · cases e <;> try exact hT.elim
    exact .inl (ro_ixL b σ H F ρ x y _ _ Φ Q R h1 h2 hT k)
/-- what stands in slot i, as it is now -/
def peekG (o : Option (Option OV)) : Option D := match o with
  | some (some (.d d)) => some d
  | some (some (.l ds)) => some (.lst ds)
  | some (some (.m ks)) => some (.dct ks)
  | _ => none
def peek (ρ : Env) (i : Nat) : Option D := peekG ρ[i]?
/-- the list in slot i, not kept -/
theorem peek_lst {b : Bs} {σ : St} {H F : Hp} {ρ : Env} (R : Rep K ps b σ H F ρ) {i : Nat} {ds : List D} (h : peek ρ i = some (.lst ds)) {v : V} (hv : σ[i]? = some (some v)) : ∃ a xs, v = .ref a ∧ H a = some (.lst xs) ∧ DA K F xs ds := by
  unfold peek peekG at h
  split at h
  · rename_i d e
    cases h
    obtain ⟨w, h1, h2⟩ := R.slot i _ e
    rw [hv] at h1
    cases h1
    obtain ⟨a, xs, rfl, e1, e2⟩ := Dr.inv_lst h2
    exact ⟨a, xs, rfl, R.sub _ _ e1, e2⟩
  · rename_i ds' e
    cases h
    obtain ⟨p, h1, _, _, xs, e1, e2⟩ := R.own e rfl
    rw [hv] at h1
    cases h1
    exact ⟨p, xs, rfl, e1, e2⟩
  · cases h
  · cases h
theorem peek_dct {b : Bs} {σ : St} {H F : Hp} {ρ : Env} (R : Rep K ps b σ H F ρ) {i : Nat} {ds : List (Key × D)} (h : peek ρ i = some (.dct ds)) {v : V} (hv : σ[i]? = some (some v)) : ∃ a xs, v = .ref a ∧ H a = some (.dK xs) ∧ DM K F xs ds := by
  unfold peek peekG at h
  split at h
  · rename_i d e
    cases h
    obtain ⟨w, h1, h2⟩ := R.slot i _ e
    rw [hv] at h1
    cases h1
    obtain ⟨a, xs, rfl, e1, e2⟩ := Dr.inv_dct h2
    exact ⟨a, xs, rfl, R.sub _ _ e1, e2⟩
  · cases h
  · rename_i ds' e
    cases h
    obtain ⟨p, h1, _, _, xs, e1, e2⟩ := R.own e rfl
    rw [hv] at h1
    cases h1
    exact ⟨p, xs, rfl, e1, e2⟩
  · cases h
/-- x[e], x the slot's list -/
def dIxS (i : Nat) (Tb : DE) : DE := fun ρ Φ => (ρ[i]?.join).isSome = true ∧ Tb ρ fun y ρ2 => ∃ ds j x, peek ρ2 i = some (.lst ds) ∧ y = .int j ∧ atI ds j = some x ∧ Φ x ρ2
theorem re_ixS {i : Nat} {tb : TE} {Tb : DE} (hb : RE K ps tb Tb) : RE K ps (tOp (rIxL K) (tVar i) tb) (dIxS i Tb) := by
  intro b σ H F ρ Φ Q R0 hT k
  obtain ⟨v, hv⟩ := slot_some R0 hT.1
  refine ⟨v, hv, hb b σ H F ρ _ _ R0 hT.2 fun y H2 F2 ρ2 e s2 R2 h2 hT => ?_⟩
  obtain ⟨ds, j, x, hp, rfl, hx, hT⟩ := hT
  obtain ⟨a, xs, rfl, ea, ha⟩ := peek_lst R2 hp hv
  obtain ⟨w, hw, hd⟩ := ha.atI hx
  exact ⟨a, xs, j, w, rfl, h2.inv_int, SqL.of ea, hw, k w H2 F2 ρ2 x s2 R2 hd hT⟩
theorem re_ixS' {i : Nat} {tb : TE} {Tb : DE} (hb : RE K ps tb Tb) : RE K ps (tOp (rIx K) (tVar i) tb) (dIxS i Tb) := by
  intro b σ H F ρ Φ Q R0 hT k
  obtain ⟨v, hv⟩ := slot_some R0 hT.1
  refine ⟨v, hv, hb b σ H F ρ _ _ R0 hT.2 fun y H2 F2 ρ2 e s2 R2 h2 hT => ?_⟩
  obtain ⟨ds, j, x, hp, rfl, hx, hT⟩ := hT
  obtain ⟨a, xs, rfl, ea, ha⟩ := peek_lst R2 hp hv
  obtain ⟨w, hw, hd⟩ := ha.atI hx
  exact .inl ⟨a, xs, j, w, rfl, h2.inv_int, SqL.of ea, hw, k w H2 F2 ρ2 x s2 R2 hd hT⟩
/-! ### in -/
def flatD : D → Bool
  | .non | .bl _ | .int _ | .str _ => true
  | _ => false
def eqD : D → D → Bool
  | .non, .non => true
  | .bl a, .bl b => a == b
  | .bl a, .int b => (if a then 1 else 0) == b
  | .int a, .bl b => a == (if b then 1 else 0)
  | .int a, .int b => a == b
  | .str a, .str b => a == b
  | _, _ => false
def inD (x : D) (xs : List D) : Bool := xs.any fun y => eqD y x
theorem flat_ok {F : Hp} {v : V} {d : D} (h : Dr K F v d) (f : flatD d = true) : flatV v = true := by
  cases h <;> first | rfl | cases f
theorem eqD_ok {F : Hp} {v w : V} {d e : D} (h : Dr K F v d) (h2 : Dr K F w e) (f : flatD d = true) (f2 : flatD e = true) : eqV v w = eqD d e := by
  cases h <;> first | (cases f; done) | (cases h2 <;> first | rfl | cases f2)
theorem inD_ok {F : Hp} {v : V} {d : D} (h : Dr K F v d) (f : flatD d = true) : ∀ {ds : List D} {xs : List V}, DA K F xs ds → ds.all flatD = true → xs.all flatV = true ∧ inV v xs = inD d ds
  | [], xs, hd, _ => by
    rw [hd.inv_nil]
    exact ⟨rfl, rfl⟩
  | e :: ds, xs, hd, ha => by
    obtain ⟨w, r, rfl, h1, h2⟩ := hd.inv
    rw [List.all_cons, Bool.and_eq_true] at ha
    obtain ⟨i1, i2⟩ := inD_ok h f h2 ha.2
    refine ⟨by rw [List.all_cons, flat_ok h1 ha.1, i1]; rfl, ?_⟩
    show (eqV w v || inV v r) = (eqD e d || inD d ds)
    rw [eqD_ok h1 h ha.1 f, i2]
def seqD : D → Option (List D)
  | .tup ds => some ds
  | .lst ds => some ds
  | _ => none
def oIn (neg : Bool) : DO := fun d e Φ => ∃ ds, seqD e = some ds ∧ flatD d = true ∧ ds.all flatD = true ∧ Φ (.bl (if neg then !inD d ds else inD d ds))
theorem ro_in {neg : Bool} : RO K ps (rIn K neg) (oIn neg) := by
  intro b σ H F ρ x y d e Φ Q R h1 h2 hT k
  obtain ⟨ds, hs, fd, fs, hT⟩ := hT
  cases e <;> try (cases hs; done)
  · cases hs
    obtain ⟨a, xs, rfl, ea, ha⟩ := h2.inv_tup
    obtain ⟨i1, i2⟩ := inD_ok h1 fd ha fs
    refine ⟨a, xs, rfl, .inr (sqT_same R.sub ea), flat_ok h1 fd, i1, ?_⟩
    rw [i2]
    exact k _ H F _ (Same.refl F) R (.bl _) hT
  · cases hs
    obtain ⟨a, xs, rfl, ea, ha⟩ := h2.inv_lst
    obtain ⟨i1, i2⟩ := inD_ok h1 fd ha fs
    refine ⟨a, xs, rfl, .inl (SqL.of (R.sub _ _ ea)), flat_ok h1 fd, i1, ?_⟩
    rw [i2]
    exact k _ H F _ (Same.refl F) R (.bl _) hT
/-! ### dicts -/
def keyD : D → Option Key
  | .int i => some (.inl i)
  | .str x => some (.inr x)
  | _ => none
theorem keyD_ok {F : Hp} {v : V} {d : D} {k : Key} (h : Dr K F v d) (e : keyD d = some k) : v = kV k := by
  cases h <;> first | (cases e; done) | (cases e; rfl)
theorem dget_ok {F H : Hp} {a : Addr} {v : V} {d : D} {k : Key} {xs : List (Key × V)} {ds : List (Key × D)} (h : Dr K F v d) (e : keyD d = some k) (hd : DM K F xs ds) (ha : H a = some (.dK xs)) : match valD ds k with
    | none => DGet H a v none
    | some z => ∃ w, DGet H a v (some w) ∧ Dr K F w z := by
  have m := hd.val (k := k)
  rw [keyD_ok h e]
  have g := DGet.k (k := k) ha
  cases e1 : valD ds k with
  | none =>
    rw [e1] at m
    rw [show valV xs k = none from m] at g
    exact g
  | some z =>
    rw [e1] at m
    obtain ⟨w, h1, h2⟩ := (show ∃ v, valV xs k = some v ∧ Dr K F v z from m)
    rw [h1] at g
    exact ⟨w, g, h2⟩
/-- k in x, x the slot's dict -/
def dInS (neg : Bool) (Ta : DE) (i : Nat) : DE := fun ρ Φ => Ta ρ fun x ρ1 => ∃ ds k, peek ρ1 i = some (.dct ds) ∧ keyD x = some k ∧ Φ (.bl (if neg then !(valD ds k).isSome else (valD ds k).isSome)) ρ1
theorem peek_some {ρ : Env} {i : Nat} {d : D} (h : peek ρ i = some d) : (ρ[i]?.join).isSome = true := by
  unfold peek peekG at h
  split at h <;> first | (rename_i e; rw [e]; rfl) | cases h
theorem re_inS {i : Nat} {ta : TE} {Ta : DE} (ha : RE K ps ta Ta) : RE K ps (tOp rInDK ta (tVar i)) (dInS false Ta i) := by
  intro b σ H F ρ Φ Q R0 hT k
  refine ha b σ H F ρ _ _ R0 hT fun x H1 F1 ρ1 d s1 R1 h1 hT => ?_
  obtain ⟨ds, key, hp, hk, hT⟩ := hT
  obtain ⟨v, hv⟩ := slot_some R1 (peek_some hp)
  obtain ⟨a, xs, rfl, ea, hm⟩ := peek_dct R1 hp hv
  have g := dget_ok h1 hk hm ea
  cases e : valD ds key with
  | none =>
    rw [e] at g hT
    exact ⟨_, hv, a, none, rfl, g, k _ H1 F1 ρ1 _ s1 R1 (.bl _) hT⟩
  | some z =>
    rw [e] at g hT
    obtain ⟨w, g, _⟩ := g
    exact ⟨_, hv, a, some w, rfl, g, k _ H1 F1 ρ1 _ s1 R1 (.bl _) hT⟩
theorem re_notInS {i : Nat} {ta : TE} {Ta : DE} (ha : RE K ps ta Ta) : RE K ps (tOp rNotInDK ta (tVar i)) (dInS true Ta i) := by
  intro b σ H F ρ Φ Q R0 hT k
  refine ha b σ H F ρ _ _ R0 hT fun x H1 F1 ρ1 d s1 R1 h1 hT => ?_
  obtain ⟨ds, key, hp, hk, hT⟩ := hT
  obtain ⟨v, hv⟩ := slot_some R1 (peek_some hp)
  obtain ⟨a, xs, rfl, ea, hm⟩ := peek_dct R1 hp hv
  have g := dget_ok h1 hk hm ea
  cases e : valD ds key with
  | none =>
    rw [e] at g hT
    exact ⟨_, hv, a, none, rfl, g, k _ H1 F1 ρ1 _ s1 R1 (.bl _) hT⟩
  | some z =>
    rw [e] at g hT
    obtain ⟨w, g, _⟩ := g
    exact ⟨_, hv, a, some w, rfl, g, k _ H1 F1 ρ1 _ s1 R1 (.bl _) hT⟩
def oInD (neg : Bool) : DO := fun d e Φ => match e with
  | .dct ds => ∃ k, keyD d = some k ∧ Φ (.bl (if neg then !(valD ds k).isSome else (valD ds k).isSome))
  | _ => False
theorem ro_inD : RO K ps rInDK (oInD false) := by
  intro b σ H F ρ x y d e Φ Q R h1 h2 hT k
  cases e <;> try exact hT.elim
  obtain ⟨key, hk, hT⟩ := hT
  obtain ⟨a, xs, rfl, ea, hm⟩ := h2.inv_dct
  have g := dget_ok h1 hk hm (R.sub _ _ ea)
  rename_i ds
  cases e : valD ds key with
  | none =>
    rw [e] at g hT
    exact ⟨a, none, rfl, g, k _ H F _ (Same.refl F) R (.bl _) hT⟩
  | some z =>
    rw [e] at g hT
    obtain ⟨w, g, _⟩ := g
    exact ⟨a, some w, rfl, g, k _ H F _ (Same.refl F) R (.bl _) hT⟩
theorem ro_notInD : RO K ps rNotInDK (oInD true) := by
  intro b σ H F ρ x y d e Φ Q R h1 h2 hT k
  cases e <;> try exact hT.elim
  obtain ⟨key, hk, hT⟩ := hT
  obtain ⟨a, xs, rfl, ea, hm⟩ := h2.inv_dct
  have g := dget_ok h1 hk hm (R.sub _ _ ea)
  rename_i ds
  cases e : valD ds key with
  | none =>
    rw [e] at g hT
    exact ⟨a, none, rfl, g, k _ H F _ (Same.refl F) R (.bl _) hT⟩
  | some z =>
    rw [e] at g hT
    obtain ⟨w, g, _⟩ := g
    exact ⟨a, some w, rfl, g, k _ H F _ (Same.refl F) R (.bl _) hT⟩
/-- x[k], a dict -/
def dDGet (Td Ty : DE) : DE := fun ρ Φ => Td ρ fun x ρ1 => Ty ρ1 fun y ρ2 => ∃ ds k z, x = .dct ds ∧ keyD y = some k ∧ valD ds k = some z ∧ Φ z ρ2
theorem re_dget {td ty : TE} {Td Ty : DE} (hd : RE K ps td Td) (hy : RE K ps ty Ty) : RE K ps (tDGet td ty) (dDGet Td Ty) := by
  intro b σ H F ρ Φ Q R0 hT k
  refine hd b σ H F ρ _ _ R0 hT fun x H1 F1 ρ1 d s1 R1 h1 hT => ?_
  refine hy b σ H1 F1 ρ1 _ _ R1 hT fun y H2 F2 ρ2 e s2 R2 h2 hT => ?_
  obtain ⟨ds, key, z, rfl, hk, hz, hT⟩ := hT
  obtain ⟨a, xs, rfl, ea, hm⟩ := (h1.up s2).inv_dct
  have g := dget_ok h2 hk hm (R2.sub _ _ ea)
  rw [hz] at g
  obtain ⟨w, g, hw⟩ := g
  exact ⟨a, w, rfl, g, k w H2 F2 ρ2 z (s1.trans s2) R2 hw hT⟩
def dDGetS (i : Nat) (Ty : DE) : DE := fun ρ Φ => (ρ[i]?.join).isSome = true ∧ Ty ρ fun y ρ2 => ∃ ds k z, peek ρ2 i = some (.dct ds) ∧ keyD y = some k ∧ valD ds k = some z ∧ Φ z ρ2
theorem re_dgetS {i : Nat} {ty : TE} {Ty : DE} (hy : RE K ps ty Ty) : RE K ps (tDGet (tVar i) ty) (dDGetS i Ty) := by
  intro b σ H F ρ Φ Q R0 hT k
  obtain ⟨v, hv⟩ := slot_some R0 hT.1
  refine ⟨v, hv, hy b σ H F ρ _ _ R0 hT.2 fun y H2 F2 ρ2 e s2 R2 h2 hT => ?_⟩
  obtain ⟨ds, key, z, hp, hk, hz, hT⟩ := hT
  obtain ⟨a, xs, rfl, ea, hm⟩ := peek_dct R2 hp hv
  have g := dget_ok h2 hk hm ea
  rw [hz] at g
  obtain ⟨w, g, hw⟩ := g
  exact ⟨a, w, rfl, g, k w H2 F2 ρ2 z s2 R2 hw hT⟩
/-- x.get(k), x.get(k, z): the slot's dict -/
def dGet1S (i : Nat) (Ty : DE) : DE := fun ρ Φ => (∃ ds, peek ρ i = some (.dct ds)) ∧ Ty ρ fun y ρ2 => ∃ ds k, peek ρ2 i = some (.dct ds) ∧ keyD y = some k ∧ Φ ((valD ds k).getD .non) ρ2
theorem re_get1S {i : Nat} {ty : TE} {Ty : DE} (hy : RE K ps ty Ty) : RE K ps (tDGet1 (tVar i) ty) (dGet1S i Ty) := by
  intro b σ H F ρ Φ Q R0 hT k
  obtain ⟨⟨ds0, hp0⟩, hT⟩ := hT
  obtain ⟨v, hv⟩ := slot_some R0 (peek_some hp0)
  obtain ⟨a, xs0, rfl, ea0, _⟩ := peek_dct R0 hp0 hv
  refine ⟨_, hv, a, rfl, .inl ⟨xs0, .inl ea0⟩, hy b σ H F ρ _ _ R0 hT fun y H2 F2 ρ2 e s2 R2 h2 hT => ?_⟩
  obtain ⟨ds, key, hp, hk, hT⟩ := hT
  obtain ⟨a', xs, ea', ea, hm⟩ := peek_dct R2 hp hv
  cases ea'
  have g := dget_ok h2 hk hm ea
  cases e : valD ds key with
  | none =>
    rw [e] at g hT
    exact ⟨none, g, k _ H2 F2 ρ2 _ s2 R2 .non hT⟩
  | some z =>
    rw [e] at g hT
    obtain ⟨w, g, hw⟩ := g
    exact ⟨some w, g, k _ H2 F2 ρ2 _ s2 R2 hw hT⟩
def dGet2S (i : Nat) (Ty Tz : DE) : DE := fun ρ Φ => (∃ ds, peek ρ i = some (.dct ds)) ∧ Ty ρ fun y ρ1 => Tz ρ1 fun z ρ2 => ∃ ds k, peek ρ2 i = some (.dct ds) ∧ keyD y = some k ∧ Φ ((valD ds k).getD z) ρ2
theorem re_get2S {i : Nat} {ty tz : TE} {Ty Tz : DE} (hy : RE K ps ty Ty) (hz : RE K ps tz Tz) : RE K ps (tDGet2 (tVar i) ty tz) (dGet2S i Ty Tz) := by
  intro b σ H F ρ Φ Q R0 hT k
  obtain ⟨⟨ds0, hp0⟩, hT⟩ := hT
  obtain ⟨v, hv⟩ := slot_some R0 (peek_some hp0)
  obtain ⟨a, xs0, rfl, ea0, _⟩ := peek_dct R0 hp0 hv
  refine ⟨_, hv, a, rfl, .inl ⟨xs0, .inl ea0⟩, hy b σ H F ρ _ _ R0 hT fun y H1 F1 ρ1 e s1 R1 h1 hT => ?_⟩
  refine hz b σ H1 F1 ρ1 _ _ R1 hT fun z H2 F2 ρ2 f s2 R2 h2 hT => ?_
  obtain ⟨ds, key, hp, hk, hT⟩ := hT
  obtain ⟨a', xs, ea', ea, hm⟩ := peek_dct R2 hp hv
  cases ea'
  have g := dget_ok (h1.up s2) hk hm ea
  cases e : valD ds key with
  | none =>
    rw [e] at g hT
    exact ⟨none, g, k _ H2 F2 ρ2 _ (s1.trans s2) R2 h2 hT⟩
  | some z =>
    rw [e] at g hT
    obtain ⟨w, g, hw⟩ := g
    exact ⟨some w, g, k _ H2 F2 ρ2 _ (s1.trans s2) R2 hw hT⟩
def dGet1 (Td Ty : DE) : DE := fun ρ Φ => Td ρ fun x ρ1 => ∃ ds, x = .dct ds ∧ Ty ρ1 fun y ρ2 => ∃ k, keyD y = some k ∧ Φ ((valD ds k).getD .non) ρ2
theorem re_get1 {td ty : TE} {Td Ty : DE} (hd : RE K ps td Td) (hy : RE K ps ty Ty) : RE K ps (tDGet1 td ty) (dGet1 Td Ty) := by
  intro b σ H F ρ Φ Q R0 hT k
  refine hd b σ H F ρ _ _ R0 hT fun x H1 F1 ρ1 d s1 R1 h1 hT => ?_
  obtain ⟨ds, rfl, hT⟩ := hT
  obtain ⟨a, xs, rfl, ea, hm⟩ := h1.inv_dct
  refine ⟨a, rfl, .inl ⟨xs, .inl (R1.sub _ _ ea)⟩, hy b σ H1 F1 ρ1 _ _ R1 hT fun y H2 F2 ρ2 e s2 R2 h2 hT => ?_⟩
  obtain ⟨key, hk, hT⟩ := hT
  have g := dget_ok h2 hk (hm.up s2) (R2.sub _ _ (s2 _ _ ea))
  cases e : valD ds key with
  | none =>
    rw [e] at g hT
    exact ⟨none, g, k _ H2 F2 ρ2 _ (s1.trans s2) R2 .non hT⟩
  | some z =>
    rw [e] at g hT
    obtain ⟨w, g, hw⟩ := g
    exact ⟨some w, g, k _ H2 F2 ρ2 _ (s1.trans s2) R2 hw hT⟩
def dGet2 (Td Ty Tz : DE) : DE := fun ρ Φ => Td ρ fun x ρ1 => ∃ ds, x = .dct ds ∧ Ty ρ1 fun y ρ2 => Tz ρ2 fun z ρ3 => ∃ k, keyD y = some k ∧ Φ ((valD ds k).getD z) ρ3
theorem re_get2 {td ty tz : TE} {Td Ty Tz : DE} (hd : RE K ps td Td) (hy : RE K ps ty Ty) (hz : RE K ps tz Tz) : RE K ps (tDGet2 td ty tz) (dGet2 Td Ty Tz) := by
  intro b σ H F ρ Φ Q R0 hT k
  refine hd b σ H F ρ _ _ R0 hT fun x H1 F1 ρ1 d s1 R1 h1 hT => ?_
  obtain ⟨ds, rfl, hT⟩ := hT
  obtain ⟨a, xs, rfl, ea, hm⟩ := h1.inv_dct
  refine ⟨a, rfl, .inl ⟨xs, .inl (R1.sub _ _ ea)⟩, hy b σ H1 F1 ρ1 _ _ R1 hT fun y H2 F2 ρ2 e s2 R2 h2 hT => ?_⟩
  refine hz b σ H2 F2 ρ2 _ _ R2 hT fun z H3 F3 ρ3 f s3 R3 h3 hT => ?_
  obtain ⟨key, hk, hT⟩ := hT
  have s23 := s2.trans s3
  have g := dget_ok (h2.up s3) hk (hm.up s23) (R3.sub _ _ (s23 _ _ ea))
  cases e : valD ds key with
  | none =>
    rw [e] at g hT
    exact ⟨none, g, k _ H3 F3 ρ3 _ (s1.trans s23) R3 h3 hT⟩
  | some z =>
    rw [e] at g hT
    obtain ⟨w, g, hw⟩ := g
    exact ⟨some w, g, k _ H3 F3 ρ3 _ (s1.trans s23) R3 hw hT⟩
/-! ### tests, and, or, not, if -/
def blG (d : D) (Φ : Bool → Prop) : Prop := match d with
  | .bl c => Φ c
  | _ => False
theorem blG_ok {d : D} {Φ : Bool → Prop} (h : blG d Φ) : ∃ c, d = .bl c ∧ Φ c := by
  cases d <;> first | exact ⟨_, rfl, h⟩ | exact h.elim
def obG (o : Option Bool) (Φ : Bool → Prop) : Prop := match o with
  | some c => Φ c
  | none => False
theorem obG_ok {o : Option Bool} {Φ : Bool → Prop} (h : obG o Φ) : ∃ c, o = some c ∧ Φ c := by
  cases o <;> first | exact ⟨_, rfl, h⟩ | exact h.elim
def dTest (T : DE) : DT := fun ρ Φ => T ρ fun x ρ' => blG x fun c => Φ c ρ'
theorem rt_test {t : TE} {T : DE} (h : RE K ps t T) : RT K ps (tTest t) (dTest T) := by
  intro b σ H F ρ Φ Q R0 hT k
  refine h b σ H F ρ _ _ R0 hT fun x H1 F1 ρ1 d s1 R1 h1 hT => ?_
  obtain ⟨c, rfl, hT⟩ := blG_ok hT
  exact ⟨c, h1.inv_bl, k c H1 F1 ρ1 s1 R1 hT⟩
theorem rt_B {t : TE} {T : DE} (h : RE K ps t T) : RT K ps (tB t) (dTest T) := rt_test h
def truD : D → Option Bool
  | .non => some false
  | .bl b => some b
  | .int i => some (i != 0)
  | .tup l => some !l.isEmpty
  | .lst l => some !l.isEmpty
  | .dct l => some !l.isEmpty
  | _ => none
theorem isEmpty_len {α β : Type} {xs : List α} {ds : List β} (h : xs.length = ds.length) : xs.isEmpty = ds.isEmpty := by
  cases xs <;> cases ds <;> first | rfl | cases h
theorem truD_ok {F H : Hp} (s : ∀ a o, F a = some o → H a = some o) {x : V} {d : D} {c : Bool} (h : Dr K F x d) (e : truD d = some c) : TruV K x H c := by
  cases h with
  | non => cases e; rfl
  | bl b => cases e; rfl
  | int i => cases e; rfl
  | tup h1 hl _ => cases e; exact .inr (.inl ⟨_, sqT_same s h1, by rw [isEmpty_len hl]⟩)
  | lst h1 hl _ => cases e; exact .inl ⟨_, SqL.of (s _ _ h1), by rw [isEmpty_len hl]⟩
  | dct h1 hk _ =>
    cases e
    refine .inr (.inr ⟨_, s _ _ h1, ?_⟩)
    have := congrArg List.length hk
    rw [List.length_map, List.length_map] at this
    rw [isEmpty_len this]
  | _ => cases e
def dTruth (T : DE) : DT := fun ρ Φ => T ρ fun x ρ' => obG (truD x) fun c => Φ c ρ'
theorem rt_truth {t : TE} {T : DE} (h : RE K ps t T) : RT K ps (fun σ H Q => t σ H fun x H' => ∃ k, TruV K x H' k ∧ Q k H') (dTruth T) := by
  intro b σ H F ρ Φ Q R0 hT k
  refine h b σ H F ρ _ _ R0 hT fun x H1 F1 ρ1 d s1 R1 h1 hT => ?_
  obtain ⟨c, hc, hT⟩ := obG_ok hT
  exact ⟨c, truD_ok R1.sub h1 hc, k c H1 F1 ρ1 s1 R1 hT⟩
/-- the truth of the slot's list -/
def dTruthS (i : Nat) : DT := fun ρ Φ => ∃ d, peek ρ i = some d ∧ obG (truD d) fun c => Φ c ρ
theorem rt_truthS {i : Nat} : RT K ps (fun σ H Q => tVar i σ H fun x H' => ∃ k, TruV K x H' k ∧ Q k H') (dTruthS i) := by
  intro b σ H F ρ Φ Q R0 hT k
  obtain ⟨d, hp, hT⟩ := hT
  obtain ⟨c, hc, hT⟩ := obG_ok hT
  obtain ⟨v, hv⟩ := slot_some R0 (peek_some hp)
  have fin : TruV K v H c → tVar i σ H fun x H' => ∃ k, TruV K x H' k ∧ Q k H' := fun h => ⟨v, hv, c, h, k c H F ρ (Same.refl F) R0 hT⟩
  have hp' := hp
  unfold peek peekG at hp'
  split at hp'
  · rename_i d' e
    cases hp'
    obtain ⟨w, h1, h2⟩ := R0.slot i _ e
    rw [hv] at h1
    cases h1
    exact fin (truD_ok R0.sub h2 hc)
  · cases hp'
    cases hc
    obtain ⟨a, xs, rfl, ea, ha⟩ := peek_lst R0 hp hv
    exact fin (.inl ⟨_, SqL.of ea, by rw [isEmpty_len ha.1]⟩)
  · cases hp'
    cases hc
    obtain ⟨a, xs, rfl, ea, ha⟩ := peek_dct R0 hp hv
    exact fin (.inr (.inr ⟨_, ea, by rw [isEmpty_len ha.len]⟩))
  · cases hp'
def dAnd (T U : DT) : DT := fun ρ Φ => T ρ fun c ρ1 => if c = true then U ρ1 Φ else Φ false ρ1
theorem rt_and {t u : TT} {T U : DT} (h : RT K ps t T) (h2 : RT K ps u U) : RT K ps (tAnd t u) (dAnd T U) := by
  intro b σ H F ρ Φ Q R0 hT k
  refine h b σ H F ρ _ _ R0 hT fun c H1 F1 ρ1 s1 R1 hT => ?_
  cases c with
  | true => exact h2 b σ H1 F1 ρ1 _ _ R1 hT fun c H2 F2 ρ2 s2 R2 hT => k c H2 F2 ρ2 (s1.trans s2) R2 hT
  | false => exact k false H1 F1 ρ1 s1 R1 hT
def dOr (T U : DT) : DT := fun ρ Φ => T ρ fun c ρ1 => if c = true then Φ true ρ1 else U ρ1 Φ
theorem rt_or {t u : TT} {T U : DT} (h : RT K ps t T) (h2 : RT K ps u U) : RT K ps (tOr t u) (dOr T U) := by
  intro b σ H F ρ Φ Q R0 hT k
  refine h b σ H F ρ _ _ R0 hT fun c H1 F1 ρ1 s1 R1 hT => ?_
  cases c with
  | false => exact h2 b σ H1 F1 ρ1 _ _ R1 hT fun c H2 F2 ρ2 s2 R2 hT => k c H2 F2 ρ2 (s1.trans s2) R2 hT
  | true => exact k true H1 F1 ρ1 s1 R1 hT
def dNot (T : DT) : DT := fun ρ Φ => T ρ fun c ρ1 => Φ (!c) ρ1
theorem rt_not {t : TT} {T : DT} (h : RT K ps t T) : RT K ps (tNot t) (dNot T) := by
  intro b σ H F ρ Φ Q R0 hT k
  exact h b σ H F ρ _ _ R0 hT fun c H1 F1 ρ1 s1 R1 hT => k _ H1 F1 ρ1 s1 R1 hT
def dAndV (T U : DE) : DE := fun ρ Φ => T ρ fun x ρ1 => blG x fun c => if c = true then U ρ1 Φ else Φ (.bl false) ρ1
theorem re_and {t u : TE} {T U : DE} (h : RE K ps t T) (h2 : RE K ps u U) : RE K ps (tAndV t u) (dAndV T U) := by
  intro b σ H F ρ Φ Q R0 hT k
  refine h b σ H F ρ _ _ R0 hT fun x H1 F1 ρ1 d s1 R1 h1 hT => ?_
  obtain ⟨c, rfl, hT⟩ := blG_ok hT
  refine ⟨c, h1.inv_bl, ?_⟩
  cases c with
  | true => exact h2 b σ H1 F1 ρ1 _ _ R1 hT fun c H2 F2 ρ2 d s2 R2 hd hT => k c H2 F2 ρ2 d (s1.trans s2) R2 hd hT
  | false => exact k _ H1 F1 ρ1 _ s1 R1 (.bl false) hT
def dOrV (T U : DE) : DE := fun ρ Φ => T ρ fun x ρ1 => blG x fun c => if c = true then Φ (.bl true) ρ1 else U ρ1 Φ
theorem re_or {t u : TE} {T U : DE} (h : RE K ps t T) (h2 : RE K ps u U) : RE K ps (tOrV t u) (dOrV T U) := by
  intro b σ H F ρ Φ Q R0 hT k
  refine h b σ H F ρ _ _ R0 hT fun x H1 F1 ρ1 d s1 R1 h1 hT => ?_
  obtain ⟨c, rfl, hT⟩ := blG_ok hT
  refine ⟨c, h1.inv_bl, ?_⟩
  cases c with
  | false => exact h2 b σ H1 F1 ρ1 _ _ R1 hT fun c H2 F2 ρ2 d s2 R2 hd hT => k c H2 F2 ρ2 d (s1.trans s2) R2 hd hT
  | true => exact k _ H1 F1 ρ1 _ s1 R1 (.bl true) hT
def dNotV (T : DE) : DE := fun ρ Φ => T ρ fun x ρ1 => blG x fun c => Φ (.bl (!c)) ρ1
theorem re_not {t : TE} {T : DE} (h : RE K ps t T) : RE K ps (tNotV t) (dNotV T) := by
  intro b σ H F ρ Φ Q R0 hT k
  refine h b σ H F ρ _ _ R0 hT fun x H1 F1 ρ1 d s1 R1 h1 hT => ?_
  obtain ⟨c, rfl, hT⟩ := blG_ok hT
  exact ⟨c, h1.inv_bl, k _ H1 F1 ρ1 _ s1 R1 (.bl _) hT⟩
def dIf (T : DT) (U W : DE) : DE := fun ρ Φ => T ρ fun c ρ1 => if c = true then U ρ1 Φ else W ρ1 Φ
theorem re_if {t : TT} {u w : TE} {T : DT} {U W : DE} (h : RT K ps t T) (h2 : RE K ps u U) (h3 : RE K ps w W) : RE K ps (tIf t u w) (dIf T U W) := by
  intro b σ H F ρ Φ Q R0 hT k
  refine h b σ H F ρ _ _ R0 hT fun c H1 F1 ρ1 s1 R1 hT => ?_
  cases c with
  | true => exact h2 b σ H1 F1 ρ1 _ _ R1 hT fun c H2 F2 ρ2 d s2 R2 hd hT => k c H2 F2 ρ2 d (s1.trans s2) R2 hd hT
  | false => exact h3 b σ H1 F1 ρ1 _ _ R1 hT fun c H2 F2 ρ2 d s2 R2 hd hT => k c H2 F2 ρ2 d (s1.trans s2) R2 hd hT
/-- .. where both give a new list -/
def dIfL (T : DT) (U W : DLs) : DLs := fun ρ Φ => T ρ fun c ρ1 => if c = true then U ρ1 Φ else W ρ1 Φ
theorem rl_if {t : TT} {u w : TE} {T : DT} {U W : DLs} (h : RT K ps t T) (h2 : RL K ps u U) (h3 : RL K ps w W) : RL K ps (tIf t u w) (dIfL T U W) := by
  intro b σ H F ρ Φ Q R0 hT k
  refine h b σ H F ρ _ _ R0 hT fun c H1 F1 ρ1 s1 R1 hT => ?_
  cases c with
  | true => exact h2 b σ H1 F1 ρ1 _ _ R1 hT fun p xs H2 F2 ρ2 ds s2 R2 lo hx hd hT => k p xs H2 F2 ρ2 ds (s1.trans s2) R2 lo hx hd hT
  | false => exact h3 b σ H1 F1 ρ1 _ _ R1 hT fun p xs H2 F2 ρ2 ds s2 R2 lo hx hd hT => k p xs H2 F2 ρ2 ds (s1.trans s2) R2 lo hx hd hT
/-- -x -/
def dNeg (T : DE) : DE := fun ρ Φ => T ρ fun x ρ1 => ∃ i, x = .int i ∧ Φ (.int (-i)) ρ1
theorem re_neg {t : TE} {T : DE} (h : RE K ps t T) : RE K ps (tUn (rU fun i => .int (-i)) t) (dNeg T) := by
  intro b σ H F ρ Φ Q R0 hT k
  refine h b σ H F ρ _ _ R0 hT fun x H1 F1 ρ1 d s1 R1 h1 hT => ?_
  obtain ⟨i, rfl, hT⟩ := hT
  exact ⟨i, h1.inv_int, k _ H1 F1 ρ1 _ s1 R1 (.int _) hT⟩
end
end DL
/-! Part 5: frames, built-ins, what is walked, comprehensions. -/
namespace DL
variable [Tbs]
open PySem PySem.Spec PyProof.Rows L2
def Owned (σ : St) (ρ : Env) (a : Addr) : Prop := ∃ (i : Nat) (o : OV), ρ[i]? = some (some o) ∧ o.own = true ∧ σ[i]? = some (some (.ref a))
/-- what a piece of code leaves alone -/
structure Fr (σ : St) (ρ : Env) (H F H' F' : Hp) : Prop where
  keep : ∀ a o, H a = some o → ¬ Owned σ ρ a → NT o → H' a = some o
  there : ∀ a o, H a = some o → ∃ o', H' a = some o'
  new : ∀ a o, F' a = some o → F a = some o ∨ H a = none ∨ Owned σ ρ a
section
variable {K : PySem.W.Frag} {ps : List Nat} {b : Bs} {σ : St} {H F : Hp} {ρ : Env}
def here (b : Bs) (σ : St) (H F : Hp) (ρ : Env) : Bs := ⟨H, F, b.vs, Owned σ ρ⟩
theorem Rep.here (R : Rep K ps b σ H F ρ) : Rep K ps (here b σ H F ρ) σ H F ρ where
  sub := R.sub
  grow := ⟨Same.refl F, R.grow.b⟩
  nt := R.nt
  dom := fun a o e => ⟨o, e⟩
  tabs := R.tabs
  keep := fun a o e _ _ => e
  there := fun a ⟨i, o, e1, e2, e3⟩ => by
    obtain ⟨p, h1, _, _, h2⟩ := R.own e1 e2
    rw [e3] at h1
    cases h1
    exact h2.ex
  new := fun a o e => .inl e
  slot := fun i o e => by
    obtain ⟨v, h1, h2⟩ := R.slot i o e
    refine ⟨v, h1, ?_⟩
    by_cases ho : o.own = true
    · obtain ⟨p, rfl, h3, _, h4⟩ := h2.inv ho
      exact .mk rfl ho h3 (.inr ⟨i, o, e, ho, h1⟩) h4
    · cases o with
      | d x => exact h2
      | _ => exact absurd rfl ho
  apart := R.apart
  len := R.len
  pin := R.pin
theorem Rep.owned (R : Rep K ps b σ H F ρ) {a : Addr} (h : Owned σ ρ a) : F a = none ∧ (b.H0 a = none ∨ b.O a) ∧ ∃ o, H a = some o := by
  obtain ⟨i, o, e1, e2, e3⟩ := h
  obtain ⟨p, h1, h2, h3, h4⟩ := R.own e1 e2
  rw [e3] at h1
  cases h1
  exact ⟨h2, h3, h4.ex⟩
/-- from the words about what has happened since here -/
theorem Rep.back {σ' : St} {H' F' : Hp} {ρ' : Env} (R : Rep K ps b σ H F ρ) (R' : Rep K ps (DL.here b σ H F ρ) σ' H' F' ρ') : Rep K ps b σ' H' F' ρ' where
  sub := R'.sub
  grow := R.grow.trans R'.grow.a
  nt := R'.nt
  dom := fun a o e => by
    obtain ⟨o1, e1⟩ := R.dom a o e
    exact R'.dom a o1 e1
  tabs := R'.tabs
  keep := fun a o e n nz => by
    refine R'.keep a o (R.keep a o e n nz) (fun z => ?_) nz
    rcases (R.owned z).2.1 with h | h
    · rw [h] at e; cases e
    · exact n h
  there := fun a h => by
    obtain ⟨o, e⟩ := R.there a h
    by_cases z : Owned σ ρ a
    · exact R'.there a z
    · exact R'.dom a o e
  new := fun a o e => by
    rcases R'.new a o e with h | h | h
    · exact R.new a o h
    · exact .inr (.inl (R.fresh h).2.1)
    · rcases (R.owned h).2.1 with h | h
      · exact .inr (.inl h)
      · exact .inr (.inr h)
  slot := fun i o e => by
    obtain ⟨v, h1, h2⟩ := R'.slot i o e
    refine ⟨v, h1, ?_⟩
    by_cases ho : o.own = true
    · obtain ⟨p, rfl, h3, h4, h5⟩ := h2.inv ho
      refine .mk rfl ho h3 ?_ h5
      rcases h4 with h | h
      · exact .inl (R.fresh h).2.1
      · exact (R.owned h).2.1
    · cases o with
      | d x => exact h2
      | _ => exact absurd rfl ho
  apart := R'.apart
  len := R'.len
  pin := R'.pin
theorem Rep.fr {σ' : St} {H' F' : Hp} {ρ' : Env} (R : Rep K ps b σ H F ρ) (R' : Rep K ps (DL.here b σ H F ρ) σ' H' F' ρ') : Fr σ ρ H F H' F' where
  keep := R'.keep
  there := fun a o e => by
    by_cases z : Owned σ ρ a
    · exact R'.there a z
    · exact R'.dom a o e
  new := R'.new
theorem loose_back {p : Addr} {σ' : St} {F' : Hp} {ρ' : Env} (R : Rep K ps b σ H F ρ) (h : Loose (DL.here b σ H F ρ) σ' F' ρ' p) : Loose b σ' F' ρ' p := ⟨h.1, (R.fresh h.2.1).2.1, h.2.2⟩
theorem Fr.refl (R : Rep K ps b σ H F ρ) : Fr σ ρ H F H F := ⟨fun _ _ e _ _ => e, fun _ o e => ⟨o, e⟩, fun _ _ e => .inl e⟩
/-- a loose thing stays as it was -/
theorem Fr.loose {H' F' : Hp} (f : Fr σ ρ H F H' F') (R : Rep K ps b σ H F ρ) {p : Addr} {o : HO} (e : H p = some o) (hF : F p = none) (hn : ¬ Owned σ ρ p) (hz : NT o := by intro t z; cases z) : H' p = some o ∧ F' p = none := by
  refine ⟨f.keep p o e hn hz, ?_⟩
  cases q : F' p with
  | none => rfl
  | some u =>
    rcases f.new p u q with h | h | h
    · rw [hF] at h; cases h
    · rw [e] at h; cases h
    · exact absurd h hn
theorem RE.fr {t : TE} {T : DE} (h : RE K ps t T) (R : Rep K ps b σ H F ρ) {Φ : D → Env → Prop} {Q : VK} (hT : T ρ Φ)
    (k : ∀ v H' F' ρ' d, Same F F' → Fr σ ρ H F H' F' → Rep K ps b σ H' F' ρ' → (∀ a, Owned σ ρ' a → Owned σ ρ a ∨ H a = none) → Dr K F' v d → Φ d ρ' → Q v H') : t σ H Q :=
  h (DL.here b σ H F ρ) σ H F ρ Φ Q R.here hT fun v H' F' ρ' d s R' hd hΦ => k v H' F' ρ' d s (R.fr R') (R.back R') (fun a z => (R'.owned z).2.1.symm) hd hΦ
theorem RT.fr {t : TT} {T : DT} (h : RT K ps t T) (R : Rep K ps b σ H F ρ) {Φ : Bool → Env → Prop} {Q : Bool → Hp → Prop} (hT : T ρ Φ)
    (k : ∀ c H' F' ρ', Same F F' → Fr σ ρ H F H' F' → Rep K ps b σ H' F' ρ' → (∀ a, Owned σ ρ' a → Owned σ ρ a ∨ H a = none) → Φ c ρ' → Q c H') : t σ H Q :=
  h (DL.here b σ H F ρ) σ H F ρ Φ Q R.here hT fun c H' F' ρ' s R' hΦ => k c H' F' ρ' s (R.fr R') (R.back R') (fun a z => (R'.owned z).2.1.symm) hΦ
/-! ### built-ins -/
def RC (K : PySem.W.Frag) (ps : List Nat) (r : List V → Hp → VK → Prop) (R : List D → (D → Prop) → Prop) : Prop := ∀ (b : Bs) (σ : St) (H F : Hp) (ρ : Env) (xs : List V) (ds : List D) (Φ : D → Prop) (Q : VK), Rep K ps b σ H F ρ → DA K F xs ds → R ds Φ →
  (∀ v H' F' z, Same F F' → Rep K ps b σ H' F' ρ → Dr K F' v z → Φ z → Q v H') → r xs H Q
def dCB (R : List D → (D → Prop) → Prop) (T : DLs) : DE := fun ρ Φ => T ρ fun ds ρ' => R ds fun z => Φ z ρ'
theorem re_cb {r : List V → Hp → VK → Prop} {R : List D → (D → Prop) → Prop} {t : TA} {T : DLs} (hr : RC K ps r R) (h : RV K ps t T) : RE K ps (tCB r t) (dCB R T) := by
  intro b σ H F ρ Φ Q R0 hT k
  refine h b σ H F ρ _ _ R0 hT fun xs H1 F1 ρ1 ds s1 R1 h1 hT => ?_
  exact hr b σ H1 F1 ρ1 xs ds _ Q R1 h1 hT fun v H2 F2 z s2 R2 hd hΦ => k v H2 F2 ρ1 z (s1.trans s2) R2 hd hΦ
def RCL (K : PySem.W.Frag) (ps : List Nat) (r : List V → Hp → VK → Prop) (R : List D → (List D → Prop) → Prop) : Prop := ∀ (b : Bs) (σ : St) (H F : Hp) (ρ : Env) (xs : List V) (ds : List D) (Φ : List D → Prop) (Q : VK), Rep K ps b σ H F ρ → DA K F xs ds → R ds Φ →
  (∀ p ys H' F' zs, Same F F' → Rep K ps b σ H' F' ρ → Loose b σ F' ρ p → H' p = some (.lst ys) → DA K F' ys zs → Φ zs → Q (.ref p) H') → r xs H Q
def dCBL (R : List D → (List D → Prop) → Prop) (T : DLs) : DLs := fun ρ Φ => T ρ fun ds ρ' => R ds fun z => Φ z ρ'
theorem rl_cb {r : List V → Hp → VK → Prop} {R : List D → (List D → Prop) → Prop} {t : TA} {T : DLs} (hr : RCL K ps r R) (h : RV K ps t T) : RL K ps (tCB r t) (dCBL R T) := by
  intro b σ H F ρ Φ Q R0 hT k
  refine h b σ H F ρ _ _ R0 hT fun xs H1 F1 ρ1 ds s1 R1 h1 hT => ?_
  exact hr b σ H1 F1 ρ1 xs ds _ Q R1 h1 hT fun p ys H2 F2 z s2 R2 lo hx hd hΦ => k p ys H2 F2 ρ1 z (s1.trans s2) R2 lo hx hd hΦ
def oLen (ds : List D) (Φ : D → Prop) : Prop := match ds with
  | [.str x] => x.length ≤ sizeLine ∧ Φ (.int x.length)
  | [.tup l] => Φ (.int l.length)
  | [.lst l] => Φ (.int l.length)
  | _ => False
theorem rc_len : RC K ps (fun xs H Q => ∃ x n, xs = [x] ∧ LenV K x H n ∧ Q (.int n) H) oLen := by
  intro b σ H F ρ xs ds Φ Q R h hT k
  match ds, hT with
  | [.str x], hT =>
    obtain ⟨v, r, rfl, h1, h2⟩ := h.inv
    rw [h2.inv_nil, h1.inv_str]
    exact ⟨_, x.length, rfl, ⟨hT.1, rfl⟩, k _ H F _ (Same.refl F) R (.int _) hT.2⟩
  | [.tup l], hT =>
    obtain ⟨v, r, rfl, h1, h2⟩ := h.inv
    rw [h2.inv_nil]
    obtain ⟨a, ys, rfl, ea, ha⟩ := h1.inv_tup
    exact ⟨_, l.length, rfl, .inr ⟨ys, sqT_same R.sub ea, ha.1.symm⟩, k _ H F _ (Same.refl F) R (.int _) hT⟩
  | [.lst l], hT =>
    obtain ⟨v, r, rfl, h1, h2⟩ := h.inv
    rw [h2.inv_nil]
    obtain ⟨a, ys, rfl, ea, ha⟩ := h1.inv_lst
    exact ⟨_, l.length, rfl, .inl ⟨ys, SqL.of (R.sub _ _ ea), ha.1.symm⟩, k _ H F _ (Same.refl F) R (.int _) hT⟩
/-- len of the slot's list -/
def dLenS (i : Nat) : DE := fun ρ Φ => ∃ l, peek ρ i = some (.lst l) ∧ Φ (.int l.length) ρ
theorem re_lenS {i : Nat} : RE K ps (tCB (fun xs H Q => ∃ x n, xs = [x] ∧ LenV K x H n ∧ Q (.int n) H) (tCons (tVar i) tNil)) (dLenS i) := by
  intro b σ H F ρ Φ Q R0 hT k
  obtain ⟨l, hp, hT⟩ := hT
  obtain ⟨v, hv⟩ := slot_some R0 (peek_some hp)
  obtain ⟨a, xs, rfl, ea, ha⟩ := peek_lst R0 hp hv
  exact ⟨_, hv, _, l.length, rfl, .inl ⟨xs, SqL.of ea, ha.1.symm⟩, k _ H F ρ _ (Same.refl F) R0 (.int _) hT⟩
def oListOf (ds : List D) (Φ : List D → Prop) : Prop := match ds with
  | [.tup l] => Φ l
  | [.lst l] => Φ l
  | _ => False
theorem rcl_list : RCL K ps (fun xs H Q => ∃ p ys, xs = [.ref p] ∧ (SqL K H p ys ∨ SqT K H p ys) ∧ ∀ l, H l = none → Q (.ref l) (upd H l (.lst ys))) oListOf := by
  intro b σ H F ρ xs ds Φ Q R h hT k
  match ds, hT with
  | [.tup l], hT =>
    obtain ⟨v, r, rfl, h1, h2⟩ := h.inv
    rw [h2.inv_nil]
    obtain ⟨a, ys, rfl, ea, ha⟩ := h1.inv_tup
    exact ⟨a, ys, rfl, .inr (sqT_same R.sub ea), fun q hq => k q ys _ F l (Same.refl F) (R.put hq) (R.loose hq) upd_same ha hT⟩
  | [.lst l], hT =>
    obtain ⟨v, r, rfl, h1, h2⟩ := h.inv
    rw [h2.inv_nil]
    obtain ⟨a, ys, rfl, ea, ha⟩ := h1.inv_lst
    exact ⟨a, ys, rfl, .inl (SqL.of (R.sub _ _ ea)), fun q hq => k q ys _ F l (Same.refl F) (R.put hq) (R.loose hq) upd_same ha hT⟩
def oTupOf (ds : List D) (Φ : D → Prop) : Prop := match ds with
  | [.tup l] => Φ (.tup l)
  | [.lst l] => Φ (.tup l)
  | _ => False
theorem rc_tuple : RC K ps (fun xs H Q => ∃ p ys, xs = [.ref p] ∧ ((SqL K H p ys ∧ ∀ l, H l = none → Q (.ref l) (upd H l (.tup ys))) ∨ (SqT K H p ys ∧ Q (.ref p) H))) oTupOf := by
  intro b σ H F ρ xs ds Φ Q R h hT k
  match ds, hT with
  | [.tup l], hT =>
    obtain ⟨v, r, rfl, h1, h2⟩ := h.inv
    rw [h2.inv_nil]
    obtain ⟨a, ys, rfl, ea, ha⟩ := h1.inv_tup
    exact ⟨a, ys, rfl, .inr ⟨sqT_same R.sub ea, k _ H F _ (Same.refl F) R h1 hT⟩⟩
  | [.lst l], hT =>
    obtain ⟨v, r, rfl, h1, h2⟩ := h.inv
    rw [h2.inv_nil]
    obtain ⟨a, ys, rfl, ea, ha⟩ := h1.inv_lst
    refine ⟨a, ys, rfl, .inl ⟨SqL.of (R.sub _ _ ea), fun q hq => ?_⟩⟩
    obtain ⟨hF, _⟩ := R.fresh hq
    have sF : Same F (upd F q (.tup ys)) := SX.same_upd hF
    exact k _ _ _ _ sF (R.alloc hq) (.tup (SqT.of upd_same) ha.1 fun j v d a c => (ha.2 j v d a c).up sF) hT
/-- ints out of data -/
def intsD : List D → Option (List Int)
  | [] => some []
  | .int i :: r => (intsD r).map (i :: ·)
  | _ => none
theorem intsD_ok {F : Hp} : ∀ {ds : List D} {xs : List V} {ns : List Int}, DA K F xs ds → intsD ds = some ns → xs = ns.map V.int
  | [], xs, ns, h, e => by
    cases e
    rw [h.inv_nil]
    rfl
  | .int i :: r, xs, ns, h, e => by
    obtain ⟨v, t, rfl, h1, h2⟩ := h.inv
    unfold intsD at e
    obtain ⟨ms, hm, rfl⟩ := Option.map_eq_some_iff.mp e
    rw [h1.inv_int, intsD_ok h2 hm]
    rfl
  | .non :: r, xs, ns, h, e => by cases e
  | .bl _ :: r, xs, ns, h, e => by cases e
  | .str _ :: r, xs, ns, h, e => by cases e
  | .ty _ :: r, xs, ns, h, e => by cases e
  | .fn _ :: r, xs, ns, h, e => by cases e
  | .scr _ :: r, xs, ns, h, e => by cases e
  | .tup _ :: r, xs, ns, h, e => by cases e
  | .lst _ :: r, xs, ns, h, e => by cases e
  | .dct _ :: r, xs, ns, h, e => by cases e
  | .obj _ _ :: r, xs, ns, h, e => by cases e
theorem intsD_map (ns : List Int) : intsD (ns.map .int) = some ns := by
  induction ns with
  | nil => rfl
  | cons n ns ih =>
    show (intsD (ns.map .int)).map (n :: ·) = _
    rw [ih]
    rfl
def oAbs (ds : List D) (Φ : D → Prop) : Prop := match ds with
  | [.int i] => Φ (.int (if i < 0 then -i else i))
  | _ => False
theorem rc_abs : RC K ps (fun xs H Q => ∃ i, xs = [.int i] ∧ Q (.int (if i < 0 then -i else i)) H) oAbs := by
  intro b σ H F ρ xs ds Φ Q R h hT k
  match ds, hT with
  | [.int i], hT =>
    obtain ⟨v, r, rfl, h1, h2⟩ := h.inv
    rw [h2.inv_nil, h1.inv_int]
    exact ⟨i, rfl, k _ H F _ (Same.refl F) R (.int _) hT⟩
def oInt (ds : List D) (Φ : D → Prop) : Prop := match ds with
  | [.int i] => Φ (.int i)
  | _ => False
theorem rc_int : RC K ps (fun xs H Q => (∃ i, xs = [.int i] ∧ Q (.int i) H) ∨ ∃ k, xs = [.bl k] ∧ Q (.int (if k then 1 else 0)) H) oInt := by
  intro b σ H F ρ xs ds Φ Q R h hT k
  match ds, hT with
  | [.int i], hT =>
    obtain ⟨v, r, rfl, h1, h2⟩ := h.inv
    rw [h2.inv_nil, h1.inv_int]
    exact .inl ⟨i, rfl, k _ H F _ (Same.refl F) R (.int _) hT⟩
def oSum (ds : List D) (Φ : D → Prop) : Prop := ∃ l ns, ds = [.lst l] ∧ intsD l = some ns ∧ Φ (.int ns.sum)
theorem rc_sum : RC K ps (rSum K) oSum := by
  intro b σ H F ρ xs ds Φ Q R h hT k
  obtain ⟨l, ns, rfl, hn, hT⟩ := hT
  obtain ⟨v, r, rfl, h1, h2⟩ := h.inv
  rw [h2.inv_nil]
  obtain ⟨a, ys, rfl, ea, ha⟩ := h1.inv_lst
  rw [intsD_ok ha hn] at ea
  exact ⟨a, ns, rfl, SqL.of (R.sub _ _ ea), k _ H F _ (Same.refl F) R (.int _) hT⟩
def oMin (ds : List D) (Φ : D → Prop) : Prop := ∃ l ns, ds = [.lst l] ∧ intsD l = some ns ∧ 0 < ns.length ∧ ∀ m, m ∈ ns → (∀ y, y ∈ ns → m ≤ y) → Φ (.int m)
theorem rc_min : RC K ps (rMin K) oMin := by
  intro b σ H F ρ xs ds Φ Q R h hT k
  obtain ⟨l, ns, rfl, hn, h0, hT⟩ := hT
  obtain ⟨v, r, rfl, h1, h2⟩ := h.inv
  rw [h2.inv_nil]
  obtain ⟨a, ys, rfl, ea, ha⟩ := h1.inv_lst
  rw [intsD_ok ha hn] at ea
  exact ⟨a, ns, rfl, SqL.of (R.sub _ _ ea), h0, fun m h3 h4 => k _ H F _ (Same.refl F) R (.int _) (hT m h3 h4)⟩
def blsD : List D → Option (List Bool)
  | [] => some []
  | .bl i :: r => (blsD r).map (i :: ·)
  | _ => none
theorem blsD_ok {F : Hp} : ∀ {ds : List D} {xs : List V} {ns : List Bool}, DA K F xs ds → blsD ds = some ns → xs = ns.map V.bl
  | [], xs, ns, h, e => by
    cases e
    rw [h.inv_nil]
    rfl
  | .bl i :: r, xs, ns, h, e => by
    obtain ⟨v, t, rfl, h1, h2⟩ := h.inv
    unfold blsD at e
    obtain ⟨ms, hm, rfl⟩ := Option.map_eq_some_iff.mp e
    rw [h1.inv_bl, blsD_ok h2 hm]
    rfl
  | .non :: r, xs, ns, h, e => by cases e
  | .int _ :: r, xs, ns, h, e => by cases e
  | .str _ :: r, xs, ns, h, e => by cases e
  | .ty _ :: r, xs, ns, h, e => by cases e
  | .fn _ :: r, xs, ns, h, e => by cases e
  | .scr _ :: r, xs, ns, h, e => by cases e
  | .tup _ :: r, xs, ns, h, e => by cases e
  | .lst _ :: r, xs, ns, h, e => by cases e
  | .dct _ :: r, xs, ns, h, e => by cases e
  | .obj _ _ :: r, xs, ns, h, e => by cases e
theorem blsD_map (ns : List Bool) : blsD (ns.map .bl) = some ns := by
  induction ns with
  | nil => rfl
  | cons n ns ih =>
    show (blsD (ns.map .bl)).map (n :: ·) = _
    rw [ih]
    rfl
def oAll (ds : List D) (Φ : D → Prop) : Prop := ∃ l ns, ds = [.lst l] ∧ blsD l = some ns ∧ Φ (.bl (ns.all id))
theorem rc_all : RC K ps (rAll K) oAll := by
  intro b σ H F ρ xs ds Φ Q R h hT k
  obtain ⟨l, ns, rfl, hn, hT⟩ := hT
  obtain ⟨v, r, rfl, h1, h2⟩ := h.inv
  rw [h2.inv_nil]
  obtain ⟨a, ys, rfl, ea, ha⟩ := h1.inv_lst
  rw [blsD_ok ha hn] at ea
  exact ⟨a, ns, rfl, SqL.of (R.sub _ _ ea), k _ H F _ (Same.refl F) R (.bl _) hT⟩
def oAny (ds : List D) (Φ : D → Prop) : Prop := ∃ l ns, ds = [.lst l] ∧ blsD l = some ns ∧ Φ (.bl (ns.any id))
theorem rc_any : RC K ps (rAny K) oAny := by
  intro b σ H F ρ xs ds Φ Q R h hT k
  obtain ⟨l, ns, rfl, hn, hT⟩ := hT
  obtain ⟨v, r, rfl, h1, h2⟩ := h.inv
  rw [h2.inv_nil]
  obtain ⟨a, ys, rfl, ea, ha⟩ := h1.inv_lst
  rw [blsD_ok ha hn] at ea
  exact ⟨a, ns, rfl, SqL.of (R.sub _ _ ea), k _ H F _ (Same.refl F) R (.bl _) hT⟩
/-- isinstance -/
def tyN : D → Option String
  | .non => some "NoneType"
  | .bl _ => some "bool"
  | .int _ => some "int"
  | .str _ => some "str"
  | .lst _ => some "list"
  | .tup _ => some "tuple"
  | .dct _ => some "dict"
  | _ => none
theorem tyN_ok {x : V} {d : D} {n : String} (hs : ∀ a o, F a = some o → H a = some o) (h : Dr K F x d) (e : tyN d = some n) : TyX K H x (.type n) := by
  cases h with
  | non => cases e; exact .base .non
  | bl b => cases e; exact .base (.bl b)
  | int i => cases e; exact .base (.int i)
  | str x => cases e; exact .base (.str x)
  | tup h1 _ _ =>
    cases e
    rcases h1 with (h1 | ⟨o, h1⟩) | ⟨o, its, m, h1, h2, _⟩
    · exact .base (.tup (hs _ _ h1))
    · exact .fTuple (hs _ _ h1)
    · exact .kTuple h1 h2
  | lst h1 _ _ => cases e; exact .base (.lst (hs _ _ h1))
  | dct h1 _ _ => cases e; exact .base (.dK (hs _ _ h1))
  | _ => cases e
def isT : List (String × String × Bool) :=
  (["NoneType", "bool", "int", "str", "list", "tuple", "dict"].flatMap fun m => ["list", "tuple", "bool", "str", "int"].map fun n => (m, n, m == n || (m == "bool" && n == "int")))
def isN (m n : String) : Option Bool := (isT.find? fun p => p.1 == m && p.2.1 == n).map fun p => p.2.2
theorem isT_ok : (isT.all fun p => decide (kitB p.1 p.2.1 = some p.2.2)) = true := by decide +kernel
theorem isN_ok {m n : String} {c : Bool} (h : isN m n = some c) : PySem.W.kitOne K (.type m) (.type n) = some c := by
  unfold isN at h
  obtain ⟨p, hp, rfl⟩ := Option.map_eq_some_iff.mp h
  have h1 := List.find?_some hp
  have h2 := List.all_eq_true.mp isT_ok p (List.mem_of_find?_eq_some hp)
  rw [Bool.and_eq_true, beq_iff_eq, beq_iff_eq] at h1
  have h3 : kitB p.1 p.2.1 = some p.2.2 := of_decide_eq_true h2
  rw [h1.1, h1.2] at h3
  exact kit_ty h3
/-- which of these a thing is, by data -/
def isD (d : D) (n : String) : Option Bool := (tyN d).bind fun m => isN m n
def oIsi (ds : List D) (Φ : D → Prop) : Prop := match ds with
  | [x, .ty n] => obG (isD x n) fun c => Φ (.bl c)
  | _ => False
theorem rc_isi : RC K ps (rIsi K) oIsi := by
  intro b σ H F ρ xs ds Φ Q R h hT k
  match ds, hT with
  | [x, .ty n], hT =>
  obtain ⟨c, hc, hT⟩ := obG_ok hT
  obtain ⟨v, r, rfl, h1, h2⟩ := h.inv
  obtain ⟨w, r2, rfl, h3, h4⟩ := h2.inv
  rw [h4.inv_nil, h3.inv_ty]
  unfold isD at hc
  obtain ⟨m, hm, hc⟩ := Option.bind_eq_some_iff.mp hc
  exact ⟨v, _, _, _, c, rfl, .ty n, tyN_ok R.sub h1 hm, isN_ok hc, k _ H F _ (Same.refl F) R (.bl c) hT⟩
def dIsi2 (Ta : DE) (m n : String) : DE := fun ρ Φ => Ta ρ fun x ρ1 => obG (isD x m) fun c => obG (isD x n) fun e => Φ (.bl (c || e)) ρ1
theorem re_isi2 {ta : TE} {Ta : DE} {m n : String} (h : RE K ps ta Ta) : RE K ps (tCB (rIsiT K) (tCons ta (tCons (tTup (tCons (tC (.ty m)) (tCons (tC (.ty n)) tNil))) tNil))) (dIsi2 Ta m n) := by
  intro b σ H F ρ Φ Q R0 hT k
  refine h b σ H F ρ _ _ R0 hT fun x H1 F1 ρ1 d s1 R1 h1 hT => ?_
  obtain ⟨c, hc, hT⟩ := obG_ok hT
  obtain ⟨e, he, hT⟩ := obG_ok hT
  refine ⟨by show 2 ≤ sizeLine; decide, fun p hp => ?_⟩
  unfold isD at hc he
  obtain ⟨q, hm, hc⟩ := Option.bind_eq_some_iff.mp hc
  rw [hm] at he
  have R2 := R1.put (o := .tup [V.ty m, V.ty n]) hp
  have ka : PySem.W.kitAny K (.type q) [.type m, .type n] = some (c || e) := by
    refine kitAny_cons (isN_ok hc) (fun hcf => ?_) (fun hct => by rw [hct]; rfl)
    refine kitAny_cons (isN_ok he) (fun hef => ?_) (fun het => by rw [het, Bool.or_true])
    rw [hcf, hef]
    rfl
  exact ⟨x, p, _, _, _, c || e, rfl, upd_same, .cons (.ty m) (.cons (.ty n) .nil), tyN_ok R2.sub h1 hm, ka, k _ _ F1 ρ1 _ s1 R2 (.bl _) hT⟩
end
end DL
/-! Part 6: what is walked, comprehensions, statements. -/
namespace DL
variable [Tbs]
open PySem PySem.Spec PyProof.Rows L2
abbrev Sub (F H : Hp) : Prop := ∀ a o, F a = some o → H a = some o
/-- walking gives these data in a row -/
def Wk (K : PySem.W.Frag) (F : Hp) (J : It) (ds : List D) : Prop := ∃ (G : Hp → Prop) (Y : Nat → Hp → V → Hp → Prop), Walk J ds.length G Y ∧ (∀ H F', Same F F' → Sub F' H → G H) ∧
  ∀ i H x H', Y i H x H' → i < ds.length → ∀ F', Same F F' → Sub F' H → ∃ d F2, ds[i]? = some d ∧ Dr K F2 x d ∧ ((F2 = F' ∧ H' = H) ∨ ∃ p o, H p = none ∧ NT o ∧ F2 = upd F' p o ∧ H' = upd H p o)
def RI (K : PySem.W.Frag) (ps : List Nat) (wi : TI) (T : DLs) : Prop := ∀ (b : Bs) (σ : St) (H F : Hp) (ρ : Env) (Φ : List D → Env → Prop) (R : It → Hp → Prop), Rep K ps b σ H F ρ → T ρ Φ →
  (∀ J H' F' ρ' ds, Same F F' → Rep K ps b σ H' F' ρ' → Wk K F' J ds → Φ ds ρ' → R J H') → wi σ H R
abbrev DG := D → Env → (Env → Prop) → Prop
/-- a target; js: the slots that it stores into -/
def RG (K : PySem.W.Frag) (ps js : List Nat) (g : TG) (G : DG) : Prop := ∀ (b : Bs) (σ : St) (H F : Hp) (ρ : Env) (v : V) (d : D) (Φ : Env → Prop) (Q : St → Hp → Prop), Rep K ps b σ H F ρ → Dr K F v d → G d ρ Φ →
  (∀ σ' H' F' ρ', Same F F' → Rep K ps b σ' H' F' ρ' → (∀ ws, (∀ j ∈ js, j ∈ ws) → wipe σ' ws = wipe σ ws) → Φ ρ' → Q σ' H') → g v σ H Q
section
variable {K : PySem.W.Frag} {ps : List Nat}
theorem wk_list {F : Hp} {a : Addr} {xs : List V} {ds : List D} (e : F a = some (.lst xs)) (h : DA K F xs ds) : Wk K F (Itl K a) ds := by
  refine ⟨fun H => SqL K H a xs, YAt xs, by rw [← h.1]; exact walk_list, fun H F' s sub => SqL.of (sub _ _ (s _ _ e)), ?_⟩
  rintro i H x H' ⟨rfl, hx⟩ hi F' s sub
  obtain ⟨d, h1, h2⟩ := h.getV hx
  exact ⟨d, F', h1, h2.up s, .inl ⟨rfl, rfl⟩⟩
theorem wk_tup {F : Hp} {a : Addr} {xs : List V} {ds : List D} (e : SqT K F a xs) (h : DA K F xs ds) : Wk K F (Itt K a) ds := by
  refine ⟨fun H => SqT K H a xs, YAt xs, by rw [← h.1]; exact walk_tup, fun H F' s sub => sqT_same sub (sqT_same s e), ?_⟩
  rintro i H x H' ⟨rfl, hx⟩ hi F' s sub
  obtain ⟨d, h1, h2⟩ := h.getV hx
  exact ⟨d, F', h1, h2.up s, .inl ⟨rfl, rfl⟩⟩
def rngD (lo : Int) (n : Nat) : List D := (List.range n).map fun i => .int (lo + (i : Nat))
theorem rngD_len (lo : Int) (n : Nat) : (rngD lo n).length = n := by simp [rngD]
theorem rngD_get {lo : Int} {n i : Nat} (h : i < n) : (rngD lo n)[i]? = some (.int (lo + (i : Nat))) := by
  unfold rngD
  rw [List.getElem?_map, List.getElem?_range h]
  rfl
theorem wk_range {F : Hp} {lo : Int} {n : Nat} : Wk K F (Itr lo n) (rngD lo n) := by
  refine ⟨fun _ => True, YFn fun i => .int (lo + i), by rw [rngD_len]; exact walk_range, fun H F' s sub => trivial, ?_⟩
  rintro i H x H' ⟨rfl, rfl⟩ hi F' s sub
  rw [rngD_len] at hi
  exact ⟨_, F', rngD_get hi, .int _, .inl ⟨rfl, rfl⟩⟩
def dIL (T : DE) : DLs := fun ρ Φ => T ρ fun x ρ' => ∃ ds, x = .lst ds ∧ Φ ds ρ'
theorem ri_list {t : TE} {T : DE} (h : RE K ps t T) : RI K ps (iList K t) (dIL T) := by
  intro b σ H F ρ Φ R R0 hT k
  refine h b σ H F ρ _ _ R0 hT fun x H1 F1 ρ1 d s1 R1 h1 hT => ?_
  obtain ⟨ds, rfl, hT⟩ := hT
  obtain ⟨a, xs, rfl, ea, ha⟩ := h1.inv_lst
  exact ⟨a, rfl, ⟨xs, SqL.of (R1.sub _ _ ea)⟩, k _ H1 F1 ρ1 ds s1 R1 (wk_list ea ha) hT⟩
def dIT (T : DE) : DLs := fun ρ Φ => T ρ fun x ρ' => ∃ ds, x = .tup ds ∧ Φ ds ρ'
theorem ri_tup {t : TE} {T : DE} (h : RE K ps t T) : RI K ps (iTup K t) (dIT T) := by
  intro b σ H F ρ Φ R R0 hT k
  refine h b σ H F ρ _ _ R0 hT fun x H1 F1 ρ1 d s1 R1 h1 hT => ?_
  obtain ⟨ds, rfl, hT⟩ := hT
  obtain ⟨a, xs, rfl, ea, ha⟩ := h1.inv_tup
  exact ⟨a, rfl, ⟨xs, sqT_same R1.sub ea⟩, k _ H1 F1 ρ1 ds s1 R1 (wk_tup ea ha) hT⟩
def dIR1 (T : DLs) : DLs := fun ρ Φ => T ρ fun xs ρ' => ∃ j : Int, xs = [.int j] ∧ -(2 ^ 62) ≤ j ∧ j < 2 ^ 62 ∧ Φ (rngD 0 j.toNat) ρ'
theorem ri_range1 {t : TA} {T : DLs} (h : RV K ps t T) : RI K ps (iRng1 t) (dIR1 T) := by
  intro b σ H F ρ Φ R R0 hT k
  refine h b σ H F ρ _ _ R0 hT fun xs H1 F1 ρ1 ds s1 R1 h1 hT => ?_
  obtain ⟨j, rfl, b1, b2, hT⟩ := hT
  obtain ⟨v, r, rfl, h2, h3⟩ := h1.inv
  rw [h3.inv_nil, h2.inv_int]
  exact ⟨j, rfl, b1, b2, k _ H1 F1 ρ1 _ s1 R1 wk_range hT⟩
def dIR2 (T : DLs) : DLs := fun ρ Φ => T ρ fun xs ρ' => ∃ i j : Int, xs = [.int i, .int j] ∧ (-(2 ^ 62) ≤ i ∧ i < 2 ^ 62 ∧ -(2 ^ 62) ≤ j ∧ j < 2 ^ 62) ∧ Φ (rngD i (j - i).toNat) ρ'
theorem ri_range2 {t : TA} {T : DLs} (h : RV K ps t T) : RI K ps (iRng2 t) (dIR2 T) := by
  intro b σ H F ρ Φ R R0 hT k
  refine h b σ H F ρ _ _ R0 hT fun xs H1 F1 ρ1 ds s1 R1 h1 hT => ?_
  obtain ⟨i, j, rfl, bb, hT⟩ := hT
  obtain ⟨v, r, rfl, h2, h3⟩ := h1.inv
  obtain ⟨w, r2, rfl, h4, h5⟩ := h3.inv
  rw [h5.inv_nil, h2.inv_int, h4.inv_int]
  exact ⟨i, j, rfl, bb, k _ H1 F1 ρ1 _ s1 R1 wk_range hT⟩
/-! ### targets -/
theorem wipe_set {x : Option V} {j : Nat} : ∀ {ws : List Nat} {σ : St}, j ∈ ws → wipe (σ.set j x) ws = wipe σ ws
  | [], _, h => nomatch h
  | w :: ws, σ, h => by
    have key : ∀ (σ : St), (wipe (σ.set j x) ws).set j none = (wipe σ ws).set j none := by
      clear h
      induction ws with
      | nil => intro σ; show (σ.set j x).set j none = σ.set j none; rw [List.set_set]
      | cons u us ih =>
        intro σ
        show ((wipe (σ.set j x) us).set u none).set j none = ((wipe σ us).set u none).set j none
        by_cases hu : u = j
        · subst hu
          rw [List.set_set, List.set_set, ih]
        · rw [List.set_comm _ _ hu, ih, ← List.set_comm _ _ hu]
    show (wipe (σ.set j x) ws).set w none = (wipe σ ws).set w none
    rcases List.mem_cons.mp h with rfl | h
    · exact key σ
    · rw [wipe_set h]
def dName (j : Nat) : DG := fun d ρ Φ => Φ (ρ.set j (some (.d d)))
theorem rg_name {j : Nat} (hj : j ∉ ps := by decide) : RG K ps [j] (gName j) (dName j) := by
  intro b σ H F ρ v d Φ Q R hd hT k
  exact k _ H F _ (Same.refl F) (R.setD hj hd) (fun ws hw => wipe_set (hw j (List.mem_singleton.mpr rfl))) hT
abbrev DGs := List D → Env → (Env → Prop) → Prop
def RGs (K : PySem.W.Frag) (ps js : List Nat) (g : TGs) (G : DGs) : Prop := ∀ (b : Bs) (σ : St) (H F : Hp) (ρ : Env) (vs : List V) (ds : List D) (Φ : Env → Prop) (Q : St → Hp → Prop), Rep K ps b σ H F ρ → DA K F vs ds → G ds ρ Φ →
  (∀ σ' H' F' ρ', Same F F' → Rep K ps b σ' H' F' ρ' → (∀ ws, (∀ j ∈ js, j ∈ ws) → wipe σ' ws = wipe σ ws) → Φ ρ' → Q σ' H') → g vs σ H Q
def dGNil : DGs := fun ds ρ Φ => ds = [] ∧ Φ ρ
theorem rgs_nil : RGs K ps [] gNil dGNil := by
  intro b σ H F ρ vs ds Φ Q R hd hT k
  obtain ⟨rfl, hT⟩ := hT
  exact ⟨hd.inv_nil, k σ H F ρ (Same.refl F) R (fun _ _ => rfl) hT⟩
def dGCons (G : DG) (Gs : DGs) : DGs := fun ds ρ Φ => ∃ d r, ds = d :: r ∧ G d ρ fun ρ1 => Gs r ρ1 Φ
theorem rgs_cons {js js' : List Nat} {g : TG} {gs : TGs} {G : DG} {Gs : DGs} (h : RG K ps js g G) (hs : RGs K ps js' gs Gs) : RGs K ps (js ++ js') (gCons g gs) (dGCons G Gs) := by
  intro b σ H F ρ vs ds Φ Q R hd hT k
  obtain ⟨d, r, rfl, hT⟩ := hT
  obtain ⟨v, t, rfl, h1, h2⟩ := hd.inv
  refine ⟨v, t, rfl, h b σ H F ρ v d _ _ R h1 hT fun σ1 H1 F1 ρ1 s1 R1 w1 hT => ?_⟩
  refine hs b σ1 H1 F1 ρ1 t r _ _ R1 (h2.up s1) hT fun σ2 H2 F2 ρ2 s2 R2 w2 hT => k σ2 H2 F2 ρ2 (s1.trans s2) R2 (fun ws hw => ?_) hT
  rw [w2 ws fun j hj => hw j (List.mem_append_right _ hj), w1 ws fun j hj => hw j (List.mem_append_left _ hj)]
def dGTup (n : Nat) (Gs : DGs) : DG := fun d ρ Φ => ∃ ds, d = .tup ds ∧ ds.length = n ∧ Gs ds ρ Φ
theorem rg_tup {n : Nat} {js : List Nat} {gs : TGs} {Gs : DGs} (hs : RGs K ps js gs Gs) : RG K ps js (gTup K n gs) (dGTup n Gs) := by
  intro b σ H F ρ v d Φ Q R hd hT k
  obtain ⟨ds, rfl, hn, hT⟩ := hT
  obtain ⟨a, xs, rfl, ea, ha⟩ := hd.inv_tup
  exact ⟨a, xs, rfl, sqT_same R.sub ea, by rw [ha.1, hn], hs b σ H F ρ xs ds Φ Q R ha hT k⟩
/-! ### comprehensions -/
def wipeD (ρ : Env) : List Nat → Env
  | [] => ρ
  | v :: vs => (wipeD ρ vs).set v none
theorem wipeD_len (ρ : Env) : ∀ vs, (wipeD ρ vs).length = ρ.length
  | [] => rfl
  | v :: vs => by unfold wipeD; rw [List.length_set, wipeD_len ρ vs]
theorem wipeD_some {ρ : Env} {i : Nat} {o : OV} : ∀ {vs : List Nat}, (wipeD ρ vs)[i]? = some (some o) → ρ[i]? = some (some o) ∧ i ∉ vs
  | [], h => ⟨h, by simp⟩
  | v :: vs, h => by
    rcases set_some (show ((wipeD ρ vs).set v none)[i]? = some (some o) from h) with ⟨_, q⟩ | ⟨n, q⟩
    · cases q
    · obtain ⟨h1, h2⟩ := wipeD_some q
      exact ⟨h1, fun hm => (List.mem_cons.mp hm).elim n h2⟩
theorem wipe_get {σ : St} {i : Nat} : ∀ {vs : List Nat}, i ∉ vs → (wipe σ vs)[i]? = σ[i]?
  | [], _ => rfl
  | v :: vs, h => by
    show ((wipe σ vs).set v none)[i]? = _
    rw [List.getElem?_set_ne (fun z => h (by rw [z]; exact List.mem_cons_self))]
    exact wipe_get fun z => h (List.mem_cons_of_mem _ z)
theorem wipe_wipe {σ : St} {vs : List Nat} : wipe (wipe σ vs) vs = wipe σ vs := by
  have key : ∀ (us : List Nat) (σ : St), (∀ u ∈ us, u ∈ vs) → wipe (wipe σ us) vs = wipe σ vs := by
    intro us
    induction us with
    | nil => intro σ _; rfl
    | cons u us ih =>
      intro σ h
      show wipe ((wipe σ us).set u none) vs = _
      rw [wipe_set (h u List.mem_cons_self)]
      exact ih σ fun x hx => h x (List.mem_cons_of_mem _ hx)
  exact key vs σ fun _ h => h
/-- the block's slots -/
theorem Rep.block {b : Bs} {σ : St} {H F : Hp} {ρ : Env} (R : Rep K ps b σ H F ρ) {vs : List Nat} (hv : ∀ v ∈ vs, v ∉ ps) : Rep K ps b (wipe σ vs) H F (wipeD ρ vs) where
  sub := R.sub
  grow := R.grow
  nt := R.nt
  dom := R.dom
  tabs := R.tabs
  keep := R.keep
  there := R.there
  new := R.new
  slot := fun i o e => by
    obtain ⟨h1, h2⟩ := wipeD_some e
    rw [wipe_get h2]
    exact R.slot i o h1
  apart := fun i j o u v n e1 o1 e2 o2 s1 => by
    obtain ⟨h1, h2⟩ := wipeD_some e1
    obtain ⟨h3, h4⟩ := wipeD_some e2
    rw [wipe_get h2] at s1
    rw [wipe_get h4]
    exact R.apart i j o u v n h1 o1 h3 o2 s1
  len := by rw [wipeD_len, wipe_length]; exact R.len
  pin := fun i hi => by
    rw [wipe_get fun z => hv i z hi]
    exact R.pin i hi
/-- a slot of ρ0 that holds data -/
def keepD (o : Option (Option OV)) : Option OV := match o with
  | some (some (.d d)) => some (.d d)
  | _ => none
def restore (ρ ρ0 : Env) : List Nat → Env
  | [] => ρ
  | v :: vs => (restore ρ ρ0 vs).set v (keepD ρ0[v]?)
theorem restore_len (ρ ρ0 : Env) : ∀ vs, (restore ρ ρ0 vs).length = ρ.length
  | [] => rfl
  | v :: vs => by unfold restore; rw [List.length_set, restore_len ρ ρ0 vs]
theorem restore_some {ρ ρ0 : Env} {i : Nat} {o : OV} : ∀ {vs : List Nat}, (restore ρ ρ0 vs)[i]? = some (some o) → (i ∈ vs ∧ ∃ d, o = .d d ∧ ρ0[i]? = some (some (.d d))) ∨ (i ∉ vs ∧ ρ[i]? = some (some o))
  | [], h => .inr ⟨by simp, h⟩
  | v :: vs, h => by
    rcases set_some (show ((restore ρ ρ0 vs).set v (keepD ρ0[v]?))[i]? = some (some o) from h) with ⟨rfl, q⟩ | ⟨n, q⟩
    · refine .inl ⟨List.mem_cons_self, ?_⟩
      unfold keepD at q
      split at q
      · rename_i d e
        exact ⟨d, (Option.some.inj q).symm, e⟩
      · cases q
    · rcases restore_some q with ⟨h1, h2⟩ | ⟨h1, h2⟩
      · exact .inl ⟨List.mem_cons_of_mem _ h1, h2⟩
      · exact .inr ⟨fun hm => (List.mem_cons.mp hm).elim n h1, h2⟩
theorem Rep.unblock {b : Bs} {σ : St} {H F H0 F0 : Hp} {ρ ρ0 : Env} {vs : List Nat} (R0 : Rep K ps b σ H0 F0 ρ0) (s : Same F0 F) (R : Rep K ps b (wipe σ vs) H F ρ) (hv : ∀ v ∈ vs, v ∉ ps) : Rep K ps b σ H F (restore ρ ρ0 vs) where
  sub := R.sub
  grow := R.grow
  nt := R.nt
  dom := R.dom
  tabs := R.tabs
  keep := R.keep
  there := R.there
  new := R.new
  slot := fun i o e => by
    rcases restore_some e with ⟨_, d, rfl, h⟩ | ⟨h1, h2⟩
    · obtain ⟨v, g1, g2⟩ := R0.slot i _ h
      exact ⟨v, g1, Dr.up s g2⟩
    · obtain ⟨v, g1, g2⟩ := R.slot i o h2
      rw [wipe_get h1] at g1
      exact ⟨v, g1, g2⟩
  apart := fun i j o u v n e1 o1 e2 o2 s1 => by
    rcases restore_some e1 with ⟨_, d, rfl, h⟩ | ⟨h1, h2⟩
    · cases o1
    · rcases restore_some e2 with ⟨_, d, rfl, h⟩ | ⟨h3, h4⟩
      · cases o2
      · have := R.apart i j o u v n h2 o1 h4 o2 (by rw [wipe_get h1]; exact s1)
        rwa [wipe_get h3] at this
  len := by rw [restore_len, R.len, wipe_length]
  pin := fun i hi => by
    obtain ⟨v, g1, g2⟩ := R.pin i hi
    rw [wipe_get fun z => hv i z hi] at g1
    exact ⟨v, g1, g2⟩
def dYes : DT := fun ρ Φ => Φ true ρ
theorem rt_yes : RT K ps tYes dYes := fun b σ H F ρ Φ Q R hT k => k true H F ρ (Same.refl F) R hT
def dLc (Ti : DLs) (G : DG) (Tt : DT) (Te : DE) (vs : List Nat) : DLs := fun ρ Φ => Ti ρ fun ds ρ1 => ∃ W : Nat → List D → Env → Prop, W 0 [] (wipeD ρ1 vs) ∧
  (∀ k x acc ρ, ds[k]? = some x → W k acc ρ → G x ρ fun ρ2 => Tt ρ2 fun c ρ3 => if c = true then Te ρ3 fun e ρ4 => acc.length < sizeLine ∧ W (k + 1) (acc ++ [e]) (wipeD ρ4 vs) else W (k + 1) acc (wipeD ρ3 vs)) ∧
  ∀ acc ρ, W ds.length acc ρ → Φ acc (restore ρ ρ1 vs)
theorem RG.fr {js : List Nat} {g : TG} {G : DG} (h : RG K ps js g G) {b : Bs} {σ : St} {H F : Hp} {ρ : Env} {v : V} {d : D} {Φ : Env → Prop} {Q : St → Hp → Prop} (R : Rep K ps b σ H F ρ) (hd : Dr K F v d) (hT : G d ρ Φ)
    (k : ∀ σ' H' F' ρ', Same F F' → Fr σ ρ H F H' F' → Rep K ps b σ' H' F' ρ' → (∀ a, Owned σ' ρ' a → Owned σ ρ a ∨ H a = none) → (∀ ws, (∀ j ∈ js, j ∈ ws) → wipe σ' ws = wipe σ ws) → Φ ρ' → Q σ' H') : g v σ H Q :=
  h (here b σ H F ρ) σ H F ρ v d Φ Q R.here hd hT fun σ' H' F' ρ' s R' w hΦ => k σ' H' F' ρ' s (R.fr R') (R.back R') (fun a z => (R'.owned z).2.1.symm) w hΦ
/-- a loose thing is changed -/
theorem Rep.poke {b : Bs} {σ : St} {H F : Hp} {ρ : Env} (R : Rep K ps b σ H F ρ) {p : Addr} {o u : HO} (hF : F p = none) (h0 : b.H0 p = none) (hn : ¬ Owned σ ρ p) (e : H p = some u) (hz : NT u := by intro t z; cases z) (hc : ∀ c q, u ≠ LamX.CodeO c q := by first | exact lst_nc _ | exact dK_nc _) : Rep K ps b σ (upd H p o) F ρ where
  sub := fun a w e1 => by
    rw [upd_ne (fun z => by rw [z, hF] at e1; cases e1)]
    exact R.sub a w e1
  grow := R.grow
  nt := R.nt
  dom := fun a w e1 => by
    rw [upd_ne (fun z => by rw [z, h0] at e1; cases e1)]
    exact R.dom a w e1
  tabs := tabs_but R.tabs e hz hc fun a w na e1 => by rw [upd_ne na]; exact e1
  keep := fun a w e1 n nz => by
    rw [upd_ne (fun z => by rw [z, h0] at e1; cases e1)]
    exact R.keep a w e1 n nz
  there := fun a h => by
    by_cases ha : a = p
    · subst ha
      exact ⟨o, upd_same⟩
    · rw [upd_ne ha]
      exact R.there a h
  new := R.new
  slot := fun i w e1 => by
    obtain ⟨v, h1, h2⟩ := R.slot i w e1
    refine ⟨v, h1, h2.up (Same.refl F) fun q hv ho => ?_⟩
    obtain ⟨q', hq, hFq, _, _⟩ := h2.inv ho
    rw [hv] at hq
    cases hq
    exact ⟨hFq, upd_ne (fun z => hn ⟨i, w, e1, ho, by rw [← z, ← hv]; exact h1⟩)⟩
  apart := R.apart
  len := R.len
  pin := R.pin
theorem owned_block {σ : St} {ρ : Env} {vs : List Nat} {a : Addr} (h : Owned (wipe σ vs) (wipeD ρ vs) a) : Owned σ ρ a := by
  obtain ⟨i, o, e1, e2, e3⟩ := h
  obtain ⟨h1, h2⟩ := wipeD_some e1
  rw [wipe_get h2] at e3
  exact ⟨i, o, h1, e2, e3⟩
theorem rl_lc {js : List Nat} {wi : TI} {g : TG} {tt : TT} {te : TE} {vs : List Nat} {Ti : DLs} {G : DG} {Tt : DT} {Te : DE} (hi : RI K ps wi Ti) (hg : RG K ps js g G) (ht : RT K ps tt Tt) (he : RE K ps te Te) (hv : ∀ v ∈ vs, v ∉ ps := by decide) (hj : ∀ j ∈ js, j ∈ vs := by decide) :
    RL K ps (tLc wi g tt te vs) (dLc Ti G Tt Te vs) := by
  intro b σ H F ρ Φ Q R0 hT k
  refine hi b σ H F ρ _ _ R0 hT fun J H1 F1 ρ1 ds s1 R1 hw hT => fun p hp => ?_
  obtain ⟨Gd, Y, hwk, hG, hY⟩ := hw
  obtain ⟨W, w0, wt, wd⟩ := hT
  obtain ⟨hF1, h01, _⟩ := R1.fresh hp
  have n1 : ¬ Owned σ ρ1 p := fun z => by
    obtain ⟨_, _, o, e⟩ := R1.owned z
    rw [hp] at e
    cases e
  refine lc_it hwk (fun i H' => ∃ F' ρ' acc xs, Same F1 F' ∧ Rep K ps b (wipe σ vs) H' F' ρ' ∧ H' p = some (.lst xs) ∧ DA K F' xs acc ∧ F' p = none ∧ ¬ Owned (wipe σ vs) ρ' p ∧ W i acc ρ')
    ⟨F1, _, [], [], Same.refl F1, (R1.block hv).put hp, upd_same, .nil, hF1, fun z => n1 (owned_block z), w0⟩ ?_ ?_ ?_
  · rintro i H' _ ⟨F', ρ', acc, xs, s, R, _⟩
    exact hG H' F' s R.sub
  · rintro i x H2 H3 hin ⟨F2, ρ2, acc, xs, s, R2, ex, hx, hF2, n2, hW⟩ y
    obtain ⟨d, F3, hd, hdr, hy⟩ := hY i H2 x H3 y hin F2 s R2.sub
    -- the item is there
    have st : Rep K ps b (wipe σ vs) H3 F3 ρ2 ∧ H3 p = some (.lst xs) ∧ F3 p = none ∧ Same F2 F3 := by
      rcases hy with ⟨rfl, rfl⟩ | ⟨q, o, hq, hqn, rfl, rfl⟩
      · exact ⟨R2, ex, hF2, Same.refl _⟩
      · have nq : p ≠ q := ne_of_none ex hq
        exact ⟨R2.alloc hq hqn, (upd_ne nq).trans ex, (upd_ne nq).trans hF2, SX.same_upd (R2.fresh hq).1⟩
    obtain ⟨R3, ex3, hF3, s3⟩ := st
    refine hg.fr R3 hdr (wt i d acc ρ2 hd hW) fun σ4 H4 F4 ρ4 s4 f4 R4 o4 w4 hT => ?_
    have hwp : wipe σ4 vs = wipe σ vs := by rw [w4 vs hj, wipe_wipe]
    obtain ⟨ex4, hF4⟩ := f4.loose R3 ex3 hF3 n2
    have n4 : ¬ Owned σ4 ρ4 p := fun z => (o4 p z).elim n2 fun h => by rw [ex3] at h; cases h
    refine ⟨hwp, ht.fr R4 hT fun c H5 F5 ρ5 s5 f5 R5 o5 hT => ?_⟩
    obtain ⟨ex5, hF5⟩ := f5.loose R4 ex4 hF4 n4
    have n5 : ¬ Owned σ4 ρ5 p := fun z => (o5 p z).elim n4 fun h => by rw [ex4] at h; cases h
    have s15 : Same F1 F5 := (((s.trans s3).trans s4).trans s5)
    have hx5 := (((hx.up s3).up s4).up s5)
    cases c with
    | false =>
      refine ⟨F5, wipeD ρ5 vs, acc, xs, s15, ?_, ex5, hx5, hF5, ?_, hT⟩
      · have := R5.block hv
        rwa [hwp] at this
      · intro z
        rw [← hwp] at z
        exact n5 (owned_block z)
    | true =>
      refine he.fr R5 hT fun u H6 F6 ρ6 e s6 f6 R6 o6 hd6 hT => ?_
      obtain ⟨ex6, hF6⟩ := f6.loose R5 ex5 hF5 n5
      have n6 : ¬ Owned σ4 ρ6 p := fun z => (o6 p z).elim n5 fun h => by rw [ex5] at h; cases h
      have hx6 := hx5.up s6
      refine ⟨xs, ex6, by rw [hx6.1]; exact hT.1, F6, wipeD ρ6 vs, acc ++ [e], xs ++ [u], s15.trans s6, ?_, upd_same, hx6.app (.one hd6), hF6, ?_, hT.2⟩
      · have := (R6.poke (o := .lst (xs ++ [u])) hF6 h01 n6 ex6).block hv
        rwa [hwp] at this
      · intro z
        rw [← hwp] at z
        exact n6 (owned_block z)
  · rintro H' ⟨F', ρ', acc, xs, s, R, ex, hx, hF', n', hW⟩
    have Ru := R1.unblock s R hv
    refine k p xs H' F' _ acc (s1.trans s) Ru ⟨hF', h01, fun i o e ho z => ?_⟩ ex hx (wd acc ρ' hW)
    rcases restore_some e with ⟨_, d, rfl, _⟩ | ⟨h1, h2⟩
    · cases ho
    · exact n' ⟨i, o, h2, ho, by rw [wipe_get h1]; exact z⟩
/-! ### slices -/
def DOo := Env → (Option Int → Env → Prop) → Prop
def RP (K : PySem.W.Frag) (ps : List Nat) (t : TO) (T : DOo) : Prop := ∀ (b : Bs) (σ : St) (H F : Hp) (ρ : Env) (Φ : Option Int → Env → Prop) (Q : Option Int → Hp → Prop), Rep K ps b σ H F ρ → T ρ Φ →
  (∀ o H' F' ρ', Same F F' → Rep K ps b σ H' F' ρ' → Φ o ρ' → Q o H') → t σ H Q
def dNoPart : DOo := fun ρ Φ => Φ none ρ
theorem rp_none : RP K ps tNoPart dNoPart := fun b σ H F ρ Φ Q R hT k => k none H F ρ (Same.refl F) R hT
def dPart (T : DE) : DOo := fun ρ Φ => T ρ fun x ρ' => ∃ i, x = .int i ∧ Φ (some i) ρ'
theorem rp_some {t : TE} {T : DE} (h : RE K ps t T) : RP K ps (tPart t) (dPart T) := by
  intro b σ H F ρ Φ Q R0 hT k
  refine h b σ H F ρ _ _ R0 hT fun x H1 F1 ρ1 d s1 R1 h1 hT => ?_
  obtain ⟨i, rfl, hT⟩ := hT
  exact ⟨i, h1.inv_int, k _ H1 F1 ρ1 s1 R1 hT⟩
def cutD (xs : List D) (lo hi : Option Int) : List D := (xs.drop (HT.sIx xs.length 0 lo)).take (HT.sIx xs.length xs.length hi - HT.sIx xs.length 0 lo)
theorem DA.cut {F : Hp} {xs : List V} {ds : List D} (h : DA K F xs ds) (lo hi : Option Int) : DA K F (cutV xs lo hi) (cutD ds lo hi) := by
  unfold cutV cutD
  rw [h.1]
  exact (h.drop _).take _
def dSlL (Te : DE) (Tl Th : DOo) : DLs := fun ρ Φ => Te ρ fun x ρ1 => Tl ρ1 fun l ρ2 => Th ρ2 fun u ρ3 => ∃ ds, x = .lst ds ∧ Φ (cutD ds l u) ρ3
theorem rl_slice {te : TE} {tl th : TO} {Te : DE} {Tl Th : DOo} (he : RE K ps te Te) (hl : RP K ps tl Tl) (hh : RP K ps th Th) : RL K ps (tSl (rSlL K) te tl th) (dSlL Te Tl Th) := by
  intro b σ H F ρ Φ Q R0 hT k
  refine he b σ H F ρ _ _ R0 hT fun x H1 F1 ρ1 d s1 R1 h1 hA => ?_
  refine hl b σ H1 F1 ρ1 _ _ R1 hA fun l H2 F2 ρ2 s2 R2 hB => ?_
  refine hh b σ H2 F2 ρ2 _ _ R2 hB fun u H3 F3 ρ3 s3 R3 hC => ?_
  obtain ⟨ds, rfl, hD⟩ := hC
  obtain ⟨a, xs, rfl, ea, ha⟩ := h1.inv_lst
  have s13 := s2.trans s3
  exact ⟨a, xs, rfl, SqL.of (R3.sub _ _ (s13 _ _ ea)), fun p hp => k p _ _ F3 ρ3 _ (s1.trans s13) (R3.put hp) (R3.loose hp) upd_same ((ha.up s13).cut l u) hD⟩
def dSlT (Te : DE) (Tl Th : DOo) : DE := fun ρ Φ => Te ρ fun x ρ1 => Tl ρ1 fun l ρ2 => Th ρ2 fun u ρ3 => ∃ ds, x = .tup ds ∧ Φ (.tup (cutD ds l u)) ρ3
theorem re_sliceT {te : TE} {tl th : TO} {Te : DE} {Tl Th : DOo} (he : RE K ps te Te) (hl : RP K ps tl Tl) (hh : RP K ps th Th) : RE K ps (tSl (rSlA K) te tl th) (dSlT Te Tl Th) := by
  intro b σ H F ρ Φ Q R0 hT k
  refine he b σ H F ρ _ _ R0 hT fun x H1 F1 ρ1 d s1 R1 h1 hA => ?_
  refine hl b σ H1 F1 ρ1 _ _ R1 hA fun l H2 F2 ρ2 s2 R2 hB => ?_
  refine hh b σ H2 F2 ρ2 _ _ R2 hB fun u H3 F3 ρ3 s3 R3 hC => ?_
  obtain ⟨ds, rfl, hD⟩ := hC
  have s13 := s2.trans s3
  obtain ⟨a, xs, rfl, ea, ha⟩ := (h1.up s13).inv_tup
  refine ⟨a, xs, rfl, sqT_same R3.sub ea, fun hw => ?_, fun _ p hp => ?_⟩
  · have e : cutD ds l u = ds := by
      unfold cutD
      rw [← ha.1, hw.1, hw.2, Nat.sub_zero, List.drop_zero, ha.1, List.take_length]
    rw [e] at hD
    exact k _ H3 F3 ρ3 _ (s1.trans s13) R3 (h1.up s13) hD
  · obtain ⟨hF, _⟩ := R3.fresh hp
    have sF : Same F3 (upd F3 p (.tup (cutV xs l u))) := SX.same_upd hF
    have hc := ha.cut l u
    exact k _ _ _ ρ3 _ ((s1.trans s13).trans sF) (R3.alloc hp) (.tup (SqT.of upd_same) hc.1 fun j v d a c => (hc.2 j v d a c).up sF) hD
def dRevL (T : DE) : DLs := fun ρ Φ => T ρ fun x ρ1 => ∃ ds, x = .lst ds ∧ Φ ds.reverse ρ1
theorem rl_rev {t : TE} {T : DE} (h : RE K ps t T) : RL K ps (tRevL K t) (dRevL T) := by
  intro b σ H F ρ Φ Q R0 hT k
  refine h b σ H F ρ _ _ R0 hT fun x H1 F1 ρ1 d s1 R1 h1 hT => ?_
  obtain ⟨ds, rfl, hT⟩ := hT
  obtain ⟨a, xs, rfl, ea, ha⟩ := h1.inv_lst
  exact ⟨a, xs, rfl, SqL.of (R1.sub _ _ ea), fun p hp => k p _ _ F1 ρ1 _ s1 (R1.put hp) (R1.loose hp) upd_same ha.rev hT⟩
def dRevT (T : DE) : DE := fun ρ Φ => T ρ fun x ρ1 => ∃ ds, x = .tup ds ∧ Φ (.tup ds.reverse) ρ1
theorem re_revT {t : TE} {T : DE} (h : RE K ps t T) : RE K ps (SX.tRevT K t) (dRevT T) := by
  intro b σ H F ρ Φ Q R0 hT k
  refine h b σ H F ρ _ _ R0 hT fun x H1 F1 ρ1 d s1 R1 h1 hT => ?_
  obtain ⟨ds, rfl, hT⟩ := hT
  obtain ⟨a, xs, rfl, ea, ha⟩ := h1.inv_tup
  refine ⟨a, xs, rfl, sqT_same R1.sub ea, fun p hp => ?_⟩
  obtain ⟨hF, _⟩ := R1.fresh hp
  have sF : Same F1 (upd F1 p (.tup xs.reverse)) := SX.same_upd hF
  exact k _ _ _ ρ1 _ (s1.trans sF) (R1.alloc hp) (.tup (SqT.of upd_same) ha.rev.1 fun j v d a c => (ha.rev.2 j v d a c).up sF) hT
/-! ### fields of what is kept -/
def dFld (C : Addr) (T : DE) (f : Str) : DE := fun ρ Φ => T ρ fun x ρ1 => ∃ fs d, x = .obj C fs ∧ valD fs f = some d ∧ Φ d ρ1
theorem lookup_valV {f : Str} : ∀ fs : List (Str × V), fs.lookup f = valV fs f
  | [] => rfl
  | p :: r => by
    by_cases e : p.1 = f
    · rw [valV_pos e, List.lookup_cons, beq_iff_eq.mpr e.symm]
    · rw [valV_neg e, List.lookup_cons, beq_eq_false_iff_ne.mpr (fun z => e z.symm)]
      exact lookup_valV r
theorem re_fld {C : Addr} {t : TE} {T : DE} {f : Str} (hc : Cls K C) (hn : NoAttr K C f) (h : RE K ps t T) : RE K ps (tFld K t f) (dFld C T f) := by
  intro b σ H F ρ Φ Q R0 hT k
  refine h b σ H F ρ _ _ R0 hT fun x H1 F1 ρ1 d s1 R1 h1 hT => ?_
  obtain ⟨fs, e, rfl, he, hT⟩ := hT
  obtain ⟨a, dx, xs, rfl, ea, hm⟩ := h1.inv_obj
  have m := hm.val (k := f)
  rw [he] at m
  obtain ⟨v, hv, hd⟩ := m
  exact ⟨a, C, dx, xs, v, rfl, R1.sub _ _ ea, hc, hn, by rw [lookup_valV]; exact hv, k v H1 F1 ρ1 e s1 R1 hd hT⟩
end
end DL
/-! Part 7: statements; what a def promises, by data. -/
namespace DL
variable [Tbs]
open PySem PySem.Spec PyProof.Rows L2
structure DEn where
  nx : Env → Prop
  rt : D → Env → Prop
  bk : Env → Prop
  ct : Env → Prop
abbrev DS := DEn → Env → Prop
def RS (K : PySem.W.Frag) (ps : List Nat) (t : TS) (T : DS) : Prop := ∀ (b : Bs) (σ : St) (H F : Hp) (ρ : Env) (E : DEn) (D' : Ends), Rep K ps b σ H F ρ → T E ρ →
  (∀ σ' H' F' ρ', Same F F' → Rep K ps b σ' H' F' ρ' → E.nx ρ' → D'.nx σ' H') → (∀ v σ' H' F' ρ' d, Same F F' → Rep K ps b σ' H' F' ρ' → Dr K F' v d → E.rt d ρ' → D'.rt v H') →
  (∀ σ' H' F' ρ', Same F F' → Rep K ps b σ' H' F' ρ' → E.bk ρ' → D'.bk σ' H') → (∀ σ' H' F' ρ', Same F F' → Rep K ps b σ' H' F' ρ' → E.ct ρ' → D'.ct σ' H') → t D' σ H
section
variable {K : PySem.W.Frag} {ps : List Nat}
theorem at_l {F H : Hp} {p : Addr} {xs : List V} {ds : List D} (h : H p = some (.lst xs)) (hd : DA K F xs ds) : At K F H p (.l ds) := ⟨xs, h, hd⟩
theorem at_m {F H : Hp} {p : Addr} {xs : List (Key × V)} {ds : List (Key × D)} (h : H p = some (.dK xs)) (hd : DM K F xs ds) : At K F H p (.m ds) := ⟨xs, h, hd⟩
def dNext : DS := fun E ρ => E.nx ρ
theorem rs_next : RS K ps tNext dNext := fun b σ H F ρ E D' R hT n r bk ct => n σ H F ρ (Same.refl F) R hT
def dSeq (T U : DS) : DS := fun E ρ => T { E with nx := U E } ρ
theorem rs_seq {t u : TS} {T U : DS} (h : RS K ps t T) (h2 : RS K ps u U) : RS K ps (tSeq t u) (dSeq T U) := by
  intro b σ H F ρ E D' R hT n r bk ct
  refine h b σ H F ρ _ _ R hT (fun σ1 H1 F1 ρ1 s1 R1 hT => ?_) r bk ct
  exact h2 b σ1 H1 F1 ρ1 E D' R1 hT (fun σ2 H2 F2 ρ2 s2 => n σ2 H2 F2 ρ2 (s1.trans s2)) (fun v σ2 H2 F2 ρ2 d s2 => r v σ2 H2 F2 ρ2 d (s1.trans s2)) (fun σ2 H2 F2 ρ2 s2 => bk σ2 H2 F2 ρ2 (s1.trans s2)) (fun σ2 H2 F2 ρ2 s2 => ct σ2 H2 F2 ρ2 (s1.trans s2))
def dBreak : DS := fun E ρ => E.bk ρ
theorem rs_break : RS K ps tBreak dBreak := fun b σ H F ρ E D' R hT n r bk ct => bk σ H F ρ (Same.refl F) R hT
def dCont : DS := fun E ρ => E.ct ρ
theorem rs_cont : RS K ps tCont dCont := fun b σ H F ρ E D' R hT n r bk ct => ct σ H F ρ (Same.refl F) R hT
def dRet (T : DE) : DS := fun E ρ => T ρ fun d ρ' => E.rt d ρ'
theorem rs_ret {t : TE} {T : DE} (h : RE K ps t T) : RS K ps (tRet t) (dRet T) := by
  intro b σ H F ρ E D' R hT n r bk ct
  exact h b σ H F ρ _ _ R hT fun v H1 F1 ρ1 d s1 R1 hd hΦ => r v σ H1 F1 ρ1 d s1 R1 hd hΦ
def dRetN : DS := fun E ρ => E.rt .non ρ
theorem rs_retN : RS K ps tRetN dRetN := fun b σ H F ρ E D' R hT n r bk ct => r .non σ H F ρ .non (Same.refl F) R .non hT
def dDrop (T : DE) : DS := fun E ρ => T ρ fun _ ρ' => E.nx ρ'
theorem rs_drop {t : TE} {T : DE} (h : RE K ps t T) : RS K ps (tDrop t) (dDrop T) := by
  intro b σ H F ρ E D' R hT n r bk ct
  exact h b σ H F ρ _ _ R hT fun v H1 F1 ρ1 d s1 R1 hd hΦ => n σ H1 F1 ρ1 s1 R1 hΦ
def dIfS (C : DT) (T U : DS) : DS := fun E ρ => C ρ fun c ρ1 => if c = true then T E ρ1 else U E ρ1
theorem rs_if {c : TT} {t u : TS} {C : DT} {T U : DS} (hc : RT K ps c C) (h : RS K ps t T) (h2 : RS K ps u U) : RS K ps (tIfS c t u) (dIfS C T U) := by
  intro b σ H F ρ E D' R hT n r bk ct
  refine hc b σ H F ρ _ _ R hT fun c H1 F1 ρ1 s1 R1 hT => ?_
  have n' := fun σ2 H2 F2 ρ2 (s2 : Same F1 F2) => n σ2 H2 F2 ρ2 (s1.trans s2)
  have r' := fun v σ2 H2 F2 ρ2 d (s2 : Same F1 F2) => r v σ2 H2 F2 ρ2 d (s1.trans s2)
  have b' := fun σ2 H2 F2 ρ2 (s2 : Same F1 F2) => bk σ2 H2 F2 ρ2 (s1.trans s2)
  have c' := fun σ2 H2 F2 ρ2 (s2 : Same F1 F2) => ct σ2 H2 F2 ρ2 (s1.trans s2)
  cases c with
  | true => exact h b σ H1 F1 ρ1 E D' R1 hT n' r' b' c'
  | false => exact h2 b σ H1 F1 ρ1 E D' R1 hT n' r' b' c'
/-- a target, data -/
def dAsg (T : DE) (G : DG) : DS := fun E ρ => T ρ fun d ρ1 => G d ρ1 E.nx
theorem rs_asg {js : List Nat} {t : TE} {g : TG} {T : DE} {G : DG} (h : RE K ps t T) (hg : RG K ps js g G) : RS K ps (tAsg t g) (dAsg T G) := by
  intro b σ H F ρ E D' R hT n r bk ct
  refine h b σ H F ρ _ _ R hT fun v H1 F1 ρ1 d s1 R1 hd hΦ => ?_
  exact hg b σ H1 F1 ρ1 v d _ _ R1 hd hΦ fun σ2 H2 F2 ρ2 s2 R2 _ hn => n σ2 H2 F2 ρ2 (s1.trans s2) R2 hn
/-- a new list into a slot -/
def dSetL (j : Nat) (T : DLs) : DS := fun E ρ => T ρ fun ds ρ1 => E.nx (ρ1.set j (some (.l ds)))
theorem rs_setL {j : Nat} {t : TE} {T : DLs} (h : RL K ps t T) (hj : j ∉ ps := by decide) : RS K ps (tAsg t (gName j)) (dSetL j T) := by
  intro b σ H F ρ E D' R hT n r bk ct
  exact h b σ H F ρ _ _ R hT fun p xs H1 F1 ρ1 ds s1 R1 lo hx hd hΦ => n _ H1 F1 _ s1 (R1.setO hj rfl lo (at_l hx hd)) hΦ
def dSetM (j : Nat) (T : DDs) : DS := fun E ρ => T ρ fun ds ρ1 => E.nx (ρ1.set j (some (.m ds)))
theorem rs_setM {j : Nat} {t : TE} {T : DDs} (h : RD K ps t T) (hj : j ∉ ps := by decide) : RS K ps (tAsg t (gName j)) (dSetM j T) := by
  intro b σ H F ρ E D' R hT n r bk ct
  exact h b σ H F ρ _ _ R hT fun p xs H1 F1 ρ1 ds s1 R1 lo hx hd hΦ => n _ H1 F1 _ s1 (R1.setO hj rfl lo (at_m hx hd)) hΦ
/-- x op= e on ints, texts, a name -/
def dAug (i : Nat) (T : DE) (R : DO) : DS := fun E ρ => ∃ x, ρ[i]? = some (some (.d x)) ∧ T ρ fun y ρ1 => R x y fun z => E.nx (ρ1.set i (some (.d z)))
theorem rs_augI {i : Nat} {t : TE} {T : DE} {f : Int → Int → Int} (h : RE K ps t T) (hj : i ∉ ps := by decide) : RS K ps (tAug i t (ipI f)) (dAug i T (oI0 fun a c => .int (f a c))) := by
  intro b σ H F ρ E D' R hT n r bk ct
  obtain ⟨x, hx, hT⟩ := hT
  obtain ⟨v, h1, h2⟩ := R.slot i _ hx
  refine ⟨v, h1, h b σ H F ρ _ _ R hT fun y H1 F1 ρ1 d s1 R1 hd hΦ => ?_⟩
  cases x <;> try exact hΦ.elim
  cases d <;> try exact hΦ.elim
  exact ⟨_, _, Dr.inv_int h2, hd.inv_int, n _ H1 F1 _ s1 (R1.setD hj (.int _)) hΦ⟩
/-- append to the slot's list -/
def dApp (i : Nat) (T : DE) : DS := fun E ρ => (∃ ds0, ρ[i]? = some (some (.l ds0))) ∧ T ρ fun d ρ1 => ∃ ds, ρ1[i]? = some (some (.l ds)) ∧ ds.length < sizeLine ∧ E.nx (ρ1.set i (some (.l (ds ++ [d]))))
theorem rs_app {i : Nat} {t : TE} {T : DE} (h : RE K ps t T) : RS K ps (tDrop (tBM K "list" rAppend (tVar i) (tCons t tNil))) (dApp i T) := by
  intro b σ H F ρ E D' R hT n r bk ct
  obtain ⟨⟨ds0, e0⟩, hT⟩ := hT
  obtain ⟨p, hp, _, _, xs0, ex0, _⟩ := R.own e0 rfl
  refine ⟨_, hp, .inl ⟨rfl, xs0, SqL.of ex0⟩, h b σ H F ρ _ _ R hT fun y H1 F1 ρ1 d s1 R1 hd hΦ => ?_⟩
  obtain ⟨ds, e1, hz, hΦ⟩ := hΦ
  obtain ⟨p', hp', hF1, _, xs, ex, hx⟩ := R1.own e1 rfl
  rw [hp] at hp'
  cases hp'
  refine ⟨p, xs, y, rfl, rfl, ex, by rw [hx.1]; exact hz, n σ _ F1 _ s1 (R1.write e1 rfl rfl hp (fun a u na e => (upd_ne na).trans e) (Same.refl F1) (fun a o e => ?_) (fun a o e => .inl e) (fun a o e => .inl e) (at_l upd_same (hx.app (.one hd)))) hΦ⟩
  rw [upd_ne (fun z => by rw [z, hF1] at e; cases e)]
  exact R1.sub a o e
/-- pop from the slot's list -/
def dPop (i : Nat) : DE := fun ρ Φ => ∃ ds d, ρ[i]? = some (some (.l ds)) ∧ ds[ds.length - 1]? = some d ∧ Φ d (ρ.set i (some (.l ds.dropLast)))
theorem re_pop {i : Nat} : RE K ps (tBM0 K "list" rPop (tVar i)) (dPop i) := by
  intro b σ H F ρ Φ Q R hT k
  obtain ⟨ds, d, e0, hd, hT⟩ := hT
  obtain ⟨p, hp, hF, _, xs, ex, hx⟩ := R.own e0 rfl
  obtain ⟨v, hv, hdr⟩ := hx.get hd
  refine ⟨_, hp, .inl ⟨rfl, xs, SqL.of ex⟩, p, xs, v, rfl, rfl, ex, by rw [hx.1]; exact hv, k v _ F _ d (Same.refl F) (R.write e0 rfl rfl hp (fun a u na e => (upd_ne na).trans e) (Same.refl F) (fun a o e => ?_) (fun a o e => .inl e) (fun a o e => .inl e) (at_l upd_same hx.dropLast)) hdr hT⟩
  rw [upd_ne (fun z => by rw [z, hF] at e; cases e)]
  exact R.sub a o e
/-- x[e] = y in the slot's list -/
def dPutL (i : Nat) (Tv Ti : DE) : DS := fun E ρ => Tv ρ fun d ρ1 => (ρ1[i]?.join).isSome = true ∧ Ti ρ1 fun y ρ2 => ∃ ds k j, ρ2[i]? = some (some (.l ds)) ∧ y = .int k ∧ ixN ds.length k = some j ∧ E.nx (ρ2.set i (some (.l (ds.set j d))))
theorem rs_putL {i : Nat} {tv ti : TE} {Tv Ti : DE} (hv : RE K ps tv Tv) (hi : RE K ps ti Ti) : RS K ps (tAsg tv (gSub (tVar i) ti rSetL)) (dPutL i Tv Ti) := by
  intro b σ H F ρ E D' R hT n r bk ct
  refine hv b σ H F ρ _ _ R hT fun v H1 F1 ρ1 d s1 R1 hd hT => ?_
  obtain ⟨w, hw⟩ := slot_some R1 hT.1
  refine ⟨w, hw, hi b σ H1 F1 ρ1 _ _ R1 hT.2 fun y H2 F2 ρ2 e s2 R2 he hT => ?_⟩
  obtain ⟨ds, k, j, e1, rfl, hj, hΦ⟩ := hT
  obtain ⟨p, hp, hF2, _, xs, ex, hx⟩ := R2.own e1 rfl
  rw [hw] at hp
  cases hp
  refine ⟨p, xs, k, j, rfl, he.inv_int, ex, by rw [hx.1]; exact hj, n σ _ F2 _ (s1.trans s2) (R2.write e1 rfl rfl hw (fun a u na e => (upd_ne na).trans e) (Same.refl F2) (fun a o e => ?_) (fun a o e => .inl e) (fun a o e => .inl e) (at_l upd_same (hx.set (hd.up s2)))) hΦ⟩
  rw [upd_ne (fun z => by rw [z, hF2] at e; cases e)]
  exact R2.sub a o e
/-- x[e] = y in the slot's dict -/
def dPutM (i : Nat) (Tv Ti : DE) : DS := fun E ρ => Tv ρ fun d ρ1 => (ρ1[i]?.join).isSome = true ∧ Ti ρ1 fun y ρ2 => ∃ ks k, ρ2[i]? = some (some (.m ks)) ∧ keyD y = some k ∧ ks.length < sizeLine ∧ E.nx (ρ2.set i (some (.m (putD ks k d))))
theorem rs_putM {i : Nat} {tv ti : TE} {Tv Ti : DE} (hv : RE K ps tv Tv) (hi : RE K ps ti Ti) : RS K ps (tAsg tv (gSub (tVar i) ti rSetD)) (dPutM i Tv Ti) := by
  intro b σ H F ρ E D' R hT n r bk ct
  refine hv b σ H F ρ _ _ R hT fun v H1 F1 ρ1 d s1 R1 hd hT => ?_
  obtain ⟨w, hw⟩ := slot_some R1 hT.1
  refine ⟨w, hw, hi b σ H1 F1 ρ1 _ _ R1 hT.2 fun y H2 F2 ρ2 e s2 R2 he hT => ?_⟩
  obtain ⟨ks, key, e1, hk, hz, hΦ⟩ := hT
  obtain ⟨p, hp, hF2, _, xs, ex, hx⟩ := R2.own e1 rfl
  rw [hw] at hp
  cases hp
  rw [keyD_ok he hk]
  refine ⟨p, _, rfl, DPut.k ex (by rw [hx.len]; exact hz), n σ _ F2 _ (s1.trans s2) (R2.write e1 rfl rfl hw (fun a u na e => (upd_ne na).trans e) (Same.refl F2) (fun a o e => ?_) (fun a o e => .inl e) (fun a o e => .inl e) (at_m upd_same (hx.put (hd.up s2)))) hΦ⟩
  rw [upd_ne (fun z => by rw [z, hF2] at e; cases e)]
  exact R2.sub a o e
/-! ### loops -/
def dFor (Ti : DLs) (G : DG) (Tb : DS) : DS := fun E ρ => Ti ρ fun ds ρ1 => ∃ W : Nat → Env → Prop, W 0 ρ1 ∧ (∀ k x ρ, ds[k]? = some x → W k ρ → G x ρ fun ρ2 => Tb ⟨W (k + 1), E.rt, E.nx, W (k + 1)⟩ ρ2) ∧ ∀ ρ, W ds.length ρ → E.nx ρ
theorem rs_for {js : List Nat} {wi : TI} {g : TG} {tb : TS} {Ti : DLs} {G : DG} {Tb : DS} (hi : RI K ps wi Ti) (hg : RG K ps js g G) (hb : RS K ps tb Tb) : RS K ps (tFor wi g tb) (dFor Ti G Tb) := by
  intro b σ H F ρ E D' R0 hT n r bk ct
  refine hi b σ H F ρ _ _ R0 hT fun J H1 F1 ρ1 ds s1 R1 hw hT => ?_
  obtain ⟨Gd, Y, hwk, hG, hY⟩ := hw
  obtain ⟨W, w0, wt, wd⟩ := hT
  refine for_it hwk (fun i σ' H' => ∃ F' ρ', Same F1 F' ∧ Rep K ps b σ' H' F' ρ' ∧ W i ρ') ⟨F1, ρ1, Same.refl F1, R1, w0⟩ ?_ ?_ ?_
  · rintro i σ' H' _ ⟨F', ρ', s, R, _⟩
    exact hG H' F' s R.sub
  · rintro i x σ2 H2 H3 hin ⟨F2, ρ2, s, R2, hW⟩ y
    obtain ⟨d, F3, hd, hdr, hy⟩ := hY i H2 x H3 y hin F2 s R2.sub
    have st : Rep K ps b σ2 H3 F3 ρ2 ∧ Same F2 F3 := by
      rcases hy with ⟨rfl, rfl⟩ | ⟨q, o, hq, hqn, rfl, rfl⟩
      · exact ⟨R2, Same.refl _⟩
      · exact ⟨R2.alloc hq hqn, SX.same_upd (R2.fresh hq).1⟩
    obtain ⟨R3, s3⟩ := st
    refine hg b σ2 H3 F3 ρ2 x d _ _ R3 hdr (wt i d ρ2 hd hW) fun σ4 H4 F4 ρ4 s4 R4 _ hT => ?_
    have s14 := ((s.trans s3).trans s4)
    exact hb b σ4 H4 F4 ρ4 _ _ R4 hT (fun σ5 H5 F5 ρ5 s5 R5 h => ⟨F5, ρ5, s14.trans s5, R5, h⟩) (fun v σ5 H5 F5 ρ5 d s5 R5 hd h => r v σ5 H5 F5 ρ5 d (s1.trans (s14.trans s5)) R5 hd h) (fun σ5 H5 F5 ρ5 s5 R5 h => n σ5 H5 F5 ρ5 (s1.trans (s14.trans s5)) R5 h)
      (fun σ5 H5 F5 ρ5 s5 R5 h => ⟨F5, ρ5, s14.trans s5, R5, h⟩)
  · rintro σ' H' ⟨F', ρ', s, R, hW⟩
    exact n σ' H' F' ρ' (s1.trans s) R (wd ρ' hW)
def dWhile (C : DT) (Tb : DS) : DS := fun E ρ => ∃ W : Nat → Env → Prop, (∃ m, W m ρ) ∧ ∀ m ρ, W m ρ → C ρ fun c ρ1 => if c = true then Tb ⟨fun ρ2 => ∃ m', m' < m ∧ W m' ρ2, E.rt, E.nx, fun ρ2 => ∃ m', m' < m ∧ W m' ρ2⟩ ρ1 else E.nx ρ1
theorem rs_while {c : TT} {tb : TS} {C : DT} {Tb : DS} (hc : RT K ps c C) (hb : RS K ps tb Tb) : RS K ps (tWhile c tb) (dWhile C Tb) := by
  intro b σ H F ρ E D' R0 hT n r bk ct
  obtain ⟨W, ⟨m0, w0⟩, wt⟩ := hT
  refine ⟨fun m σ' H' => ∃ F' ρ', Same F F' ∧ Rep K ps b σ' H' F' ρ' ∧ W m ρ', ⟨m0, F, ρ, Same.refl F, R0, w0⟩, ?_⟩
  rintro m σ1 H1 ⟨F1, ρ1, s1, R1, hW⟩
  refine hc b σ1 H1 F1 ρ1 _ _ R1 (wt m ρ1 hW) fun c H2 F2 ρ2 s2 R2 hT => ?_
  cases c with
  | false => exact n σ1 H2 F2 ρ2 (s1.trans s2) R2 hT
  | true =>
    refine ⟨fun σ' H' => ∃ m', m' < m ∧ ∃ F' ρ', Same F F' ∧ Rep K ps b σ' H' F' ρ' ∧ W m' ρ', fun σ' H' h => h, ?_⟩
    exact hb b σ1 H2 F2 ρ2 _ _ R2 hT (fun σ5 H5 F5 ρ5 s5 R5 ⟨m', h1, h2⟩ => ⟨m', h1, F5, ρ5, (s1.trans s2).trans s5, R5, h2⟩) (fun v σ5 H5 F5 ρ5 d s5 R5 hd h => r v σ5 H5 F5 ρ5 d ((s1.trans s2).trans s5) R5 hd h)
      (fun σ5 H5 F5 ρ5 s5 R5 h => n σ5 H5 F5 ρ5 ((s1.trans s2).trans s5) R5 h) (fun σ5 H5 F5 ρ5 s5 R5 ⟨m', h1, h2⟩ => ⟨m', h1, F5, ρ5, (s1.trans s2).trans s5, R5, h2⟩)
/-! ### what a def promises -/
def Ok0 (K : PySem.W.Frag) (F H : Hp) (v : V) (o : OV) : Prop := match o with
  | .d x => Dr K F v x
  | o => ∃ p, v = .ref p ∧ F p = none ∧ At K F H p o
theorem Ok0.mk {F H : Hp} {v : V} {o : OV} {p : Addr} (hv : v = .ref p) (ho : o.own = true) (hF : F p = none) (h : At K F H p o) : Ok0 K F H v o := by
  cases o with
  | d _ => cases ho
  | l ds => exact ⟨p, hv, hF, h⟩
  | m ks => exact ⟨p, hv, hF, h⟩
  | draw => exact ⟨p, hv, hF, h⟩
theorem Ok0.inv {F H : Hp} {v : V} {o : OV} (h : Ok0 K F H v o) (ho : o.own = true) : ∃ p, v = .ref p ∧ F p = none ∧ At K F H p o := by
  cases o with
  | d _ => cases ho
  | l ds => exact h
  | m ks => exact h
  | draw => exact h
def OwnA (vs : List V) (os : List OV) (a : Addr) : Prop := ∃ (i : Nat) (o : OV), os[i]? = some o ∧ o.own = true ∧ vs[i]? = some (.ref a)
structure ArgsAt (K : PySem.W.Frag) (F H : Hp) (vs : List V) (os : List OV) : Prop where
  len : vs.length = os.length
  ok : ∀ (i : Nat) v o, vs[i]? = some v → os[i]? = some o → Ok0 K F H v o
  apart : ∀ (i j : Nat) o u v, i ≠ j → os[i]? = some o → o.own = true → os[j]? = some u → u.own = true → vs[i]? = some v → vs[j]? ≠ some v
abbrev SD := List OV → (D → List OV → Prop) → Prop
/-- the promise S, over the heap -/
def spOf (K : PySem.W.Frag) (S : SD) : Sp := fun vs H Q _ => ∃ (F : Hp) (os : List OV) (Φ : D → List OV → Prop), (Sub F H ∧ (∀ a o, F a = some o → NT o) ∧ LamX.Tabs Tbs.T H ∧ Same Tbs.B F) ∧ ArgsAt K F H vs os ∧ S os Φ ∧
  ∀ F' H' v d os', Same F F' → (Sub F' H' ∧ (∀ a o, F' a = some o → NT o) ∧ LamX.Tabs Tbs.T H') → (∀ a o, H a = some o → ¬ OwnA vs os a → NT o → H' a = some o) → (∀ a o, H a = some o → ∃ o', H' a = some o') → (∀ a o, F' a = some o → F a = some o ∨ H a = none ∨ OwnA vs os a) →
    os'.length = os.length → (∀ (i : Nat) o o' v, os[i]? = some o → o.own = true → os'[i]? = some o' → vs[i]? = some v → Ok0 K F' H' v o') → Dr K F' v d → Φ d os' → Q v H'
def slotO (o : Option (Option OV)) : OV := match o with
  | some (some o) => o
  | _ => .d .non
def outs (n : Nat) (ρ : Env) : List OV := (List.range n).map fun i => slotO ρ[i]?
def startD (n : Nat) (os : List OV) : Env := os.map some ++ List.replicate (n - os.length) none
theorem fn_go {N pr : List Str} {S : SD} {ps : List Nat} {T : DS} {t : TS} {vs : List V} {H : Hp} {Q : VK} {E : XK} (hN : pr.length ≤ N.length) (h2 : RS K ps t T)
    (len : ∀ os Φ, S os Φ → os.length = pr.length ∧ (∀ (i : Nat) o, os[i]? = some o → o.own = true → i ∈ ps) ∧ ∀ i ∈ ps, i < os.length)
    (go : ∀ os Φ, S os Φ → T ⟨fun ρ => (∀ i ∈ ps, (ρ[i]?.join).isSome = true) ∧ Φ .non (outs os.length ρ), fun d ρ => (∀ i ∈ ps, (ρ[i]?.join).isSome = true) ∧ Φ d (outs os.length ρ), fun _ => False, fun _ => False⟩ (startD N.length os))
    (h : spOf K S vs H Q E) : t { nx := fun _ H' => Q .non H', rt := Q } (L2.start N vs) H := by
  obtain ⟨F, os, Φ, ⟨hsub, hnt, htb, hB⟩, ha, hS, q⟩ := h
  obtain ⟨l1, l2, l3⟩ := len os Φ hS
  have sg : ∀ {i : Nat} {v : V}, vs[i]? = some v → (L2.start N vs)[i]? = some (some v) := fun {i v} e => by
    have hi := (List.getElem?_eq_some_iff.mp e).1
    unfold L2.start
    rw [List.getElem?_append_left (by rw [List.length_map]; exact hi), List.getElem?_map, e]
    rfl
  have dg : ∀ {i : Nat} {o : OV}, (startD N.length os)[i]? = some (some o) → os[i]? = some o := fun {i o} e => by
    unfold startD at e
    by_cases hi : i < os.length
    · rw [List.getElem?_append_left (by rw [List.length_map]; exact hi), List.getElem?_map] at e
      cases e2 : os[i]? with
      | none => rw [e2] at e; cases e
      | some o' => rw [e2] at e; cases e; rfl
    · rw [List.getElem?_append_right (by rw [List.length_map]; omega)] at e
      have := List.mem_of_getElem? e
      rw [List.mem_replicate] at this
      cases this.2
  have vget : ∀ {i : Nat} {o : OV}, os[i]? = some o → ∃ v, vs[i]? = some v := fun {i o} e => by
    have hi := (List.getElem?_eq_some_iff.mp e).1
    exact ⟨_, List.getElem?_eq_getElem (by rw [ha.len]; exact hi)⟩
  have R : Rep K ps ⟨H, F, vs, OwnA vs os⟩ (L2.start N vs) H F (startD N.length os) := by
    refine ⟨hsub, ⟨Same.refl F, hB⟩, fun a o e _ _ => e, fun a ⟨i, o, e1, e2, e3⟩ => ?_, fun a o e => .inl e, fun i o e => ?_, fun i j o u v n e1 o1 e2 o2 s1 s2 => ?_, ?_, fun i hi => ?_, hnt, fun a o e => ⟨o, e⟩, htb⟩
    · obtain ⟨p, h3, _, h4⟩ := (ha.ok i _ o e3 e1).inv e2
      cases h3
      exact h4.ex
    · have e' := dg e
      obtain ⟨v, hv⟩ := vget e'
      refine ⟨v, sg hv, ?_⟩
      have hok := ha.ok i v o hv e'
      by_cases ho : o.own = true
      · obtain ⟨p, rfl, h3, h4⟩ := hok.inv ho
        exact .mk rfl ho h3 (.inr ⟨i, o, e', ho, hv⟩) h4
      · cases o with
        | d x => exact hok
        | _ => exact absurd rfl ho
    · have e1' := dg e1
      have e2' := dg e2
      obtain ⟨v1, hv1⟩ := vget e1'
      obtain ⟨v2, hv2⟩ := vget e2'
      have := sg hv1
      rw [s1] at this
      cases this
      have := sg hv2
      rw [s2] at this
      cases this
      exact ha.apart i j o u v n e1' o1 e2' o2 hv1 hv2
    · unfold startD L2.start
      rw [List.length_append, List.length_append, List.length_map, List.length_map, List.length_replicate, List.length_replicate, ha.len]
    · have hi' := l3 i hi
      obtain ⟨v, hv⟩ := vget (List.getElem?_eq_getElem hi')
      exact ⟨v, sg hv, hv⟩
  have fin : ∀ v σ' H' F' ρ' d, Same F F' → Rep K ps ⟨H, F, vs, OwnA vs os⟩ σ' H' F' ρ' → Dr K F' v d → ((∀ i ∈ ps, (ρ'[i]?.join).isSome = true) ∧ Φ d (outs os.length ρ')) → Q v H' := by
    intro v σ' H' F' ρ' d s1 R1 hd hΦ
    refine q F' H' v d (outs os.length ρ') s1 ⟨R1.sub, R1.nt, R1.tabs⟩ R1.keep (fun a o e => ?_) R1.new (by simp [outs]) (fun i o o' u e1 e2 e3 e4 => ?_) hd hΦ.2
    · by_cases z : OwnA vs os a
      · exact R1.there a z
      · exact R1.dom a o e
    · have hi := l2 i o e1 e2
      have hs := hΦ.1 i hi
      obtain ⟨u', g1, g2⟩ := R1.pin i hi
      rw [e4] at g2
      cases g2
      cases e5 : ρ'[i]? with
      | none => rw [e5] at hs; cases hs
      | some o5 =>
        cases o5 with
        | none => rw [e5] at hs; cases hs
        | some o5 =>
          have hil : i < os.length := (List.getElem?_eq_some_iff.mp e1).1
          have e6 : (outs os.length ρ')[i]? = some o5 := by
            unfold outs
            rw [List.getElem?_map, List.getElem?_range hil, Option.map_some, e5]
            rfl
          rw [e6] at e3
          obtain rfl : o5 = o' := Option.some.inj e3
          obtain ⟨u2, g3, g4⟩ := R1.slot i o5 e5
          rw [g1] at g3
          cases g3
          by_cases ho : o5.own = true
          · obtain ⟨p, rfl, z1, _, z2⟩ := g4.inv ho
            exact .mk rfl ho z1 z2
          · cases o5 with
            | d x => exact g4
            | _ => exact absurd rfl ho
  exact h2 _ _ H F _ _ _ R (go os Φ hS) (fun σ' H' F' ρ' s1 R1 hn => fin .non σ' H' F' ρ' .non s1 R1 .non hn) fin (fun _ _ _ _ _ _ z => z.elim) (fun _ _ _ _ _ _ z => z.elim)
theorem fnD {P : Program} {w : World} {mg : Str → Option Value} {base : Heap} {x qual : Str} {st : Stmt} {f : Addr} {fd : FuncData} {N pr : List Str} {k : Nat} {S : SD} (Fn : Fun K x qual st f fd) (Sc : FnScope N pr (defScope st)) (ps : List Nat) {T : DS}
    (body : ∀ (cdv : Value) (A : Around) (outer : List PySem.Env) (s : Shared) (H : Hp) (E : XK), Room k (A.deeper (envOfC qual (defScope st) s.heap.objs.size f cdv)) →
      ∃ t, PSs (cxOf CX0 P w K mg base N qual (defScope st) f cdv A outer s H E).nox (defBody st) t ∧ RS K ps t T)
    (len : ∀ os Φ, S os Φ → os.length = pr.length ∧ (∀ (i : Nat) o, os[i]? = some o → o.own = true → i ∈ ps) ∧ ∀ i ∈ ps, i < os.length)
    (go : ∀ os Φ, S os Φ → T ⟨fun ρ => (∀ i ∈ ps, (ρ[i]?.join).isSome = true) ∧ Φ .non (outs os.length ρ), fun d ρ => (∀ i ∈ ps, (ρ[i]?.join).isSome = true) ∧ Φ d (outs os.length ρ), fun _ => False, fun _ => False⟩ (startD N.length os)) :
    FnOk P w K mg base CX0 (k + 1) f fd pr (spOf K S) := by
  refine Fn.ok Sc (fun vs H Q E h => ?_) (fun cdv A outer s H vs Q E hr h => ?_)
  · obtain ⟨F, os, Φ, _, ha, hS, _⟩ := h
    rw [ha.len]
    exact (len os Φ hS).1
  · obtain ⟨t, h1, h2⟩ := body cdv A outer s H E hr
    have hN : pr.length ≤ N.length := by
      have := congrArg List.length Sc.pre
      rw [List.length_take] at this
      omega
    exact ⟨t, h1, fn_go hN h2 len go h⟩
/-- the def's code object stands at c -/
theorem okC {P : Program} {w : World} {mg : Str → Option Value} {base : Heap} {x qual : Str} {st : Stmt} {f c : Addr} {fd : FuncData} {N ps : List Str} {k : Nat} {sp : Sp} (F : Fun K x qual st f fd) (hc : fd.code = .ref c) (S : FnScope N ps (defScope st)) (len : ∀ vs H Q E, sp vs H Q E → vs.length = ps.length)
    (body : ∀ (A : Around) (outer : List PySem.Env) (s : Shared) (H : Hp) (vs : List V) (Q : VK) (E : XK), Room k (A.deeper (envOfC qual (defScope st) s.heap.objs.size f (.ref c))) → sp vs H Q E →
      ∃ t, PSs (cxOf CX0 P w K mg base N qual (defScope st) f (.ref c) A outer s H E).nox (defBody st) t ∧ t { nx := fun _ H' => Q .non H', rt := Q } (L2.start N vs) H) : FnOk P w K mg base CX0 (k + 1) f fd ps sp := by
  obtain ⟨oc, od, kV, doc, pm, an, cdv, ct, osl, e, lk, hcd⟩ := F.ex
  subst e
  obtain rfl : cdv = .ref c := hc
  refine fn_of lk hcd S len fun A outer s H vs Q E hr hsp => ?_
  obtain ⟨t, h, q⟩ := body A outer s H vs Q E hr hsp
  exact ⟨t, h.nox, q⟩
theorem fnDC {P : Program} {w : World} {mg : Str → Option Value} {base : Heap} {x qual : Str} {st : Stmt} {f c : Addr} {fd : FuncData} {N pr : List Str} {k : Nat} {S : SD} (Fn : Fun K x qual st f fd) (hc : fd.code = .ref c) (Sc : FnScope N pr (defScope st)) (ps : List Nat) {T : DS}
    (body : ∀ (A : Around) (outer : List PySem.Env) (s : Shared) (H : Hp) (E : XK), Room k (A.deeper (envOfC qual (defScope st) s.heap.objs.size f (.ref c))) →
      ∃ t, PSs (cxOf CX0 P w K mg base N qual (defScope st) f (.ref c) A outer s H E).nox (defBody st) t ∧ RS K ps t T)
    (len : ∀ os Φ, S os Φ → os.length = pr.length ∧ (∀ (i : Nat) o, os[i]? = some o → o.own = true → i ∈ ps) ∧ ∀ i ∈ ps, i < os.length)
    (go : ∀ os Φ, S os Φ → T ⟨fun ρ => (∀ i ∈ ps, (ρ[i]?.join).isSome = true) ∧ Φ .non (outs os.length ρ), fun d ρ => (∀ i ∈ ps, (ρ[i]?.join).isSome = true) ∧ Φ d (outs os.length ρ), fun _ => False, fun _ => False⟩ (startD N.length os)) :
    FnOk P w K mg base CX0 (k + 1) f fd pr (spOf K S) := by
  refine okC Fn hc Sc (fun vs H Q E h => ?_) (fun A outer s H vs Q E hr h => ?_)
  · obtain ⟨F, os, Φ, _, ha, hS, _⟩ := h
    rw [ha.len]
    exact (len os Φ hS).1
  · obtain ⟨t, h1, h2⟩ := body A outer s H E hr
    have hN : pr.length ≤ N.length := by
      have := congrArg List.length Sc.pre
      rw [List.length_take] at this
      omega
    exact ⟨t, h1, fn_go hN h2 len go h⟩
end
end DL
/-! Part 8: calls. -/
namespace DL
variable [Tbs]
open PySem PySem.Spec PyProof.Rows L2
section
variable {K : PySem.W.Frag} {ps : List Nat}
/-- a promise by data alone -/
def pureS (s : List D → (D → Prop) → Prop) : SD := fun os Φ => ∃ ds, os = ds.map .d ∧ s ds fun d => Φ d os
def ovOf (ρ : Env) : AV → OV
  | .v d => .d d
  | .s i => slotO ρ[i]?
def putBack : List AV → List OV → Env → Env
  | .s i :: as, o :: os, ρ => putBack as os (ρ.set i (some o))
  | .v _ :: as, _ :: os, ρ => putBack as os ρ
  | _, _, ρ => ρ
theorem putBack_len : ∀ (as : List AV) (os : List OV) (ρ : Env), (putBack as os ρ).length = ρ.length
  | .s i :: as, o :: os, ρ => by unfold putBack; rw [putBack_len as os, List.length_set]
  | .v _ :: as, _ :: os, ρ => by unfold putBack; exact putBack_len as os ρ
  | [], _, ρ => by cases ‹List OV› <;> rfl
  | .s _ :: _, [], ρ => rfl
  | .v _ :: _, [], ρ => rfl
theorem putBack_some {j : Nat} {o : OV} : ∀ {as : List AV} {os : List OV} {ρ : Env}, as.length ≤ os.length → (putBack as os ρ)[j]? = some (some o) → (∃ k : Nat, as[k]? = some (AV.s j) ∧ os[k]? = some o) ∨ ((∀ k : Nat, as[k]? ≠ some (AV.s j)) ∧ ρ[j]? = some (some o))
  | [], os, ρ, _, h => by
    have e : putBack [] os ρ = ρ := by cases os <;> rfl
    rw [e] at h
    exact .inr ⟨fun k z => (by cases z), h⟩
  | .v d :: as, [], ρ, hl, _ => by cases hl
  | .s i :: as, [], ρ, hl, _ => by cases hl
  | .v d :: as, u :: os, ρ, hl, h => by
    rcases putBack_some (Nat.le_of_succ_le_succ hl) (show (putBack as os ρ)[j]? = _ from h) with ⟨k, h1, h2⟩ | ⟨h1, h2⟩
    · exact .inl ⟨k + 1, h1, h2⟩
    · exact .inr ⟨fun k z => match k, z with
        | 0, z => by cases z
        | k + 1, z => h1 k z, h2⟩
  | .s i :: as, u :: os, ρ, hl, h => by
    rcases putBack_some (Nat.le_of_succ_le_succ hl) (show (putBack as os (ρ.set i (some u)))[j]? = _ from h) with ⟨k, h1, h2⟩ | ⟨h1, h2⟩
    · exact .inl ⟨k + 1, h1, h2⟩
    · rcases set_some h2 with ⟨rfl, q⟩ | ⟨n, q⟩
      · cases q
        exact .inl ⟨0, rfl, rfl⟩
      · exact .inr ⟨fun k z => match k, z with
          | 0, z => by cases z; exact n rfl
          | k + 1, z => h1 k z, q⟩
/-- the slots that are handed in -/
def slotsOf : List AV → List Nat
  | [] => []
  | .s i :: as => i :: slotsOf as
  | .v _ :: as => slotsOf as
theorem mem_slotsOf {i : Nat} : ∀ {as : List AV} {k : Nat}, as[k]? = some (AV.s i) → i ∈ slotsOf as
  | .s j :: as, 0, h => by cases h; exact List.mem_cons_self
  | .v d :: as, 0, h => by cases h
  | .s j :: as, k + 1, h => List.mem_cons_of_mem _ (mem_slotsOf (as := as) (k := k) h)
  | .v d :: as, k + 1, h => mem_slotsOf (as := as) (k := k) h
theorem slot_once {i : Nat} : ∀ {as : List AV} {k l : Nat}, (slotsOf as).Nodup → as[k]? = some (AV.s i) → as[l]? = some (AV.s i) → k = l
  | .s j :: as, 0, 0, _, _, _ => rfl
  | .s j :: as, 0, l + 1, n, h1, h2 => by
    cases h1
    exact absurd (mem_slotsOf (as := as) (k := l) h2) (List.nodup_cons.mp n).1
  | .s j :: as, k + 1, 0, n, h1, h2 => by
    cases h2
    exact absurd (mem_slotsOf (as := as) (k := k) h1) (List.nodup_cons.mp n).1
  | .s j :: as, k + 1, l + 1, n, h1, h2 => congrArg Nat.succ (slot_once (as := as) (List.nodup_cons.mp n).2 h1 h2)
  | .v d :: as, 0, _, _, h1, _ => by cases h1
  | .v d :: as, _ + 1, 0, _, _, h2 => by cases h2
  | .v d :: as, k + 1, l + 1, n, h1, h2 => congrArg Nat.succ (slot_once (as := as) n h1 h2)
theorem ArgRel.len {σ : St} {F : Hp} {vs : List V} {as : List AV} (h : ArgRel K σ F vs as) : vs.length = as.length := by
  induction h with
  | nil => rfl
  | v _ _ ih => exact congrArg Nat.succ ih
  | s _ _ ih => exact congrArg Nat.succ ih
theorem ArgRel.get {σ : St} {F : Hp} {vs : List V} {as : List AV} (h : ArgRel K σ F vs as) : ∀ {k : Nat} {v : V} {a : AV}, vs[k]? = some v → as[k]? = some a → match a with
    | .v d => Dr K F v d
    | .s i => σ[i]? = some (some v) := by
  induction h with
  | nil => intro k v a h; cases h
  | v h _ ih =>
    intro k v a h1 h2
    cases k with
    | zero => cases h1; cases h2; exact h
    | succ k => exact ih h1 h2
  | s h _ ih =>
    intro k v a h1 h2
    cases k with
    | zero => cases h1; cases h2; exact h
    | succ k => exact ih h1 h2
def ownB (ρ : Env) : AV → Bool
  | .v _ => true
  | .s i => (slotO ρ[i]?).own
/-- f(..), arguments of any kind -/
def dCall (S : SD) (Ta : DAs) : DE := fun ρ Φ => Ta ρ fun as ρ1 => (as.all (ownB ρ1) = true ∧ (slotsOf as).Nodup) ∧ S (as.map (ovOf ρ1)) fun d os => Φ d (putBack as os ρ1)
theorem slotO_own {o : Option (Option OV)} (h : (slotO o).own = true) : ∃ u, o = some (some u) ∧ slotO o = u ∧ u.own = true := by
  cases o with
  | none => cases h
  | some o =>
    cases o with
    | none => cases h
    | some u => exact ⟨u, rfl, rfl, h⟩
theorem re_call {S : SD} {t : TA} {Ta : DAs} {E : XK} (h : RA K ps t Ta) : RE K ps (tCall (spOf K S) [] E t) (dCall S Ta) := by
  intro b σ H F ρ Φ Q R0 hT k
  refine h b σ H F ρ _ _ R0 hT fun vs H1 F1 ρ1 as s1 R1 hr hT => ?_
  obtain ⟨⟨hown, hnd⟩, hS⟩ := hT
  have hl := hr.len
  have hO : ∀ {k : Nat} {i : Nat}, as[k]? = some (AV.s i) → ∃ u, ρ1[i]? = some (some u) ∧ ovOf ρ1 (.s i) = u ∧ u.own = true := fun {k i} e => slotO_own (List.all_eq_true.mp hown _ (List.mem_of_getElem? e))
  have og : ∀ {k : Nat} {o : OV}, (as.map (ovOf ρ1))[k]? = some o → ∃ a, as[k]? = some a ∧ ovOf ρ1 a = o := fun {k o} e => by
    rw [List.getElem?_map] at e
    exact Option.map_eq_some_iff.mp e
  have ow : ∀ {a : Addr}, OwnA vs (as.map (ovOf ρ1)) a → Owned σ ρ1 a := fun {a} ⟨k, o, e1, e2, e3⟩ => by
    obtain ⟨av, g1, g2⟩ := og e1
    cases av with
    | v d => subst g2; cases e2
    | s i =>
      obtain ⟨u, z1, z2, z3⟩ := hO g1
      exact ⟨i, u, z1, z3, hr.get e3 g1⟩
  refine ⟨F1, as.map (ovOf ρ1), _, ⟨R1.sub, R1.nt, R1.tabs, R1.grow.b⟩, ⟨by rw [List.length_map]; simpa using hl, fun k v o e1 e2 => ?_, fun k l o u v n e1 o1 e2 o2 e3 e4 => ?_⟩, hS, fun F' H' v d os' s2 ⟨sub2, nt2, tb2⟩ kp th nw len2 hout hd hΦ => ?_⟩
  · rw [List.append_nil] at e1
    obtain ⟨av, g1, g2⟩ := og e2
    have hg := hr.get e1 g1
    cases av with
    | v d => subst g2; exact hg
    | s i =>
      obtain ⟨u, z1, z2, z3⟩ := hO g1
      rw [z2] at g2
      subst g2
      obtain ⟨p, y1, y2, _, y3⟩ := R1.own z1 z3
      have hg' : σ[i]? = some (some v) := hg
      rw [y1] at hg'
      cases hg'
      exact .mk rfl z3 y2 y3
  · rw [List.append_nil] at e3 e4
    obtain ⟨a1, g1, g2⟩ := og e1
    obtain ⟨a2, g3, g4⟩ := og e2
    cases a1 with
    | v d => subst g2; cases o1
    | s i =>
      cases a2 with
      | v d => subst g4; cases o2
      | s j =>
        obtain ⟨u1, z1, z2, z3⟩ := hO g1
        obtain ⟨u2, z4, z5, z6⟩ := hO g3
        have hij : i ≠ j := fun z => by
          subst z
          exact n (slot_once hnd g1 g3)
        exact R1.apart i j u1 u2 v hij z1 z3 z4 z6 (hr.get e3 g1) (hr.get e4 g3)
  · rw [List.append_nil] at kp nw hout
    rw [List.length_map] at len2
    refine k v H' F' _ d (s1.trans s2) ⟨sub2, R1.grow.trans s2, fun a o e nn nz => ?_, fun a z => ?_, fun a o e => ?_, fun j o e => ?_, fun i j o u w n e1 o1 e2 o2 w1 => ?_, by rw [putBack_len, R1.len], R1.pin, nt2, fun a o e => (R1.dom a o e).elim fun o1 e1 => th a o1 e1, tb2⟩ hd hΦ
    · refine kp a o (R1.keep a o e nn nz) (fun z => ?_) nz
      rcases (R1.owned (ow z)).2.1 with h | h
      · rw [h] at e; cases e
      · exact nn h
    · obtain ⟨o, e⟩ := R1.there a z
      exact th a o e
    · rcases nw a o e with z | z | z
      · exact R1.new a o z
      · exact .inr (.inl (R1.fresh z).2.1)
      · rcases (R1.owned (ow z)).2.1 with h | h
        · exact .inr (.inl h)
        · exact .inr (.inr h)
    · rcases putBack_some (by rw [len2]; exact Nat.le_refl _) e with ⟨k', g1, g2⟩ | ⟨g1, g2⟩
      · obtain ⟨u, z1, z2, z3⟩ := hO g1
        obtain ⟨p, y1, y2, y3, y4⟩ := R1.own z1 z3
        have hk : k' < vs.length := by rw [hl]; exact (List.getElem?_eq_some_iff.mp g1).1
        have hv := List.getElem?_eq_getElem hk
        have hg : σ[j]? = some (some vs[k']) := hr.get hv g1
        have e7 : (as.map (ovOf ρ1))[k']? = some u := by
          rw [List.getElem?_map, g1]
          exact congrArg some z2
        have ho := hout k' u o _ e7 z3 g2 hv
        refine ⟨_, hg, ?_⟩
        by_cases hoo : o.own = true
        · obtain ⟨p', q1, q2, q3⟩ := ho.inv hoo
          rw [hg] at y1
          have q4 : vs[k'] = .ref p := Option.some.inj (Option.some.inj y1)
          rw [q4] at q1
          cases q1
          exact .mk q4 hoo q2 y3 q3
        · cases o with
          | d x => exact ho
          | _ => exact absurd rfl hoo
      · obtain ⟨w, h1, h2⟩ := R1.slot j o g2
        refine ⟨w, h1, ?_⟩
        by_cases hoo : o.own = true
        · obtain ⟨p, rfl, q1, q2, q3⟩ := h2.inv hoo
          have nO : ¬ OwnA vs (as.map (ovOf ρ1)) p := fun ⟨k', u, e1, e2, e3⟩ => by
            obtain ⟨av, z1, z2⟩ := og e1
            cases av with
            | v d => subst z2; cases e2
            | s i =>
              obtain ⟨u', z3, z4, z5⟩ := hO z1
              have hij : j ≠ i := fun z => by
                subst z
                exact g1 k' z1
              exact R1.apart j i o u' _ hij g2 hoo z3 z5 h1 (hr.get e3 z1)
          obtain ⟨w', ew, nw', _⟩ := q3.kind
          refine .mk rfl hoo ?_ q2 (q3.up s2 ((kp p w' ew nO nw').trans ew.symm))
          cases e8 : F' p with
          | none => rfl
          | some u' =>
            rcases nw p u' e8 with z | z | z
            · rw [q1] at z; cases z
            · rw [ew] at z; cases z
            · exact absurd z nO
        · cases o with
          | d x => exact Dr.up s2 h2
          | _ => exact absurd rfl hoo
    · have up : ∀ {j : Nat} {o : OV}, (putBack as os' ρ1)[j]? = some (some o) → o.own = true → ∃ u, ρ1[j]? = some (some u) ∧ u.own = true := fun {j o} e ho => by
        rcases putBack_some (by rw [len2]; exact Nat.le_refl _) e with ⟨k', g1, g2⟩ | ⟨g1, g2⟩
        · obtain ⟨u, z1, _, z3⟩ := hO g1
          exact ⟨u, z1, z3⟩
        · exact ⟨o, g2, ho⟩
      obtain ⟨u1, a1, a2⟩ := up e1 o1
      obtain ⟨u2, c1, c2⟩ := up e2 o2
      exact R1.apart i j u1 u2 w n a1 a2 c1 c2 w1
/-- f(..), data in -/
def dCallV (s : List D → (D → Prop) → Prop) (Ta : DLs) : DE := fun ρ Φ => Ta ρ fun ds ρ1 => s ds fun d => Φ d ρ1
theorem re_callV {s : List D → (D → Prop) → Prop} {t : TA} {Ta : DLs} {E : XK} (h : RV K ps t Ta) : RE K ps (tCall (spOf K (pureS s)) [] E t) (dCallV s Ta) := by
  intro b σ H F ρ Φ Q R0 hT k
  refine h b σ H F ρ _ _ R0 hT fun vs H1 F1 ρ1 ds s1 R1 hr hS => ?_
  have nO : ∀ a, ¬ OwnA vs (ds.map .d) a := fun a ⟨i, o, e1, e2, _⟩ => by
    rw [List.getElem?_map] at e1
    obtain ⟨d, _, rfl⟩ := Option.map_eq_some_iff.mp e1
    cases e2
  have eq : vs ++ ([] : List V) = vs := List.append_nil vs
  refine ⟨F1, ds.map .d, fun d _ => Φ d ρ1, ⟨R1.sub, R1.nt, R1.tabs, R1.grow.b⟩, ⟨by rw [List.length_map, eq]; exact hr.1, fun k v o e1 e2 => ?_, fun k l o u v n e1 o1 e2 o2 e3 e4 => ?_⟩, ⟨ds, rfl, hS⟩, fun F' H' v d os' s2 ⟨sub2, nt2, tb2⟩ kp th nw len2 hout hd hΦ => ?_⟩
  · rw [eq] at e1
    rw [List.getElem?_map] at e2
    obtain ⟨d, hd, rfl⟩ := Option.map_eq_some_iff.mp e2
    exact hr.2 k v d e1 hd
  · rw [List.getElem?_map] at e1
    obtain ⟨d, _, rfl⟩ := Option.map_eq_some_iff.mp e1
    cases o1
  · rw [eq] at kp nw
    exact k v H' F' ρ1 d (s1.trans s2) (R1.grownT (fun a o e nz => kp a o e (nO a) nz) th s2 sub2 (fun a o e => (nw a o e).elim .inl fun h => h.elim .inr fun z => absurd z (nO a)) nt2 tb2) hd hΦ
end
end DL
/-! Part 9: what simp knows. -/
namespace DL

open PySem PySem.Spec PyProof.Rows L2
@[simp] theorem isN_1 : isN "NoneType" "list" = some false := by decide +kernel
@[simp] theorem isN_2 : isN "NoneType" "tuple" = some false := by decide +kernel
@[simp] theorem isN_3 : isN "NoneType" "bool" = some false := by decide +kernel
@[simp] theorem isN_4 : isN "NoneType" "str" = some false := by decide +kernel
@[simp] theorem isN_5 : isN "NoneType" "int" = some false := by decide +kernel
@[simp] theorem isN_6 : isN "bool" "list" = some false := by decide +kernel
@[simp] theorem isN_7 : isN "bool" "tuple" = some false := by decide +kernel
@[simp] theorem isN_8 : isN "bool" "bool" = some true := by decide +kernel
@[simp] theorem isN_9 : isN "bool" "str" = some false := by decide +kernel
@[simp] theorem isN_10 : isN "bool" "int" = some true := by decide +kernel
@[simp] theorem isN_11 : isN "int" "list" = some false := by decide +kernel
@[simp] theorem isN_12 : isN "int" "tuple" = some false := by decide +kernel
@[simp] theorem isN_13 : isN "int" "bool" = some false := by decide +kernel
@[simp] theorem isN_14 : isN "int" "str" = some false := by decide +kernel
@[simp] theorem isN_15 : isN "int" "int" = some true := by decide +kernel
@[simp] theorem isN_16 : isN "str" "list" = some false := by decide +kernel
@[simp] theorem isN_17 : isN "str" "tuple" = some false := by decide +kernel
@[simp] theorem isN_18 : isN "str" "bool" = some false := by decide +kernel
@[simp] theorem isN_19 : isN "str" "str" = some true := by decide +kernel
@[simp] theorem isN_20 : isN "str" "int" = some false := by decide +kernel
@[simp] theorem isN_21 : isN "list" "list" = some true := by decide +kernel
@[simp] theorem isN_22 : isN "list" "tuple" = some false := by decide +kernel
@[simp] theorem isN_23 : isN "list" "bool" = some false := by decide +kernel
@[simp] theorem isN_24 : isN "list" "str" = some false := by decide +kernel
@[simp] theorem isN_25 : isN "list" "int" = some false := by decide +kernel
@[simp] theorem isN_26 : isN "tuple" "list" = some false := by decide +kernel
@[simp] theorem isN_27 : isN "tuple" "tuple" = some true := by decide +kernel
@[simp] theorem isN_28 : isN "tuple" "bool" = some false := by decide +kernel
@[simp] theorem isN_29 : isN "tuple" "str" = some false := by decide +kernel
@[simp] theorem isN_30 : isN "tuple" "int" = some false := by decide +kernel
@[simp] theorem isN_31 : isN "dict" "list" = some false := by decide +kernel
@[simp] theorem isN_32 : isN "dict" "tuple" = some false := by decide +kernel
@[simp] theorem isN_33 : isN "dict" "bool" = some false := by decide +kernel
@[simp] theorem isN_34 : isN "dict" "str" = some false := by decide +kernel
@[simp] theorem isN_35 : isN "dict" "int" = some false := by decide +kernel
section
variable {α : Type}
@[simp] theorem isD_non (n : String) : isD .non n = isN "NoneType" n := Eq.trans rfl rfl
@[simp] theorem isD_bl (b : Bool) (n : String) : isD (.bl b) n = isN "bool" n := Eq.trans rfl rfl
@[simp] theorem isD_int (i : Int) (n : String) : isD (.int i) n = isN "int" n := Eq.trans rfl rfl
@[simp] theorem isD_str (x : Str) (n : String) : isD (.str x) n = isN "str" n := Eq.trans rfl rfl
@[simp] theorem isD_lst (l : List D) (n : String) : isD (.lst l) n = isN "list" n := Eq.trans rfl rfl
@[simp] theorem isD_tup (l : List D) (n : String) : isD (.tup l) n = isN "tuple" n := Eq.trans rfl rfl
@[simp] theorem isD_dct (l : List (Key × D)) (n : String) : isD (.dct l) n = isN "dict" n := Eq.trans rfl rfl
@[simp] theorem atI_0 (a : α) (l : List α) : atI (a :: l) 0 = some a := by simp [atI, ixN]
@[simp] theorem atI_1 (a b : α) (l : List α) : atI (a :: b :: l) 1 = some b := by
  have h : ixN (a :: b :: l).length 1 = some 1 := by
    unfold ixN
    rw [if_pos (by decide), if_pos (by simp only [List.length_cons]; omega)]
    rfl
  unfold atI
  rw [h]
  rfl
@[simp] theorem atI_2 (a b c : α) (l : List α) : atI (a :: b :: c :: l) 2 = some c := by
  have h : ixN (a :: b :: c :: l).length 2 = some 2 := by
    unfold ixN
    rw [if_pos (by decide), if_pos (by simp only [List.length_cons]; omega)]
    rfl
  unfold atI
  rw [h]
  rfl
@[simp] theorem atI_nat' (l : List α) (i : Nat) : atI l (i : Int) = l[i]? := by
  unfold atI ixN
  rw [if_pos (by omega)]
  by_cases h : i < l.length
  · rw [if_pos (by omega)]
    rfl
  · rw [if_neg (by omega), List.getElem?_eq_none (by omega)]
    rfl
@[simp] theorem sizeLine_lit : sizeLine = 16777216 := Eq.trans rfl rfl
end
@[simp] theorem dSeq_ (T U : DS) (E : DEn) (ρ : Env) : dSeq T U E ρ = T { E with nx := U E } ρ := Eq.trans rfl rfl
@[simp] theorem dNext_ (E : DEn) (ρ : Env) : dNext E ρ = E.nx ρ := Eq.trans rfl rfl
@[simp] theorem dBreak_ (E : DEn) (ρ : Env) : dBreak E ρ = E.bk ρ := Eq.trans rfl rfl
@[simp] theorem dCont_ (E : DEn) (ρ : Env) : dCont E ρ = E.ct ρ := Eq.trans rfl rfl
@[simp] theorem dRetN_ (E : DEn) (ρ : Env) : dRetN E ρ = E.rt .non ρ := Eq.trans rfl rfl
@[simp] theorem dRet_ (T : DE) (E : DEn) (ρ : Env) : dRet T E ρ = T ρ fun d ρ' => E.rt d ρ' := Eq.trans rfl rfl
@[simp] theorem dDrop_ (T : DE) (E : DEn) (ρ : Env) : dDrop T E ρ = T ρ fun _ ρ' => E.nx ρ' := Eq.trans rfl rfl
@[simp] theorem dIfS_ (C : DT) (T U : DS) (E : DEn) (ρ : Env) : dIfS C T U E ρ = C ρ fun c ρ1 => if c = true then T E ρ1 else U E ρ1 := Eq.trans rfl rfl
@[simp] theorem dAsg_ (T : DE) (G : DG) (E : DEn) (ρ : Env) : dAsg T G E ρ = T ρ fun d ρ1 => G d ρ1 E.nx := Eq.trans rfl rfl
@[simp] theorem dSetL_ (j : Nat) (T : DLs) (E : DEn) (ρ : Env) : dSetL j T E ρ = T ρ fun ds ρ1 => E.nx (ρ1.set j (some (.l ds))) := Eq.trans rfl rfl
@[simp] theorem dSetM_ (j : Nat) (T : DDs) (E : DEn) (ρ : Env) : dSetM j T E ρ = T ρ fun ds ρ1 => E.nx (ρ1.set j (some (.m ds))) := Eq.trans rfl rfl
@[simp] theorem dAug_ (i : Nat) (T : DE) (R : DO) (E : DEn) (ρ : Env) : dAug i T R E ρ = ∃ x, ρ[i]? = some (some (.d x)) ∧ T ρ fun y ρ1 => R x y fun z => E.nx (ρ1.set i (some (.d z))) := Eq.trans rfl rfl
@[simp] theorem dApp_ (i : Nat) (T : DE) (E : DEn) (ρ : Env) : dApp i T E ρ = ((∃ ds0, ρ[i]? = some (some (.l ds0))) ∧ T ρ fun d ρ1 => ∃ ds, ρ1[i]? = some (some (.l ds)) ∧ ds.length < sizeLine ∧ E.nx (ρ1.set i (some (.l (ds ++ [d]))))) := Eq.trans rfl rfl
@[simp] theorem dPop_ (i : Nat) (ρ : Env) (Φ : D → Env → Prop) : dPop i ρ Φ = ∃ ds d, ρ[i]? = some (some (.l ds)) ∧ ds[ds.length - 1]? = some d ∧ Φ d (ρ.set i (some (.l ds.dropLast))) := Eq.trans rfl rfl
@[simp] theorem dPutL_ (i : Nat) (Tv Ti : DE) (E : DEn) (ρ : Env) : dPutL i Tv Ti E ρ = Tv ρ fun d ρ1 => (ρ1[i]?.join).isSome = true ∧ Ti ρ1 fun y ρ2 => ∃ ds k j, ρ2[i]? = some (some (.l ds)) ∧ y = .int k ∧ ixN ds.length k = some j ∧ E.nx (ρ2.set i (some (.l (ds.set j d)))) := Eq.trans rfl rfl
@[simp] theorem dPutM_ (i : Nat) (Tv Ti : DE) (E : DEn) (ρ : Env) : dPutM i Tv Ti E ρ = Tv ρ fun d ρ1 => (ρ1[i]?.join).isSome = true ∧ Ti ρ1 fun y ρ2 => ∃ ks k, ρ2[i]? = some (some (.m ks)) ∧ keyD y = some k ∧ ks.length < sizeLine ∧ E.nx (ρ2.set i (some (.m (putD ks k d)))) := Eq.trans rfl rfl
@[simp] theorem dVar_ (i : Nat) (ρ : Env) (Φ : D → Env → Prop) : dVar i ρ Φ = dVarG ρ[i]? i ρ Φ := Eq.trans rfl rfl
@[simp] theorem dVarG_d (d : D) (i : Nat) (ρ : Env) (Φ : D → Env → Prop) : dVarG (some (some (.d d))) i ρ Φ = Φ d ρ := Eq.trans rfl rfl
@[simp] theorem dVarG_l (ds : List D) (i : Nat) (ρ : Env) (Φ : D → Env → Prop) : dVarG (some (some (.l ds))) i ρ Φ = Φ (.lst ds) (ρ.set i (some (.d (.lst ds)))) := Eq.trans rfl rfl
@[simp] theorem dVarG_m (ks : List (Key × D)) (i : Nat) (ρ : Env) (Φ : D → Env → Prop) : dVarG (some (some (.m ks))) i ρ Φ = Φ (.dct ks) (ρ.set i (some (.d (.dct ks)))) := Eq.trans rfl rfl
@[simp] theorem dC_ (d : D) (ρ : Env) (Φ : D → Env → Prop) : dC d ρ Φ = Φ d ρ := Eq.trans rfl rfl
@[simp] theorem dK_ (T : DLs) (ρ : Env) (Φ : D → Env → Prop) : dK T ρ Φ = T ρ fun ds ρ' => Φ (.lst ds) ρ' := Eq.trans rfl rfl
@[simp] theorem dKd_ (T : DDs) (ρ : Env) (Φ : D → Env → Prop) : dKd T ρ Φ = T ρ fun ds ρ' => Φ (.dct ds) ρ' := Eq.trans rfl rfl
@[simp] theorem dOp_ (R : DO) (Ta Tb : DE) (ρ : Env) (Φ : D → Env → Prop) : dOp R Ta Tb ρ Φ = Ta ρ fun x ρ1 => Tb ρ1 fun y ρ2 => R x y fun z => Φ z ρ2 := Eq.trans rfl rfl
@[simp] theorem dOpL_ (R : D → D → (List D → Prop) → Prop) (Ta Tb : DE) (ρ : Env) (Φ : List D → Env → Prop) : dOpL R Ta Tb ρ Φ = Ta ρ fun x ρ1 => Tb ρ1 fun y ρ2 => R x y fun z => Φ z ρ2 := Eq.trans rfl rfl
@[simp] theorem oI_ (C : Int → Int → Prop) (g : Int → Int → D) (i j : Int) (Φ : D → Prop) : oI C g (.int i) (.int j) Φ = (C i j ∧ Φ (g i j)) := Eq.trans rfl rfl
@[simp] theorem oI0_ (g : Int → Int → D) (i j : Int) (Φ : D → Prop) : oI0 g (.int i) (.int j) Φ = Φ (g i j) := Eq.trans rfl rfl
@[simp] theorem oEq_ (d e : D) (Φ : D → Prop) : oEq d e Φ = oEqG (eqS d e) Φ := Eq.trans rfl rfl
@[simp] theorem oNe_ (d e : D) (Φ : D → Prop) : oNe d e Φ = oNeG (eqS d e) Φ := Eq.trans rfl rfl
@[simp] theorem oEqG_s (c : Bool) (Φ : D → Prop) : oEqG (some c) Φ = Φ (.bl c) := Eq.trans rfl rfl
@[simp] theorem oNeG_s (c : Bool) (Φ : D → Prop) : oNeG (some c) Φ = Φ (.bl (!c)) := Eq.trans rfl rfl
@[simp] theorem oIsN_ (d e : D) (Φ : D → Prop) : oIsN d e Φ = (isNon e = true ∧ Φ (.bl (isNon d))) := Eq.trans rfl rfl
@[simp] theorem oNotN_ (d e : D) (Φ : D → Prop) : oNotN d e Φ = (isNon e = true ∧ Φ (.bl (!isNon d))) := Eq.trans rfl rfl
@[simp] theorem eqS_int (i j : Int) : eqS (.int i) (.int j) = some (decide (i = j)) := Eq.trans rfl rfl
@[simp] theorem eqS_str (i j : Str) : eqS (.str i) (.str j) = some (decide (i = j)) := Eq.trans rfl rfl
@[simp] theorem eqS_bl (i j : Bool) : eqS (.bl i) (.bl j) = some (decide (i = j)) := Eq.trans rfl rfl
@[simp] theorem eqS_nn : eqS .non .non = some true := Eq.trans rfl rfl
@[simp] theorem eqS_ni (i : Int) : eqS .non (.int i) = some false := Eq.trans rfl rfl
@[simp] theorem eqS_in (i : Int) : eqS (.int i) .non = some false := Eq.trans rfl rfl
@[simp] theorem oCatS_ (i j : Str) (Φ : D → Prop) : oCatS (.str i) (.str j) Φ = (i.length + j.length ≤ sizeLine ∧ Φ (.str (i ++ j))) := Eq.trans rfl rfl
@[simp] theorem oCat_ (i j : List D) (Φ : List D → Prop) : oCat (.lst i) (.lst j) Φ = (i.length + j.length ≤ sizeLine ∧ Φ (i ++ j)) := Eq.trans rfl rfl
@[simp] theorem isNon_n : isNon .non = true := Eq.trans rfl rfl
@[simp] theorem isNon_i (i : Int) : isNon (.int i) = false := Eq.trans rfl rfl
@[simp] theorem isNon_b (i : Bool) : isNon (.bl i) = false := Eq.trans rfl rfl
@[simp] theorem isNon_s (i : Str) : isNon (.str i) = false := Eq.trans rfl rfl
@[simp] theorem isNon_l (i : List D) : isNon (.lst i) = false := Eq.trans rfl rfl
@[simp] theorem isNon_t (i : List D) : isNon (.tup i) = false := Eq.trans rfl rfl
@[simp] theorem isNon_d (i : List (Key × D)) : isNon (.dct i) = false := Eq.trans rfl rfl
@[simp] theorem isNon_o (C : Addr) (i : List (Str × D)) : isNon (.obj C i) = false := Eq.trans rfl rfl
@[simp] theorem dNil_ (ρ : Env) (Φ : List D → Env → Prop) : dNil ρ Φ = Φ [] ρ := Eq.trans rfl rfl
@[simp] theorem dCons_ (Ta : DE) (Tr : DLs) (ρ : Env) (Φ : List D → Env → Prop) : dCons Ta Tr ρ Φ = Ta ρ fun x ρ1 => Tr ρ1 fun xs ρ2 => Φ (x :: xs) ρ2 := Eq.trans rfl rfl
@[simp] theorem dANil_ (ρ : Env) (Φ : List AV → Env → Prop) : dANil ρ Φ = Φ [] ρ := Eq.trans rfl rfl
@[simp] theorem dACons_ (Ta : DE) (Tr : DAs) (ρ : Env) (Φ : List AV → Env → Prop) : dACons Ta Tr ρ Φ = Ta ρ fun x ρ1 => Tr ρ1 fun xs ρ2 => Φ (.v x :: xs) ρ2 := Eq.trans rfl rfl
@[simp] theorem dASlot_ (i : Nat) (Tr : DAs) (ρ : Env) (Φ : List AV → Env → Prop) : dASlot i Tr ρ Φ = ((ρ[i]?.join).isSome = true ∧ Tr ρ fun xs ρ2 => Φ (.s i :: xs) ρ2) := Eq.trans rfl rfl
@[simp] theorem dTup_ (T : DLs) (ρ : Env) (Φ : D → Env → Prop) : dTup T ρ Φ = T ρ fun ds ρ' => ds.length ≤ sizeLine ∧ Φ (.tup ds) ρ' := Eq.trans rfl rfl
@[simp] theorem dLst_ (T : DLs) (ρ : Env) (Φ : List D → Env → Prop) : dLst T ρ Φ = T ρ fun ds ρ' => ds.length ≤ sizeLine ∧ Φ ds ρ' := Eq.trans rfl rfl
@[simp] theorem dNewD_ (ρ : Env) (Φ : List (Key × D) → Env → Prop) : dNewD ρ Φ = Φ [] ρ := Eq.trans rfl rfl
@[simp] theorem oIxT_ (ds : List D) (i : Int) (Φ : D → Prop) : oIxT (.tup ds) (.int i) Φ = ∃ x, atI ds i = some x ∧ Φ x := Eq.trans rfl rfl
@[simp] theorem oIxL_ (ds : List D) (i : Int) (Φ : D → Prop) : oIxL (.lst ds) (.int i) Φ = ∃ x, atI ds i = some x ∧ Φ x := Eq.trans rfl rfl
@[simp] theorem oCatT_ (i j : List D) (Φ : D → Prop) : oCatT (.tup i) (.tup j) Φ = (i.length + j.length ≤ sizeLine ∧ Φ (.tup (i ++ j))) := Eq.trans rfl rfl
@[simp] theorem oIx_t (ds : List D) (i : Int) (Φ : D → Prop) : oIx (.tup ds) (.int i) Φ = ∃ x, atI ds i = some x ∧ Φ x := Eq.trans rfl rfl
@[simp] theorem oIx_l (ds : List D) (i : Int) (Φ : D → Prop) : oIx (.lst ds) (.int i) Φ = ∃ x, atI ds i = some x ∧ Φ x := Eq.trans rfl rfl
@[simp] theorem peek_ (ρ : Env) (i : Nat) : peek ρ i = peekG ρ[i]? := Eq.trans rfl rfl
@[simp] theorem peekG_d (d : D) : peekG (some (some (.d d))) = some d := Eq.trans rfl rfl
@[simp] theorem peekG_l (ds : List D) : peekG (some (some (.l ds))) = some (.lst ds) := Eq.trans rfl rfl
@[simp] theorem peekG_m (ks : List (Key × D)) : peekG (some (some (.m ks))) = some (.dct ks) := Eq.trans rfl rfl
@[simp] theorem dIxS_ (i : Nat) (Tb : DE) (ρ : Env) (Φ : D → Env → Prop) : dIxS i Tb ρ Φ = ((ρ[i]?.join).isSome = true ∧ Tb ρ fun y ρ2 => ∃ ds j x, peek ρ2 i = some (.lst ds) ∧ y = .int j ∧ atI ds j = some x ∧ Φ x ρ2) := Eq.trans rfl rfl
@[simp] theorem oIn_ (neg : Bool) (d e : D) (Φ : D → Prop) : oIn neg d e Φ = ∃ ds, seqD e = some ds ∧ flatD d = true ∧ ds.all flatD = true ∧ Φ (.bl (if neg then !inD d ds else inD d ds)) := Eq.trans rfl rfl
@[simp] theorem seqD_t (l : List D) : seqD (.tup l) = some l := Eq.trans rfl rfl
@[simp] theorem seqD_l (l : List D) : seqD (.lst l) = some l := Eq.trans rfl rfl
@[simp] theorem flatD_s (x : Str) : flatD (.str x) = true := Eq.trans rfl rfl
@[simp] theorem flatD_i (x : Int) : flatD (.int x) = true := Eq.trans rfl rfl
@[simp] theorem inD_nil (d : D) : inD d [] = false := Eq.trans rfl rfl
@[simp] theorem inD_cons (d e : D) (l : List D) : inD d (e :: l) = (eqD e d || inD d l) := Eq.trans rfl rfl
@[simp] theorem eqD_s (x y : Str) : eqD (.str x) (.str y) = (x == y) := Eq.trans rfl rfl
@[simp] theorem eqD_i (x y : Int) : eqD (.int x) (.int y) = (x == y) := Eq.trans rfl rfl
@[simp] theorem keyD_i (i : Int) : keyD (.int i) = some (.inl i) := Eq.trans rfl rfl
@[simp] theorem keyD_s (i : Str) : keyD (.str i) = some (.inr i) := Eq.trans rfl rfl
@[simp] theorem dInS_ (neg : Bool) (Ta : DE) (i : Nat) (ρ : Env) (Φ : D → Env → Prop) : dInS neg Ta i ρ Φ = Ta ρ fun x ρ1 => ∃ ds k, peek ρ1 i = some (.dct ds) ∧ keyD x = some k ∧ Φ (.bl (if neg then !(valD ds k).isSome else (valD ds k).isSome)) ρ1 := Eq.trans rfl rfl
@[simp] theorem oInD_ (neg : Bool) (d : D) (ds : List (Key × D)) (Φ : D → Prop) : oInD neg d (.dct ds) Φ = ∃ k, keyD d = some k ∧ Φ (.bl (if neg then !(valD ds k).isSome else (valD ds k).isSome)) := Eq.trans rfl rfl
@[simp] theorem dDGet_ (Td Ty : DE) (ρ : Env) (Φ : D → Env → Prop) : dDGet Td Ty ρ Φ = Td ρ fun x ρ1 => Ty ρ1 fun y ρ2 => ∃ ds k z, x = .dct ds ∧ keyD y = some k ∧ valD ds k = some z ∧ Φ z ρ2 := Eq.trans rfl rfl
@[simp] theorem dDGetS_ (i : Nat) (Ty : DE) (ρ : Env) (Φ : D → Env → Prop) : dDGetS i Ty ρ Φ = ((ρ[i]?.join).isSome = true ∧ Ty ρ fun y ρ2 => ∃ ds k z, peek ρ2 i = some (.dct ds) ∧ keyD y = some k ∧ valD ds k = some z ∧ Φ z ρ2) := Eq.trans rfl rfl
@[simp] theorem dGet1S_ (i : Nat) (Ty : DE) (ρ : Env) (Φ : D → Env → Prop) : dGet1S i Ty ρ Φ = ((∃ ds, peek ρ i = some (.dct ds)) ∧ Ty ρ fun y ρ2 => ∃ ds k, peek ρ2 i = some (.dct ds) ∧ keyD y = some k ∧ Φ ((valD ds k).getD .non) ρ2) := Eq.trans rfl rfl
@[simp] theorem dGet2S_ (i : Nat) (Ty Tz : DE) (ρ : Env) (Φ : D → Env → Prop) : dGet2S i Ty Tz ρ Φ = ((∃ ds, peek ρ i = some (.dct ds)) ∧ Ty ρ fun y ρ1 => Tz ρ1 fun z ρ2 => ∃ ds k, peek ρ2 i = some (.dct ds) ∧ keyD y = some k ∧ Φ ((valD ds k).getD z) ρ2) := Eq.trans rfl rfl
@[simp] theorem dGet1_ (Td Ty : DE) (ρ : Env) (Φ : D → Env → Prop) : dGet1 Td Ty ρ Φ = Td ρ fun x ρ1 => ∃ ds, x = .dct ds ∧ Ty ρ1 fun y ρ2 => ∃ k, keyD y = some k ∧ Φ ((valD ds k).getD .non) ρ2 := Eq.trans rfl rfl
@[simp] theorem dGet2_ (Td Ty Tz : DE) (ρ : Env) (Φ : D → Env → Prop) : dGet2 Td Ty Tz ρ Φ = Td ρ fun x ρ1 => ∃ ds, x = .dct ds ∧ Ty ρ1 fun y ρ2 => Tz ρ2 fun z ρ3 => ∃ k, keyD y = some k ∧ Φ ((valD ds k).getD z) ρ3 := Eq.trans rfl rfl
@[simp] theorem dTest_ (T : DE) (ρ : Env) (Φ : Bool → Env → Prop) : dTest T ρ Φ = T ρ fun x ρ' => blG x fun c => Φ c ρ' := Eq.trans rfl rfl
@[simp] theorem blG_ (c : Bool) (Φ : Bool → Prop) : blG (.bl c) Φ = Φ c := Eq.trans rfl rfl
@[simp] theorem obG_ (c : Bool) (Φ : Bool → Prop) : obG (some c) Φ = Φ c := Eq.trans rfl rfl
@[simp] theorem dTruth_ (T : DE) (ρ : Env) (Φ : Bool → Env → Prop) : dTruth T ρ Φ = T ρ fun x ρ' => obG (truD x) fun c => Φ c ρ' := Eq.trans rfl rfl
@[simp] theorem dTruthS_ (i : Nat) (ρ : Env) (Φ : Bool → Env → Prop) : dTruthS i ρ Φ = ∃ d, peek ρ i = some d ∧ obG (truD d) fun c => Φ c ρ := Eq.trans rfl rfl
@[simp] theorem truD_n : truD .non = some false := Eq.trans rfl rfl
@[simp] theorem truD_b (b : Bool) : truD (.bl b) = some b := Eq.trans rfl rfl
@[simp] theorem truD_i (i : Int) : truD (.int i) = some (i != 0) := Eq.trans rfl rfl
@[simp] theorem truD_l (l : List D) : truD (.lst l) = some !l.isEmpty := Eq.trans rfl rfl
@[simp] theorem truD_t (l : List D) : truD (.tup l) = some !l.isEmpty := Eq.trans rfl rfl
@[simp] theorem dAnd_ (T U : DT) (ρ : Env) (Φ : Bool → Env → Prop) : dAnd T U ρ Φ = T ρ fun c ρ1 => if c = true then U ρ1 Φ else Φ false ρ1 := Eq.trans rfl rfl
@[simp] theorem dOr_ (T U : DT) (ρ : Env) (Φ : Bool → Env → Prop) : dOr T U ρ Φ = T ρ fun c ρ1 => if c = true then Φ true ρ1 else U ρ1 Φ := Eq.trans rfl rfl
@[simp] theorem dNot_ (T : DT) (ρ : Env) (Φ : Bool → Env → Prop) : dNot T ρ Φ = T ρ fun c ρ1 => Φ (!c) ρ1 := Eq.trans rfl rfl
@[simp] theorem dAndV_ (T U : DE) (ρ : Env) (Φ : D → Env → Prop) : dAndV T U ρ Φ = T ρ fun x ρ1 => blG x fun c => if c = true then U ρ1 Φ else Φ (.bl false) ρ1 := Eq.trans rfl rfl
@[simp] theorem dOrV_ (T U : DE) (ρ : Env) (Φ : D → Env → Prop) : dOrV T U ρ Φ = T ρ fun x ρ1 => blG x fun c => if c = true then Φ (.bl true) ρ1 else U ρ1 Φ := Eq.trans rfl rfl
@[simp] theorem dNotV_ (T : DE) (ρ : Env) (Φ : D → Env → Prop) : dNotV T ρ Φ = T ρ fun x ρ1 => blG x fun c => Φ (.bl (!c)) ρ1 := Eq.trans rfl rfl
@[simp] theorem dIf_ (T : DT) (U W : DE) (ρ : Env) (Φ : D → Env → Prop) : dIf T U W ρ Φ = T ρ fun c ρ1 => if c = true then U ρ1 Φ else W ρ1 Φ := Eq.trans rfl rfl
@[simp] theorem dIfL_ (T : DT) (U W : DLs) (ρ : Env) (Φ : List D → Env → Prop) : dIfL T U W ρ Φ = T ρ fun c ρ1 => if c = true then U ρ1 Φ else W ρ1 Φ := Eq.trans rfl rfl
@[simp] theorem dNeg_ (T : DE) (ρ : Env) (Φ : D → Env → Prop) : dNeg T ρ Φ = T ρ fun x ρ1 => ∃ i, x = .int i ∧ Φ (.int (-i)) ρ1 := Eq.trans rfl rfl
@[simp] theorem dCB_ (R : List D → (D → Prop) → Prop) (T : DLs) (ρ : Env) (Φ : D → Env → Prop) : dCB R T ρ Φ = T ρ fun ds ρ' => R ds fun z => Φ z ρ' := Eq.trans rfl rfl
@[simp] theorem dCBL_ (R : List D → (List D → Prop) → Prop) (T : DLs) (ρ : Env) (Φ : List D → Env → Prop) : dCBL R T ρ Φ = T ρ fun ds ρ' => R ds fun z => Φ z ρ' := Eq.trans rfl rfl
@[simp] theorem oLen_s (x : Str) (Φ : D → Prop) : oLen [.str x] Φ = (x.length ≤ sizeLine ∧ Φ (.int x.length)) := Eq.trans rfl rfl
@[simp] theorem oLen_t (l : List D) (Φ : D → Prop) : oLen [.tup l] Φ = Φ (.int l.length) := Eq.trans rfl rfl
@[simp] theorem oLen_l (l : List D) (Φ : D → Prop) : oLen [.lst l] Φ = Φ (.int l.length) := Eq.trans rfl rfl
@[simp] theorem dLenS_ (i : Nat) (ρ : Env) (Φ : D → Env → Prop) : dLenS i ρ Φ = ∃ l, peek ρ i = some (.lst l) ∧ Φ (.int l.length) ρ := Eq.trans rfl rfl
@[simp] theorem oListOf_t (l : List D) (Φ : List D → Prop) : oListOf [.tup l] Φ = Φ l := Eq.trans rfl rfl
@[simp] theorem oListOf_l (l : List D) (Φ : List D → Prop) : oListOf [.lst l] Φ = Φ l := Eq.trans rfl rfl
@[simp] theorem oTupOf_t (l : List D) (Φ : D → Prop) : oTupOf [.tup l] Φ = Φ (.tup l) := Eq.trans rfl rfl
@[simp] theorem oTupOf_l (l : List D) (Φ : D → Prop) : oTupOf [.lst l] Φ = Φ (.tup l) := Eq.trans rfl rfl
@[simp] theorem oAbs_ (i : Int) (Φ : D → Prop) : oAbs [.int i] Φ = Φ (.int (if i < 0 then -i else i)) := Eq.trans rfl rfl
@[simp] theorem oInt_ (i : Int) (Φ : D → Prop) : oInt [.int i] Φ = Φ (.int i) := Eq.trans rfl rfl
@[simp] theorem oSum_ (l : List D) (Φ : D → Prop) : oSum [.lst l] Φ = ∃ ns, intsD l = some ns ∧ Φ (.int ns.sum) := by simp [oSum]
@[simp] theorem oMin_ (l : List D) (Φ : D → Prop) : oMin [.lst l] Φ = ∃ ns, intsD l = some ns ∧ 0 < ns.length ∧ ∀ m, m ∈ ns → (∀ y, y ∈ ns → m ≤ y) → Φ (.int m) := by simp [oMin]
@[simp] theorem oAll_ (l : List D) (Φ : D → Prop) : oAll [.lst l] Φ = ∃ ns, blsD l = some ns ∧ Φ (.bl (ns.all id)) := by simp [oAll]
@[simp] theorem oAny_ (l : List D) (Φ : D → Prop) : oAny [.lst l] Φ = ∃ ns, blsD l = some ns ∧ Φ (.bl (ns.any id)) := by simp [oAny]
@[simp] theorem oIsi_ (x : D) (n : String) (Φ : D → Prop) : oIsi [x, .ty n] Φ = obG (isD x n) fun c => Φ (.bl c) := Eq.trans rfl rfl
@[simp] theorem dIsi2_ (Ta : DE) (m n : String) (ρ : Env) (Φ : D → Env → Prop) : dIsi2 Ta m n ρ Φ = Ta ρ fun x ρ1 => obG (isD x m) fun c => obG (isD x n) fun e => Φ (.bl (c || e)) ρ1 := Eq.trans rfl rfl
@[simp] theorem dName_ (j : Nat) (d : D) (ρ : Env) (Φ : Env → Prop) : dName j d ρ Φ = Φ (ρ.set j (some (.d d))) := Eq.trans rfl rfl
@[simp] theorem dGNil_ (ρ : Env) (Φ : Env → Prop) : dGNil [] ρ Φ = Φ ρ := by unfold dGNil; simp
@[simp] theorem dGCons_ (G : DG) (Gs : DGs) (d : D) (r : List D) (ρ : Env) (Φ : Env → Prop) : dGCons G Gs (d :: r) ρ Φ = G d ρ fun ρ1 => Gs r ρ1 Φ := by
  unfold dGCons
  refine propext ⟨?_, fun h => ⟨_, _, rfl, h⟩⟩
  rintro ⟨d', r', h, g⟩
  cases h
  exact g
@[simp] theorem dGTup_ (n : Nat) (Gs : DGs) (ds : List D) (ρ : Env) (Φ : Env → Prop) : dGTup n Gs (.tup ds) ρ Φ = (ds.length = n ∧ Gs ds ρ Φ) := by
  unfold dGTup
  refine propext ⟨?_, fun h => ⟨_, rfl, h⟩⟩
  rintro ⟨d', h, g⟩
  cases h
  exact g
@[simp] theorem dIL_ (T : DE) (ρ : Env) (Φ : List D → Env → Prop) : dIL T ρ Φ = T ρ fun x ρ' => ∃ ds, x = .lst ds ∧ Φ ds ρ' := Eq.trans rfl rfl
@[simp] theorem dIT_ (T : DE) (ρ : Env) (Φ : List D → Env → Prop) : dIT T ρ Φ = T ρ fun x ρ' => ∃ ds, x = .tup ds ∧ Φ ds ρ' := Eq.trans rfl rfl
@[simp] theorem dIR1_ (T : DLs) (ρ : Env) (Φ : List D → Env → Prop) : dIR1 T ρ Φ = T ρ fun xs ρ' => ∃ j : Int, xs = [.int j] ∧ -(2 ^ 62) ≤ j ∧ j < 2 ^ 62 ∧ Φ (rngD 0 j.toNat) ρ' := Eq.trans rfl rfl
@[simp] theorem dIR2_ (T : DLs) (ρ : Env) (Φ : List D → Env → Prop) : dIR2 T ρ Φ = T ρ fun xs ρ' => ∃ i j : Int, xs = [.int i, .int j] ∧ (-(2 ^ 62) ≤ i ∧ i < 2 ^ 62 ∧ -(2 ^ 62) ≤ j ∧ j < 2 ^ 62) ∧ Φ (rngD i (j - i).toNat) ρ' := Eq.trans rfl rfl
@[simp] theorem wipeD_0 (ρ : Env) : wipeD ρ [] = ρ := Eq.trans rfl rfl
@[simp] theorem wipeD_1 (ρ : Env) (v : Nat) (vs : List Nat) : wipeD ρ (v :: vs) = (wipeD ρ vs).set v none := Eq.trans rfl rfl
@[simp] theorem restore_0 (ρ ρ0 : Env) : restore ρ ρ0 [] = ρ := Eq.trans rfl rfl
@[simp] theorem restore_1 (ρ ρ0 : Env) (v : Nat) (vs : List Nat) : restore ρ ρ0 (v :: vs) = (restore ρ ρ0 vs).set v (keepD ρ0[v]?) := Eq.trans rfl rfl
@[simp] theorem keepD_d (d : D) : keepD (some (some (.d d))) = some (.d d) := Eq.trans rfl rfl
@[simp] theorem keepD_n : keepD (some none) = none := Eq.trans rfl rfl
@[simp] theorem keepD_l (l : List D) : keepD (some (some (.l l))) = none := Eq.trans rfl rfl
@[simp] theorem keepD_m (l : List (Key × D)) : keepD (some (some (.m l))) = none := Eq.trans rfl rfl
@[simp] theorem dYes_ (ρ : Env) (Φ : Bool → Env → Prop) : dYes ρ Φ = Φ true ρ := Eq.trans rfl rfl
@[simp] theorem dNoPart_ (ρ : Env) (Φ : Option Int → Env → Prop) : dNoPart ρ Φ = Φ none ρ := Eq.trans rfl rfl
@[simp] theorem dPart_ (T : DE) (ρ : Env) (Φ : Option Int → Env → Prop) : dPart T ρ Φ = T ρ fun x ρ' => ∃ i, x = .int i ∧ Φ (some i) ρ' := Eq.trans rfl rfl
@[simp] theorem dSlL_ (Te : DE) (Tl Th : DOo) (ρ : Env) (Φ : List D → Env → Prop) : dSlL Te Tl Th ρ Φ = Te ρ fun x ρ1 => Tl ρ1 fun l ρ2 => Th ρ2 fun u ρ3 => ∃ ds, x = .lst ds ∧ Φ (cutD ds l u) ρ3 := Eq.trans rfl rfl
@[simp] theorem dSlT_ (Te : DE) (Tl Th : DOo) (ρ : Env) (Φ : D → Env → Prop) : dSlT Te Tl Th ρ Φ = Te ρ fun x ρ1 => Tl ρ1 fun l ρ2 => Th ρ2 fun u ρ3 => ∃ ds, x = .tup ds ∧ Φ (.tup (cutD ds l u)) ρ3 := Eq.trans rfl rfl
@[simp] theorem dRevL_ (T : DE) (ρ : Env) (Φ : List D → Env → Prop) : dRevL T ρ Φ = T ρ fun x ρ1 => ∃ ds, x = .lst ds ∧ Φ ds.reverse ρ1 := Eq.trans rfl rfl
@[simp] theorem dRevT_ (T : DE) (ρ : Env) (Φ : D → Env → Prop) : dRevT T ρ Φ = T ρ fun x ρ1 => ∃ ds, x = .tup ds ∧ Φ (.tup ds.reverse) ρ1 := Eq.trans rfl rfl
@[simp] theorem dFld_ (C : Addr) (T : DE) (f : Str) (ρ : Env) (Φ : D → Env → Prop) : dFld C T f ρ Φ = T ρ fun x ρ1 => ∃ fs d, x = .obj C fs ∧ valD fs f = some d ∧ Φ d ρ1 := Eq.trans rfl rfl
@[simp] theorem dCall_ (S : SD) (Ta : DAs) (ρ : Env) (Φ : D → Env → Prop) : dCall S Ta ρ Φ = Ta ρ fun as ρ1 => (as.all (ownB ρ1) = true ∧ (slotsOf as).Nodup) ∧ S (as.map (ovOf ρ1)) fun d os => Φ d (putBack as os ρ1) := Eq.trans rfl rfl
@[simp] theorem dCallV_ (s : List D → (D → Prop) → Prop) (Ta : DLs) (ρ : Env) (Φ : D → Env → Prop) : dCallV s Ta ρ Φ = Ta ρ fun ds ρ1 => s ds fun d => Φ d ρ1 := Eq.trans rfl rfl
@[simp] theorem ownB_v (ρ : Env) (d : D) : ownB ρ (.v d) = true := Eq.trans rfl rfl
@[simp] theorem ownB_s (ρ : Env) (i : Nat) : ownB ρ (.s i) = (slotO ρ[i]?).own := Eq.trans rfl rfl
@[simp] theorem ovOf_v (ρ : Env) (d : D) : ovOf ρ (.v d) = .d d := Eq.trans rfl rfl
@[simp] theorem ovOf_s (ρ : Env) (i : Nat) : ovOf ρ (.s i) = slotO ρ[i]? := Eq.trans rfl rfl
@[simp] theorem slotO_s (o : OV) : slotO (some (some o)) = o := Eq.trans rfl rfl
@[simp] theorem own_d (d : D) : OV.own (.d d) = false := Eq.trans rfl rfl
@[simp] theorem own_l (d : List D) : OV.own (.l d) = true := Eq.trans rfl rfl
@[simp] theorem own_m (d : List (Key × D)) : OV.own (.m d) = true := Eq.trans rfl rfl
@[simp] theorem own_w : OV.own .draw = true := Eq.trans rfl rfl
@[simp] theorem slotsOf_n : slotsOf [] = [] := Eq.trans rfl rfl
@[simp] theorem slotsOf_v (d : D) (as : List AV) : slotsOf (.v d :: as) = slotsOf as := Eq.trans rfl rfl
@[simp] theorem slotsOf_s (i : Nat) (as : List AV) : slotsOf (.s i :: as) = i :: slotsOf as := Eq.trans rfl rfl
@[simp] theorem putBack_n (os : List OV) (ρ : Env) : putBack [] os ρ = ρ := by cases os <;> rfl
@[simp] theorem putBack_v (d : D) (as : List AV) (o : OV) (os : List OV) (ρ : Env) : putBack (.v d :: as) (o :: os) ρ = putBack as os ρ := Eq.trans rfl rfl
@[simp] theorem putBack_s (i : Nat) (as : List AV) (o : OV) (os : List OV) (ρ : Env) : putBack (.s i :: as) (o :: os) ρ = putBack as os (ρ.set i (some o)) := Eq.trans rfl rfl
@[simp] theorem outs_0 (ρ : Env) : outs 0 ρ = [] := Eq.trans rfl rfl
@[simp] theorem outs_1 (a : Option OV) (ρ : Env) : outs 1 (a :: ρ) = [slotO (some a)] := Eq.trans rfl rfl
@[simp] theorem outs_2 (a b : Option OV) (ρ : Env) : outs 2 (a :: b :: ρ) = [slotO (some a), slotO (some b)] := Eq.trans rfl rfl
@[simp] theorem outs_3 (a b c : Option OV) (ρ : Env) : outs 3 (a :: b :: c :: ρ) = [slotO (some a), slotO (some b), slotO (some c)] := Eq.trans rfl rfl
@[simp] theorem outs_4 (a b c d : Option OV) (ρ : Env) : outs 4 (a :: b :: c :: d :: ρ) = [slotO (some a), slotO (some b), slotO (some c), slotO (some d)] := Eq.trans rfl rfl
@[simp] theorem outs_5 (a b c d e : Option OV) (ρ : Env) : outs 5 (a :: b :: c :: d :: e :: ρ) = [slotO (some a), slotO (some b), slotO (some c), slotO (some d), slotO (some e)] := Eq.trans rfl rfl
@[simp] theorem startD_ (n : Nat) (os : List OV) : startD n os = os.map some ++ List.replicate (n - os.length) none := Eq.trans rfl rfl
/-- a test whose answer is told -/
theorem pure_len {n : Nat} {s : List D → (D → Prop) → Prop} (h : ∀ ds Φ, s ds Φ → ds.length = n) : ∀ os Φ, pureS s os Φ → os.length = n ∧ (∀ (i : Nat) o, os[i]? = some o → o.own = true → i ∈ ([] : List Nat)) ∧ ∀ i ∈ ([] : List Nat), i < os.length := by
  rintro os Φ ⟨ds, rfl, hs⟩
  refine ⟨by rw [List.length_map]; exact h ds _ hs, fun i o e ho => ?_, fun i hi => by cases hi⟩
  rw [List.getElem?_map] at e
  obtain ⟨d, _, rfl⟩ := Option.map_eq_some_iff.mp e
  cases ho
theorem for_inv {Ti : DLs} {G : DG} {Tb : DS} {E : DEn} {ρ : Env} (ds : List D) (ρ1 : Env) (W : Nat → Env → Prop) (hI : ∀ Ψ : List D → Env → Prop, Ψ ds ρ1 → Ti ρ Ψ) (h0 : W 0 ρ1)
    (hs : ∀ k x ρ, ds[k]? = some x → W k ρ → G x ρ fun ρ2 => Tb ⟨W (k + 1), E.rt, E.nx, W (k + 1)⟩ ρ2) (hd : ∀ ρ, W ds.length ρ → E.nx ρ) : dFor Ti G Tb E ρ := hI _ ⟨W, h0, hs, hd⟩
theorem while_inv {C : DT} {Tb : DS} {E : DEn} {ρ : Env} (W : Nat → Env → Prop) (h0 : ∃ m, W m ρ)
    (hs : ∀ m ρ, W m ρ → C ρ fun c ρ1 => if c = true then Tb ⟨fun ρ2 => ∃ m', m' < m ∧ W m' ρ2, E.rt, E.nx, fun ρ2 => ∃ m', m' < m ∧ W m' ρ2⟩ ρ1 else E.nx ρ1) : dWhile C Tb E ρ := ⟨W, h0, hs⟩
theorem lc_inv {Ti : DLs} {G : DG} {Tt : DT} {Te : DE} {vs : List Nat} {ρ : Env} {Φ : List D → Env → Prop} (ds : List D) (ρ1 : Env) (W : Nat → List D → Env → Prop) (hI : ∀ Ψ : List D → Env → Prop, Ψ ds ρ1 → Ti ρ Ψ) (h0 : W 0 [] (wipeD ρ1 vs))
    (hs : ∀ k x acc ρ, ds[k]? = some x → W k acc ρ → G x ρ fun ρ2 => Tt ρ2 fun c ρ3 => if c = true then Te ρ3 fun e ρ4 => acc.length < sizeLine ∧ W (k + 1) (acc ++ [e]) (wipeD ρ4 vs) else W (k + 1) acc (wipeD ρ3 vs))
    (hd : ∀ acc ρ, W ds.length acc ρ → Φ acc (restore ρ ρ1 vs)) : dLc Ti G Tt Te vs ρ Φ := hI _ ⟨W, h0, hs, hd⟩
/-- a comprehension whose items and tests are told by functions -/
theorem lc_fp {Ti : DLs} {G : DG} {Tt : DT} {Te : DE} {vs : List Nat} {ρ : Env} {Φ : List D → Env → Prop} (ds : List D) (ρ1 ρw : Env) (p : D → Bool) (f : D → D) (hI : ∀ Ψ : List D → Env → Prop, Ψ ds ρ1 → Ti ρ Ψ) (hw : wipeD ρ1 vs = ρw) (hz : ds.length ≤ 16000000)
    (hs : ∀ x, x ∈ ds → ∀ (A : D → Env → Prop) (B : Env → Prop), (p x = true → ∀ ρ4, wipeD ρ4 vs = ρw → A (f x) ρ4) → (p x = false → ∀ ρ3, wipeD ρ3 vs = ρw → B ρ3) → G x ρw fun ρ2 => Tt ρ2 fun c ρ3 => if c = true then Te ρ3 A else B ρ3)
    (hd : Φ ((ds.filter p).map f) (restore ρw ρ1 vs)) : dLc Ti G Tt Te vs ρ Φ := by
  refine lc_inv ds ρ1 (fun k acc ρ => acc = ((ds.take k).filter p).map f ∧ ρ = ρw) hI ⟨rfl, hw⟩ ?_ ?_
  · rintro k x acc ρ hx ⟨rfl, rfl⟩
    have hk := (List.getElem?_eq_some_iff.mp hx).1
    have ht : ds.take (k + 1) = ds.take k ++ [x] := by rw [List.take_add_one, hx]; rfl
    refine hs x (List.mem_of_getElem? hx) _ _ (fun hp ρ4 h4 => ⟨?_, ?_, h4⟩) (fun hp ρ3 h3 => ⟨?_, h3⟩)
    · have h1 : (((ds.take k).filter p).map f).length ≤ k := by
        rw [List.length_map]
        exact Nat.le_trans (List.length_filter_le _ _) (by rw [List.length_take]; omega)
      show _ < 16777216
      omega
    · rw [ht, List.filter_append, List.filter_cons, hp]
      simp
    · rw [ht, List.filter_append, List.filter_cons, hp]
      simp
  · rintro acc ρ ⟨rfl, rfl⟩
    rw [List.take_length]
    exact hd
theorem lc_f {Ti : DLs} {G : DG} {Te : DE} {vs : List Nat} {ρ : Env} {Φ : List D → Env → Prop} (ds : List D) (ρ1 ρw : Env) (f : D → D) (hI : ∀ Ψ : List D → Env → Prop, Ψ ds ρ1 → Ti ρ Ψ) (hw : wipeD ρ1 vs = ρw) (hz : ds.length ≤ 16000000)
    (hs : ∀ x, x ∈ ds → ∀ (A : D → Env → Prop), (∀ ρ4, wipeD ρ4 vs = ρw → A (f x) ρ4) → G x ρw fun ρ2 => Te ρ2 A)
    (hd : Φ (ds.map f) (restore ρw ρ1 vs)) : dLc Ti G dYes Te vs ρ Φ := by
  refine lc_fp ds ρ1 ρw (fun _ => true) f hI hw hz (fun x hx A B h1 h2 => ?_) ?_
  · exact hs x hx A (h1 rfl)
  · have e : ds.filter (fun _ => true) = ds := List.filter_eq_self.mpr fun _ _ => rfl
    rw [e]
    exact hd
/-- .. whose items are told in a row -/
theorem lc_z {Ti : DLs} {G : DG} {Te : DE} {vs : List Nat} {ρ : Env} {Φ : List D → Env → Prop} (ds es : List D) (ρ1 ρw : Env) (hI : ∀ Ψ : List D → Env → Prop, Ψ ds ρ1 → Ti ρ Ψ) (hw : wipeD ρ1 vs = ρw) (hz : ds.length ≤ 16000000) (hl : es.length = ds.length)
    (hs : ∀ (k : Nat) x e, ds[k]? = some x → es[k]? = some e → ∀ (A : D → Env → Prop), (∀ ρ4, wipeD ρ4 vs = ρw → A e ρ4) → G x ρw fun ρ2 => Te ρ2 A)
    (hd : Φ es (restore ρw ρ1 vs)) : dLc Ti G dYes Te vs ρ Φ := by
  refine lc_inv ds ρ1 (fun k acc ρ => acc = es.take k ∧ ρ = ρw) hI ⟨rfl, hw⟩ ?_ ?_
  · rintro k x acc ρ hx ⟨rfl, rfl⟩
    have hk := (List.getElem?_eq_some_iff.mp hx).1
    have ge := List.getElem?_eq_getElem (show k < es.length by omega)
    refine hs k x _ hx ge _ fun ρ4 h4 => ⟨?_, ?_, h4⟩
    · show _ < 16777216
      rw [List.length_take]
      omega
    · rw [List.take_add_one, ge]
      rfl
  · rintro acc ρ ⟨rfl, rfl⟩
    rw [← hl, List.take_length]
    exact hd
theorem mem_rng {x : D} {lo : Int} {n : Nat} (h : x ∈ rngD lo n) : ∃ i : Nat, i < n ∧ x = .int (lo + (i : Nat)) := by
  unfold rngD at h
  obtain ⟨i, hi, rfl⟩ := List.mem_map.mp h
  exact ⟨i, List.mem_range.mp hi, rfl⟩
def ownAt : Nat → List OV → List Nat
  | _, [] => []
  | k, o :: os => if o.own = true then k :: ownAt (k + 1) os else ownAt (k + 1) os
theorem ownAt_mem {i : Nat} {o : OV} : ∀ {os : List OV} {k : Nat}, os[i]? = some o → o.own = true → k + i ∈ ownAt k os
  | [], k, h, _ => by cases h
  | u :: os, k, h, ho => by
    cases i with
    | zero =>
      cases h
      unfold ownAt
      rw [if_pos ho]
      exact List.mem_cons_self
    | succ i =>
      have := ownAt_mem (i := i) (os := os) (k := k + 1) h ho
      rw [show k + (i + 1) = k + 1 + i by omega]
      unfold ownAt
      split
      · exact List.mem_cons_of_mem _ this
      · exact this
theorem ownAt_lt {i : Nat} : ∀ {os : List OV} {k : Nat}, i ∈ ownAt k os → i < k + os.length
  | [], k, h => by cases h
  | u :: os, k, h => by
    unfold ownAt at h
    rw [List.length_cons]
    split at h
    · rcases List.mem_cons.mp h with rfl | h
      · omega
      · have := ownAt_lt h
        omega
    · have := ownAt_lt h
      omega
theorem own_len {n : Nat} {ps : List Nat} {S : SD} (h : ∀ os Φ, S os Φ → os.length = n ∧ ownAt 0 os = ps) : ∀ os Φ, S os Φ → os.length = n ∧ (∀ (i : Nat) o, os[i]? = some o → o.own = true → i ∈ ps) ∧ ∀ i ∈ ps, i < os.length := by
  intro os Φ hS
  obtain ⟨h1, h2⟩ := h os Φ hS
  refine ⟨h1, fun i o e ho => ?_, fun i hi => ?_⟩
  · have := ownAt_mem (k := 0) e ho
    rw [h2, Nat.zero_add] at this
    exact this
  · rw [← h2] at hi
    have := ownAt_lt hi
    omega
end DL
/-! min(xs, default=None) over ints. -/
namespace DX
open PySem PySem.Spec PyProof.Rows L2 DL
section
variable {X : Cx}
def rMinD (K : PySem.W.Frag) : List V → List V → Hp → VK → Prop := fun vs zs H Q => ∃ (a : Addr) (ns : List Int), vs = [V.ref a] ∧ zs = [V.non] ∧ SqL K H a (ns.map V.int) ∧ (ns = [] → Q .non H) ∧ ∀ m, m ∈ ns → (∀ y, y ∈ ns → m ≤ y) → Q (.int m) H
theorem cr_minD (hc : X.calm = true) : CallRK X (.builtin "min") [Str.ofString "default"] (rMinD X.K) := by
  intro pins s σ H vs zs us ws Q I r rz h
  obtain ⟨a, ns, rfl, rfl, hs, q0, q⟩ := h
  obtain rfl := Vals.ref1 r
  obtain ⟨w1, rfl, e1⟩ := vals1 rz
  obtain rfl : w1 = Value.none := e1
  obtain ⟨its, rv, hl, _⟩ := I.list hs
  have hl := hl.isList
  have hi := rv.ints
  obtain ⟨xs, e⟩ := hi.allInts.items
  have hn : numsOf (intItems xs).toList = ns := by rw [← e]; exact hi.numsOf
  rw [nums_intItems] at hn
  subst hn
  rw [e] at hl
  have hh := I.ok.hd hc
  show wpAny _ _ (call (.builtin "min") [.ref a] [(Str.ofString "default", Value.none)]) _ _ s
  refine call_min_walkD (PySem.W.iter_listW (A := X.A.in1) hh hl fun s₂ e2 W st hfp hw hk => ?_)
  refine ⟨_, _, _, _, _, _, _, s.heap, (fun i j => decide (numAt xs i < numAt xs j)), rfl, W, st, hfp, hw, hk, fun hz s' m => ?_, fun hp => ⟨?_, fun v s' hP m => ?_⟩⟩
  · obtain ⟨h', tk, rfl, hk'⟩ := PySem.W.moved_old e2 rfl m
    refine ⟨.non, H, I.kept hk', rfl, q0 ?_⟩
    have : xs.size = 0 := by simpa [intItems] using hz
    rw [Array.eq_empty_of_size_eq_zero this]
    rfl
  · intro i j vi vj s9 Q9 E9 _ h1 h2 h3
    exact CmpOf.ints_lt (numAt xs) (fun _ _ => intItems_at) i j vi vj s9 Q9 E9 h1 h2 h3
  · obtain ⟨h', tk, rfl, hk'⟩ := PySem.W.moved_old e2 rfl m
    obtain ⟨t, rfl⟩ := intItems_at hP
    have hsz : 0 < xs.size := by simpa [intItems] using hp
    have e3 : (intItems xs).size - 1 = xs.size - 1 := by simp [intItems]
    obtain ⟨h1, h2⟩ := argBest_lt (numAt xs) (xs.size - 1)
    rw [e3] at hP ⊢
    refine ⟨.int _, H, I.kept hk', ⟨_, rfl⟩, q _ ?_ fun a ha => ?_⟩
    · rw [numAt_eq]; exact PySem.getD_mem (by rw [List.length_map, Array.length_toList]; omega)
    · obtain ⟨j, hj, rfl⟩ := mem_getD ha
      rw [List.length_map, Array.length_toList] at hj
      rw [← numAt_eq]; exact h2 j (by omega)
end
section
variable [Tbs] {K : PySem.W.Frag} {ps : List Nat}
def oMinD (ds : List D) (Φ : D → Prop) : Prop := ∃ l ns, ds = [.lst l] ∧ intsD l = some ns ∧ (ns = [] → Φ .non) ∧ ∀ m, m ∈ ns → (∀ y, y ∈ ns → m ≤ y) → Φ (.int m)
@[simp] theorem oMinD_ (l : List D) (Φ : D → Prop) : oMinD [.lst l] Φ = ∃ ns, intsD l = some ns ∧ (ns = [] → Φ .non) ∧ ∀ m, m ∈ ns → (∀ y, y ∈ ns → m ≤ y) → Φ (.int m) := by
  unfold oMinD
  refine propext ⟨?_, fun ⟨ns, h⟩ => ⟨l, ns, rfl, h⟩⟩
  rintro ⟨l', ns, e, h⟩
  cases e
  exact ⟨ns, h⟩
theorem re_minD {t : TA} {T : DLs} (h : RV K ps t T) : RE K ps (tCKw (rMinD K) t (tCons (tC .non) tNil)) (dCB oMinD T) := by
  intro b σ H F ρ Φ Q R0 hT k
  refine h b σ H F ρ _ _ R0 hT fun xs H1 F1 ρ1 ds s1 R1 h1 hT => ?_
  obtain ⟨l, ns, rfl, hn, q0, q⟩ := hT
  obtain ⟨v, r, rfl, h1, h2⟩ := h1.inv
  rw [h2.inv_nil]
  obtain ⟨a, ys, rfl, ea, ha⟩ := h1.inv_lst
  rw [intsD_ok ha hn] at ea
  exact ⟨a, ns, rfl, rfl, SqL.of (R1.sub _ _ ea), fun z => k _ H1 F1 ρ1 _ s1 R1 .non (q0 z), fun m h3 h4 => k _ H1 F1 ρ1 _ s1 R1 (.int _) (q m h3 h4)⟩
end
end DX
/-! A list or a dict of one's own lent to a callee as data: the callee's result is flat, so it stays one's own. -/
namespace DL
open PySem PySem.Spec PyProof.Rows L2
def lentO : OV → D
  | .d d => d
  | .l ds => .lst ds
  | .m ks => .dct ks
  | .draw => .non
def lentD (ρ : Env) : AV → D
  | .v d => d
  | .s i => lentO (slotO ρ[i]?)
def lendO : OV → Bool
  | .l _ => true
  | .m _ => true
  | _ => false
def lendS : Option (Option OV) → Bool
  | some (some (.l _)) => true
  | some (some (.m _)) => true
  | some (some (.d _)) => true
  | _ => false
def lendB (ρ : Env) : AV → Bool
  | .v _ => true
  | .s i => lendS ρ[i]?
theorem Dr.flat {K : PySem.W.Frag} {F F' : Hp} {v : V} {d : D} (h : Dr K F v d) (hf : flatD d = true) : Dr K F' v d := by
  cases h with
  | non => exact .non
  | bl b => exact .bl b
  | int i => exact .int i
  | str x => exact .str x
  | _ => cases hf
section
variable [Tbs] {K : PySem.W.Frag} {ps : List Nat} {b : Bs} {σ : St} {H : Hp}
theorem argUp {F F' : Hp} (s : Same F F') {vs : List V} {as : List AV} (h : ArgRel K σ F vs as) : ArgRel K σ F' vs as := by
  induction h with
  | nil => exact .nil
  | v h _ ih => exact .v (h.up s) ih
  | s h _ ih => exact .s h ih
theorem lend {vs : List V} {as : List AV} : ∀ {F : Hp} {ρ : Env}, ArgRel K σ F vs as → Rep K ps b σ H F ρ → as.all (lendB ρ) = true → ∃ F2 ρ2, Same F F2 ∧ Rep K ps b σ H F2 ρ2 ∧ DA K F2 vs (as.map (lentD ρ)) := by
  induction as generalizing vs with
  | nil =>
    intro F ρ hr R _
    cases hr
    exact ⟨F, ρ, Same.refl F, R, ⟨rfl, fun k v d e => by cases e⟩⟩
  | cons a as ih =>
    intro F ρ hr R hl
    rw [List.all_cons, Bool.and_eq_true] at hl
    have up : ∀ {F2 : Hp} {ρ2 : Env} {v : V} {d : D} {vs' : List V}, Same F F2 → Dr K F2 v d → ArgRel K σ F vs' as → Rep K ps b σ H F2 ρ2 → as.all (lendB ρ2) = true → (as.map (lentD ρ2)) = as.map (lentD ρ) →
        ∃ F3 ρ3, Same F F3 ∧ Rep K ps b σ H F3 ρ3 ∧ DA K F3 (v :: vs') (d :: as.map (lentD ρ)) := fun {F2 ρ2 v d vs'} s hd hr R2 hl2 e => by
      obtain ⟨F3, ρ3, s3, R3, h3⟩ := ih (argUp s hr) R2 hl2
      rw [e] at h3
      exact ⟨F3, ρ3, s.trans s3, R3, .cons (hd.up s3) h3⟩
    have stay : ∀ {i : Nat} {o : OV}, ρ[i]? = some (some o) → lendO o = true → (∀ a : AV, lentD (ρ.set i (some (.d (lentO o)))) a = lentD ρ a) ∧ ∀ a : AV, lendB ρ a = true → lendB (ρ.set i (some (.d (lentO o)))) a = true := fun {i o} e ho => by
      have hi := (List.getElem?_eq_some_iff.mp e).1
      refine ⟨fun a => ?_, fun a h => ?_⟩
      · cases a with
        | v d => rfl
        | s j =>
          show lentO (slotO _) = lentO (slotO _)
          by_cases hj : i = j
          · subst hj
            rw [List.getElem?_set_self hi, e]
            rfl
          · rw [List.getElem?_set_ne hj]
      · cases a with
        | v d => rfl
        | s j =>
          show lendS _ = true
          by_cases hj : i = j
          · subst hj
            rw [List.getElem?_set_self hi]
            rfl
          · rw [List.getElem?_set_ne hj]
            exact h
    have all2 : ∀ {ρ2 : Env}, (∀ a : AV, lendB ρ a = true → lendB ρ2 a = true) → as.all (lendB ρ2) = true := fun h => List.all_eq_true.mpr fun a ha => h a (List.all_eq_true.mp hl.2 a ha)
    cases hr with
    | v h1 h2 => exact up (Same.refl F) h1 h2 R hl.2 rfl
    | s h1 h2 =>
      rename_i v i vs'
      have h0 : lendS ρ[i]? = true := hl.1
      show ∃ F2 ρ2, Same F F2 ∧ Rep K ps b σ H F2 ρ2 ∧ DA K F2 (v :: vs') (lentO (slotO ρ[i]?) :: as.map (lentD ρ))
      cases e : ρ[i]? with
      | none => rw [e] at h0; cases h0
      | some o =>
        cases o with
        | none => rw [e] at h0; cases h0
        | some o =>
          cases o with
          | d x =>
            obtain ⟨v', g1, g2⟩ := R.slot i _ e
            rw [h1] at g1
            cases g1
            exact up (Same.refl F) g2 h2 R hl.2 rfl
          | draw => rw [e] at h0; cases h0
          | l ds =>
            obtain ⟨p, xs, g1, _, _, g4, g5, g6⟩ := R.frzL e
            rw [h1] at g1
            cases g1
            obtain ⟨t1, t2⟩ := stay e rfl
            exact up g4 g5 h2 g6 (all2 t2) (List.map_congr_left fun a _ => t1 a)
          | m ds =>
            obtain ⟨p, xs, g1, _, _, g4, g5, g6⟩ := R.frzM e
            rw [h1] at g1
            cases g1
            obtain ⟨t1, t2⟩ := stay e rfl
            exact up g4 g5 h2 g6 (all2 t2) (List.map_congr_left fun a _ => t1 a)
def dCallB (s : List D → (D → Prop) → Prop) (Ta : DAs) : DE := fun ρ Φ => Ta ρ fun as ρ1 => as.all (lendB ρ1) = true ∧ s (as.map (lentD ρ1)) fun d => flatD d = true ∧ Φ d ρ1
theorem re_callB {s : List D → (D → Prop) → Prop} {t : TA} {Ta : DAs} {E : XK} (h : RA K ps t Ta) : RE K ps (tCall (spOf K (pureS s)) [] E t) (dCallB s Ta) := by
  intro b σ H F ρ Φ Q R0 hT k
  refine h b σ H F ρ _ _ R0 hT fun vs H1 F1 ρ1 as s1 R1 hr hT => ?_
  obtain ⟨hb, hS⟩ := hT
  obtain ⟨F2, ρ2, s2, R2, hda⟩ := lend hr R1 hb
  generalize as.map (lentD ρ1) = ds at hda hS
  have nO : ∀ a, ¬ OwnA vs (ds.map .d) a := fun a ⟨i, o, e1, e2, _⟩ => by
    rw [List.getElem?_map] at e1
    obtain ⟨d, _, rfl⟩ := Option.map_eq_some_iff.mp e1
    cases e2
  have eq : vs ++ ([] : List V) = vs := List.append_nil vs
  refine ⟨F2, ds.map .d, fun d _ => flatD d = true ∧ Φ d ρ1, ⟨R2.sub, R2.nt, R2.tabs, R2.grow.b⟩, ⟨by rw [List.length_map, eq]; exact hda.1, fun k v o e1 e2 => ?_, fun k l o u v n e1 o1 e2 o2 e3 e4 => ?_⟩, ⟨ds, rfl, hS⟩, fun F' H' v d os' s3 ⟨sub2, nt2, tb2⟩ kp th nw len2 hout hd hΦ => ?_⟩
  · rw [eq] at e1
    rw [List.getElem?_map] at e2
    obtain ⟨d, hd, rfl⟩ := Option.map_eq_some_iff.mp e2
    exact hda.2 k v d e1 hd
  · rw [List.getElem?_map] at e1
    obtain ⟨d, _, rfl⟩ := Option.map_eq_some_iff.mp e1
    cases o1
  · rw [eq] at kp nw
    exact k v H' F1 ρ1 d s1 (R1.grownT (fun a o e nz => kp a o e (nO a) nz) th (Same.refl F1) (fun a o e => sub2 a o (s3 _ _ (s2 _ _ e))) (fun a o e => .inl e) R1.nt tb2) (hd.flat hΦ.1) hΦ.2
@[simp] theorem dCallB_ (s : List D → (D → Prop) → Prop) (Ta : DAs) (ρ : Env) (Φ : D → Env → Prop) : dCallB s Ta ρ Φ = Ta ρ fun as ρ1 => as.all (lendB ρ1) = true ∧ s (as.map (lentD ρ1)) fun d => flatD d = true ∧ Φ d ρ1 := Eq.trans rfl rfl
@[simp] theorem lentD_v (ρ : Env) (d : D) : lentD ρ (.v d) = d := Eq.trans rfl rfl
@[simp] theorem lentD_s (ρ : Env) (i : Nat) : lentD ρ (.s i) = lentO (slotO ρ[i]?) := Eq.trans rfl rfl
@[simp] theorem lentO_d (d : D) : lentO (.d d) = d := Eq.trans rfl rfl
@[simp] theorem lentO_l (d : List D) : lentO (.l d) = .lst d := Eq.trans rfl rfl
@[simp] theorem lentO_m (d : List (Key × D)) : lentO (.m d) = .dct d := Eq.trans rfl rfl
@[simp] theorem lendB_v (ρ : Env) (d : D) : lendB ρ (.v d) = true := Eq.trans rfl rfl
@[simp] theorem lendB_s (ρ : Env) (i : Nat) : lendB ρ (.s i) = lendS ρ[i]? := Eq.trans rfl rfl
@[simp] theorem lendS_d (d : D) : lendS (some (some (.d d))) = true := Eq.trans rfl rfl
@[simp] theorem lendS_l (d : List D) : lendS (some (some (.l d))) = true := Eq.trans rfl rfl
@[simp] theorem lendS_m (d : List (Key × D)) : lendS (some (some (.m d))) = true := Eq.trans rfl rfl
end
end DL
/-! Trees, and their nodes in order. -/
namespace TR
inductive Tr (α : Type) where
  | nd (d : α) (ks : List (Tr α))
variable {α : Type}
def Tr.d : Tr α → α
  | .nd d _ => d
def Tr.ks : Tr α → List (Tr α)
  | .nd _ ks => ks
@[simp] theorem d_nd (d : α) (ks : List (Tr α)) : (Tr.nd d ks).d = d := rfl
@[simp] theorem ks_nd (d : α) (ks : List (Tr α)) : (Tr.nd d ks).ks = ks := rfl
mutual
def pre : Tr α → List (Tr α)
  | .nd d ks => .nd d ks :: pres ks
def pres : List (Tr α) → List (Tr α)
  | [] => []
  | k :: ks => pre k ++ pres ks
end
mutual
def sz : Tr α → Nat
  | .nd _ ks => 1 + szs ks
def szs : List (Tr α) → Nat
  | [] => 0
  | k :: ks => sz k + szs ks
end
/-- the numbers of trees one behind the other, the first one having this number -/
def starts : List (Tr α) → Nat → List Nat
  | [], _ => []
  | k :: ks, n => n :: starts ks (n + sz k)
mutual
def num : Tr α → Nat → List (α × List Nat)
  | .nd d ks, n => (d, starts ks (n + 1)) :: nums ks (n + 1)
def nums : List (Tr α) → Nat → List (α × List Nat)
  | [], _ => []
  | k :: ks, n => num k n ++ nums ks (n + sz k)
end
mutual
theorem pre_len : ∀ t : Tr α, (pre t).length = sz t
  | .nd d ks => by rw [pre, sz, List.length_cons, pres_len ks]; omega
theorem pres_len : ∀ ks : List (Tr α), (pres ks).length = szs ks
  | [] => by rw [pres, szs]; rfl
  | k :: ks => by rw [pres, szs, List.length_append, pre_len k, pres_len ks]
end
mutual
theorem num_len : ∀ (t : Tr α) (n : Nat), (num t n).length = sz t
  | .nd d ks, n => by rw [num, sz, List.length_cons, nums_len ks]; omega
theorem nums_len : ∀ (ks : List (Tr α)) (n : Nat), (nums ks n).length = szs ks
  | [], n => by rw [nums, szs]; rfl
  | k :: ks, n => by rw [nums, szs, List.length_append, num_len k, nums_len ks]
end
theorem sz_pos (t : Tr α) : 0 < sz t := by cases t; rw [sz]; omega
theorem pre_zero (t : Tr α) : (pre t)[0]? = some t := by cases t; rw [pre]; rfl
theorem starts_len : ∀ (ks : List (Tr α)) (n : Nat), (starts ks n).length = ks.length
  | [], n => rfl
  | k :: ks, n => by rw [starts, List.length_cons, List.length_cons, starts_len ks]
/-- G has these nodes from n on -/
def Has (G : List (Tr α)) (n : Nat) (l : List (Tr α)) : Prop := ∀ i s, l[i]? = some s → G[n + i]? = some s
theorem Has.app {G : List (Tr α)} {n : Nat} {a b : List (Tr α)} (h : Has G n (a ++ b)) : Has G n a ∧ Has G (n + a.length) b := by
  refine ⟨fun i s e => h i s ?_, fun i s e => ?_⟩
  · rw [List.getElem?_append_left (List.getElem?_eq_some_iff.mp e).1]
    exact e
  · have := h (a.length + i) s (by rw [List.getElem?_append_right (by omega), Nat.add_sub_cancel_left]; exact e)
    rwa [← Nat.add_assoc] at this
theorem Has.tail {G : List (Tr α)} {n : Nat} {a : Tr α} {b : List (Tr α)} (h : Has G n (a :: b)) : G[n]? = some a ∧ Has G (n + 1) b := by
  refine ⟨h 0 a rfl, fun i s e => ?_⟩
  have := h (i + 1) s e
  rwa [Nat.add_comm i 1, ← Nat.add_assoc] at this
theorem starts_has {G : List (Tr α)} : ∀ (ks : List (Tr α)) (n : Nat), Has G n (pres ks) → ∀ (j k : Nat), (starts ks n)[j]? = some k → n ≤ k ∧ G[k]? = ks[j]?
  | [], n, _, j, k, e => by cases e
  | t :: ks, n, h, j, k, e => by
    rw [pres] at h
    obtain ⟨h1, h2⟩ := h.app
    rw [pre_len] at h2
    cases j with
    | zero =>
      rw [starts] at e
      cases e
      have := h1 0 t (pre_zero t)
      exact ⟨Nat.le_refl _, this⟩
    | succ j =>
      rw [starts] at e
      obtain ⟨g1, g2⟩ := starts_has ks (n + sz t) h2 j k e
      exact ⟨by omega, g2⟩
/-- a row tells a node and the numbers of those in it -/
def RowOk (G : List (Tr α)) (i : Nat) (r : α × List Nat) : Prop := ∃ s, G[i]? = some s ∧ s.d = r.1 ∧ r.2.length = s.ks.length ∧ ∀ (j k : Nat), r.2[j]? = some k → i < k ∧ G[k]? = s.ks[j]?
mutual
theorem num_ok {G : List (Tr α)} : ∀ (t : Tr α) (n : Nat), Has G n (pre t) → ∀ i r, (num t n)[i]? = some r → RowOk G (n + i) r
  | .nd d ks, n, h, i, r, e => by
    rw [pre] at h
    obtain ⟨h1, h2⟩ := h.tail
    rw [num] at e
    cases i with
    | zero =>
      cases e
      refine ⟨_, h1, rfl, starts_len _ _, fun j k ek => ?_⟩
      obtain ⟨g1, g2⟩ := starts_has ks (n + 1) h2 j k ek
      exact ⟨by omega, g2⟩
    | succ i =>
      have := nums_ok ks (n + 1) h2 i r e
      rwa [Nat.add_assoc, Nat.add_comm 1 i] at this
theorem nums_ok {G : List (Tr α)} : ∀ (ks : List (Tr α)) (n : Nat), Has G n (pres ks) → ∀ i r, (nums ks n)[i]? = some r → RowOk G (n + i) r
  | [], n, _, i, r, e => by rw [nums] at e; cases e
  | k :: ks, n, h, i, r, e => by
    rw [pres] at h
    obtain ⟨h1, h2⟩ := h.app
    rw [pre_len] at h2
    rw [nums] at e
    by_cases hi : i < (num k n).length
    · rw [List.getElem?_append_left hi] at e
      exact num_ok k n h1 i r e
    · rw [List.getElem?_append_right (by omega), num_len] at e
      rw [num_len] at hi
      have := nums_ok ks (n + sz k) h2 _ r e
      rwa [show n + sz k + (i - sz k) = n + i by omega] at this
end
theorem rows_ok (t : Tr α) {i : Nat} {r : α × List Nat} (e : (num t 0)[i]? = some r) : RowOk (pre t) i r := by
  have := num_ok (G := pre t) t 0 (fun i s e => by rwa [Nat.zero_add]) i r e
  rwa [Nat.zero_add] at this
/-! ### as a walk with a stack finds them -/
theorem modif_get {β : Type} (f : β → β) (k i : Nat) (l : List β) : (l.modify k f)[i]? = if k = i then l[i]?.map f else l[i]? := by
  rw [List.getElem?_modify]
  split
  · cases l[i]? <;> simp_all
  · cases l[i]? <;> simp_all
def addTo (o : Option Nat) (n : Nat) (rows : List (α × List Nat)) : List (α × List Nat) := match o with
  | none => rows
  | some k => rows.modify k fun r => (r.1, r.2 ++ [n])
theorem addTo_len (o : Option Nat) (n : Nat) (rows : List (α × List Nat)) : (addTo o n rows).length = rows.length := by
  cases o with
  | none => rfl
  | some k => exact List.length_modify ..
/-- what comes of these rows with this stack, the next one first -/
def proc : List (α × List Nat) → List (Tr α × Option Nat) → List (α × List Nat)
  | rows, [] => rows
  | rows, (t, o) :: ws => proc (addTo o rows.length rows ++ num t rows.length) ws
def step1 (d : α) (o : Option Nat) (rows : List (α × List Nat)) : List (α × List Nat) := addTo o rows.length (rows ++ [(d, [])])
/-- o is a row -/
def InR (rows : List (α × List Nat)) (o : Option Nat) : Prop := ∀ k, o = some k → k < rows.length
theorem addTo_app (o : Option Nat) (n : Nat) {rows : List (α × List Nat)} (more : List (α × List Nat)) (h : InR rows o) : addTo o n (rows ++ more) = addTo o n rows ++ more := by
  cases o with
  | none => rfl
  | some k =>
    have hk := h k rfl
    apply List.ext_getElem?
    intro i
    show ((rows ++ more).modify k _)[i]? = (rows.modify k _ ++ more)[i]?
    rw [modif_get]
    by_cases hi : i < rows.length
    · rw [List.getElem?_append_left hi, List.getElem?_append_left (by rw [List.length_modify]; exact hi), modif_get]
    · rw [List.getElem?_append_right (by omega), List.getElem?_append_right (by rw [List.length_modify]; omega), List.length_modify, if_neg (by omega)]
def addAll (k : Nat) (ns : List Nat) (rows : List (α × List Nat)) : List (α × List Nat) := rows.modify k fun r => (r.1, r.2 ++ ns)
theorem proc_kids (k : Nat) : ∀ (ks : List (Tr α)) (rows : List (α × List Nat)) (ws : List (Tr α × Option Nat)), k < rows.length →
    proc rows (ks.map (fun t => (t, some k)) ++ ws) = proc (addAll k (starts ks rows.length) rows ++ nums ks rows.length) ws
  | [], rows, ws, hk => by
    rw [starts, nums, List.append_nil]
    show proc rows ws = _
    congr 1
    apply List.ext_getElem?
    intro i
    unfold addAll
    rw [modif_get]
    cases rows[i]? with
    | none => simp
    | some r => simp
  | t :: ks, rows, ws, hk => by
    show proc (addTo (some k) rows.length rows ++ num t rows.length) (ks.map (fun t => (t, some k)) ++ ws) = _
    have hl : (addTo (some k) rows.length rows ++ num t rows.length).length = rows.length + sz t := by rw [List.length_append, addTo_len, num_len]
    rw [proc_kids k ks _ ws (by rw [hl]; omega), hl, starts, nums]
    congr 1
    rw [← List.append_assoc]
    congr 1
    apply List.ext_getElem?
    intro i
    unfold addAll
    show ((rows.modify k _ ++ num t rows.length).modify k _)[i]? = (rows.modify k _ ++ num t rows.length)[i]?
    rw [modif_get]
    by_cases hi : i < rows.length
    · rw [List.getElem?_append_left (by rw [List.length_modify]; exact hi), List.getElem?_append_left (by rw [List.length_modify]; exact hi), modif_get, modif_get]
      cases rows[i]? with
      | none => simp
      | some r =>
        by_cases hki : k = i
        · simp [hki]
        · simp [hki]
    · rw [List.getElem?_append_right (by rw [List.length_modify]; omega), List.getElem?_append_right (by rw [List.length_modify]; omega), List.length_modify, List.length_modify, if_neg (by omega)]
theorem proc_step (d : α) (ks : List (Tr α)) (o : Option Nat) (rows : List (α × List Nat)) (ws : List (Tr α × Option Nat)) (h : InR rows o) :
    proc rows ((.nd d ks, o) :: ws) = proc (step1 d o rows) (ks.map (fun t => (t, some rows.length)) ++ ws) := by
  have hl : (step1 d o rows).length = rows.length + 1 := by unfold step1; rw [addTo_len, List.length_append]; rfl
  rw [proc_kids rows.length ks _ ws (by rw [hl]; omega), hl]
  show proc (addTo o rows.length rows ++ num (.nd d ks) rows.length) ws = _
  rw [num]
  congr 1
  have e : addAll rows.length (starts ks (rows.length + 1)) (step1 d o rows) = addTo o rows.length rows ++ [(d, starts ks (rows.length + 1))] := by
    unfold step1
    rw [addTo_app o _ _ h]
    unfold addAll
    have hl2 := addTo_len o rows.length rows
    apply List.ext_getElem?
    intro i
    rw [modif_get]
    by_cases hi : i < rows.length
    · rw [List.getElem?_append_left (by omega), List.getElem?_append_left (by omega), if_neg (by omega)]
    · rw [List.getElem?_append_right (by omega), List.getElem?_append_right (by omega), hl2]
      by_cases h2 : i = rows.length
      · subst h2
        simp
      · rw [if_neg (fun z => h2 z.symm)]
        have : ∀ x : α × List Nat, [x][i - rows.length]? = none := fun x => List.getElem?_eq_none (by simp; omega)
        rw [this, this]
  rw [e, List.append_assoc]
  rfl
def szw : List (Tr α × Option Nat) → Nat
  | [] => 0
  | w :: ws => sz w.1 + szw ws
theorem szw_app (a b : List (Tr α × Option Nat)) : szw (a ++ b) = szw a + szw b := by
  induction a with
  | nil => simp [szw]
  | cons w a ih => rw [List.cons_append, szw, szw, ih]; omega
theorem szw_kids (o : Option Nat) (ks : List (Tr α)) : szw (ks.map fun t => (t, o)) = szs ks := by
  induction ks with
  | nil => rw [szs]; rfl
  | cons k ks ih => rw [List.map_cons, szw, ih, szs]
theorem proc_len : ∀ (ws : List (Tr α × Option Nat)) (rows : List (α × List Nat)), (proc rows ws).length = rows.length + szw ws
  | [], rows => rfl
  | (t, o) :: ws, rows => by
    show (proc (addTo o rows.length rows ++ num t rows.length) ws).length = _
    rw [proc_len ws, List.length_append, addTo_len, num_len]
    show _ = rows.length + (sz t + szw ws)
    omega
theorem proc_all (t : Tr α) : proc [] [(t, none)] = num t 0 := by
  show proc (([] : List (α × List Nat)) ++ num t 0) [] = _
  rw [List.nil_append]
  rfl
theorem ks_szs (ks : List (Tr α)) : ks.length ≤ szs ks := by
  induction ks with
  | nil => exact Nat.zero_le _
  | cons k ks ih => have := sz_pos k; rw [szs, List.length_cons]; omega
mutual
theorem pre_sz : ∀ (t s : Tr α), s ∈ pre t → sz s ≤ sz t
  | .nd d ks, s, h => by
    rw [pre] at h
    rcases List.mem_cons.mp h with rfl | h
    · exact Nat.le_refl _
    · have := pres_sz ks s h
      rw [sz]
      omega
theorem pres_sz : ∀ (ks : List (Tr α)) (s : Tr α), s ∈ pres ks → sz s ≤ szs ks
  | [], s, h => by rw [pres] at h; cases h
  | k :: ks, s, h => by
    rw [pres] at h
    rw [szs]
    rcases List.mem_append.mp h with h | h
    · have := pre_sz k s h; omega
    · have := pres_sz ks s h; omega
end
theorem kids_le {t s : Tr α} (h : s ∈ pre t) : s.ks.length < sz t := by
  have h1 := pre_sz t s h
  cases s with
  | nd d ks =>
    have h2 := ks_szs ks
    rw [sz] at h1
    show ks.length < _
    omega
/-! ### other labels -/
mutual
def mapT {β : Type} (δ : α → β) : Tr α → Tr β
  | .nd d ks => .nd (δ d) (mapTs δ ks)
def mapTs {β : Type} (δ : α → β) : List (Tr α) → List (Tr β)
  | [] => []
  | k :: ks => mapT δ k :: mapTs δ ks
end
theorem mapTs_map {α : Type} {β : Type} (δ : α → β) (ks : List (Tr α)) : mapTs δ ks = ks.map (mapT δ) := by
  induction ks with
  | nil => rw [mapTs]; rfl
  | cons k ks ih => rw [mapTs, ih]; rfl
theorem mapT_d {α : Type} {β : Type} (δ : α → β) (t : Tr α) : (mapT δ t).d = δ t.d := by
  cases t
  rw [mapT]
  rfl
mutual
theorem sz_map {α : Type} {β : Type} (δ : α → β) : ∀ t : Tr α, sz (mapT δ t) = sz t
  | .nd d ks => by rw [mapT, sz, sz, szs_map δ ks]
theorem szs_map {α : Type} {β : Type} (δ : α → β) : ∀ ks : List (Tr α), szs (mapTs δ ks) = szs ks
  | [] => by rw [mapTs, szs, szs]
  | k :: ks => by rw [mapTs, szs, szs, sz_map δ k, szs_map δ ks]
end
theorem starts_map {α : Type} {β : Type} (δ : α → β) : ∀ (ks : List (Tr α)) (n : Nat), starts (mapTs δ ks) n = starts ks n
  | [], n => by rw [mapTs]; rfl
  | k :: ks, n => by rw [mapTs, starts, starts, sz_map, starts_map δ ks]
mutual
theorem num_map {α : Type} {β : Type} (δ : α → β) : ∀ (t : Tr α) (n : Nat), num (mapT δ t) n = (num t n).map fun r => (δ r.1, r.2)
  | .nd d ks, n => by rw [mapT, num, num, starts_map, nums_map δ ks, List.map_cons]
theorem nums_map {α : Type} {β : Type} (δ : α → β) : ∀ (ks : List (Tr α)) (n : Nat), nums (mapTs δ ks) n = (nums ks n).map fun r => (δ r.1, r.2)
  | [], n => by rw [mapTs, nums, nums]; rfl
  | k :: ks, n => by rw [mapTs, nums, nums, num_map δ k, nums_map δ ks, sz_map, List.map_append]
end
end TR
/-! numbered, folded: over trees of data. -/
namespace NB
open PySem PySem.Spec PyProof.Rows L2 DL TR
section
variable [Tbs] {K : PySem.W.Frag} {ps : List Nat}
/-! ### a call of a local name; extend -/
abbrev SV := List D → (D → Prop) → Prop
def dCallA (i : Nat) (SS : Addr → Option SV) (Ta : DLs) : DE := fun ρ Φ => ∃ f s, ρ[i]? = some (some (.d (.fn f))) ∧ SS f = some s ∧ Ta ρ fun ds ρ1 => s ds fun d => Φ d ρ1
def spA (K : PySem.W.Frag) (SS : Addr → Option SV) : Addr → Option Sp := fun f => (SS f).map fun s => spOf K (pureS s)
theorem re_callA {i : Nat} {SS : Addr → Option SV} {t : TA} {Ta : DLs} (h : RV K ps t Ta) : RE K ps (tCallA i (spA K SS) t) (dCallA i SS Ta) := by
  intro b σ H F ρ Φ Q R hT k
  obtain ⟨f, s, e, hs, hT⟩ := hT
  obtain ⟨v, h1, h2⟩ := R.slot i _ e
  have hv : v = .ref f := Dr.inv_fn h2
  subst hv
  refine ⟨f, spOf K (pureS s), h1, by unfold spA; rw [hs]; rfl, ?_⟩
  have hc := re_callV (s := s) (E := fun _ _ _ => False) h b σ H F ρ Φ Q R hT k
  have e0 : (fun (vs : List V) (H1 : Hp) => spOf K (pureS s) (vs ++ []) H1 Q (fun _ _ _ => False)) = fun vs H1 => spOf K (pureS s) vs H1 Q (fun _ _ _ => False) := by
    funext vs H1
    rw [List.append_nil]
  have hc' : t σ H (fun vs H1 => spOf K (pureS s) (vs ++ []) H1 Q (fun _ _ _ => False)) := hc
  rw [e0] at hc'
  exact hc'
@[simp] theorem dCallA_ (i : Nat) (SS : Addr → Option SV) (Ta : DLs) (ρ : DL.Env) (Φ : D → DL.Env → Prop) : dCallA i SS Ta ρ Φ = ∃ f s, ρ[i]? = some (some (.d (.fn f))) ∧ SS f = some s ∧ Ta ρ fun ds ρ1 => s ds fun d => Φ d ρ1 := Eq.trans rfl rfl
def dExt (i : Nat) (T : DLs) : DS := fun E ρ => (∃ ds0, ρ[i]? = some (some (.l ds0))) ∧ T ρ fun es ρ1 => ∃ ds, ρ1[i]? = some (some (.l ds)) ∧ ds.length + es.length ≤ sizeLine ∧ E.nx (ρ1.set i (some (.l (ds ++ es))))
theorem rs_ext {i : Nat} {t : TE} {T : DLs} (h : RL K ps t T) : RS K ps (tDrop (tBM K "list" rExtend (tVar i) (tCons t tNil))) (dExt i T) := by
  intro b σ H F ρ E D' R hT n r bk ct
  obtain ⟨⟨ds0, e0⟩, hT⟩ := hT
  obtain ⟨p, hp, _, _, xs0, ex0, _⟩ := R.own e0 rfl
  refine ⟨_, hp, .inl ⟨rfl, xs0, SqL.of ex0⟩, h b σ H F ρ _ _ R hT fun q ys H1 F1 ρ1 es s1 R1 lo hy hes hΦ => ?_⟩
  obtain ⟨ds, e1, hz, hΦ⟩ := hΦ
  obtain ⟨p', hp', hF1, _, xs, ex, hx⟩ := R1.own e1 rfl
  rw [hp] at hp'
  cases hp'
  refine ⟨p, q, xs, ys, rfl, rfl, ex, hy, by rw [hx.1, hes.1]; exact hz, n σ _ F1 _ s1 (R1.write e1 rfl rfl hp (fun a u na e => (upd_ne na).trans e) (Same.refl F1) (fun a o e => ?_) (fun a o e => .inl e) (fun a o e => .inl e) (at_l upd_same (hx.app hes))) hΦ⟩
  rw [upd_ne (fun z => by rw [z, hF1] at e; cases e)]
  exact R1.sub a o e
@[simp] theorem dExt_ (i : Nat) (T : DLs) (E : DEn) (ρ : DL.Env) : dExt i T E ρ = ((∃ ds0, ρ[i]? = some (some (.l ds0))) ∧ T ρ fun es ρ1 => ∃ ds, ρ1[i]? = some (some (.l ds)) ∧ ds.length + es.length ≤ sizeLine ∧ E.nx (ρ1.set i (some (.l (ds ++ es))))) := Eq.trans rfl rfl
/-! ### frames of statements -/
variable {b : Bs} {σ : L2.St} {H F : Hp} {ρ : DL.Env}
def exN (N : DL.Env → Prop) : DEn := ⟨N, fun _ _ => False, fun _ => False, fun _ => False⟩
theorem RS.fr {t : TS} {T : DS} (h : RS K ps t T) (R : Rep K ps b σ H F ρ) {N : DL.Env → Prop} {D' : Ends} (hT : T (exN N) ρ)
    (n : ∀ σ' H' F' ρ', Same F F' → Fr σ ρ H F H' F' → Rep K ps b σ' H' F' ρ' → (∀ a, Owned σ' ρ' a → Owned σ ρ a ∨ H a = none) → N ρ' → D'.nx σ' H') : t D' σ H :=
  h (here b σ H F ρ) σ H F ρ (exN N) D' R.here hT (fun σ' H' F' ρ' s R' hn => n σ' H' F' ρ' s (R.fr R') (R.back R') (fun a z => (R'.owned z).2.1.symm) hn)
    (fun _ _ _ _ _ _ _ _ _ z => z.elim) (fun _ _ _ _ _ _ z => z.elim) (fun _ _ _ _ _ _ z => z.elim)
theorem Rep.revs {vs : List V} (R : Rep K [] b σ H F ρ) : Rep K [] ⟨b.H0, b.F0, vs, b.O⟩ σ H F ρ :=
  ⟨R.sub, R.grow, R.keep, R.there, R.new, R.slot, R.apart, R.len, fun i h => (nomatch h), R.nt, R.dom, R.tabs⟩
theorem Rep.unpin (R : Rep K ps b σ H F ρ) : Rep K [] b σ H F ρ :=
  ⟨R.sub, R.grow, R.keep, R.there, R.new, R.slot, R.apart, R.len, fun i h => (nomatch h), R.nt, R.dom, R.tabs⟩
theorem Rep.setU {i : Nat} {v : V} (R : Rep K [] b σ H F ρ) (hρ : ∀ o, ρ[i]? ≠ some (some o)) (hv : b.vs[i]? = some v) (hi : i < σ.length) : Rep K [i] b (σ.set i (some v)) H F ρ where
  sub := R.sub
  grow := R.grow
  nt := R.nt
  dom := R.dom
  tabs := R.tabs
  keep := R.keep
  there := R.there
  new := R.new
  slot := fun j o e => by
    have n : i ≠ j := fun z => by subst z; exact hρ o e
    rw [List.getElem?_set_ne n]
    exact R.slot j o e
  apart := fun j k o u w n e1 o1 e2 o2 s1 => by
    have n1 : i ≠ j := fun z => by subst z; exact hρ o e1
    have n2 : i ≠ k := fun z => by subst z; exact hρ u e2
    rw [List.getElem?_set_ne n1] at s1
    rw [List.getElem?_set_ne n2]
    exact R.apart j k o u w n e1 o1 e2 o2 s1
  len := by rw [List.length_set, R.len]
  pin := fun j hj => by
    cases List.mem_singleton.mp hj
    exact ⟨v, List.getElem?_set_self hi, hv⟩
/-! ### the rows of nodes, loose -/
def foot (ts : List (Addr × Addr × V)) : List Addr := ts.flatMap fun x => [x.1, x.2.1]
def nV (ns : List Nat) : List V := ns.map fun n => .int (n : Nat)
structure Nst (K : PySem.W.Frag) (b : Bs) (σ : L2.St) (H F : Hp) (ρ : DL.Env) (p : Addr) (ts : List (Addr × Addr × V)) (rows : List (D × List Nat)) : Prop where
  main : H p = some (.lst (ts.map fun x => .ref x.1))
  len : ts.length = rows.length
  row : ∀ (i : Nat) x r, ts[i]? = some x → rows[i]? = some r → H x.1 = some (.tup [x.2.2, .ref x.2.1]) ∧ H x.2.1 = some (.lst (nV r.2)) ∧ Dr K F x.2.2 r.1
  free : ∀ a, a ∈ p :: foot ts → F a = none ∧ b.H0 a = none ∧ ¬ Owned σ ρ a
  nodup : (p :: foot ts).Nodup
theorem mem_foot {ts : List (Addr × Addr × V)} {a : Addr} (h : a ∈ foot ts) : ∃ (i : Nat) (x : Addr × Addr × V), ts[i]? = some x ∧ (a = x.1 ∨ a = x.2.1) := by
  obtain ⟨x, hx, ha⟩ := List.mem_flatMap.mp h
  obtain ⟨i, hi⟩ := List.getElem?_of_mem hx
  refine ⟨i, x, hi, ?_⟩
  simpa using ha
theorem foot_mem {ts : List (Addr × Addr × V)} {i : Nat} {x : Addr × Addr × V} (h : ts[i]? = some x) : x.1 ∈ foot ts ∧ x.2.1 ∈ foot ts :=
  ⟨List.mem_flatMap.mpr ⟨x, List.mem_of_getElem? h, by simp⟩, List.mem_flatMap.mpr ⟨x, List.mem_of_getElem? h, by simp⟩⟩
theorem Nst.ex {p : Addr} {ts : List (Addr × Addr × V)} {rows : List (D × List Nat)} (N : Nst K b σ H F ρ p ts rows) {a : Addr} (h : a ∈ p :: foot ts) : ∃ o, H a = some o ∧ NT o := by
  rcases List.mem_cons.mp h with rfl | h
  · exact ⟨_, N.main, by intro t z; cases z⟩
  · obtain ⟨i, x, hx, ha⟩ := mem_foot h
    have hi := (List.getElem?_eq_some_iff.mp hx).1
    obtain ⟨h1, h2, _⟩ := N.row i x _ hx (List.getElem?_eq_getElem (by rw [← N.len]; exact hi))
    rcases ha with rfl | rfl
    · exact ⟨_, h1, by intro t z; cases z⟩
    · exact ⟨_, h2, by intro t z; cases z⟩
theorem Nst.up {b' : Bs} {σ' : L2.St} {H' F' : Hp} {ρ' : DL.Env} {p : Addr} {ts : List (Addr × Addr × V)} {rows : List (D × List Nat)} (N : Nst K b σ H F ρ p ts rows) (R : Rep K ps b' σ H F ρ) (s : Same F F') (f : Fr σ ρ H F H' F')
    (o : ∀ a, Owned σ' ρ' a → Owned σ ρ a ∨ H a = none) : Nst K b σ' H' F' ρ' p ts rows := by
  have kp : ∀ {a : Addr} {u : HO}, a ∈ p :: foot ts → H a = some u → H' a = some u ∧ F' a = none := fun {a u} h e => by
    obtain ⟨u', e', nu⟩ := N.ex h
    rw [e] at e'
    cases e'
    obtain ⟨hF, _, hn⟩ := N.free a h
    exact f.loose R e hF hn nu
  refine ⟨(kp List.mem_cons_self N.main).1, N.len, fun i x r hx hr => ?_, fun a h => ?_, N.nodup⟩
  · obtain ⟨h1, h2, h3⟩ := N.row i x r hx hr
    obtain ⟨m1, m2⟩ := foot_mem hx
    exact ⟨(kp (List.mem_cons_of_mem _ m1) h1).1, (kp (List.mem_cons_of_mem _ m2) h2).1, h3.up s⟩
  · obtain ⟨u, e, _⟩ := N.ex h
    obtain ⟨_, h0, hn⟩ := N.free a h
    refine ⟨(kp h e).2, h0, fun z => ?_⟩
    rcases o a z with z | z
    · exact hn z
    · rw [e] at z; cases z
def rowD (r : D × List Nat) : D := .tup [r.1, .lst (r.2.map fun n => .int (n : Nat))]
theorem da_nats {F : Hp} : ∀ ns : List Nat, DA K F (nV ns) (ns.map fun n => .int (n : Nat))
  | [] => .nil
  | n :: ns => .cons (.int _) (da_nats ns)
theorem loose_of {p : Addr} (hF : F p = none) (h0 : b.H0 p = none) (hn : ¬ Owned σ ρ p) : Loose b σ F ρ p := ⟨hF, h0, fun i o e ho z => hn ⟨i, o, e, ho, z⟩⟩
theorem fz_rows : ∀ (ts : List (Addr × Addr × V)) (rows : List (D × List Nat)) (F : Hp), ts.length = rows.length → (∀ (i : Nat) x r, ts[i]? = some x → rows[i]? = some r → H x.1 = some (.tup [x.2.2, .ref x.2.1]) ∧ H x.2.1 = some (.lst (nV r.2)) ∧ Dr K F x.2.2 r.1) →
    (∀ a, a ∈ foot ts → F a = none ∧ b.H0 a = none ∧ ¬ Owned σ ρ a) → (foot ts).Nodup → Rep K ps b σ H F ρ → ∃ F', Same F F' ∧ Rep K ps b σ H F' ρ ∧ DA K F' (ts.map fun x => .ref x.1) (rows.map rowD) ∧ ∀ a, a ∉ foot ts → F' a = F a
  | [], [], F, _, _, _, _, R => ⟨F, Same.refl F, R, .nil, fun a _ => rfl⟩
  | [], _ :: _, F, hl, _, _, _, _ => by cases hl
  | _ :: _, [], F, hl, _, _, _, _ => by cases hl
  | (t, q, v) :: ts, r :: rows, F, hl, hr, hf, hn, R => by
    obtain ⟨ht, hq, hv⟩ := hr 0 _ r rfl rfl
    have hft : foot ((t, q, v) :: ts) = t :: q :: foot ts := rfl
    rw [hft] at hf hn
    obtain ⟨n1, n2⟩ := List.nodup_cons.mp hn
    obtain ⟨n3, n4⟩ := List.nodup_cons.mp n2
    have ntq : t ≠ q := fun z => n1 (by rw [z]; exact List.mem_cons_self)
    obtain ⟨tF, t0, tO⟩ := hf t List.mem_cons_self
    obtain ⟨qF, q0, qO⟩ := hf q (List.mem_cons_of_mem _ List.mem_cons_self)
    obtain ⟨s1, R1⟩ := R.frzLoose (loose_of qF q0 qO) hq
    have tF1 : upd F q (.lst (nV r.2)) t = none := by rw [upd_ne ntq]; exact tF
    obtain ⟨s2, R2⟩ := R1.frzLoose (loose_of tF1 t0 tO) ht
    have s12 := s1.trans s2
    have off : ∀ a, a ≠ t → a ≠ q → upd (upd F q (.lst (nV r.2))) t (.tup [v, .ref q]) a = F a := fun a h1 h2 => by rw [upd_ne h1, upd_ne h2]
    obtain ⟨F3, s3, R3, h3, o3⟩ := fz_rows ts rows _ (Nat.succ.inj hl) (fun i x r' hx hr' => by
        obtain ⟨a1, a2, a3⟩ := hr (i + 1) x r' hx hr'
        exact ⟨a1, a2, a3.up s12⟩) (fun a ha => by
        obtain ⟨a1, a2, a3⟩ := hf a (List.mem_cons_of_mem _ (List.mem_cons_of_mem _ ha))
        refine ⟨?_, a2, a3⟩
        rw [off a (fun z => n1 (by rw [← z]; exact List.mem_cons_of_mem _ ha)) (fun z => n3 (by rw [← z]; exact ha))]
        exact a1) n4 R2
    refine ⟨F3, s12.trans s3, R3, .cons ?_ h3, fun a ha => ?_⟩
    · have dn := da_nats (K := K) (F := upd (upd F q (.lst (nV r.2))) t (.tup [v, .ref q])) r.2
      have e1 : upd (upd F q (.lst (nV r.2))) t (.tup [v, .ref q]) q = some (.lst (nV r.2)) := by rw [upd_ne (Ne.symm ntq), upd_same]
      have da : DA K (upd (upd F q (.lst (nV r.2))) t (.tup [v, .ref q])) [v, .ref q] [r.1, .lst (r.2.map fun n => .int (n : Nat))] := .cons (hv.up s12) (.one (.lst e1 dn.1 dn.2))
      exact Dr.up s3 (.tup (SqT.of upd_same) da.1 da.2)
    · rw [hft] at ha
      rw [o3 a fun z => ha (List.mem_cons_of_mem _ (List.mem_cons_of_mem _ z))]
      exact off a (fun z => ha (by rw [z]; exact List.mem_cons_self)) (fun z => ha (by rw [z]; exact List.mem_cons_of_mem _ List.mem_cons_self))
theorem Nst.freeze {p : Addr} {ts : List (Addr × Addr × V)} {rows : List (D × List Nat)} (N : Nst K b σ H F ρ p ts rows) (R : Rep K ps b σ H F ρ) : ∃ F', Same F F' ∧ Rep K ps b σ H F' ρ ∧ Dr K F' (.ref p) (.lst (rows.map rowD)) := by
  obtain ⟨n1, n2⟩ := List.nodup_cons.mp N.nodup
  obtain ⟨F1, s1, R1, h1, o1⟩ := fz_rows ts rows F N.len N.row (fun a h => N.free a (List.mem_cons_of_mem _ h)) n2 R
  obtain ⟨a1, a2, a3⟩ := N.free p List.mem_cons_self
  obtain ⟨s2, R2⟩ := R1.frzLoose (loose_of (by rw [o1 p n1]; exact a1) a2 a3) N.main
  have h2 := h1.up s2
  exact ⟨_, s1.trans s2, R2, .lst upd_same h2.1 h2.2⟩
end
end NB
/-! numbered: its loop. -/
namespace NB
open PySem PySem.Spec PyProof.Rows L2 DL TR
section
variable [Tbs] {K : PySem.W.Frag} {b : Bs} {σ : L2.St} {H F : Hp} {ρ : DL.Env} {p : Addr} {ts : List (Addr × Addr × V)} {rows : List (D × List Nat)}
def tApp : TS := tDrop (tBM K "list" rAppend (tVar 2) (tCons (tTup (tCons (tVar 4) (tCons (tLst tNil) tNil))) tNil))
theorem foot_snoc (ts : List (Addr × Addr × V)) (x : Addr × Addr × V) : foot (ts ++ [x]) = foot ts ++ [x.1, x.2.1] := by
  unfold foot
  rw [List.flatMap_append]
  simp
theorem st_app (R : Rep K [2] b σ H F ρ) (N : Nst K b σ H F ρ p ts rows) (hp : σ[2]? = some (some (.ref p))) {d : D} (h4 : ρ[4]? = some (some (.d d))) (hz : rows.length < 16000000) {D' : Ends}
    (n : ∀ ts' H', Rep K [2] b σ H' F ρ → Nst K b σ H' F ρ p ts' (rows ++ [(d, [])]) → D'.nx σ H') : (tApp (K := K)) D' σ H := by
  obtain ⟨v4, g4, d4⟩ := R.slot 4 _ h4
  refine ⟨_, hp, .inl ⟨rfl, _, SqL.of N.main⟩, v4, g4, Nat.zero_le _, fun q hq => ⟨(show 2 ≤ sizeLine by decide), fun a ha => ?_⟩⟩
  have R1 := R.put (o := .lst []) hq
  have R2 := R1.put (o := .tup [v4, .ref q]) ha
  have hpq : p ≠ q := ne_of_none N.main hq
  have e1 : upd H q (.lst []) p = some (.lst (ts.map fun x => .ref x.1)) := (upd_ne hpq).trans N.main
  have hpa : p ≠ a := ne_of_none e1 ha
  have e2 : upd (upd H q (.lst [])) a (.tup [v4, .ref q]) p = some (.lst (ts.map fun x => .ref x.1)) := (upd_ne hpa).trans e1
  have haq : a ≠ q := fun z => by rw [z, upd_same] at ha; cases ha
  have ha0 : H a = none := by rwa [upd_ne haq] at ha
  obtain ⟨f1, f2, f3⟩ := N.free p List.mem_cons_self
  have nO : ∀ {x : Addr}, H x = none → ¬ Owned σ ρ x := fun {x} hx z => by
    obtain ⟨_, _, o, e⟩ := R.owned z
    rw [hx] at e
    cases e
  refine ⟨p, _, .ref a, rfl, rfl, e2, by rw [List.length_map, N.len]; show rows.length < 16777216; omega, n (ts ++ [(a, q, v4)]) _ (R2.poke f1 f2 f3 e2) ⟨?_, ?_, ?_, ?_, ?_⟩⟩
  · rw [upd_same, List.map_append]
    rfl
  · rw [List.length_append, List.length_append, N.len]
    rfl
  · have nd := (List.nodup_cons.mp N.nodup).1
    intro i x r hx hr
    by_cases hi : i < ts.length
    · rw [List.getElem?_append_left hi] at hx
      rw [List.getElem?_append_left (by rw [← N.len]; exact hi)] at hr
      obtain ⟨h1, h2, h3⟩ := N.row i x r hx hr
      obtain ⟨m1, m2⟩ := foot_mem hx
      have far : ∀ {y : Addr} {o : HO}, y ∈ foot ts → H y = some o → upd (upd (upd H q (.lst [])) a (.tup [v4, .ref q])) p (.lst (ts.map (fun x => .ref x.1) ++ [.ref a])) y = some o := fun {y o} m e => by
        rw [upd_ne (fun z => nd (by rw [← z]; exact m)), upd_ne (ne_of_none e ha0), upd_ne (ne_of_none e hq)]
        exact e
      exact ⟨far m1 h1, far m2 h2, h3⟩
    · rw [List.getElem?_append_right (by omega)] at hx
      rw [List.getElem?_append_right (by rw [← N.len]; omega), ← N.len] at hr
      have hi' : i - ts.length = 0 := by
        rcases Nat.eq_zero_or_pos (i - ts.length) with z | z
        · exact z
        · rw [List.getElem?_eq_none (by simp; omega)] at hx
          cases hx
      rw [hi'] at hx hr
      cases hx
      cases hr
      refine ⟨?_, ?_, d4⟩
      · rw [upd_ne (Ne.symm hpa), upd_same]
      · rw [upd_ne (Ne.symm hpq), upd_ne (Ne.symm haq), upd_same]
        rfl
  · intro x hx
    rw [foot_snoc, ← List.cons_append] at hx
    rcases List.mem_append.mp hx with hx | hx
    · exact N.free x hx
    · have : H x = none := by
        rcases List.mem_cons.mp hx with rfl | hx
        · exact ha0
        · rw [List.mem_singleton.mp hx]; exact hq
      obtain ⟨z1, z2, _⟩ := R.fresh this
      exact ⟨z1, z2, nO this⟩
  · rw [foot_snoc, ← List.cons_append]
    have out : ∀ {x : Addr}, H x = none → x ∉ p :: foot ts := fun {x} hx z => by
      obtain ⟨o, e, _⟩ := N.ex z
      rw [hx] at e
      cases e
    refine List.nodup_append.mpr ⟨N.nodup, ?_, fun x hx y hy => ?_⟩
    · simpa using haq
    · rcases List.mem_cons.mp hy with rfl | hy
      · exact fun z => out ha0 (by rw [← z]; exact hx)
      · rw [List.mem_singleton.mp hy]
        exact fun z => out hq (by have z : x = q := z; rw [← z]; exact hx)
theorem foot_sep : ∀ {ts : List (Addr × Addr × V)}, (foot ts).Nodup → ∀ {i j : Nat} {x y : Addr × Addr × V}, ts[i]? = some x → ts[j]? = some y → x.1 ≠ y.2.1 ∧ (i ≠ j → x.2.1 ≠ y.2.1)
  | [], _, i, j, x, y, hx, _ => by cases hx
  | z :: ts, hn, i, j, x, y, hx, hy => by
    have hft : foot (z :: ts) = z.1 :: z.2.1 :: foot ts := rfl
    rw [hft] at hn
    obtain ⟨n1, n2⟩ := List.nodup_cons.mp hn
    obtain ⟨n3, n4⟩ := List.nodup_cons.mp n2
    cases i with
    | zero =>
      cases hx
      cases j with
      | zero => cases hy; exact ⟨fun e => n1 (by rw [e]; exact List.mem_cons_self), fun e => absurd rfl e⟩
      | succ j =>
        have m := (foot_mem (i := j) (x := y) hy).2
        exact ⟨fun e => n1 (by rw [e]; exact List.mem_cons_of_mem _ m), fun _ e => n3 (by rw [e]; exact m)⟩
    | succ i =>
      cases j with
      | zero =>
        cases hy
        have m := foot_mem (i := i) (x := x) hx
        exact ⟨fun e => n3 (by rw [← e]; exact m.1), fun _ e => n3 (by rw [← e]; exact m.2)⟩
      | succ j =>
        obtain ⟨a1, a2⟩ := foot_sep n4 (i := i) (j := j) hx hy
        exact ⟨a1, fun e => a2 fun z => e (by rw [z])⟩
def tChild : TS := tDrop (tBM K "list" rAppend (tOp (rIxT K) (tOp (rIxL K) (tVar 2) (tVar 5)) (tC (.int 1))) (tCons (tVar 6) tNil))
theorem st_child (R : Rep K [2] b σ H F ρ) (N : Nst K b σ H F ρ p ts rows) (hp : σ[2]? = some (some (.ref p))) {k n : Nat} (h5 : ρ[5]? = some (some (.d (.int (k : Nat))))) (h6 : ρ[6]? = some (some (.d (.int (n : Nat))))) (hk : k < rows.length) (hz : ∀ r ∈ rows, r.2.length < 16000000) {D' : Ends}
    (nx : ∀ H', Rep K [2] b σ H' F ρ → Nst K b σ H' F ρ p ts (addTo (some k) n rows) → D'.nx σ H') : (tChild (K := K)) D' σ H := by
  obtain ⟨v5, g5, d5⟩ := R.slot 5 _ h5
  obtain ⟨v6, g6, d6⟩ := R.slot 6 _ h6
  have e5 : v5 = .int (k : Nat) := Dr.inv_int d5
  have e6 : v6 = .int (n : Nat) := Dr.inv_int d6
  subst e5 e6
  have hx := List.getElem?_eq_getElem (show k < ts.length by rw [N.len]; exact hk)
  have hr := List.getElem?_eq_getElem hk
  generalize ts[k]'(by rw [N.len]; exact hk) = x at hx
  generalize rows[k] = r at hr
  obtain ⟨h1, h2, h3⟩ := N.row k x r hx hr
  obtain ⟨m1, m2⟩ := foot_mem hx
  obtain ⟨n1, n2⟩ := List.nodup_cons.mp N.nodup
  obtain ⟨f1, f2, f3⟩ := N.free x.2.1 (List.mem_cons_of_mem _ m2)
  have ex : L2.atI (ts.map fun x => V.ref x.1) (k : Int) = some (.ref x.1) := by
    rw [atI_nat', List.getElem?_map, hx]
    rfl
  have zr := hz r (List.mem_of_getElem? hr)
  refine ⟨_, hp, _, g5, p, _, _, _, rfl, rfl, SqL.of N.main, ex, x.1, _, _, .ref x.2.1, rfl, rfl, SqT.of h1, rfl, .inl ⟨rfl, _, SqL.of h2⟩, _, g6, x.2.1, _, _, rfl, rfl, h2, by unfold nV; rw [List.length_map]; show r.2.length < 16777216; omega, ?_⟩
  refine nx _ (R.poke f1 f2 f3 h2) ⟨?_, ?_, ?_, N.free, N.nodup⟩
  · rw [upd_ne (fun z => n1 (by rw [z]; exact m2))]
    exact N.main
  · rw [addTo_len]
    exact N.len
  · intro i y s hy hs
    obtain ⟨a1, a2⟩ := foot_sep n2 hy hx
    rw [show addTo (some k) n rows = rows.modify k fun r => (r.1, r.2 ++ [n]) from rfl, modif_get] at hs
    by_cases hki : k = i
    · subst hki
      rw [if_pos rfl, hr] at hs
      cases hs
      rw [hx] at hy
      cases hy
      refine ⟨by rw [upd_ne a1]; exact h1, ?_, h3⟩
      rw [upd_same]
      unfold nV
      rw [List.map_append]
      rfl
    · rw [if_neg hki] at hs
      obtain ⟨b1, b2, b3⟩ := N.row i y s hy hs
      exact ⟨by rw [upd_ne a1]; exact b1, by rw [upd_ne (a2 fun z => hki z.symm)]; exact b2, b3⟩
end
end NB
/-! numbered: the whole. -/
namespace NB
open PySem PySem.Spec PyProof.Rows L2 DL TR
/-- s tells of each node those directly in it -/
inductive Good (s : SV) : Tr D → Prop
  | nd {d : D} {ks : List (Tr D)} (h : ∀ Φ : D → Prop, Φ (.tup (ks.map Tr.d)) → s [d] Φ) (hk : ∀ k ∈ ks, Good s k) : Good s (.nd d ks)
def oD : Option Nat → D
  | none => .non
  | some k => .int (k : Nat)
def wD (x : Tr D × Option Nat) : D := .tup [x.1.d, oD x.2]
def stk (ws : List (Tr D × Option Nat)) : List D := (ws.map wD).reverse
theorem stk_cons (x : Tr D × Option Nat) (ws : List (Tr D × Option Nat)) : stk (x :: ws) = stk ws ++ [wD x] := by
  unfold stk
  rw [List.map_cons, List.reverse_cons]
theorem stk_app (vs ws : List (Tr D × Option Nat)) : stk (vs ++ ws) = stk ws ++ stk vs := by
  unfold stk
  rw [List.map_append, List.reverse_append]
theorem stk_len (ws : List (Tr D × Option Nat)) : (stk ws).length ≤ szw ws := by
  induction ws with
  | nil => exact Nat.le_refl _
  | cons x ws ih =>
    have := sz_pos x.1
    rw [stk_cons, List.length_append]
    show _ + 1 ≤ sz x.1 + szw ws
    omega
def tTurn [Tbs] (K : PySem.W.Frag) (SI : Addr → Option SV) : TS :=
  tSeq (tAsg (tBM0 K "list" rPop (tVar 3)) (gTup K 2 (gCons (gName 4) (gCons (gName 5) gNil))))
    (tSeq (tAsg (tCB (fun xs H Q => ∃ x n, xs = [x] ∧ LenV K x H n ∧ Q (.int (n : Nat)) H) (tCons (tVar 2) tNil)) (gName 6))
      (tSeq (tApp (K := K))
        (tSeq (tIfS (tTest (tOp (fun x y H Q => y = V.non ∧ Q (V.bl !decide (x = V.non)) H) (tVar 5) (tC V.non))) (tChild (K := K)) tNext)
          (tDrop (tBM K "list" rExtend (tVar 3) (tCons (tLc (iTup K (SX.tRevT K (tCallA 1 (spA K SI) (tCons (tVar 4) tNil)))) (gName 7) tYes (tTup (tCons (tVar 7) (tCons (tVar 6) tNil))) [7]) tNil))))))
def tNum [Tbs] (K : PySem.W.Frag) (SI : Addr → Option SV) : TS :=
  tSeq (tAsg (tLst tNil) (gName 2))
    (tSeq (tAsg (tLst (tCons (tTup (tCons (tVar 0) (tCons (tC V.non) tNil))) tNil)) (gName 3))
      (tSeq (tWhile (fun σ H Q => tVar 3 σ H fun x H' => ∃ k, TruV K x H' k ∧ Q k H') (tTurn K SI)) (tRet (tVar 2))))
def dNum (SI : Addr → Option SV) : DS := fun E ρ => ∃ (t : Tr D) (f : Addr) (s : SV), ρ = [some (.d t.d), some (.d (.fn f)), none, none, none, none, none, none] ∧ SI f = some s ∧ Good s t ∧ sz t ≤ 1000000 ∧ ∀ o2 o4 o5 o6 o7 : Option OV, E.rt (.lst ((num t 0).map rowD)) [some (.d t.d), some (.d (.fn f)), none, o2, o4, o5, o6, o7]
def envN (r : D) (f : Addr) (ws : List (Tr D × Option Nat)) (o4 o5 o6 o7 : Option OV) : DL.Env := [some (.d r), some (.d (.fn f)), none, some (.l (stk ws)), o4, o5, o6, o7]
structure Lp (s : SV) (t : Tr D) (rows : List (D × List Nat)) (ws : List (Tr D × Option Nat)) : Prop where
  pr : proc rows ws = num t 0
  ok : ∀ x ∈ ws, InR rows x.2 ∧ Good s x.1
  len : rows.length + szw ws = sz t
  short : ∀ r ∈ rows, r.2.length ≤ rows.length
theorem Lp.step {s : SV} {t : Tr D} {rows : List (D × List Nat)} {d : D} {ks : List (Tr D)} {o : Option Nat} {ws : List (Tr D × Option Nat)} (h : Lp s t rows ((.nd d ks, o) :: ws)) : Lp s t (step1 d o rows) (ks.map (fun t => (t, some rows.length)) ++ ws) := by
  have ho := (h.ok _ List.mem_cons_self).1
  have hg := (h.ok _ List.mem_cons_self).2
  have hl : (step1 d o rows).length = rows.length + 1 := by unfold step1; rw [addTo_len, List.length_append]; rfl
  refine ⟨by rw [← proc_step d ks o rows ws ho]; exact h.pr, fun x hx => ?_, ?_, fun r hr => ?_⟩
  · rcases List.mem_append.mp hx with hx | hx
    · obtain ⟨k, hk, rfl⟩ := List.mem_map.mp hx
      cases hg with
      | nd _ hks => exact ⟨fun j e => by cases e; rw [hl]; omega, hks k hk⟩
    · obtain ⟨a, c⟩ := h.ok x (List.mem_cons_of_mem _ hx)
      exact ⟨fun j e => by rw [hl]; exact Nat.lt_succ_of_lt (a j e), c⟩
  · have h2 := h.len
    rw [szw_app, szw_kids, hl]
    have e : szw ((Tr.nd d ks, o) :: ws) = sz (Tr.nd d ks) + szw ws := rfl
    rw [e, sz] at h2
    omega
  · rw [hl]
    obtain ⟨i, hi⟩ := List.getElem?_of_mem hr
    unfold step1 at hi
    have base : ∀ r ∈ rows ++ [(d, [])], r.2.length ≤ rows.length := fun r hr => by
      rcases List.mem_append.mp hr with hr | hr
      · exact h.short r hr
      · rw [List.mem_singleton.mp hr]; exact Nat.zero_le _
    cases o with
    | none => exact Nat.le_succ_of_le (base r (List.mem_of_getElem? hi))
    | some k =>
      rw [show addTo (some k) rows.length (rows ++ [(d, [])]) = (rows ++ [(d, [])]).modify k (fun r => (r.1, r.2 ++ [rows.length])) from rfl, modif_get] at hi
      split at hi
      · obtain ⟨r', h1, rfl⟩ := Option.map_eq_some_iff.mp hi
        have := base r' (List.mem_of_getElem? h1)
        show (r'.2 ++ [rows.length]).length ≤ _
        rw [List.length_append]
        exact Nat.succ_le_succ this
      · exact Nat.le_succ_of_le (base r (List.mem_of_getElem? hi))
section
variable [Tbs] {K : PySem.W.Frag} {b : Bs} {σ : L2.St} {H F : Hp} {p : Addr} {ts : List (Addr × Addr × V)} {rows : List (D × List Nat)}
theorem pin2 {ρ : DL.Env} (R : Rep K [2] b σ H F ρ) (hb : b.vs = [.non, .non, .ref p]) : σ[2]? = some (some (.ref p)) := by
  obtain ⟨v, h1, h2⟩ := R.pin 2 (List.mem_singleton.mpr rfl)
  rw [hb] at h2
  cases h2
  exact h1
/-- one turn -/
theorem turn {SI : Addr → Option SV} {r : D} {f : Addr} {s : SV} {t : Tr D} {x : Tr D × Option Nat} {ws : List (Tr D × Option Nat)} {o4 o5 o6 o7 : Option OV} (hb : b.vs = [.non, .non, .ref p]) (hs : SI f = some s) (hz : sz t ≤ 1000000)
    (R : Rep K [2] b σ H F (envN r f (x :: ws) o4 o5 o6 o7)) (N : Nst K b σ H F (envN r f (x :: ws) o4 o5 o6 o7) p ts rows) (L : Lp s t rows (x :: ws)) {D' : Ends}
    (nx : ∀ σ' H' F' ts' rows' ws' o4 o5 o6 o7, Same F F' → Rep K [2] b σ' H' F' (envN r f ws' o4 o5 o6 o7) → Nst K b σ' H' F' (envN r f ws' o4 o5 o6 o7) p ts' rows' → Lp s t rows' ws' → szw ws' < szw (x :: ws) → D'.nx σ' H') : tTurn K SI D' σ H := by
  obtain ⟨⟨d, ks⟩, o⟩ := x
  have hlen := L.len
  have hrl : rows.length ≤ 1000000 := by omega
  have hwl : szw ((Tr.nd d ks, o) :: ws) = sz (Tr.nd d ks) + szw ws := rfl
  rw [hwl, sz] at hlen
  refine RS.fr (N := fun ρ' => ρ' = envN r f ws (some (.d d)) (some (.d (oD o))) o6 o7) (rs_asg (re_pop (i := 3)) (rg_tup (rgs_cons rg_name (rgs_cons rg_name rgs_nil)))) R ?_ fun σ1 H1 F1 ρ1 s1 f1 R1 w1 e1 => ?_
  · rw [dAsg_, dPop_]
    refine ⟨stk ((.nd d ks, o) :: ws), wD (.nd d ks, o), rfl, ?_, ?_⟩
    · rw [stk_cons]
      simp
    · rw [stk_cons, List.dropLast_concat]
      unfold wD envN exN
      simp
  subst e1
  have N1 := N.up R s1 f1 w1
  -- number = len(nodes)
  refine ⟨_, pin2 R1 hb, _, rows.length, rfl, .inl ⟨_, SqL.of N1.main, by rw [List.length_map, N1.len]⟩, ?_⟩
  have R2 := R1.setD (i := 6) (v := .int (rows.length : Nat)) (d := .int (rows.length : Nat)) (by decide) (.int _)
  have N2 : Nst K b (σ1.set 6 (some (.int (rows.length : Nat)))) H1 F1 ((envN r f ws (some (.d d)) (some (.d (oD o))) o6 o7).set 6 (some (.d (.int (rows.length : Nat))))) p ts rows :=
    N1.up R1 (Same.refl F1) (Fr.refl R1) fun a ⟨i, u, z1, z2, z3⟩ => by
      rcases set_some z1 with ⟨rfl, q⟩ | ⟨nq, q⟩
      · cases q; cases z2
      · rw [List.getElem?_set_ne (Ne.symm nq)] at z3
        exact .inl ⟨i, u, q, z2, z3⟩
  have e2 : (envN r f ws (some (.d d)) (some (.d (oD o))) o6 o7).set 6 (some (.d (.int (rows.length : Nat)))) = envN r f ws (some (.d d)) (some (.d (oD o))) (some (.d (.int (rows.length : Nat)))) o7 := rfl
  rw [e2] at R2 N2
  -- nodes.append((node, []))
  refine st_app R2 N2 (pin2 R2 hb) (d := d) rfl (by omega) fun ts3 H3 R3 N3 => ?_
  have L' := L.step
  have hsh : ∀ r ∈ rows ++ [(d, [])], r.2.length < 16000000 := fun r hr => by
    rcases List.mem_append.mp hr with hr | hr
    · have := L.short r hr
      omega
    · rw [List.mem_singleton.mp hr]
      exact (show 0 < 16000000 by decide)
  -- the rest, once the number stands with the one that it is in
  have rest : ∀ H4, Rep K [2] b (σ1.set 6 (some (.int (rows.length : Nat)))) H4 F1 (envN r f ws (some (.d d)) (some (.d (oD o))) (some (.d (.int (rows.length : Nat)))) o7) → Nst K b (σ1.set 6 (some (.int (rows.length : Nat)))) H4 F1 (envN r f ws (some (.d d)) (some (.d (oD o))) (some (.d (.int (rows.length : Nat)))) o7) p ts3 (step1 d o rows) →
      (tDrop (tBM K "list" rExtend (tVar 3) (tCons (tLc (iTup K (SX.tRevT K (tCallA 1 (spA K SI) (tCons (tVar 4) tNil)))) (gName 7) tYes (tTup (tCons (tVar 7) (tCons (tVar 6) tNil))) [7]) tNil))) D' (σ1.set 6 (some (.int (rows.length : Nat)))) H4 := by
    intro H4 R4 N4
    refine RS.fr (N := fun ρ' => ∃ o7', ρ' = envN r f (ks.map (fun t => (t, some rows.length)) ++ ws) (some (.d d)) (some (.d (oD o))) (some (.d (.int (rows.length : Nat)))) o7') (rs_ext (i := 3) (rl_lc (ri_tup (re_revT (re_callA (SS := SI) (i := 1) (rv_cons (re_var 4) rv_nil)))) rg_name rt_yes (re_tup (rv_cons (re_var 7) (rv_cons (re_var 6) rv_nil))))) R4 ?_ fun σ5 H5 F5 ρ5 s5 f5 R5 w5 e5 => ?_
    · have hg := (L.ok _ List.mem_cons_self).2
      have hkl : (ks.map Tr.d).length ≤ 1000000 := by
        have h1 := stk_len (ks.map fun t => (t, some rows.length))
        rw [szw_kids] at h1
        unfold stk at h1
        rw [List.length_reverse, List.length_map, List.length_map] at h1
        rw [List.length_map]
        omega
      cases hg with
      | nd hin _ =>
      rw [dExt_]
      refine ⟨⟨_, rfl⟩, ?_⟩
      refine lc_f ((ks.map Tr.d).reverse) (envN r f ws (some (.d d)) (some (.d (oD o))) (some (.d (.int (rows.length : Nat)))) o7) (envN r f ws (some (.d d)) (some (.d (oD o))) (some (.d (.int (rows.length : Nat)))) none) (fun x => .tup [x, .int (rows.length : Nat)]) (fun Ψ h => ?_) rfl (by rw [List.length_reverse]; omega) (fun x hx A hA => ?_) ?_
      · unfold envN at h ⊢
        simp
        exact ⟨s, hs, hin _ ⟨_, rfl, h⟩⟩
      · unfold envN
        simp
        exact hA _ (by simp [envN])
      · refine ⟨stk ws, ?_, ?_, keepD (some o7), ?_⟩
        · unfold envN
          simp
        · rw [List.length_map, List.length_reverse]
          have h1 := stk_len ws
          show _ ≤ 16777216
          omega
        · rw [show envN r f (ks.map (fun t => (t, some rows.length)) ++ ws) (some (.d d)) (some (.d (oD o))) (some (.d (.int (rows.length : Nat)))) (keepD (some o7)) = [some (.d r), some (.d (.fn f)), none, some (.l (stk (ks.map (fun t => (t, some rows.length)) ++ ws))), some (.d d), some (.d (oD o)), some (.d (.int (rows.length : Nat))), keepD (some (o7))] from rfl, stk_app]
          have e6 : (ks.map Tr.d).reverse.map (fun x => D.tup [x, .int (rows.length : Nat)]) = stk (ks.map fun t => (t, some rows.length)) := by
            unfold stk
            rw [List.map_reverse, List.map_map, List.map_map]
            rfl
          rw [e6]
          unfold envN
          simp
    · obtain ⟨o7', e5⟩ := e5
      subst e5
      have N5 := N4.up R4 s5 f5 w5
      refine nx σ5 H5 F5 ts3 _ _ _ _ _ _ (s1.trans s5) R5 N5 L' ?_
      rw [szw_app, szw_kids, hwl, sz]
      omega
  -- if outer is not None
  cases o with
  | none =>
    obtain ⟨v5, g5, d5⟩ := R3.slot 5 _ (rfl : (envN r f ws (some (.d d)) (some (.d (oD none))) (some (.d (.int (rows.length : Nat)))) o7)[5]? = some (some (.d .non)))
    have e5 : v5 = .non := Dr.inv_non d5
    subst e5
    exact ⟨_, g5, rfl, false, rfl, rest H3 R3 N3⟩
  | some k =>
    obtain ⟨v5, g5, d5⟩ := R3.slot 5 _ (rfl : (envN r f ws (some (.d d)) (some (.d (oD (some k)))) (some (.d (.int (rows.length : Nat)))) o7)[5]? = some (some (.d (.int (k : Nat)))))
    have e5 : v5 = .int (k : Nat) := Dr.inv_int d5
    subst e5
    have hk : k < (rows ++ [(d, [])]).length := by
      rw [List.length_append]
      exact Nat.lt_succ_of_lt ((L.ok _ List.mem_cons_self).1 k rfl)
    refine ⟨_, g5, rfl, true, rfl, ?_⟩
    exact st_child R3 N3 (pin2 R3 hb) rfl rfl hk hsh fun H4 R4 N4 => rest H4 R4 N4
theorem rs_numbered {SI : Addr → Option SV} : RS K [] (tNum K SI) (dNum SI) := by
  intro b σ H F ρ E D' R hT n r bk ct
  obtain ⟨t, f, s, rfl, hs, hg, hz, hE⟩ := hT
  have hl : σ.length = 8 := R.len.symm
  refine ⟨Nat.zero_le _, fun p hp => ?_⟩
  have R1 : Rep K [] ⟨H, F, [.non, .non, .ref p], Owned σ [some (.d t.d), some (.d (.fn f)), none, none, none, none, none, none]⟩ σ H F [some (.d t.d), some (.d (.fn f)), none, none, none, none, none, none] := Rep.revs R.here
  have hF := (R.fresh hp).1
  have R2 := R1.put (o := .lst []) hp
  have R3 := Rep.setU (i := 2) (v := .ref p) R2 (fun o z => by cases z) rfl (by omega)
  have N3 : Nst K ⟨H, F, [.non, .non, .ref p], Owned σ [some (.d t.d), some (.d (.fn f)), none, none, none, none, none, none]⟩ (σ.set 2 (some (.ref p))) (upd H p (.lst [])) F [some (.d t.d), some (.d (.fn f)), none, none, none, none, none, none] p [] [] := by
    refine ⟨upd_same, rfl, fun i x r h => (by cases h), fun a ha => ?_, (by simp [foot])⟩
    have ea : a = p := by simpa [foot] using ha
    subst ea
    refine ⟨hF, hp, fun ⟨i, o, z1, z2, z3⟩ => ?_⟩
    match i, z1 with
    | 0, z1 => cases z1; cases z2
    | 1, z1 => cases z1; cases z2
    | 2, z1 => cases z1
    | 3, z1 => cases z1
    | 4, z1 => cases z1
    | 5, z1 => cases z1
    | 6, z1 => cases z1
    | 7, z1 => cases z1
  refine RS.fr (N := fun ρ' => ρ' = envN t.d f [(t, none)] none none none none) (rs_setL (rl_lst (rv_cons (re_tup (rv_cons (re_var 0) (rv_cons re_non rv_nil))) rv_nil))) R3 ?_ fun σ4 H4 F4 ρ4 s4 f4 R4 w4 e4 => ?_
  · simp [envN, stk, wD, oD, exN]
  subst e4
  have N4 := N3.up R3 s4 f4 w4
  refine ⟨fun m σ' H' => ∃ F' ws rows ts o4 o5 o6 o7, Same F4 F' ∧ Rep K [2] _ σ' H' F' (envN t.d f ws o4 o5 o6 o7) ∧ Nst K _ σ' H' F' (envN t.d f ws o4 o5 o6 o7) p ts rows ∧ Lp s t rows ws ∧ m = szw ws, ⟨_, F4, _, _, _, _, _, _, _, Same.refl F4, R4, N4, ⟨proc_all t, fun x hx => ?_, ?_, fun r hr => (nomatch hr)⟩, rfl⟩, ?_⟩
  · rw [List.mem_singleton.mp hx]
    exact ⟨fun k e => (nomatch e), hg⟩
  · show 0 + (sz t + 0) = _
    omega
  · rintro m σ5 H5 ⟨F5, ws, rows, ts, o4, o5, o6, o7, s5, R5, N5, L5, rfl⟩
    obtain ⟨q, hq, _, _, xs, ex, hx⟩ := R5.own (i := 3) rfl rfl
    refine ⟨_, hq, _, .inl ⟨xs, SqL.of ex, rfl⟩, ?_⟩
    have hxl : xs.isEmpty = (stk ws).isEmpty := isEmpty_len hx.1
    rw [hxl]
    cases ws with
    | nil =>
      simp only []
      rw [if_neg (by simp [stk])]
      have hr : rows = num t 0 := L5.pr
      subst hr
      refine ⟨_, pin2 R5 rfl, ?_⟩
      obtain ⟨F6, s6, R6, d6⟩ := N5.freeze R5
      exact r _ _ H5 F6 _ _ ((s4.trans s5).trans s6) (R.back (Rep.revs (Rep.unpin R6))) d6 (hE _ _ _ _ _)
    | cons x ws =>
      simp only []
      rw [if_pos (by rw [stk_cons]; simp)]
      refine ⟨fun σ' H' => ∃ m', m' < szw (x :: ws) ∧ ∃ F' ws rows ts o4 o5 o6 o7, Same F4 F' ∧ Rep K [2] _ σ' H' F' (envN t.d f ws o4 o5 o6 o7) ∧ Nst K _ σ' H' F' (envN t.d f ws o4 o5 o6 o7) p ts rows ∧ Lp s t rows ws ∧ m' = szw ws, fun σ' H' h => h, ?_⟩
      exact turn rfl hs hz R5 N5 L5 fun σ' H' F' ts' rows' ws' p4 p5 p6 p7 s6 R6 N6 L6 lt => ⟨_, lt, F', ws', rows', ts', p4, p5, p6, p7, s5.trans s6, R6, N6, L6, rfl⟩
end
end NB
/-! The making of a lambda: what the heap is afterwards, to the last. -/
namespace LM
open PySem PySem.Spec PyProof.Rows L2 LamX
structure Made (T : List (Addr × Str)) (H H1 : Hp) : Prop where
  ext : ExtN H H1
  tabs : Tabs T H1
  dom : ∀ a o, H a = some o → ∃ o', H1 a = some o'
theorem Made.same {T : List (Addr × Str)} {H : Hp} (h : Tabs T H) : Made T H H := ⟨ExtN.refl H, h, fun a o e => ⟨o, e⟩⟩
/-- a table has grown by one code object -/
theorem Made.more {T : List (Addr × Str)} {H : Hp} {P k : Addr} {q : Str} {old : Array Value} (hT : Tabs T H) (hu : ∀ x ∈ T, x.1 = P → x.2 = q) (hP : H P = some (.tbl old)) (hk : H k = none) (ht : TriplesOk old.toList)
    (hall : ∀ (pos : Pos) (v : Value), codeAmong pos old.toList = some v → ∃ c, v = .ref c ∧ H c = some (CodeO c q)) {pos : Pos} :
    Made T H (upd (upd H P (.tbl (old ++ #[rawInt pos.line, rawInt pos.col, .ref k]))) k (CodeO k q)) := by
  have hPk := ne_of_none hP hk
  generalize hX : upd (upd H P (.tbl (old ++ #[rawInt pos.line, rawInt pos.col, .ref k]))) k (CodeO k q) = X
  have atK : X k = some (CodeO k q) := by rw [← hX]; exact upd_same
  have atP : X P = some (.tbl (old ++ #[rawInt pos.line, rawInt pos.col, .ref k])) := by rw [← hX, upd_ne hPk]; exact upd_same
  have else_ : ∀ a, a ≠ P → a ≠ k → X a = H a := fun a h1 h2 => by rw [← hX, upd_ne h2, upd_ne h1]
  have ext : ExtN H X := fun a o e nt => by
    rw [else_ a (fun z => nt old (by rw [z, hP] at e; exact (Option.some.inj e).symm)) (ne_of_none e hk)]
    exact e
  refine ⟨ext, fun x hx => ?_, fun a o e => ?_⟩
  · obtain ⟨tb, h1, h2, h3⟩ := hT x hx
    by_cases hb : x.1 = P
    · have hq := hu x hx hb
      rw [hb, hq]
      refine ⟨_, atP, by rw [Array.toList_append]; exact PySem.TriplesOk_snoc _ _ _ _ ht, fun at' v hv => ?_⟩
      rw [Array.toList_append] at hv
      rcases among_app old.toList ht hv with hv | hv
      · obtain ⟨c, e1, e2⟩ := hall at' v hv
        exact ⟨c, e1, ext c _ e2 codeO_ne⟩
      · exact ⟨k, hv, atK⟩
    · refine ⟨tb, (else_ _ hb (ne_of_none h1 hk)).trans h1, h2, fun at' v hv => ?_⟩
      obtain ⟨c, e1, e2⟩ := h3 at' v hv
      exact ⟨c, e1, ext c _ e2 codeO_ne⟩
  · by_cases h1 : a = P
    · exact ⟨_, by rw [h1]; exact atP⟩
    · exact ⟨o, (else_ a h1 (ne_of_none e hk)).trans e⟩
section
variable {X : Cx} {pins : List (Addr × Obj)} {σ : L2.St} {H : Hp} {s : Shared}
theorem lam_new {T : List (Addr × Str)} {c P : Addr} {params : Arguments} {body : Expr} {scope : Scope} {pos : Pos} {E Q : Value → Shared → Prop} (I : Inv X pins σ H s) (TB : TabB X.base X.mg c P) (hcode : X.env.code = .ref c)
    (hm : (P, X.env.qual ++ "<lambda>") ∈ T) (hu : ∀ x ∈ T, x.1 = P → x.2 = X.env.qual ++ "<lambda>") (hT : Tabs T H) (hdef : defaultsOf params X.env = ([], [])) (hcl : ∀ y ∈ scope.names, y.2 = .free → ∃ c, X.env.cells.lookup y.1 = some c)
    (fin : ∀ (f k : Addr) (m v : Value) (H1 : Hp) (s1 : Shared), Inv X pins σ H1 s1 → Made T H H1 → s1.heap.get? f = some (PySem.W.kla_obj "<lambda>" (X.env.qual ++ "<lambda>") params body scope (cloFrom X.env.cells scope.names []) m k v) → H1 f = none → f ∉ frs X.stack → H1 k = some (CodeO k (X.env.qual ++ "<lambda>")) → Q (.ref f) s1) :
    wpAny (model X.prog X.w) X.A (eval (.Lambda params body scope pos) X.env) Q E s := by
  obtain ⟨old, hP, ht, hall⟩ := hT _ hm
  have hPh : s.heap.get? P = some { cls := .none, data := .fields old } := I.hok P _ hP
  have young : ∀ a, s.heap.objs.size ≤ a → a ∉ frs X.stack := fun a ha hin => by
    rcases List.mem_cons.mp (I.stkSub _ hin) with e | e
    · have lt := I.lt
      rw [← e] at lt
      exact absurd (Nat.lt_of_lt_of_le lt ha) (Nat.lt_irrefl _)
    · exact I.nofs ha e
  apply PySem.W.kla_eval hdef
  cases among : codeAmong pos old.toList with
  | some v =>
    obtain ⟨k, rfl, hk⟩ := hall pos v among
    refine PySem.W.kla_makeFunctionHit (mg := X.mg) (c := c) (P := P) (ps := old) (closure_ok hcl) I.ok.glob (I.mod.glob.keeps I.bk) hcode (TB.code.keeps I.bk) hPh ht among (TB.bm.keeps I.bk) fun cv h1 tk keep size => ?_
    refine fin h1.objs.size k ((X.mg "__name__").getD .none) cv H _ (I.kept (h' := h1.push (PySem.W.kla_obj "<lambda>" (X.env.qual ++ "<lambda>") params body scope (cloFrom X.env.cells scope.names []) ((X.mg "__name__").getD .none) k cv)) (t' := tk) fun a o e => ?_) (Made.same hT) (Heap.get?_push_size _ rfl) (I.hok.fresh size) (young _ size) hk
    exact Heap.get?_push_of_some _ (keep a o e)
  | none =>
    refine PySem.W.kla_makeFunction (mg := X.mg) (c := c) (P := P) (ps := old) (closure_ok hcl) I.ok.glob (I.mod.glob.keeps I.bk) hcode (TB.code.keeps I.bk) hPh ht among TB.gP (TB.bm.keeps I.bk) fun k cv h1 tk but ge lt rec tab => ?_
    obtain ⟨k', oc, vs, tq, e, hoc, hd, hv⟩ := rec
    cases e
    have hk : H k = none := I.hok.fresh ge
    have size : s.heap.objs.size ≤ h1.objs.size := by omega
    have I1 := inv_table (t' := tk) (more := #[rawInt pos.line, rawInt pos.col, .ref k]) (h' := h1.push (PySem.W.kla_obj "<lambda>" (X.env.qual ++ "<lambda>") params body scope (cloFrom X.env.cells scope.names []) ((X.mg "__name__").getD .none) k cv)) I hP
      (fun a o na e => Heap.get?_push_of_some _ (but a o na e)) (Heap.get?_push_of_some _ tab) ge ⟨oc, vs, tq, Heap.get?_push_of_some _ hoc, hd, hv⟩
    refine fin h1.objs.size k ((X.mg "__name__").getD .none) cv _ _ I1 (Made.more hT hu hP hk ht hall) (Heap.get?_push_size _ rfl) ?_ (young _ size) upd_same
    have n1 : h1.objs.size ≠ k := by omega
    have n2 : h1.objs.size ≠ P := fun z => absurd (Nat.lt_of_lt_of_le (Heap.lt_size hPh) size) (by rw [z]; exact Nat.lt_irrefl _)
    rw [upd_ne n1, upd_ne n2]
    exact I.hok.fresh size
end
end LM
/-! A lambda with parameters handed to a def as its last argument, and called there. -/
namespace CLX
open PySem PySem.Spec PyProof.Rows L2 LamX NdefX
theorem cells_un {fs : List Addr} {cl : List (Str × Addr)} {fr : List Str} {ws : List (Option V)} {H HZ : Hp} {h h1 : Heap} (C : CellsAt cl fr ws h H) (un : Un fs [] H HZ h h1) : CellsAt cl fr ws h1 HZ := by
  have kp : ∀ y c, cl.lookup y = some c → ∀ v, h.IsCell c v → h1.IsCell c v := fun y c e v ⟨o, ho, hd⟩ => by
    obtain ⟨sl, q⟩ := un.any ho (C.all y c e).1 (by simp)
    exact ⟨_, q, hd⟩
  refine ⟨C.len, fun y c e => ?_, C.inj, fun i y e => ?_⟩
  · obtain ⟨n, v, z⟩ := C.all y c e
    refine ⟨?_, v, kp y c e v z⟩
    obtain ⟨o, ho, _⟩ := z
    exact un.free c o ho n (by simp)
  · obtain ⟨c, hc, hv⟩ := C.has i y e
    refine ⟨c, hc, fun v ev => ?_⟩
    obtain ⟨u, r, z⟩ := hv v ev
    exact ⟨u, r, kp y c hc _ z⟩
/-- a lambda's words -/
abbrev lamF (qual : Str) (params : Arguments) (scope : Scope) (cl : List (Str × Addr)) (c' : Addr) : NF := ⟨"<lambda>", qual, params, [], scope, cl, c'⟩
def E0 : XK := fun _ _ _ => False
section
variable {X : Cx} {pins : List (Addr × Obj)} {σ : L2.St} {H HZ : Hp} {s s1 : Shared}
theorem pe_act3 {CXg : CXT} {Eg : XK} {Ng : List Str} {qg : Str} {sg : Scope} {g f c' : Addr} {cdg pm ctv : Value} {params : Arguments} {body : Expr} {scope : Scope} {k i : Nat} {a : Str} {pn : List (Addr × Obj)} {xe : Value → Shared → Prop} {tb : TE} {t : TA} {p1 p2 : Pos}
    {N ps fr : List Str} {js : List Nat} {e : Expr} {es : List Expr}
    (I : Inv X pins σ H s) (S : NScope N ps fr scope) (cp : Caps X (cloFrom X.env.cells scope.names []) fr js) (hf : s.heap.get? f = some (PySem.W.kla_obj "<lambda>" (X.env.qual ++ "<lambda>") params body scope (cloFrom X.env.cells scope.names []) pm c' ctv)) (hfn : H f = none) (hfr : f ∉ frs X.stack)
    (hbind : ∀ us : List Value, us.length = ps.length → bindArgs (PySem.W.kla_fn "<lambda>" (X.env.qual ++ "<lambda>") params body scope (cloFrom X.env.cells scope.names []) pm (.ref c') ctv) ⟨us, []⟩ = pure (ps.zip us))
    (hr : Room (k + 1) (X.A.deeper (envOfC qg sg s.heap.objs.size g cdg)))
    (hbody : ∀ (A : Around) (outer : List Env) (s : Shared) (H : Hp), Room k (A.deeper (envF (lamF (X.env.qual ++ "<lambda>") params scope (cloFrom X.env.cells scope.names []) c') f s.heap.objs.size)) →
      PE (ncx C8.CX0 X.prog X.w X.K X.mg X.base N (lamF (X.env.qual ++ "<lambda>") params scope (cloFrom X.env.cells scope.names []) c') f A outer s H E0) body tb)
    (hN : Ng[i]? = some a) (hv : Vis sg a) (ha : PA ((cxOf CXg X.prog X.w X.K X.mg X.base Ng qg sg g cdg X.A X.stack s H Eg).tr pn xe) (e :: es) t) (hd : (a == ("__debug__" : Str)) = false := by decide) (hcd : (a == ("__classdict__" : Str)) = false := by decide)
    (he : starEach (e :: es) ((cxOf CXg X.prog X.w X.K X.mg X.base Ng qg sg g cdg X.A X.stack s H Eg).tr pn xe).env = (false, eval e ((cxOf CXg X.prog X.w X.K X.mg X.base Ng qg sg g cdg X.A X.stack s H Eg).tr pn xe).env) :: starEach es ((cxOf CXg X.prog X.w X.K X.mg X.base Ng qg sg g cdg X.A X.stack s H Eg).tr pn xe).env := by rfl)
    (hpl : (backTo p2 (starEach es ((cxOf CXg X.prog X.w X.K X.mg X.base Ng qg sg g cdg X.A X.stack s H Eg).tr pn xe).env)).any (·.1) = false := by rfl) :
    PE ((cxOf CXg X.prog X.w X.K X.mg X.base Ng qg sg g cdg X.A X.stack s H Eg).tr pn xe) (.Call (.Name a p1) (e :: es) [] p2)
      (fun σZ HZ Q => σZ[i]? = some (some (.ref f)) ∧ t σZ HZ fun vs HZ1 => vs.length = ps.length ∧ HZ1 c' = some (CodeO c' (X.env.qual ++ "<lambda>")) ∧ tb (startF N vs (js.map (slotAt σ))) HZ1 Q) := by
  refine ⟨fun pinsZ sZ σZ HZ Q IZ h => ?_⟩
  obtain ⟨hs, ht⟩ := h
  refine wpAny_Call_Name_kw (thn ((pe_var (pos := p1) (i := i) hN hv hd hcd).run pinsZ sZ σZ HZ (fun v H1 => v = .ref f ∧ H1 = HZ) IZ ⟨.ref f, hs, rfl, rfl⟩) fun u s1 ⟨v, H1, I1, r1, q1⟩ => ?_)
  obtain ⟨ev, eH⟩ := q1
  subst ev
  rw [eH] at I1
  obtain rfl : u = Value.ref f := r1
  have of : ∀ {σ2 : L2.St} {H2 : Hp} {s2 : Shared}, Inv ((cxOf CXg X.prog X.w X.K X.mg X.base Ng qg sg g cdg X.A X.stack s H Eg).tr pn xe) pinsZ σ2 H2 s2 → s2.heap.get? f = some (PySem.W.kla_obj "<lambda>" (X.env.qual ++ "<lambda>") params body scope (cloFrom X.env.cells scope.names []) pm c' ctv) :=
    fun I2 => I2.base.keep f _ hf hfn hfr (fun z => nomatch (show f ∈ ([] : List Addr) from z))
  refine PySem.W.callWith_F (first := []) ⟨_, _, _, _, of I1⟩ (thn (ha.run p2 pinsZ s1 σZ HZ _ I1 ht) fun us s2 ⟨vs, H2, I2, r, hl, hc, q⟩ => ⟨⟨_, _, _, _, of I2⟩, ?_⟩) he hpl
  show wpAny _ _ (call (.ref f) us) _ _ _
  have un : Un (frs X.stack) [] H H2 s.heap s2.heap := I2.base
  have C2 := cells_un (cells_of I cp) un
  obtain ⟨⟨oc, vs1, t1, hoc, hdc, hvc⟩, _, _⟩ := I2.hok c' _ hc
  have rc : codeAny (model X.prog X.w) (X.A.deeper (envOfC qg sg s.heap.objs.size g cdg)) (.call (.ref f) ⟨us, []⟩) (CR C8.CX0 (envOfC qg sg s.heap.objs.size g cdg :: X.stack) X.prog X.w H2 s2 Q E0) s2 := by
    refine PySem.W.kla_callFunE hr.depth (of I2) rfl S.co S.gen rfl ⟨c', oc, vs1, t1, rfl, hoc, hdc, hvc⟩ ?_
    rw [hbind us (by rw [← r.length]; exact hl)]
    refine wpAny_pure (wpAny_newFunctionEnv S.nocell (fun ⟨n, _⟩ hy => S.par n (List.of_mem_zip hy).1) (fun h₁ hns hsb => ⟨I2.nolimit.fresh _ hsb, ?_⟩) S.kind)
    show codeAny _ _ (.expr body (envF (lamF (X.env.qual ++ "<lambda>") params scope (cloFrom X.env.cells scope.names []) c') f s2.heap.objs.size)) _ _
    have kp : ∀ b o, s2.heap.get? b = some o → h₁.get? b = some o := fun b o e => hsb.extBut b o (Nat.ne_of_lt (Heap.lt_size e)) (Heap.get?_push_of_some _ e)
    have J := inv_startN (CX := C8.CX0) (F := lamF (X.env.qual ++ "<lambda>") params scope (cloFrom X.env.cells scope.names []) c') (f := f) (E := E0) (tk := s2.toks + (ps.zip us).length) S hr.hd I2.env0 hl r C2 hns kp
    refine PySem.W.kla_codeExpr (wpAny_mono ((hbody _ _ s2 H2 (hr.deeper _)).run [] _ _ H2 Q J q) (fun v s' hq => ?_) fun e s' hq => hq)
    obtain ⟨w', H', J', rv, q⟩ := hq
    exact ⟨w', H', J'.os, J'.bare, J'.base, J'.hok, rv, q⟩
  refine wpAny_call (codeAny_mono rc fun r s' hq => ?_)
  cases r with
  | error e => exact (show False from hq).elim
  | ok fl =>
    cases fl with
    | ret u => exact I2.after hq
    | next => exact False.elim hq
    | brk => exact False.elim hq
    | cont => exact False.elim hq
end
/-- the def g, given vs and the lambda; tl: what the lambda's call comes to -/
def Gives (X : Cx) (Ng : List Str) (x : Str) (sg : Scope) (g : Addr) (cdg : Value) (bg : List Stmt) (a : Str) (i nl k : Nat) (q : Str) (TT : (List V → Hp → VK → Prop) → List V → Hp → VK → Prop) : Prop :=
  ∀ (f c' : Addr) (s : Shared) (H : Hp) (Q : VK) (vs : List V) (tl : List V → Hp → VK → Prop), Room k (X.A.deeper (envOfC x sg s.heap.objs.size g cdg)) →
    (∀ (pn : List (Addr × Obj)) (xe : Value → Shared → Prop) (p1 p2 : Pos) (e : Expr) (es : List Expr) (t : TA), PA ((cxOf C8.CX0 X.prog X.w X.K X.mg X.base Ng x sg g cdg X.A X.stack s H C8.E0).tr pn xe) (e :: es) t →
      starEach (e :: es) ((cxOf C8.CX0 X.prog X.w X.K X.mg X.base Ng x sg g cdg X.A X.stack s H C8.E0).tr pn xe).env = (false, eval e ((cxOf C8.CX0 X.prog X.w X.K X.mg X.base Ng x sg g cdg X.A X.stack s H C8.E0).tr pn xe).env) :: starEach es ((cxOf C8.CX0 X.prog X.w X.K X.mg X.base Ng x sg g cdg X.A X.stack s H C8.E0).tr pn xe).env →
      (backTo p2 (starEach es ((cxOf C8.CX0 X.prog X.w X.K X.mg X.base Ng x sg g cdg X.A X.stack s H C8.E0).tr pn xe).env)).any (·.1) = false →
      PE ((cxOf C8.CX0 X.prog X.w X.K X.mg X.base Ng x sg g cdg X.A X.stack s H C8.E0).tr pn xe) (.Call (.Name a p1) (e :: es) [] p2)
        (fun σZ HZ Q => σZ[i]? = some (some (.ref f)) ∧ t σZ HZ fun vs HZ1 => vs.length = nl ∧ HZ1 c' = some (CodeO c' q) ∧ tl vs HZ1 Q)) →
    H c' = some (CodeO c' q) → H f = none → TT tl vs H Q →
    ∃ t, PSs (cxOf C8.CX0 X.prog X.w X.K X.mg X.base Ng x sg g cdg X.A X.stack s H C8.E0).nox bg t ∧ t { nx := fun _ H' => Q .non H', rt := Q } (L2.start Ng (vs ++ [.ref f])) H
def tGive (T : List (Addr × Str)) (TT : (List V → Hp → VK → Prop) → List V → Hp → VK → Prop) (t : TA) (tl : L2.St → List V → Hp → VK → Prop) : TE := fun σ H Q => t σ H fun vs H1 => Tabs T H1 ∧ ∀ H2, LM.Made T H1 H2 → TT (tl σ) vs H2 Q
section
variable {X : Cx}
/-- x(e1, e2, lambda ..: body) -/
theorem pe_give {T : List (Addr × Str)} {TT : (List V → Hp → VK → Prop) → List V → Hp → VK → Prop} {x a : Str} {g c P : Addr} {k : Nat} {pg : Arguments} {bg : List Stmt} {sg : Scope} {dV kV doc pm cdv ct oc : Value} {an od : Option Addr} {osl : Array (Option Value)} {Ng pr : List Str}
    {params : Arguments} {body : Expr} {scope : Scope} {t1 t2 tb : TE} {e1 e2 : Expr} {p lpos pos : Pos} {N ps fr : List Str} {js : List Nat} (hg : Gl X x) (hm : X.mg x = some (.ref g)) (hk : PySem.W.keepIn X.K (.ref g) = true)
    (lk : X.K.lookup g = some ⟨oc, od, .func (PySem.W.fnOf x x pg bg sg dV kV doc pm an cdv ct), osl⟩) (hcg : PySem.W.codeIn X.K cdv x = true) (hb : L2.Binds X.K (PySem.W.fnOf x x pg bg sg dV kV doc pm an cdv ct) pr []) (Sg : FnScope Ng pr sg) (hpr : pr.length = 3) (hNg : Ng[2]? = some a) (hva : Vis sg a)
    (hG : Gives X Ng x sg g cdv bg a 2 ps.length (k + 1) (X.env.qual ++ "<lambda>") TT)
    (TB : TabB X.base X.mg c P) (hcode : X.env.code = .ref c) (hmT : (P, X.env.qual ++ "<lambda>") ∈ T) (hu : ∀ p ∈ T, p.1 = P → p.2 = X.env.qual ++ "<lambda>") (hr : Room (k + 2) X.A) (S : NScope N ps fr scope)
    (hfree : ∀ y ∈ scope.names, y.2 = .free → X.env.scope.names.lookup y.1 = some .cell ∨ X.env.scope.names.lookup y.1 = some .free) (hfr : ∀ y ∈ fr, (y, NameKind.free) ∈ scope.names) (hjs : js.map (fun j => X.N[j]?) = fr.map some) (hdef : defaultsOf params X.env = ([], []))
    (hbind : ∀ (q : Str) (cl : List (Str × Addr)) (pm cv ctv : Value) (us : List Value), us.length = ps.length → bindArgs (PySem.W.kla_fn "<lambda>" q params body scope cl pm cv ctv) ⟨us, []⟩ = pure (ps.zip us))
    (hbody : ∀ (A : Around) (outer : List Env) (s : Shared) (H : Hp) (f c' : Addr), Room k (A.deeper (envF (lamF (X.env.qual ++ "<lambda>") params scope (cloFrom X.env.cells scope.names []) c') f s.heap.objs.size)) →
      PE (ncx C8.CX0 X.prog X.w X.K X.mg X.base N (lamF (X.env.qual ++ "<lambda>") params scope (cloFrom X.env.cells scope.names []) c') f A outer s H E0) body tb)
    (h1 : PE X e1 t1) (h2 : PE X e2 t2)
    (hdb : (x == ("__debug__" : Str)) = false := by decide) (hd : (a == ("__debug__" : Str)) = false := by decide) (hcd : (a == ("__classdict__" : Str)) = false := by decide)
    (hs1 : starEach [e1, e2, .Lambda params body scope lpos] X.env = [(false, eval e1 X.env), (false, eval e2 X.env), (false, eval (.Lambda params body scope lpos) X.env)] := by rfl)
    (he : starEach [e1, e2, .Lambda params body scope lpos] X.env = (false, eval e1 X.env) :: starEach [e2, .Lambda params body scope lpos] X.env := by rfl) (hpl : (backTo pos (starEach [e2, .Lambda params body scope lpos] X.env)).any (·.1) = false := by rfl) :
    PE X (.Call (.Name x p) [e1, e2, .Lambda params body scope lpos] [] pos) (tGive T TT (tCons t1 (tCons t2 tNil)) fun σ vs HZ1 Q => tb (startF N vs (js.map (slotAt σ))) HZ1 Q) := by
  refine ⟨fun pins s σ H Q I h => ?_⟩
  refine wpAny_Call_Name_kw (ld_glob I hg hm ?_ hdb)
  refine PySem.W.callWith_K (h₀ := X.base) I.ok.mod.kin hk ?_ he hpl
  rw [hs1]
  show wpAny _ _ (spliced [(false, eval e1 X.env), (false, eval e2 X.env), (false, eval (.Lambda params body scope lpos) X.env)]) _ _ s
  have hfr2 : ∀ y ∈ scope.names, y.2 = .free → ∃ c, X.env.cells.lookup y.1 = some c := fun y hy e => (hfree y hy e).elim (fun z => I.ok.has _ (.inl z)) fun z => I.ok.has _ (.inr z)
  refine Calls.spliced_cons (thn (h1.run pins s σ H _ I h) fun u1 s1 ⟨v1, H1, I1, r1, q1⟩ => ?_)
  refine Calls.spliced_cons (thn (h2.run pins s1 σ H1 _ I1 q1) fun u2 s2 ⟨v2, H2, I2, r2, hT, q2⟩ => ?_)
  refine Calls.spliced_cons (LM.lam_new I2 TB hcode hmT hu hT hdef hfr2 fun f c' pm' ctv H3 s3 I3 mk hf hfn hfrm hco => ?_)
  refine Calls.spliced_nil ⟨I3.kIn, ?_⟩
  have rr : Vals ([v1, v2, .ref f] : List V) [u1, u2, .ref f] := .cons r1 (.cons r2 (.cons rfl .nil))
  have rc : codeAny (model X.prog X.w) X.A (.call (.ref g) ⟨[u1, u2, .ref f], []⟩) (CR C8.CX0 X.stack X.prog X.w H3 s3 Q C8.E0) s3 := by
    refine run_ofS (N := Ng) (ps := pr) (us := [u1, u2, .ref f]) (vs := [v1, v2, .ref f]) lk hcg Sg hr I3.env0 (hb s3 [u1, u2, .ref f] I3.kIn (by rw [hpr]; rfl)) rr (by rw [hpr]; rfl) fun hr' => ?_
    obtain ⟨t', ht', hq'⟩ := hG f c' s3 H3 Q [v1, v2] (fun vs HZ1 Q => tb (startF N vs (js.map (slotAt σ))) HZ1 Q) hr' (fun pn xe p1 p2 e es t ha he2 hpl2 =>
      pe_act3 (i := 2) I3 S (Caps.made I3.ok hfree hfr hjs) hf hfn hfrm (hbind _ _ _ _ _) hr' (fun A outer s H hr2 => hbody A outer s H f c' hr2) hNg hva ha hd hcd he2 hpl2) hco hfn (q2 H3 mk)
    exact ⟨t', ht'.nox, hq'⟩
  refine wpAny_call (codeAny_mono rc fun r s2 hq => ?_)
  cases r with
  | error e => exact (show False from hq).elim
  | ok fl =>
    cases fl with
    | ret u => exact I3.after hq
    | next => exact False.elim hq
    | brk => exact False.elim hq
    | cont => exact False.elim hq
end
end CLX
/-! folded: over trees of data, told by a lambda. -/
namespace DL
open PySem PySem.Spec PyProof.Rows L2
section
variable [Tbs] {K : PySem.W.Frag} {ps : List Nat}
/-! ### ranges downward, lists repeated -/
def rngDn (hi : Int) (n : Nat) : List D := (List.range n).map fun i => .int (hi - (i : Nat))
theorem rngDn_len (hi : Int) (n : Nat) : (rngDn hi n).length = n := by simp [rngDn]
theorem rngDn_get {hi : Int} {n i : Nat} (h : i < n) : (rngDn hi n)[i]? = some (.int (hi - (i : Nat))) := by
  unfold rngDn
  rw [List.getElem?_map, List.getElem?_range h]
  rfl
theorem wk_rangeDn {F : Hp} {hi : Int} {n : Nat} : Wk K F (Itc hi (-1) n) (rngDn hi n) := by
  refine ⟨fun _ => True, YFn fun i => .int (hi + (i : Nat) * (-1)), by rw [rngDn_len]; exact walk_rangeC, fun H F' s sub => trivial, ?_⟩
  rintro i H x H' ⟨rfl, rfl⟩ hi' F' s sub
  rw [rngDn_len] at hi'
  have e : hi + ((i : Nat) : Int) * (-1) = hi - (i : Nat) := by omega
  refine ⟨_, F', rngDn_get hi', ?_, .inl ⟨rfl, rfl⟩⟩
  show Dr K F' (.int (hi + ((i : Nat) : Int) * (-1))) _
  rw [e]
  exact .int _
def dIRd (T : DLs) : DLs := fun ρ Φ => T ρ fun xs ρ' => ∃ i j : Int, xs = [.int i, .int j, .int (-1)] ∧ (-(2 ^ 62) ≤ i ∧ i < 2 ^ 62 ∧ -(2 ^ 62) ≤ j ∧ j < 2 ^ 62) ∧ Φ (rngDn i (i - j).toNat) ρ'
theorem ri_range3 {t : TA} {T : DLs} (h : RV K ps t T) : RI K ps (iRng3 t) (dIRd T) := by
  intro b σ H F ρ Φ R R0 hT k
  refine h b σ H F ρ _ _ R0 hT fun xs H1 F1 ρ1 ds s1 R1 h1 hT => ?_
  obtain ⟨i, j, rfl, ⟨b1, b2, b3, b4⟩, hT⟩ := hT
  obtain ⟨v, r, rfl, h2, h3⟩ := h1.inv
  obtain ⟨w, r2, rfl, h4, h5⟩ := h3.inv
  obtain ⟨u, r3, rfl, h6, h7⟩ := h5.inv
  rw [h7.inv_nil, h2.inv_int, h4.inv_int, h6.inv_int]
  exact ⟨i, j, -1, _, rfl, RgC.neg b1 b2 b3 b4, k _ H1 F1 ρ1 _ s1 R1 wk_rangeDn hT⟩
@[simp] theorem dIRd_ (T : DLs) (ρ : DL.Env) (Φ : List D → DL.Env → Prop) : dIRd T ρ Φ = T ρ fun xs ρ' => ∃ i j : Int, xs = [.int i, .int j, .int (-1)] ∧ (-(2 ^ 62) ≤ i ∧ i < 2 ^ 62 ∧ -(2 ^ 62) ≤ j ∧ j < 2 ^ 62) ∧ Φ (rngDn i (i - j).toNat) ρ' := Eq.trans rfl rfl
def oRep : D → D → (List D → Prop) → Prop := fun d e Φ => match d, e with
  | .lst xs, .int k => (0 ≤ k ∧ k < 2 ^ 63) ∧ xs.length * k.toNat ≤ sizeLine ∧ Φ (List.replicate k.toNat xs).flatten
  | _, _ => False
theorem DA.rep {F : Hp} {xs : List V} {ds : List D} (h : DA K F xs ds) : ∀ n : Nat, DA K F (List.replicate n xs).flatten (List.replicate n ds).flatten
  | 0 => .nil
  | n + 1 => by
    rw [List.replicate_succ, List.replicate_succ, List.flatten_cons, List.flatten_cons]
    exact h.app (DA.rep h n)
theorem rol_rep : ROL K ps rRep oRep := by
  intro b σ H F ρ x y d e Φ Q R h1 h2 hT k
  cases d <;> try exact hT.elim
  cases e <;> try exact hT.elim
  rename_i xs n
  obtain ⟨⟨b1, b2⟩, b3, hT⟩ := hT
  obtain ⟨a, ys, rfl, ea, ha⟩ := h1.inv_lst
  refine ⟨a, n, ys, rfl, h2.inv_int, R.sub _ _ ea, Int.le_trans (by decide) b1, b2, by rw [ha.1]; exact b3, fun p hp => ?_⟩
  exact k p _ _ F _ (Same.refl F) (R.put hp) (R.loose hp) upd_same (ha.rep n.toNat) hT
@[simp] theorem oRep_ (xs : List D) (n : Int) (Φ : List D → Prop) : oRep (.lst xs) (.int n) Φ = ((0 ≤ n ∧ n < 2 ^ 63) ∧ xs.length * n.toNat ≤ sizeLine ∧ Φ (List.replicate n.toNat xs).flatten) := Eq.trans rfl rfl
/-! ### the entry of a def that is handed data alone -/
theorem rep_start {N : List Str} {H F : Hp} {vs : List V} {ds : List D} (hsub : Sub F H) (hnt : ∀ a o, F a = some o → NT o) (htb : LamX.Tabs Tbs.T H) (hB : Same Tbs.B F) (h : DA K F vs ds) (ws : List (Option V)) (cs : List (Option OV))
    (hw : ws.length = cs.length) (hc : ∀ (i : Nat) o, cs[i]? = some (some o) → ∃ d v, o = .d d ∧ ws[i]? = some (some v) ∧ Dr K F v d) :
    Rep K [] ⟨H, F, vs, fun _ => False⟩ (vs.map some ++ ws) H F (ds.map (fun d => some (.d d)) ++ cs) := by
  have key : ∀ (i : Nat) o, (ds.map (fun d => some (OV.d d)) ++ cs)[i]? = some (some o) → ∃ d v, o = .d d ∧ (vs.map some ++ ws)[i]? = some (some v) ∧ Dr K F v d := fun i o e => by
    by_cases hi : i < ds.length
    · rw [List.getElem?_append_left (by rw [List.length_map]; exact hi), List.getElem?_map] at e
      obtain ⟨d, hd, e⟩ := Option.map_eq_some_iff.mp e
      obtain ⟨v, hv, hr⟩ := h.get hd
      refine ⟨d, v, (Option.some.inj e).symm, ?_, hr⟩
      rw [List.getElem?_append_left (by rw [List.length_map, h.1]; exact hi), List.getElem?_map, hv]
      rfl
    · rw [List.getElem?_append_right (by rw [List.length_map]; omega), List.length_map] at e
      obtain ⟨d, v, h1, h2, h3⟩ := hc _ o e
      refine ⟨d, v, h1, ?_, h3⟩
      rw [List.getElem?_append_right (by rw [List.length_map, h.1]; omega), List.length_map, h.1]
      exact h2
  refine ⟨hsub, ⟨Same.refl F, hB⟩, fun a o e _ _ => e, fun a z => z.elim, fun a o e => .inl e, fun i o e => ?_, fun i j o u v n e1 o1 => ?_, by rw [List.length_append, List.length_append, List.length_map, List.length_map, h.1, hw], fun i z => (nomatch z), hnt, fun a o e => ⟨o, e⟩, htb⟩
  · obtain ⟨d, v, rfl, h1, h2⟩ := key i o e
    exact ⟨v, h1, h2⟩
  · obtain ⟨d, v', rfl, _⟩ := key i o e1
    cases o1
/-- what does not lean on a code object -/
theorem Dr.less {F F' : Hp} (s : ∀ a o, F a = some o → (∀ c q, o ≠ LamX.CodeO c q) → F' a = some o) {v : V} {d : D} (h : Dr K F v d) : Dr K F' v d := by
  have n1 : ∀ (xs : List V) (c : Addr) (q : Str), HO.tup xs ≠ LamX.CodeO c q := fun xs c q z => by unfold LamX.CodeO at z; cases z
  have n2 : ∀ (C x : Addr) (xs : List (Str × V)) (c : Addr) (q : Str), HO.ins C x xs ≠ LamX.CodeO c q := fun C x xs c q z => by unfold LamX.CodeO at z; cases z
  induction h with
  | non => exact .non
  | bl b => exact .bl b
  | int i => exact .int i
  | str x => exact .str x
  | ty n => exact .ty n
  | fn a => exact .fn a
  | scr e =>
    refine .scr ?_
    rcases e with (e | ⟨o, e⟩) | e
    · exact .inl (.inl (s _ _ e (lst_nc _)))
    · exact .inl (.inr ⟨o, s _ _ e fun c q z => by unfold LamX.CodeO at z; cases z⟩)
    · exact .inr e
  | tup e hl _ ih =>
    refine .tup ?_ hl ih
    rcases e with (e | ⟨o, e⟩) | e
    · exact .inl (.inl (s _ _ e (n1 _)))
    · exact .inl (.inr ⟨o, s _ _ e fun c q z => by unfold LamX.CodeO at z; cases z⟩)
    · exact .inr e
  | lst e hl _ ih => exact .lst (s _ _ e (lst_nc _)) hl ih
  | dct e hk _ ih => exact .dct (s _ _ e (dK_nc _)) hk ih
  | obj e hk _ ih => exact .obj (s _ _ e (n2 _ _ _)) hk ih
end
end DL
namespace FD
open PySem PySem.Spec PyProof.Rows L2 DL TR NB
section
variable [Tbs] {K : PySem.W.Frag} {ps : List Nat}
/-! ### a call of the lambda -/
def tTell (i : Nat) (f : Addr) (nl : Nat) (c' : Addr) (q : Str) (tl : List V → Hp → VK → Prop) (t : TA) : TE := fun σZ HZ Q => σZ[i]? = some (some (.ref f)) ∧ t σZ HZ fun vs HZ1 => vs.length = nl ∧ HZ1 c' = some (LamX.CodeO c' q) ∧ tl vs HZ1 Q
def dTell (i : Nat) (f : Addr) (nl : Nat) (s : SV) (Ta : DLs) : DE := fun ρ Φ => ρ[i]? = some (some (.d (.fn f))) ∧ Ta ρ fun ds ρ1 => ds.length = nl ∧ s ds fun d => Φ d ρ1
theorem re_tell {i nl : Nat} {f c' : Addr} {q : Str} {tl : List V → Hp → VK → Prop} {s : SV} {t : TA} {Ta : DLs} (hc : Tbs.B c' = some (LamX.CodeO c' q)) (hl : ∀ vs H Q, spOf K (pureS s) vs H Q CLX.E0 → tl vs H Q) (h : RV K ps t Ta) : RE K ps (tTell i f nl c' q tl t) (dTell i f nl s Ta) := by
  intro b σ H F ρ Φ Q R hT k
  obtain ⟨e, hT⟩ := hT
  obtain ⟨v, h1, h2⟩ := R.slot i _ e
  have hv : v = .ref f := Dr.inv_fn h2
  subst hv
  refine ⟨h1, h b σ H F ρ _ _ R hT fun vs H1 F1 ρ1 ds s1 R1 hr ⟨hn, hS⟩ => ⟨by rw [hr.1, hn], R1.sub _ _ (R1.grow.b _ _ hc), hl _ _ _ ?_⟩⟩
  have nO : ∀ a, ¬ OwnA vs (ds.map .d) a := fun a ⟨i, o, e1, e2, _⟩ => by
    rw [List.getElem?_map] at e1
    obtain ⟨d, _, rfl⟩ := Option.map_eq_some_iff.mp e1
    cases e2
  refine ⟨F1, ds.map .d, fun d _ => Φ d ρ1, ⟨R1.sub, R1.nt, R1.tabs, R1.grow.b⟩, ⟨by rw [List.length_map]; exact hr.1, fun k v o e1 e2 => ?_, fun k l o u v n e1 o1 e2 o2 e3 e4 => ?_⟩, ⟨ds, rfl, hS⟩, fun F' H' v d os' s2 ⟨sub2, nt2, tb2⟩ kp th nw len2 hout hd hΦ => ?_⟩
  · rw [List.getElem?_map] at e2
    obtain ⟨d, hd, rfl⟩ := Option.map_eq_some_iff.mp e2
    exact hr.2 k v d e1 hd
  · rw [List.getElem?_map] at e1
    obtain ⟨d, _, rfl⟩ := Option.map_eq_some_iff.mp e1
    cases o1
  · exact k v H' F' ρ1 d (s1.trans s2) (R1.grownT (fun a o e nz => kp a o e (nO a) nz) th s2 sub2 (fun a o e => (nw a o e).elim .inl fun h => h.elim .inr fun z => absurd z (nO a)) nt2 tb2) hd hΦ
@[simp] theorem dTell_ (i : Nat) (f : Addr) (nl : Nat) (s : SV) (Ta : DLs) (ρ : DL.Env) (Φ : D → DL.Env → Prop) : dTell i f nl s Ta ρ Φ = (ρ[i]? = some (some (.d (.fn f))) ∧ Ta ρ fun ds ρ1 => ds.length = nl ∧ s ds fun d => Φ d ρ1) := Eq.trans rfl rfl
end
/-- what numbered promises -/
def sNum (SI : Addr → Option SV) : SV := fun ds Φ => ∃ (t : Tr D) (f : Addr) (s : SV), ds = [t.d, .fn f] ∧ SI f = some s ∧ Good s t ∧ sz t ≤ 1000000 ∧ Φ (.lst ((num t 0).map rowD))
/-- what folded comes to -/
def dFold (SI : Addr → Option SV) (f : Addr) (sL : SV) : DS :=
  dSeq (dAsg (dCallV (sNum SI) (dCons (dVar 0) (dCons (dVar 1) dNil))) (dName 3))
    (dSeq (dSetL 4 (dOpL oRep (dK (dLst (dCons (dC D.non) dNil))) (dLenS 3)))
      (dSeq (dFor (dIRd (dCons (dOp (oI0 fun a c => .int (a - c)) (dLenS 3) (dC (.int 1))) (dCons (dNeg (dC (.int 1))) (dCons (dNeg (dC (.int 1))) dNil)))) (dName 5)
          (dSeq (dAsg (dIxS 3 (dVar 5)) (dGTup 2 (dGCons (dName 6) (dGCons (dName 7) dGNil))))
            (dPutL 4 (dTell 2 f 2 sL (dCons (dVar 6) (dCons (dK (dLc (dIL (dVar 7)) (dName 8) dYes (dIxS 4 (dVar 8)) [8])) dNil))) (dVar 5))))
        (dRet (dIxS 4 (dC (.int 0))))))
/-- told so far: those from j on -/
def toldAt {α : Type} (G : List (Tr α)) (val : Tr α → D) (j : Nat) : List D := (List.range G.length).map fun i => if j ≤ i then (match G[i]? with | some s => val s | none => .non) else .non
theorem toldAt_len {α : Type} (G : List (Tr α)) (val : Tr α → D) (j : Nat) : (toldAt G val j).length = G.length := by simp [toldAt]
theorem toldAt_get {α : Type} {G : List (Tr α)} {val : Tr α → D} {j i : Nat} {s : Tr α} (h : G[i]? = some s) (hj : j ≤ i) : (toldAt G val j)[i]? = some (val s) := by
  unfold toldAt
  rw [List.getElem?_map, List.getElem?_range (List.getElem?_eq_some_iff.mp h).1]
  simp [hj, h]
theorem toldAt_all {α : Type} (G : List (Tr α)) (val : Tr α → D) : toldAt G val G.length = List.replicate G.length .non := by
  unfold toldAt
  apply List.ext_getElem?
  intro i
  rw [List.getElem?_map, List.getElem?_replicate]
  by_cases hi : i < G.length
  · rw [List.getElem?_range hi, if_pos hi, Option.map_some, if_neg (by omega)]
  · rw [List.getElem?_eq_none (by simp; omega), if_neg hi]
    rfl
theorem toldAt_set {α : Type} {G : List (Tr α)} {val : Tr α → D} {j : Nat} {s : Tr α} (h : G[j]? = some s) : (toldAt G val (j + 1)).set j (val s) = toldAt G val j := by
  have hj := (List.getElem?_eq_some_iff.mp h).1
  apply List.ext_getElem?
  intro i
  by_cases hij : j = i
  · subst hij
    rw [List.getElem?_set_self (by rw [toldAt_len]; exact hj), toldAt_get h (Nat.le_refl _)]
  · rw [List.getElem?_set_ne hij]
    unfold toldAt
    rw [List.getElem?_map, List.getElem?_map]
    by_cases hi : i < G.length
    · rw [List.getElem?_range hi, Option.map_some, Option.map_some]
      by_cases h1 : j + 1 ≤ i
      · rw [if_pos h1, if_pos (by omega)]
      · rw [if_neg h1, if_neg (by omega)]
    · rw [List.getElem?_eq_none (by simp; omega)]
      rfl
def envF (r : D) (fi f : Addr) (nodes : List D) (told : List D) (o5 o6 o7 o8 : Option OV) : DL.Env := [some (.d r), some (.d (.fn fi)), some (.d (.fn f)), some (.d (.lst nodes)), some (.l told), o5, o6, o7, o8]
theorem fold_go [Tbs] {SI : Addr → Option SV} {f fi : Addr} {si sL : SV} {α : Type} {δ : α → D} {t : Tr α} {val : Tr α → D} (hs : SI fi = some si) (hg : Good si (mapT δ t)) (hz : sz t ≤ 1000000) (hv : ∀ s ∈ pre t, ∀ Φ : D → Prop, Φ (val s) → sL [δ s.d, .lst (s.ks.map val)] Φ) {E : DEn}
    (hE : ∀ ρ', E.rt (val t) ρ') : dFold SI f sL E [some (.d (δ t.d)), some (.d (.fn fi)), some (.d (.fn f)), none, none, none, none, none, none] := by
  unfold dFold
  have hn : ((num (mapT δ t) 0).map rowD).length = sz t := by rw [List.length_map, num_len, sz_map]
  have hG : (pre t).length = sz t := pre_len t
  have hp := sz_pos t
  generalize hnd : (num (mapT δ t) 0).map rowD = nodes at hn
  simp only [dSeq_, dAsg_, dCallV_, dCons_, dVar_, dNil_, List.getElem?_cons_zero, List.getElem?_cons_succ, dVarG_d]
  refine ⟨mapT δ t, fi, si, by rw [mapT_d], hs, hg, by rw [sz_map]; exact hz, ?_⟩
  rw [hnd]
  simp [hn]
  refine ⟨by omega, by omega, ?_⟩
  have e0 : List.replicate (sz t) D.non = toldAt (pre t) val (sz t) := by
    rw [← hG, toldAt_all]
  rw [e0]
  refine for_inv (rngDn ((sz t : Int) - 1) (sz t)) (envF (δ t.d) fi f nodes (toldAt (pre t) val (sz t)) none none none none) (fun k ρ => ∃ o5 o6 o7 o8, ρ = envF (δ t.d) fi f nodes (toldAt (pre t) val (sz t - k)) o5 o6 o7 o8) (fun Ψ h => ?_) ⟨none, none, none, none, rfl⟩ ?_ ?_
  · have e1 : ((sz t : Int) - 1 - (-1)).toNat = sz t := by omega
    simp [hn]
    refine ⟨_, _, ⟨rfl, rfl⟩, ⟨by omega, by omega, by omega, by omega⟩, ?_⟩
    rw [e1]
    exact h
  · rintro k x ρ hx ⟨o5, o6, o7, o8, rfl⟩
    have hk : k < sz t := by
      have := (List.getElem?_eq_some_iff.mp hx).1
      rwa [rngDn_len] at this
    rw [rngDn_get hk] at hx
    cases hx
    obtain ⟨j, hj⟩ : ∃ j, j = sz t - 1 - k := ⟨_, rfl⟩
    have ej : (sz t : Int) - 1 - (k : Nat) = (j : Nat) := by omega
    have e2 : sz t - k = j + 1 := by omega
    have e3 : sz t - (k + 1) = j := by omega
    rw [ej, e2, e3]
    have hjn : j < (num t 0).length := by rw [num_len]; omega
    have hr := List.getElem?_eq_getElem hjn
    generalize (num t 0)[j] = r at hr
    obtain ⟨s, h1, h2, h3, h4⟩ := rows_ok t hr
    have hnr : nodes[j]? = some (rowD (δ r.1, r.2)) := by rw [← hnd, num_map, List.getElem?_map, List.getElem?_map, hr]; rfl
    have hsm : s ∈ pre t := List.mem_of_getElem? h1
    simp only [dName_]
    unfold envF
    simp [hnr, rowD]
    refine lc_z (r.2.map fun n => .int (n : Nat)) (s.ks.map val) [some (.d (δ t.d)), some (.d (.fn fi)), some (.d (.fn f)), some (.d (.lst nodes)), some (.l (toldAt (pre t) val (j + 1))), some (.d (.int (j : Nat))), some (.d (δ r.1)), some (.d (.lst (r.2.map fun n => .int (n : Nat)))), o8]
      [some (.d (δ t.d)), some (.d (.fn fi)), some (.d (.fn f)), some (.d (.lst nodes)), some (.l (toldAt (pre t) val (j + 1))), some (.d (.int (j : Nat))), some (.d (δ r.1)), some (.d (.lst (r.2.map fun n => .int (n : Nat)))), none] (fun Ψ h => ?_) rfl ?_ ?_ (fun i x e hx he A hA => ?_) ?_
    · simpa using h
    · rw [List.length_map, h3]
      have := kids_le hsm
      omega
    · rw [List.length_map, List.length_map, h3]
    · rw [List.getElem?_map] at hx he
      obtain ⟨n, hn', rfl⟩ := Option.map_eq_some_iff.mp hx
      obtain ⟨u, hu, rfl⟩ := Option.map_eq_some_iff.mp he
      obtain ⟨g1, g2⟩ := h4 i n hn'
      rw [hu] at g2
      simp
      exact ⟨_, toldAt_get g2 (by omega), hA _ (by simp)⟩
    · simp
      rw [← h2]
      have hjl : j < (toldAt (pre t) val (j + 1)).length := by rw [toldAt_len, hG]; omega
      refine hv s hsm _ ⟨j, ?_, toldAt_set h1⟩
      unfold ixN
      rw [if_pos (by omega), if_pos (by omega)]
      rfl
  · rintro ρ ⟨o5, o6, o7, o8, rfl⟩
    rw [rngDn_len, Nat.sub_self]
    unfold envF
    simp
    exact ⟨_, (atI_nat' _ 0).trans (toldAt_get (pre_zero t) (Nat.le_refl _)), hE _⟩
end FD
/-! folded as it is handed a lambda. -/
namespace FD
open PySem PySem.Spec PyProof.Rows L2 DL TR NB
/-- what folded asks of its arguments and of the lambda -/
def TTf (I : Tbs) (K : PySem.W.Frag) (SI : Addr → Option SV) (tl : List V → Hp → VK → Prop) (vs : List V) (H : Hp) (Q : VK) : Prop :=
  ∃ (F : Hp) (α : Type) (δ : α → D) (t : Tr α) (fi : Addr) (si sL : SV) (val : Tr α → D), (Sub F H ∧ (∀ a o, F a = some o → NT o) ∧ LamX.Tabs I.T H ∧ Same I.B F) ∧ DA K F vs [δ t.d, .fn fi] ∧ (SI fi = some si ∧ Good si (mapT δ t) ∧ sz t ≤ 1000000) ∧
    (∀ s ∈ pre t, ∀ Φ : D → Prop, Φ (val s) → sL [δ s.d, .lst (s.ks.map val)] Φ) ∧ (∀ vs H' Q, @spOf ⟨I.T, F⟩ K (pureS sL) vs H' Q CLX.E0 → tl vs H' Q) ∧
    ∀ F' H' v, Same F F' → (Sub F' H' ∧ (∀ a o, F' a = some o → NT o) ∧ LamX.Tabs I.T H') → (∀ a o, H a = some o → NT o → H' a = some o) → (∀ a o, H a = some o → ∃ o', H' a = some o') → (∀ a o, F' a = some o → F a = some o ∨ H a = none) → Dr K F' v (val t) → Q v H'
theorem codeO_nt (c : Addr) (q : Str) : NT (LamX.CodeO c q) := fun t z => by
  unfold LamX.CodeO at z
  cases z
/-- the body of folded, told by data -/
theorem fold_run {I : Tbs} {K : PySem.W.Frag} {SI : Addr → Option SV} {f c' : Addr} {q : Str} {H : Hp} {Q : VK} {vs : List V} {tl : List V → Hp → VK → Prop} {N : List Str} (hN : N.length = 9) (hco : H c' = some (LamX.CodeO c' q)) (hT : TTf I K SI tl vs H Q) {P : TS → Prop}
    (h : ∀ (J : Tbs) (s : SV), J.T = I.T → J.B c' = some (LamX.CodeO c' q) → (∀ vs H' Q, @spOf J K (pureS s) vs H' Q CLX.E0 → tl vs H' Q) → ∃ t, P t ∧ @RS J K [] t (dFold SI f s)) :
    ∃ t, P t ∧ t { nx := fun _ H' => Q .non H', rt := Q } (L2.start N (vs ++ [.ref f])) H := by
  obtain ⟨F, α, δ, tr, fi, si, sL, val, ⟨hsub, hnt, htb, hB⟩, hda, ⟨hs, hg, hz⟩, hv, hl, hQ⟩ := hT
  have sF : Same F (upd F c' (LamX.CodeO c' q)) := fun a o e => by
    by_cases ha : a = c'
    · subst ha
      rw [hsub _ _ e] at hco
      rw [upd_same]
      exact hco.symm
    · rw [upd_ne ha]
      exact e
  have sub1 : Sub (upd F c' (LamX.CodeO c' q)) H := fun a o e => by
    by_cases ha : a = c'
    · subst ha
      rw [upd_same] at e
      rw [hco]
      exact e
    · rw [upd_ne ha] at e
      exact hsub _ _ e
  have nt1 : ∀ a o, upd F c' (LamX.CodeO c' q) a = some o → NT o := nt_upd hnt (codeO_nt _ _)
  obtain ⟨t, ht, hr⟩ := h ⟨I.T, upd F c' (LamX.CodeO c' q)⟩ sL rfl upd_same (fun vs H' Q hsp => hl vs H' Q (by
    obtain ⟨F', os, Φ, ⟨a1, a2, a3, a4⟩, rest⟩ := hsp
    exact ⟨F', os, Φ, ⟨a1, a2, a3, sF.trans a4⟩, rest⟩))
  letI J : Tbs := ⟨I.T, upd F c' (LamX.CodeO c' q)⟩
  have hda' : DA K (upd F c' (LamX.CodeO c' q)) (vs ++ [.ref f]) ([δ tr.d, .fn fi] ++ [.fn f]) := (hda.up sF).app (.one (.fn f))
  have R := @rep_start J K N H _ _ _ sub1 nt1 htb (Same.refl _) hda' (List.replicate 6 none) (List.replicate 6 none) rfl (fun i o e => by
    have := List.mem_of_getElem? e
    rw [List.mem_replicate] at this
    cases this.2)
  have e1 : (vs ++ [V.ref f]).map some ++ List.replicate 6 none = L2.start N (vs ++ [.ref f]) := by
    unfold L2.start
    have := hda'.1
    rw [hN, this]
    rfl
  rw [e1] at R
  have fin : ∀ (v : V) (σ' : L2.St) (H' F' : Hp) (ρ' : DL.Env) (d : D), Same (upd F c' (LamX.CodeO c' q)) F' → @Rep J K [] ⟨H, upd F c' (LamX.CodeO c' q), vs ++ [.ref f], fun _ => False⟩ σ' H' F' ρ' → Dr K F' v d → d = val tr → Q v H' := by
    intro v σ' H' F' ρ' d s R' hd ed
    subst ed
    -- the code object is kept for good only here
    let F2 : Hp := fun a => if a = c' then F a else F' a
    have f2 : ∀ a, a ≠ c' → F2 a = F' a := fun a n => if_neg n
    have f2c : F2 c' = F c' := if_pos rfl
    have s2 : Same F F2 := fun a o e => by
      by_cases ha : a = c'
      · subst ha; rw [f2c]; exact e
      · rw [f2 a ha]; exact s _ _ (sF _ _ e)
    have sub2 : Sub F2 F' := fun a o e => by
      by_cases ha : a = c'
      · subst ha; rw [f2c] at e; exact s _ _ (sF _ _ e)
      · rw [f2 a ha] at e; exact e
    refine hQ F2 H' v s2 ⟨fun a o e => R'.sub _ _ (sub2 a o e), fun a o e => R'.nt a o (sub2 a o e), R'.tabs⟩ (fun a o e nz => R'.keep a o e (fun z => z) nz) (fun a o e => R'.dom a o e) (fun a o e => ?_) (hd.less fun a o e nc => ?_)
    · by_cases ha : a = c'
      · subst ha; rw [f2c] at e; exact .inl e
      · rw [f2 a ha] at e
        rcases R'.new a o e with z | z | z
        · have z : upd F c' (LamX.CodeO c' q) a = some o := z
          rw [upd_ne ha] at z
          exact .inl z
        · exact .inr z
        · exact z.elim
    · have ha : a ≠ c' := fun z => by
        subst z
        rw [s _ _ upd_same] at e
        exact nc _ _ (Option.some.inj e).symm
      rw [f2 a ha]
      exact e
  exact ⟨t, ht, hr _ _ H _ _ ⟨fun _ => False, fun d _ => d = val tr, fun _ => False, fun _ => False⟩ _ R (fold_go hs hg hz hv fun _ => rfl) (fun _ _ _ _ _ _ z => z.elim) fin (fun _ _ _ _ _ _ z => z.elim) (fun _ _ _ _ _ _ z => z.elim)⟩
/-! ### folded(tree, inner_of, lambda ..) -/
def freeB (so scope : Scope) : Bool := scope.names.all fun y => !decide (y.2 = .free) || decide (so.names.lookup y.1 = some .cell) || decide (so.names.lookup y.1 = some .free)
theorem free_by {so scope : Scope} (h : freeB so scope = true) : ∀ y ∈ scope.names, y.2 = .free → so.names.lookup y.1 = some .cell ∨ so.names.lookup y.1 = some .free := fun y hy e => by
  have := List.all_eq_true.mp h y hy
  simp only [Bool.or_eq_true, Bool.not_eq_true', decide_eq_false_iff_not, decide_eq_true_eq] at this
  rcases this with (z | z) | z
  · exact absurd e z
  · exact .inl z
  · exact .inr z
def dGive (SI : Addr → Option SV) (js : List Nat) (Lam : List D → SV) (Ta : DLs) : DE := fun ρ Φ => Ta ρ fun ds ρ1 => ∃ (α : Type) (δ : α → D) (t : Tr α) (fi : Addr) (si : SV) (val : Tr α → D) (caps : List D), ds = [δ t.d, .fn fi] ∧ (SI fi = some si ∧ Good si (mapT δ t) ∧ sz t ≤ 1000000) ∧
  (js.map fun j => ρ1[j]?) = caps.map (fun d => some (some (OV.d d))) ∧ (∀ s ∈ pre t, ∀ Φ' : D → Prop, Φ' (val s) → Lam caps [δ s.d, .lst (s.ks.map val)] Φ') ∧ Φ (val t) ρ1
theorem give_at {SI : Addr → Option SV} {js : List Nat} {Lam : List D → SV} {Ta : DLs} {ρ : DL.Env} {Φ : D → DL.Env → Prop} {α : Type} (ρ1 : DL.Env) (δ : α → D) (t : Tr α) (fi : Addr) (si : SV) (val : Tr α → D) (caps : List D) (hA : ∀ Ψ : List D → DL.Env → Prop, Ψ [δ t.d, .fn fi] ρ1 → Ta ρ Ψ)
    (hs : SI fi = some si) (hg : Good si (mapT δ t)) (hz : sz t ≤ 1000000) (hc : (js.map fun j => ρ1[j]?) = caps.map (fun d => some (some (OV.d d)))) (hv : ∀ s ∈ pre t, ∀ Φ' : D → Prop, Φ' (val s) → Lam caps [δ s.d, .lst (s.ks.map val)] Φ') (hΦ : Φ (val t) ρ1) : dGive SI js Lam Ta ρ Φ :=
  hA _ ⟨α, δ, t, fi, si, val, caps, rfl, ⟨hs, hg, hz⟩, hc, hv, hΦ⟩
/-- the lambda's names at its entry -/
def startL (ds caps : List D) (m : Nat) : DL.Env := ds.map (fun d => some (.d d)) ++ (caps.map (fun d => some (.d d)) ++ List.replicate m none)
theorem re_give [I : Tbs] {K : PySem.W.Frag} {ps : List Nat} {SI : Addr → Option SV} {t : TA} {tb : TE} {Tb : DE} {Ta : DLs} {js : List Nat} {N : List Str} {Lam : List D → SV} {nl : Nat} (h : RV K ps t Ta) (hb : RE K [] tb Tb)
    (hsem : ∀ caps ds Φ, caps.length = js.length → Lam caps ds Φ → ds.length = nl ∧ Tb (startL ds caps (N.length - nl - js.length)) (fun d _ => Φ d)) :
    RE K ps (CLX.tGive Tbs.T (TTf I K SI) t fun σ vs HZ1 Q => tb (NdefX.startF N vs (js.map (NdefX.slotAt σ))) HZ1 Q) (dGive SI js Lam Ta) := by
  intro b σ H F ρ Φ Q R hT k
  refine h b σ H F ρ _ _ R hT fun vs H1 F1 ρ1 ds s1 R1 hda ⟨α, δ, tr, fi, si, val, caps, e, hsi, hcap, hval, hΦ⟩ => ⟨R1.tabs, fun H2 mk => ?_⟩
  subst e
  have hcl : caps.length = js.length := by
    have := congrArg List.length hcap
    rw [List.length_map, List.length_map] at this
    exact this.symm
  refine ⟨F1, α, δ, tr, fi, si, Lam caps, val, ⟨fun a o e => mk.ext a o (R1.sub a o e) (R1.nt a o e), R1.nt, mk.tabs, R1.grow.b⟩, hda, hsi, hval, fun vs' H' Q' hsp => ?_, fun F' H' v s ⟨sub, nt, tb'⟩ keep dom new hd => ?_⟩
  · obtain ⟨F', os, Φ', ⟨a1, a2, a3, a4⟩, ha, ⟨ds', e, hS⟩, hq⟩ := hsp
    subst e
    obtain ⟨hl, hTb⟩ := hsem caps ds' _ hcl hS
    have hDA : DA K F' vs' ds' := ⟨by have := ha.len; rwa [List.length_map] at this, fun i v d e1 e2 => ha.ok i v (.d d) e1 (by rw [List.getElem?_map, e2]; rfl)⟩
    have R2 := @rep_start I K N H' F' vs' ds' a1 a2 a3 (R1.grow.b.trans a4) hDA (js.map (NdefX.slotAt σ) ++ List.replicate (N.length - nl - js.length) none) (caps.map (fun d => some (.d d)) ++ List.replicate (N.length - nl - js.length) none)
      (by rw [List.length_append, List.length_append, List.length_map, List.length_map, hcl, List.length_replicate, List.length_replicate]) (fun i o e => by
        by_cases hi : i < caps.length
        · rw [List.getElem?_append_left (by rw [List.length_map]; exact hi), List.getElem?_map] at e
          obtain ⟨d, hd, e⟩ := Option.map_eq_some_iff.mp e
          have e := Option.some.inj e
          subst e
          have hj := List.getElem?_eq_getElem (show i < js.length by omega)
          have hc := congrArg (fun l => l[i]?) hcap
          simp only [List.getElem?_map, hj, hd, Option.map_some] at hc
          obtain ⟨v, g1, g2⟩ := R1.slot _ _ (Option.some.inj hc)
          refine ⟨d, v, rfl, ?_, Dr.up a4 g2⟩
          rw [List.getElem?_append_left (by rw [List.length_map]; omega), List.getElem?_map, hj, Option.map_some]
          unfold NdefX.slotAt
          rw [g1]
        · rw [List.getElem?_append_right (by rw [List.length_map]; omega)] at e
          have := List.mem_of_getElem? e
          rw [List.mem_replicate] at this
          cases this.2)
    have e1 : NdefX.startF N vs' (js.map (NdefX.slotAt σ)) = vs'.map some ++ (js.map (NdefX.slotAt σ) ++ List.replicate (N.length - nl - js.length) none) := by
      unfold NdefX.startF
      rw [List.length_map, hDA.1, hl]
    rw [e1]
    refine hb _ _ H' F' _ _ Q' R2 hTb fun v H'' F'' ρ'' d s R'' hd hΦ => ?_
    exact hq F'' H'' v d _ s ⟨R''.sub, R''.nt, R''.tabs⟩ (fun a o e _ nz => R''.keep a o e (fun z => z) nz) R''.dom (fun a o e => (R''.new a o e).elim .inl fun z => z.elim (fun z => .inr (.inl z)) fun z => z.elim) rfl (fun i o o' v e1 ho => by
      rw [List.getElem?_map] at e1
      obtain ⟨d, _, rfl⟩ := Option.map_eq_some_iff.mp e1
      cases ho) hd hΦ
  · refine k v H' F' ρ1 _ (s1.trans s) (R1.grownT (fun a o e nz => keep a o (mk.ext a o e nz) nz) (fun a o e => (mk.dom a o e).elim fun o1 e1 => dom a o1 e1) s sub (fun a o e => (new a o e).elim .inl fun z => .inr ?_) nt tb') hd hΦ
    cases q : H1 a with
    | none => rfl
    | some u =>
      obtain ⟨u', e'⟩ := mk.dom a u q
      rw [z] at e'
      cases e'
end FD
/-! Dict comprehensions, list(d), sorted(d), == of nested data. -/
namespace DL
open PySem PySem.Spec PyProof.Rows L2
def dDc (Ti : DLs) (G : DG) (Tt : DT) (Tk Tv : DE) (vs : List Nat) : DDs := fun ρ Φ => Ti ρ fun ds ρ1 => ∃ W : Nat → List (Key × D) → DL.Env → Prop, W 0 [] (wipeD ρ1 vs) ∧
  (∀ k x acc ρ, ds[k]? = some x → W k acc ρ → G x ρ fun ρ2 => Tt ρ2 fun c ρ3 => if c = true then Tk ρ3 fun y ρ4 => Tv ρ4 fun z ρ5 => ∃ key, keyD y = some key ∧ acc.length < sizeLine ∧ W (k + 1) (putD acc key z) (wipeD ρ5 vs) else W (k + 1) acc (wipeD ρ3 vs)) ∧
  ∀ acc ρ, W ds.length acc ρ → Φ acc (restore ρ ρ1 vs)
section
variable [Tbs] {K : PySem.W.Frag} {ps : List Nat}
theorem rd_dc {js : List Nat} {wi : TI} {g : TG} {tt : TT} {tk tv : TE} {vs : List Nat} {Ti : DLs} {G : DG} {Tt : DT} {Tk Tv : DE} (hi : RI K ps wi Ti) (hg : RG K ps js g G) (ht : RT K ps tt Tt) (hk : RE K ps tk Tk) (he : RE K ps tv Tv) (hv : ∀ v ∈ vs, v ∉ ps := by decide) (hj : ∀ j ∈ js, j ∈ vs := by decide) :
    RD K ps (tDc wi g tt tk tv vs) (dDc Ti G Tt Tk Tv vs) := by
  intro b σ H F ρ Φ Q R0 hT k
  refine hi b σ H F ρ _ _ R0 hT fun J H1 F1 ρ1 ds s1 R1 hw hT => fun p hp => ?_
  obtain ⟨Gd, Y, hwk, hG, hY⟩ := hw
  obtain ⟨W, w0, wt, wd⟩ := hT
  obtain ⟨hF1, h01, _⟩ := R1.fresh hp
  have n1 : ¬ Owned σ ρ1 p := fun z => by
    obtain ⟨_, _, o, e⟩ := R1.owned z
    rw [hp] at e
    cases e
  let Pv : Nat → Hp → Prop := fun i H' => ∃ F' ρ' acc xs, Same F1 F' ∧ Rep K ps b (wipe σ vs) H' F' ρ' ∧ H' p = some (.dK xs) ∧ DM K F' xs acc ∧ F' p = none ∧ ¬ Owned (wipe σ vs) ρ' p ∧ W i acc ρ'
  refine ⟨fun i m H' => m = ds.length - i ∧ i ≤ ds.length ∧ Pv i H', ⟨ds.length, by simp, Nat.zero_le _, F1, _, [], [], Same.refl F1, (R1.block hv).put hp, upd_same, .nil, hF1, fun z => n1 (owned_block z), w0⟩, ?_⟩
  rintro i m H2 ⟨rfl, hle, F2, ρ2, acc, xs, s, R2, ex, hx, hF2, n2, hW⟩
  have hgd := hG H2 F2 s R2.sub
  by_cases hin : i < ds.length
  · refine .inr ⟨hwk.goes i H2 hin hgd, Pv (i + 1), fun H' p' => ⟨ds.length - (i + 1), by omega, rfl, hin, p'⟩, fun x H3 y => ?_⟩
    obtain ⟨d, F3, hd, hdr, hy⟩ := hY i H2 x H3 (hwk.yields i H2 x H3 hin hgd y) hin F2 s R2.sub
    have st : Rep K ps b (wipe σ vs) H3 F3 ρ2 ∧ H3 p = some (.dK xs) ∧ F3 p = none ∧ Same F2 F3 := by
      rcases hy with ⟨rfl, rfl⟩ | ⟨q, o, hq, hqn, rfl, rfl⟩
      · exact ⟨R2, ex, hF2, Same.refl _⟩
      · have nq : p ≠ q := ne_of_none ex hq
        exact ⟨R2.alloc hq hqn, (upd_ne nq).trans ex, (upd_ne nq).trans hF2, SX.same_upd (R2.fresh hq).1⟩
    obtain ⟨R3, ex3, hF3, s3⟩ := st
    refine hg.fr R3 hdr (wt i d acc ρ2 hd hW) fun σ4 H4 F4 ρ4 s4 f4 R4 o4 w4 hT => ?_
    have hwp : wipe σ4 vs = wipe σ vs := by rw [w4 vs hj, wipe_wipe]
    obtain ⟨ex4, hF4⟩ := f4.loose R3 ex3 hF3 n2
    have n4 : ¬ Owned σ4 ρ4 p := fun z => (o4 p z).elim n2 fun h => by rw [ex3] at h; cases h
    refine ⟨hwp, ht.fr R4 hT fun c H5 F5 ρ5 s5 f5 R5 o5 hT => ?_⟩
    obtain ⟨ex5, hF5⟩ := f5.loose R4 ex4 hF4 n4
    have n5 : ¬ Owned σ4 ρ5 p := fun z => (o5 p z).elim n4 fun h => by rw [ex4] at h; cases h
    have s15 : Same F1 F5 := (((s.trans s3).trans s4).trans s5)
    have hx5 := (((hx.up s3).up s4).up s5)
    cases c with
    | false =>
      refine ⟨F5, wipeD ρ5 vs, acc, xs, s15, ?_, ex5, hx5, hF5, ?_, hT⟩
      · have := R5.block hv
        rwa [hwp] at this
      · intro z
        rw [← hwp] at z
        exact n5 (owned_block z)
    | true =>
      refine hk.fr R5 hT fun u H6 F6 ρ6 e s6 f6 R6 o6 hd6 hT => ?_
      obtain ⟨ex6, hF6⟩ := f6.loose R5 ex5 hF5 n5
      have n6 : ¬ Owned σ4 ρ6 p := fun z => (o6 p z).elim n5 fun h => by rw [ex5] at h; cases h
      refine he.fr R6 hT fun u7 H7 F7 ρ7 e7 s7 f7 R7 o7 hd7 hT => ?_
      obtain ⟨ex7, hF7⟩ := f7.loose R6 ex6 hF6 n6
      have n7 : ¬ Owned σ4 ρ7 p := fun z => (o7 p z).elim n6 fun h => by rw [ex6] at h; cases h
      obtain ⟨key, hky, hz, hT⟩ := hT
      have hx7 := (hx5.up s6).up s7
      refine ⟨xs, key, keyD_ok hd6 hky, ex7, by rw [hx7.len]; exact hz, F7, wipeD ρ7 vs, putD acc key e7, putK xs key u7, (s15.trans s6).trans s7, ?_, upd_same, hx7.put hd7, hF7, ?_, hT⟩
      · have := (R7.poke (o := .dK (putK xs key u7)) hF7 h01 n7 ex7).block hv
        rwa [hwp] at this
      · intro z
        rw [← hwp] at z
        exact n7 (owned_block z)
  · have e : i = ds.length := by omega
    subst e
    refine .inl ⟨hwk.stops H2 hgd, ?_⟩
    have Ru := R1.unblock s R2 hv
    refine k p xs H2 F2 _ acc (s1.trans s) Ru ⟨hF2, h01, fun i o e ho z => ?_⟩ ex hx (wd acc ρ2 hW)
    rcases restore_some e with ⟨_, d, rfl, _⟩ | ⟨h1, h2⟩
    · cases ho
    · exact n2 ⟨i, o, h2, ho, by rw [wipe_get h1]; exact z⟩
/-! ### list(d), sorted(d) -/
def kyD : Key → D
  | .inl i => .int i
  | .inr x => .str x
theorem kyD_ok {F : Hp} (k : Key) : Dr K F (kV k) (kyD k) := by
  cases k with
  | inl i => exact .int i
  | inr x => exact .str x
theorem keys_da {F : Hp} {xs : List (Key × V)} {ds : List (Key × D)} (h : xs.map (·.1) = ds.map (·.1)) : DA K F (xs.map fun kv => kV kv.1) (ds.map fun kv => kyD kv.1) := by
  have e1 : (xs.map fun kv => kV kv.1) = (xs.map (·.1)).map kV := by rw [List.map_map]; rfl
  have e2 : (ds.map fun kv => kyD kv.1) = (ds.map (·.1)).map kyD := by rw [List.map_map]; rfl
  rw [e1, e2, h]
  generalize ds.map (·.1) = ks
  induction ks with
  | nil => exact .nil
  | cons k ks ih => exact .cons (kyD_ok k) ih
def oListD (ds : List D) (Φ : List D → Prop) : Prop := match ds with
  | [.dct ks] => Φ (ks.map fun kv => kyD kv.1)
  | _ => False
theorem rcl_listD : RCL K ps (fun xs H Q => ∃ (a : Addr) (kvs : List (Key × V)), xs = [.ref a] ∧ Rd H a (.dK kvs) ∧ ∀ p, H p = none → Q (.ref p) (upd H p (.lst (kvs.map fun kv => kV kv.1)))) oListD := by
  intro b σ H F ρ xs ds Φ Q R h hT k
  match ds, hT with
  | [.dct ks], hT =>
    obtain ⟨v, r, rfl, h1, h2⟩ := h.inv
    rw [h2.inv_nil]
    obtain ⟨a, ys, rfl, ea, ha⟩ := h1.inv_dct
    exact ⟨a, ys, rfl, Rd.of (R.sub _ _ ea), fun q hq => k q _ _ F _ (Same.refl F) (R.put hq) (R.loose hq) upd_same (keys_da ha.1) hT⟩
def oSortD (ds : List D) (Φ : List D → Prop) : Prop := match ds with
  | [.dct ks] => ∃ ss : List Str, ks.map (·.1) = ss.map Sum.inr ∧ ss.length < 64 ∧ ∀ ys : List Str, ys.Perm ss → sortedS ys = true → Φ (ys.map .str)
  | _ => False
theorem strs_da {F : Hp} (ys : List Str) : DA K F (ys.map V.str) (ys.map .str) := by
  induction ys with
  | nil => exact .nil
  | cons y ys ih => exact .cons (.str y) ih
theorem rcl_sortD : RCL K ps (fun xs H Q => ∃ (a : Addr) (kvs : List (Key × V)) (ks : List Str), xs = [.ref a] ∧ Rd H a (.dK kvs) ∧ kvs.map (·.1) = ks.map Sum.inr ∧ ks.length < 64 ∧
    ∀ ys p, ys.Perm ks → sortedS ys = true → H p = none → Q (.ref p) (upd H p (.lst (ys.map V.str)))) oSortD := by
  intro b σ H F ρ xs ds Φ Q R h hT k
  match ds, hT with
  | [.dct ks], ⟨ss, e, h64, hT⟩ =>
    obtain ⟨v, r, rfl, h1, h2⟩ := h.inv
    rw [h2.inv_nil]
    obtain ⟨a, ys, rfl, ea, ha⟩ := h1.inv_dct
    exact ⟨a, ys, ss, rfl, Rd.of (R.sub _ _ ea), ha.1.trans e, h64, fun zs q hp hs hq => k q _ _ F _ (Same.refl F) (R.put hq) (R.loose hq) upd_same (strs_da zs) (hT zs hp hs)⟩
/-- list(d), sorted(d) of the slot's dict -/
def dSortS (i : Nat) : DLs := fun ρ Φ => ∃ ks, peek ρ i = some (.dct ks) ∧ oSortD [.dct ks] fun l => Φ l ρ
theorem rl_sortS {i : Nat} : RL K ps (tCB (fun xs H Q => ∃ (a : Addr) (kvs : List (Key × V)) (ks : List Str), xs = [.ref a] ∧ Rd H a (.dK kvs) ∧ kvs.map (·.1) = ks.map Sum.inr ∧ ks.length < 64 ∧
    ∀ ys p, ys.Perm ks → sortedS ys = true → H p = none → Q (.ref p) (upd H p (.lst (ys.map V.str)))) (tCons (tVar i) tNil)) (dSortS i) := by
  intro b σ H F ρ Φ Q R0 hT k
  obtain ⟨ks, hp, ss, e, h64, hT⟩ := hT
  obtain ⟨v, hv⟩ := slot_some R0 (peek_some hp)
  obtain ⟨a, xs, rfl, ea, ha⟩ := peek_dct R0 hp hv
  exact ⟨_, hv, a, xs, ss, rfl, Rd.of ea, ha.1.trans e, h64, fun zs q hp hs hq => k q _ _ F ρ _ (Same.refl F) (R0.put hq) (R0.loose hq) upd_same (strs_da zs) (hT zs hp hs)⟩
/-! ### == of nested data -/
mutual
def toPy : D → Option PyData
  | .non => some .none
  | .bl b => some (.bool b)
  | .int i => some (.int i)
  | .str x => some (.str x)
  | .lst l => (toPys l).map .list
  | .tup l => (toPys l).map .tuple
  | _ => none
def toPys : List D → Option (List PyData)
  | [] => some []
  | d :: l => match toPy d, toPys l with
    | some p, some q => some (p :: q)
    | _, _ => none
end
mutual
theorem toPy_ok {F H : Hp} (s : Sub F H) : ∀ {d : D} {v : V} {p : PyData}, Dr K F v d → toPy d = some p → Dp K H v p
  | .non, v, p, h, e => by rw [toPy] at e; cases e; rw [h.inv_non]; exact .non
  | .bl b, v, p, h, e => by rw [toPy] at e; cases e; rw [h.inv_bl]; exact .bl b
  | .int i, v, p, h, e => by rw [toPy] at e; cases e; rw [h.inv_int]; exact .int i
  | .str x, v, p, h, e => by rw [toPy] at e; cases e; rw [h.inv_str]; exact .str x
  | .lst l, v, p, h, e => by
    rw [toPy] at e
    obtain ⟨q, hq, rfl⟩ := Option.map_eq_some_iff.mp e
    obtain ⟨a, xs, rfl, ea, ha⟩ := h.inv_lst
    exact .lst (SqL.of (s _ _ ea)) (toPys_ok s ha hq)
  | .tup l, v, p, h, e => by
    rw [toPy] at e
    obtain ⟨q, hq, rfl⟩ := Option.map_eq_some_iff.mp e
    obtain ⟨a, xs, rfl, ea, ha⟩ := h.inv_tup
    exact .tup (sqT_same s ea) (toPys_ok s ha hq)
  | .ty _, v, p, h, e => by rw [toPy] at e <;> first | cases e | (intros; contradiction)
  | .fn _, v, p, h, e => by rw [toPy] at e <;> first | cases e | (intros; contradiction)
  | .scr _, v, p, h, e => by rw [toPy] at e <;> first | cases e | (intros; contradiction)
  | .dct _, v, p, h, e => by rw [toPy] at e <;> first | cases e | (intros; contradiction)
  | .obj _ _, v, p, h, e => by rw [toPy] at e <;> first | cases e | (intros; contradiction)
theorem toPys_ok {F H : Hp} (s : Sub F H) : ∀ {ds : List D} {xs : List V} {ps : List PyData}, DA K F xs ds → toPys ds = some ps → DpAll K H xs ps
  | [], xs, ps, h, e => by rw [toPys] at e; cases e; rw [h.inv_nil]; exact .nil
  | d :: ds, xs, ps, h, e => by
    obtain ⟨v, r, rfl, h1, h2⟩ := h.inv
    rw [toPys] at e
    split at e
    · rename_i p q hp hq
      cases e
      exact .cons (toPy_ok s h1 hp) (toPys_ok s h2 hq)
    · cases e
end
def oEqP (neg : Bool) : DO := fun d e Φ => ∃ p q, toPy d = some p ∧ toPy e = some q ∧ SeqAt.shaped p = true ∧ SeqAt.shaped q = true ∧ Φ (.bl (if neg then !PyData.eqv p q else PyData.eqv p q))
theorem ro_eqD : RO K ps (rEqD K) (oEqP false) := by
  intro b σ H F ρ x y d e Φ Q R h1 h2 hT k
  obtain ⟨p, q, e1, e2, s1, s2, hT⟩ := hT
  exact ⟨p, q, toPy_ok R.sub h1 e1, toPy_ok R.sub h2 e2, s1, s2, k _ H F _ (Same.refl F) R (.bl _) hT⟩
theorem ro_neD : RO K ps (rNeD K) (oEqP true) := by
  intro b σ H F ρ x y d e Φ Q R h1 h2 hT k
  obtain ⟨p, q, e1, e2, s1, s2, hT⟩ := hT
  exact ⟨p, q, toPy_ok R.sub h1 e1, toPy_ok R.sub h2 e2, s1, s2, k _ H F _ (Same.refl F) R (.bl _) hT⟩
end
@[simp] theorem oListD_ (ks : List (Key × D)) (Φ : List D → Prop) : oListD [.dct ks] Φ = Φ (ks.map fun kv => kyD kv.1) := Eq.trans rfl rfl
@[simp] theorem oSortD_ (ks : List (Key × D)) (Φ : List D → Prop) : oSortD [.dct ks] Φ = ∃ ss : List Str, ks.map (·.1) = ss.map Sum.inr ∧ ss.length < 64 ∧ ∀ ys : List Str, ys.Perm ss → sortedS ys = true → Φ (ys.map .str) := Eq.trans rfl rfl
@[simp] theorem dSortS_ (i : Nat) (ρ : DL.Env) (Φ : List D → DL.Env → Prop) : dSortS i ρ Φ = ∃ ks, peek ρ i = some (.dct ks) ∧ oSortD [.dct ks] fun l => Φ l ρ := Eq.trans rfl rfl
@[simp] theorem oEqP_ (neg : Bool) (d e : D) (Φ : D → Prop) : oEqP neg d e Φ = ∃ p q, toPy d = some p ∧ toPy e = some q ∧ SeqAt.shaped p = true ∧ SeqAt.shaped q = true ∧ Φ (.bl (if neg then !PyData.eqv p q else PyData.eqv p q)) := Eq.trans rfl rfl
theorem dc_inv {Ti : DLs} {G : DG} {Tt : DT} {Tk Tv : DE} {vs : List Nat} {ρ : DL.Env} {Φ : List (Key × D) → DL.Env → Prop} (ds : List D) (ρ1 : DL.Env) (W : Nat → List (Key × D) → DL.Env → Prop) (hI : ∀ Ψ : List D → DL.Env → Prop, Ψ ds ρ1 → Ti ρ Ψ) (h0 : W 0 [] (wipeD ρ1 vs))
    (hs : ∀ k x acc ρ, ds[k]? = some x → W k acc ρ → G x ρ fun ρ2 => Tt ρ2 fun c ρ3 => if c = true then Tk ρ3 fun y ρ4 => Tv ρ4 fun z ρ5 => ∃ key, keyD y = some key ∧ acc.length < sizeLine ∧ W (k + 1) (putD acc key z) (wipeD ρ5 vs) else W (k + 1) acc (wipeD ρ3 vs))
    (hd : ∀ acc ρ, W ds.length acc ρ → Φ acc (restore ρ ρ1 vs)) : dDc Ti G Tt Tk Tv vs ρ Φ := hI _ ⟨W, h0, hs, hd⟩
end DL
/-! The end of a law whose program makes lambdas. -/
namespace FE
open PySem PySem.Spec PyProof.Rows L2 DL
/-- of a def: its code object and the empty table of this -/
def TabAt (mg : Str → Option Value) (h : Heap) (x : Str) : Prop := ∃ a o fd c P, mg x = some (.ref a) ∧ h.get? a = some o ∧ o.data = .func fd ∧ fd.code = .ref c ∧ h.IsCode c P #[] ∧ h.TableAt c P #[]
theorem walk_tab {l : PySem.W.OpenLaw} {n k : Nat} {q : Program} {loose : List Str} {XP : (Str → Option Value) → Heap → Prop} {YP : World → Heap → Prop} {d : DefRec} {K : Params → PySem.W.Frag} {CX : World → CXT} {x : Str} (xs : List Str)
    (hn : l.most = some n) (hn2 : n ≤ sizeLine) (hdf : d.params.defaults = []) (hr : Room k callerA) (hx : (xs.all fun x => (recsOf q).any fun e => e.name == x) = true) (hY : ∀ (w : World) (h : Heap), YP w h → (K w.params).In h)
    (F : ∀ (w : World) (mg : Str → Option Value) (fa : Addr) (h : Heap), (K w.params).In h → h.Ns mainGlobals mg → mg d.name = some (.ref fa) → (∀ x ∈ xs, TabAt mg h x) → LamX.LawAtS l w (K w.params) (CX w) k n x mg fa h)
    (hCX : ∀ (w : World) (H : Hp) (s : Shared) (e : Value) (s' : Shared), CX w [] H s (fun _ _ _ => False) e s' → False) : PySem.W.WalkO q loose XP YP l.row.toRowW d [] (fun f vs => PySem.call f vs) := by
  refine Att.attach_callB hn hdf fun w s₀ s₁ mg mb fa o pm cd doc a vs ns G Y ho hd hcd hmg hobj hints hlen hbits hg => ?_
  have inK := hY w _ Y
  have tabs : ∀ x ∈ xs, TabAt mg s₁.heap x := fun x hm => by
    obtain ⟨r, r1, r2⟩ := List.any_eq_true.mp (List.all_eq_true.mp hx x hm)
    have t := G.T.tab r r1
    rw [beq_iff_eq.mp r2] at t
    exact t
  obtain ⟨fd, cs, sp, a1, a2, a3, a4, a5, a6⟩ := F w mg fa _ inK G.T.g hmg tabs
  exact LamX.law_callTs inK G.T.g G.T.b G.T.builtins G.T.nolimit hg a1 a2 a3 G.T.bmain hobj hints (Nat.le_trans hlen hn2) hr a6 a4 (fun H z1 z2 => a5 H a ns hlen hbits z1 z2) fun H e s' => hCX w H s₁ e s'
theorem tab_at {K : PySem.W.Frag} {h : Heap} {mg : Str → Option Value} {x : Str} {f c P : Addr} {oc e : Value} {od dd : Option Addr} {fd : FuncData} {sl sl' : Array (Option Value)} {vs : Array Value} (inK : K.In h) (hm : mg x = some (.ref f)) (lf : K.lookup f = some ⟨oc, od, .func fd, sl⟩) (hc : fd.code = .ref c)
    (lc : K.lookup c = some ⟨e, dd, .fields vs, sl'⟩) (hp : vs[11]? = some (.ref P)) (t : TabAt mg h x) : h.get? P = some { cls := .none, data := .fields #[] } ∧ PySem.W.CodeHd h c P := by
  obtain ⟨a, o, fd', c', P', t1, t2, t3, t4, t5, t6⟩ := t
  rw [hm] at t1
  cases t1
  rw [inK _ _ lf] at t2
  cases t2
  cases t3
  rw [hc] at t4
  cases t4
  have t6' := t6
  obtain ⟨⟨o, vs', u1, u2, u3, u4⟩, u5⟩ := t6
  rw [inK _ _ lc] at u1
  cases u1
  cases u3
  rw [hp] at u4
  cases u4
  exact ⟨u5, PySem.W.CodeHd.of t5 t6'⟩
theorem law_entry {K : PySem.W.Frag} {T0 : List (Addr × Str)} {sL : NB.SV} {a : Addr} {ns : List Int} {H : Hp} (hT : ∀ p ∈ T0, H p.1 = some (.tbl #[])) (hS : SqL K H a (ns.map V.int)) (hs : ∀ Φ : D → Prop, Φ (.bl true) → sL [.scr ns] Φ) :
    @spOf ⟨T0, fun _ => none⟩ K (pureS sL) [.ref a] H (fun v _ => v = .bl true) fun _ _ _ => False := by
  have core : ∀ F : Hp, Sub F H → (∀ b o, F b = some o → NT o) → SqL K F a (ns.map V.int) → @spOf ⟨T0, fun _ => none⟩ K (pureS sL) [.ref a] H (fun v _ => v = .bl true) fun _ _ _ => False := fun F sub nt hF => by
    refine ⟨F, [.d (.scr ns)], fun d _ => d = .bl true, ⟨sub, nt, fun p hp => LamX.TabS.nil (hT p hp), fun b o e => nomatch e⟩, ⟨rfl, fun i v o e1 e2 => ?_, fun i j o u v n e1 o1 => ?_⟩, ⟨[.scr ns], rfl, hs _ rfl⟩, fun F' H' v d os' _ _ _ _ _ _ _ hd hΦ => ?_⟩
    · match i, e1, e2 with
      | 0, e1, e2 =>
        cases e1
        cases e2
        exact Dr.scr hF
      | i + 1, e1, e2 => cases e1
    · match i, e1 with
      | 0, e1 => cases e1; cases o1
      | i + 1, e1 => cases e1
    · have hΦ : d = .bl true := hΦ
      subst hΦ
      exact hd.inv_bl
  have one : ∀ o, H a = some o → NT o → ∃ F : Hp, F a = some o ∧ Sub F H ∧ ∀ b o, F b = some o → NT o := fun o e nt => by
    have q : ∀ b u, (fun b => if b = a then some o else none) b = some u → b = a ∧ u = o := fun b u eu => by
      have eu : (if b = a then some o else none) = some u := eu
      split at eu
      · exact ⟨by assumption, (Option.some.inj eu).symm⟩
      · cases eu
    exact ⟨fun b => if b = a then some o else none, if_pos rfl, fun b u eu => by rw [(q b u eu).1, (q b u eu).2]; exact e, fun b u eu => by rw [(q b u eu).2]; exact nt⟩
  rcases hS with (h | ⟨o, h⟩) | h
  · obtain ⟨F, f1, f2, f3⟩ := one _ h (fun t z => by cases z)
    exact core F f2 f3 (.inl (.inl f1))
  · obtain ⟨F, f1, f2, f3⟩ := one _ h (fun t z => by cases z)
    exact core F f2 f3 (.inl (.inr ⟨o, f1⟩))
  · exact core (fun _ => none) (fun b o e => nomatch e) (fun b o e => nomatch e) (.inr h)
end FE
/-! Contents as trees, and as data. -/
namespace CT
open PySem L2 DL
inductive Mk
  | many
  | some
  | maybe
  deriving DecidableEq
inductive Ct
  | empty
  | ty (w : Str)
  | mark (m : Mk) (c : Ct)
  | seq (ch : Bool) (cs : List Ct)
def mS : Mk → Str
  | .many => "many"
  | .some => "some"
  | .maybe => "maybe"
def sS : Bool → Str
  | true => "choice"
  | false => "row"
def kS : Ct → Str
  | .empty => "empty"
  | .ty _ => "type"
  | .mark m _ => mS m
  | .seq ch _ => sS ch
mutual
def cD : Ct → D
  | .empty => .tup [.str "empty"]
  | .ty w => .tup [.str "type", .str w]
  | .mark m c => .tup [.str (mS m), cD c]
  | .seq ch cs => .tup [.str (sS ch), .tup (cDs cs)]
def cDs : List Ct → List D
  | [] => []
  | c :: cs => cD c :: cDs cs
end
theorem cDs_map (cs : List Ct) : cDs cs = cs.map cD := by
  induction cs with
  | nil => simp [cDs]
  | cons c cs ih => simp [cDs, ih]
@[simp] theorem cD_empty : cD .empty = .tup [.str "empty"] := by rw [cD]
@[simp] theorem cD_ty (w : Str) : cD (.ty w) = .tup [.str "type", .str w] := by rw [cD]
@[simp] theorem cD_mark (m : Mk) (c : Ct) : cD (.mark m c) = .tup [.str (mS m), cD c] := by rw [cD]
@[simp] theorem cD_seq (ch : Bool) (cs : List Ct) : cD (.seq ch cs) = .tup [.str (sS ch), .tup (cs.map cD)] := by rw [cD, cDs_map]
theorem cD_tup (c : Ct) : ∃ r, cD c = .tup (.str (kS c) :: r) := by
  cases c with
  | empty => exact ⟨_, cD_empty⟩
  | ty w => exact ⟨_, cD_ty w⟩
  | mark m c => exact ⟨_, cD_mark m c⟩
  | seq ch cs => exact ⟨_, cD_seq ch cs⟩
theorem mS_ne (m : Mk) (ch : Bool) : mS m ≠ sS ch := by cases m <;> cases ch <;> decide +kernel
theorem kS_seq {ch : Bool} {c : Ct} (h : kS c = sS ch) : ∃ cs, c = .seq ch cs := by
  cases c with
  | empty => cases ch <;> exact absurd h (by decide +kernel)
  | ty w => cases ch <;> exact absurd h (by show ¬ (("type" : Str) = sS _); decide +kernel)
  | mark m c => exact absurd h (mS_ne m ch)
  | seq ch' cs =>
    have e : ch' = ch := by
      have h : sS ch' = sS ch := h
      cases ch <;> cases ch' <;> first | rfl | exact absurd h (by decide +kernel)
    exact ⟨cs, by rw [e]⟩
/-- contents over these types, n a bound of the height, each row or choice of two to L parts -/
inductive GC (ts : List Str) (L : Nat) : Nat → Ct → Prop
  | empty {n : Nat} : GC ts L (n + 1) .empty
  | ty {n : Nat} {w : Str} (h : w ∈ ts) : GC ts L (n + 1) (.ty w)
  | mark {n : Nat} {m : Mk} {c : Ct} (h : GC ts L n c) : GC ts L (n + 1) (.mark m c)
  | seq {n : Nat} {ch : Bool} {cs : List Ct} (h2 : 2 ≤ cs.length) (hl : cs.length ≤ L) (h : ∀ c ∈ cs, GC ts L n c) (hk : ∀ c ∈ cs, kS c ≠ sS ch) : GC ts L (n + 1) (.seq ch cs)
theorem GC.up {ts : List Str} {L n : Nat} {c : Ct} (h : GC ts L n c) : GC ts L (n + 1) c := by
  induction h with
  | empty => exact .empty
  | ty h => exact .ty h
  | mark _ ih => exact .mark ih
  | seq h2 hl _ hk ih => exact .seq h2 hl ih hk
theorem GC.ups {ts : List Str} {L n m : Nat} {c : Ct} (h : GC ts L n c) (hm : n ≤ m) : GC ts L m c := by
  obtain ⟨k, rfl⟩ := Nat.le.dest hm
  clear hm
  induction k with
  | zero => exact h
  | succ k ih => exact ih.up
structure Rl where
  wd : Str
  nm : Str
  ct : Ct
def rD (r : Rl) : D := .tup [.str r.wd, .str r.nm, cD r.ct]
def schD (rs : List Rl) : D := .tup (rs.map rD)
@[simp] theorem kne_1 : (("empty" : Str) == "type") = false := by decide +kernel
@[simp] theorem kns_1 : (("empty" : Str) = "type") = False := eq_false (by decide +kernel)
@[simp] theorem kne_2 : (("empty" : Str) == "many") = false := by decide +kernel
@[simp] theorem kns_2 : (("empty" : Str) = "many") = False := eq_false (by decide +kernel)
@[simp] theorem kne_3 : (("empty" : Str) == "some") = false := by decide +kernel
@[simp] theorem kns_3 : (("empty" : Str) = "some") = False := eq_false (by decide +kernel)
@[simp] theorem kne_4 : (("empty" : Str) == "maybe") = false := by decide +kernel
@[simp] theorem kns_4 : (("empty" : Str) = "maybe") = False := eq_false (by decide +kernel)
@[simp] theorem kne_5 : (("empty" : Str) == "row") = false := by decide +kernel
@[simp] theorem kns_5 : (("empty" : Str) = "row") = False := eq_false (by decide +kernel)
@[simp] theorem kne_6 : (("empty" : Str) == "choice") = false := by decide +kernel
@[simp] theorem kns_6 : (("empty" : Str) = "choice") = False := eq_false (by decide +kernel)
@[simp] theorem kne_7 : (("type" : Str) == "empty") = false := by decide +kernel
@[simp] theorem kns_7 : (("type" : Str) = "empty") = False := eq_false (by decide +kernel)
@[simp] theorem kne_8 : (("type" : Str) == "many") = false := by decide +kernel
@[simp] theorem kns_8 : (("type" : Str) = "many") = False := eq_false (by decide +kernel)
@[simp] theorem kne_9 : (("type" : Str) == "some") = false := by decide +kernel
@[simp] theorem kns_9 : (("type" : Str) = "some") = False := eq_false (by decide +kernel)
@[simp] theorem kne_10 : (("type" : Str) == "maybe") = false := by decide +kernel
@[simp] theorem kns_10 : (("type" : Str) = "maybe") = False := eq_false (by decide +kernel)
@[simp] theorem kne_11 : (("type" : Str) == "row") = false := by decide +kernel
@[simp] theorem kns_11 : (("type" : Str) = "row") = False := eq_false (by decide +kernel)
@[simp] theorem kne_12 : (("type" : Str) == "choice") = false := by decide +kernel
@[simp] theorem kns_12 : (("type" : Str) = "choice") = False := eq_false (by decide +kernel)
@[simp] theorem kne_13 : (("many" : Str) == "empty") = false := by decide +kernel
@[simp] theorem kns_13 : (("many" : Str) = "empty") = False := eq_false (by decide +kernel)
@[simp] theorem kne_14 : (("many" : Str) == "type") = false := by decide +kernel
@[simp] theorem kns_14 : (("many" : Str) = "type") = False := eq_false (by decide +kernel)
@[simp] theorem kne_15 : (("many" : Str) == "some") = false := by decide +kernel
@[simp] theorem kns_15 : (("many" : Str) = "some") = False := eq_false (by decide +kernel)
@[simp] theorem kne_16 : (("many" : Str) == "maybe") = false := by decide +kernel
@[simp] theorem kns_16 : (("many" : Str) = "maybe") = False := eq_false (by decide +kernel)
@[simp] theorem kne_17 : (("many" : Str) == "row") = false := by decide +kernel
@[simp] theorem kns_17 : (("many" : Str) = "row") = False := eq_false (by decide +kernel)
@[simp] theorem kne_18 : (("many" : Str) == "choice") = false := by decide +kernel
@[simp] theorem kns_18 : (("many" : Str) = "choice") = False := eq_false (by decide +kernel)
@[simp] theorem kne_19 : (("some" : Str) == "empty") = false := by decide +kernel
@[simp] theorem kns_19 : (("some" : Str) = "empty") = False := eq_false (by decide +kernel)
@[simp] theorem kne_20 : (("some" : Str) == "type") = false := by decide +kernel
@[simp] theorem kns_20 : (("some" : Str) = "type") = False := eq_false (by decide +kernel)
@[simp] theorem kne_21 : (("some" : Str) == "many") = false := by decide +kernel
@[simp] theorem kns_21 : (("some" : Str) = "many") = False := eq_false (by decide +kernel)
@[simp] theorem kne_22 : (("some" : Str) == "maybe") = false := by decide +kernel
@[simp] theorem kns_22 : (("some" : Str) = "maybe") = False := eq_false (by decide +kernel)
@[simp] theorem kne_23 : (("some" : Str) == "row") = false := by decide +kernel
@[simp] theorem kns_23 : (("some" : Str) = "row") = False := eq_false (by decide +kernel)
@[simp] theorem kne_24 : (("some" : Str) == "choice") = false := by decide +kernel
@[simp] theorem kns_24 : (("some" : Str) = "choice") = False := eq_false (by decide +kernel)
@[simp] theorem kne_25 : (("maybe" : Str) == "empty") = false := by decide +kernel
@[simp] theorem kns_25 : (("maybe" : Str) = "empty") = False := eq_false (by decide +kernel)
@[simp] theorem kne_26 : (("maybe" : Str) == "type") = false := by decide +kernel
@[simp] theorem kns_26 : (("maybe" : Str) = "type") = False := eq_false (by decide +kernel)
@[simp] theorem kne_27 : (("maybe" : Str) == "many") = false := by decide +kernel
@[simp] theorem kns_27 : (("maybe" : Str) = "many") = False := eq_false (by decide +kernel)
@[simp] theorem kne_28 : (("maybe" : Str) == "some") = false := by decide +kernel
@[simp] theorem kns_28 : (("maybe" : Str) = "some") = False := eq_false (by decide +kernel)
@[simp] theorem kne_29 : (("maybe" : Str) == "row") = false := by decide +kernel
@[simp] theorem kns_29 : (("maybe" : Str) = "row") = False := eq_false (by decide +kernel)
@[simp] theorem kne_30 : (("maybe" : Str) == "choice") = false := by decide +kernel
@[simp] theorem kns_30 : (("maybe" : Str) = "choice") = False := eq_false (by decide +kernel)
@[simp] theorem kne_31 : (("row" : Str) == "empty") = false := by decide +kernel
@[simp] theorem kns_31 : (("row" : Str) = "empty") = False := eq_false (by decide +kernel)
@[simp] theorem kne_32 : (("row" : Str) == "type") = false := by decide +kernel
@[simp] theorem kns_32 : (("row" : Str) = "type") = False := eq_false (by decide +kernel)
@[simp] theorem kne_33 : (("row" : Str) == "many") = false := by decide +kernel
@[simp] theorem kns_33 : (("row" : Str) = "many") = False := eq_false (by decide +kernel)
@[simp] theorem kne_34 : (("row" : Str) == "some") = false := by decide +kernel
@[simp] theorem kns_34 : (("row" : Str) = "some") = False := eq_false (by decide +kernel)
@[simp] theorem kne_35 : (("row" : Str) == "maybe") = false := by decide +kernel
@[simp] theorem kns_35 : (("row" : Str) = "maybe") = False := eq_false (by decide +kernel)
@[simp] theorem kne_36 : (("row" : Str) == "choice") = false := by decide +kernel
@[simp] theorem kns_36 : (("row" : Str) = "choice") = False := eq_false (by decide +kernel)
@[simp] theorem kne_37 : (("choice" : Str) == "empty") = false := by decide +kernel
@[simp] theorem kns_37 : (("choice" : Str) = "empty") = False := eq_false (by decide +kernel)
@[simp] theorem kne_38 : (("choice" : Str) == "type") = false := by decide +kernel
@[simp] theorem kns_38 : (("choice" : Str) = "type") = False := eq_false (by decide +kernel)
@[simp] theorem kne_39 : (("choice" : Str) == "many") = false := by decide +kernel
@[simp] theorem kns_39 : (("choice" : Str) = "many") = False := eq_false (by decide +kernel)
@[simp] theorem kne_40 : (("choice" : Str) == "some") = false := by decide +kernel
@[simp] theorem kns_40 : (("choice" : Str) = "some") = False := eq_false (by decide +kernel)
@[simp] theorem kne_41 : (("choice" : Str) == "maybe") = false := by decide +kernel
@[simp] theorem kns_41 : (("choice" : Str) = "maybe") = False := eq_false (by decide +kernel)
@[simp] theorem kne_42 : (("choice" : Str) == "row") = false := by decide +kernel
@[simp] theorem kns_42 : (("choice" : Str) = "row") = False := eq_false (by decide +kernel)
/-! ### the least number of events -/
/-- the sizes that are known -/
abbrev Sz := List (Str × Nat)
def szD (sz : Sz) : List (Key × D) := sz.map fun p => (.inr p.1, .int (p.2 : Nat))
def szL (sz : Sz) (w : Str) : Option Nat := (sz.find? fun p => decide (p.1 = w)).map (·.2)
theorem valD_sz (sz : Sz) (w : Str) : valD (szD sz) (.inr w) = (szL sz w).map fun n => .int (n : Nat) := by
  unfold valD szD szL
  induction sz with
  | nil => rfl
  | cons p sz ih =>
    rw [List.map_cons, List.find?_cons, List.find?_cons]
    by_cases h : p.1 = w
    · have h1 : decide ((Sum.inr p.1 : Key) = .inr w) = true := decide_eq_true (by rw [h])
      rw [h1, decide_eq_true h]
      rfl
    · have h1 : decide ((Sum.inr p.1 : Key) = .inr w) = false := decide_eq_false (fun z => h (Sum.inr.inj z))
      rw [h1, decide_eq_false h]
      exact ih
def szPut (sz : Sz) (w : Str) (n : Nat) : Sz := if (sz.any fun p => decide (p.1 = w)) = true then sz.map (fun p => if p.1 = w then (p.1, n) else p) else sz ++ [(w, n)]
theorem putD_sz (sz : Sz) (w : Str) (n : Nat) : putD (szD sz) (.inr w) (.int (n : Nat)) = szD (szPut sz w n) := by
  unfold putD szPut szD
  have e : ((sz.map fun p : Str × Nat => ((.inr p.1 : Key), D.int (p.2 : Nat))).any fun kv => decide (kv.1 = .inr w)) = sz.any fun p => decide (p.1 = w) := by
    rw [List.any_map]
    congr 1
    funext p
    show decide ((Sum.inr p.1 : Key) = .inr w) = decide (p.1 = w)
    by_cases h : p.1 = w
    · rw [decide_eq_true h, decide_eq_true (by rw [h])]
    · rw [decide_eq_false h, decide_eq_false (fun z => h (Sum.inr.inj z))]
  rw [e]
  split
  · rw [List.map_map, List.map_map]
    congr 1
    funext p
    show (if (Sum.inr p.1 : Key) = .inr w then ((.inr p.1 : Key), D.int (n : Nat)) else (.inr p.1, .int (p.2 : Nat))) = _
    by_cases h : p.1 = w
    · rw [if_pos (by rw [h])]
      show _ = ((.inr (if p.1 = w then (p.1, n) else p).1 : Key), D.int ((if p.1 = w then (p.1, n) else p).2 : Nat))
      rw [if_pos h]
    · rw [if_neg (fun z => h (Sum.inr.inj z))]
      show _ = ((.inr (if p.1 = w then (p.1, n) else p).1 : Key), D.int ((if p.1 = w then (p.1, n) else p).2 : Nat))
      rw [if_neg h]
  · rw [List.map_append]
    rfl
def minN : List Nat → Nat
  | [] => 0
  | [a] => a
  | a :: r => min a (minN r)
theorem minN_mem : ∀ {l : List Nat}, l ≠ [] → minN l ∈ l ∧ ∀ x ∈ l, minN l ≤ x
  | [a], _ => ⟨List.mem_singleton.mpr rfl, fun x h => by rw [List.mem_singleton.mp h]; exact Nat.le_refl _⟩
  | a :: b :: r, _ => by
    obtain ⟨h1, h2⟩ := minN_mem (l := b :: r) (by simp)
    show min a (minN (b :: r)) ∈ _ ∧ ∀ x ∈ a :: b :: r, min a (minN (b :: r)) ≤ x
    refine ⟨?_, fun x hx => ?_⟩
    · rcases Nat.le_total a (minN (b :: r)) with h | h
      · rw [Nat.min_eq_left h]
        exact List.mem_cons_self
      · rw [Nat.min_eq_right h]
        exact List.mem_cons_of_mem _ h1
    · rcases List.mem_cons.mp hx with rfl | hx
      · exact Nat.min_le_left _ _
      · exact Nat.le_trans (Nat.min_le_right _ _) (h2 x hx)
theorem min_is {l : List Nat} {m : Int} (h1 : m ∈ l.map (fun n : Nat => (n : Int))) (h2 : ∀ y ∈ l.map (fun n : Nat => (n : Int)), m ≤ y) : m = (minN l : Nat) := by
  have hl : l ≠ [] := fun z => by rw [z] at h1; cases h1
  obtain ⟨g1, g2⟩ := minN_mem hl
  obtain ⟨k, hk, rfl⟩ := List.mem_map.mp h1
  have h3 := h2 _ (List.mem_map_of_mem g1)
  have h4 := g2 k hk
  omega
theorem sum_cast (l : List Nat) : (l.map (fun n : Nat => (n : Int))).sum = (l.sum : Nat) := by
  induction l with
  | nil => rfl
  | cons a l ih =>
    rw [List.map_cons, List.sum_cons, List.sum_cons, ih]
    omega
mutual
/-- as the law reckons it: a million stands for none -/
def leastC (sz : Sz) : Ct → Nat
  | .empty => 0
  | .ty w => (szL sz w).getD 1000000
  | .mark m c => if m = .some then leastC sz c else 0
  | .seq ch cs => if ch = true then minN (leastCs sz cs) else (leastCs sz cs).sum
def leastCs (sz : Sz) : List Ct → List Nat
  | [] => []
  | c :: cs => leastC sz c :: leastCs sz cs
end
theorem leastCs_map (sz : Sz) (cs : List Ct) : leastCs sz cs = cs.map (leastC sz) := by
  induction cs with
  | nil => simp [leastCs]
  | cons c cs ih => simp [leastCs, ih]
@[simp] theorem leastC_empty (sz : Sz) : leastC sz .empty = 0 := by rw [leastC]
@[simp] theorem leastC_ty (sz : Sz) (w : Str) : leastC sz (.ty w) = (szL sz w).getD 1000000 := by rw [leastC]
@[simp] theorem leastC_mark (sz : Sz) (m : Mk) (c : Ct) : leastC sz (.mark m c) = if m = .some then leastC sz c else 0 := by rw [leastC]
@[simp] theorem leastC_seq (sz : Sz) (ch : Bool) (cs : List Ct) : leastC sz (.seq ch cs) = if ch = true then minN (cs.map (leastC sz)) else (cs.map (leastC sz)).sum := by rw [leastC, leastCs_map]
end CT
namespace K49
open PySem PySem.Spec PyProof.Rows L2 DL
def top (i : Nat) : Stmt := PySem.Challenge.pw_soonsettled_k49_types_that_have_elements.main.body.getD i (.Pass ⟨0, 0, 0, 0⟩)
abbrev s_parts_of : Stmt := top 1
theorem sc_parts_of : FnScope ["tree"] ["tree"] (defScope s_parts_of) := ⟨rfl, rfl, rfl, by decide +kernel, rfl, by decide +kernel, by decide +kernel⟩
abbrev s_numbered : Stmt := top 2
theorem sc_numbered : FnScope ["root", "inner_of", "nodes", "waiting", "node", "outer", "number", "inner"] ["root", "inner_of"] (defScope s_numbered) := ⟨rfl, rfl, rfl, by decide +kernel, rfl, by decide +kernel, by decide +kernel⟩
abbrev s_folded : Stmt := top 3
theorem sc_folded : FnScope ["root", "inner_of", "tell", "nodes", "told", "number", "node", "numbers", "k"] ["root", "inner_of", "tell"] (defScope s_folded) := ⟨rfl, rfl, rfl, by decide +kernel, rfl, by decide +kernel, by decide +kernel⟩
abbrev s_least_part : Stmt := top 6
theorem sc_least_part : FnScope ["content", "parts", "sizes", "kind", "known", "part"] ["content", "parts", "sizes"] (defScope s_least_part) := ⟨rfl, rfl, rfl, by decide +kernel, rfl, by decide +kernel, by decide +kernel⟩
abbrev s_least_content : Stmt := top 7
theorem sc_least_content : FnScope ["content", "sizes"] ["content", "sizes"] (defScope s_least_content) := ⟨rfl, rfl, rfl, by decide +kernel, rfl, by decide +kernel, by decide +kernel⟩
abbrev s_least_sizes : Stmt := top 8
theorem sc_least_sizes : FnScope ["schema", "sizes", "changed", "word", "_", "content", "inside", "rule"] ["schema"] (defScope s_least_sizes) := ⟨rfl, rfl, rfl, by decide +kernel, rfl, by decide +kernel, by decide +kernel⟩
abbrev s_living : Stmt := top 9
theorem sc_living : FnScope ["schema"] ["schema"] (defScope s_living) := ⟨rfl, rfl, rfl, by decide +kernel, rfl, by decide +kernel, by decide +kernel⟩
abbrev s_law_draw : Stmt := top 11
theorem sc_law_draw : FnScope ["script"] ["script"] (defScope s_law_draw) := ⟨rfl, rfl, rfl, by decide +kernel, rfl, by decide +kernel, by decide +kernel⟩
abbrev s_law_next : Stmt := top 12
theorem sc_law_next : FnScope ["draw", "many", "found", "cell"] ["draw", "many"] (defScope s_law_next) := ⟨rfl, rfl, rfl, by decide +kernel, rfl, by decide +kernel, by decide +kernel⟩
abbrev s_law_same : Stmt := top 13
theorem sc_law_same : FnScope ["actual", "due", "k"] ["actual", "due"] (defScope s_law_same) := ⟨rfl, rfl, rfl, by decide +kernel, rfl, by decide +kernel, by decide +kernel⟩
abbrev s_law_content : Stmt := top 14
theorem sc_law_content : FnScope ["draw", "types", "depth", "form", "kind", "parts", "k", "part"] ["draw", "types", "depth"] (defScope s_law_content) := ⟨rfl, rfl, rfl, by decide +kernel, rfl, by decide +kernel, by decide +kernel⟩
abbrev s_law_schema : Stmt := top 15
theorem sc_law_schema : FnScope ["draw", "many", "depth", "types", "rules", "name"] ["draw", "many", "depth"] (defScope s_law_schema) := ⟨rfl, rfl, rfl, by decide +kernel, rfl, by decide +kernel, by decide +kernel⟩
abbrev s_law_least : Stmt := top 16
theorem sc_law_least : FnScope ["content", "sizes", "found", "part"] ["content", "sizes"] (defScope s_law_least) := ⟨rfl, rfl, rfl, by decide +kernel, rfl, by decide +kernel, by decide +kernel⟩
abbrev s_law_sizes : Stmt := top 17
theorem sc_law_sizes : FnScope ["schema", "sizes", "turn", "kind", "name", "content", "least"] ["schema"] (defScope s_law_sizes) := ⟨rfl, rfl, rfl, by decide +kernel, rfl, by decide +kernel, by decide +kernel⟩
abbrev s_law : Stmt := top 18
theorem sc_law : FnScope ["script", "draw", "turn", "schema", "sizes", "rule", "found", "name"] ["script"] (defScope s_law) := ⟨rfl, rfl, rfl, by decide +kernel, rfl, by decide +kernel, by decide +kernel⟩
structure Txt (prog : Program) (K : PySem.W.Frag) (mg : Str → Option Value) (w : World) where
  a_parts_of : Addr
  fd_parts_of : FuncData
  F_parts_of : Fun K "parts_of" "parts_of" s_parts_of a_parts_of fd_parts_of
  g_parts_of : mg "parts_of" = some (.ref a_parts_of)
  a_numbered : Addr
  fd_numbered : FuncData
  F_numbered : Fun K "numbered" "numbered" s_numbered a_numbered fd_numbered
  g_numbered : mg "numbered" = some (.ref a_numbered)
  a_folded : Addr
  fd_folded : FuncData
  F_folded : Fun K "folded" "folded" s_folded a_folded fd_folded
  g_folded : mg "folded" = some (.ref a_folded)
  a_least_part : Addr
  fd_least_part : FuncData
  F_least_part : Fun K "least_part" "least_part" s_least_part a_least_part fd_least_part
  g_least_part : mg "least_part" = some (.ref a_least_part)
  a_least_content : Addr
  fd_least_content : FuncData
  F_least_content : Fun K "least_content" "least_content" s_least_content a_least_content fd_least_content
  g_least_content : mg "least_content" = some (.ref a_least_content)
  a_least_sizes : Addr
  fd_least_sizes : FuncData
  F_least_sizes : Fun K "least_sizes" "least_sizes" s_least_sizes a_least_sizes fd_least_sizes
  g_least_sizes : mg "least_sizes" = some (.ref a_least_sizes)
  a_living : Addr
  fd_living : FuncData
  F_living : Fun K "living" "living" s_living a_living fd_living
  g_living : mg "living" = some (.ref a_living)
  a_law_draw : Addr
  fd_law_draw : FuncData
  F_law_draw : Fun K "_law_draw" "_law_draw" s_law_draw a_law_draw fd_law_draw
  g_law_draw : mg "_law_draw" = some (.ref a_law_draw)
  a_law_next : Addr
  fd_law_next : FuncData
  F_law_next : Fun K "_law_next" "_law_next" s_law_next a_law_next fd_law_next
  g_law_next : mg "_law_next" = some (.ref a_law_next)
  a_law_same : Addr
  fd_law_same : FuncData
  F_law_same : Fun K "_law_same" "_law_same" s_law_same a_law_same fd_law_same
  g_law_same : mg "_law_same" = some (.ref a_law_same)
  a_law_content : Addr
  fd_law_content : FuncData
  F_law_content : Fun K "_law_content" "_law_content" s_law_content a_law_content fd_law_content
  g_law_content : mg "_law_content" = some (.ref a_law_content)
  a_law_schema : Addr
  fd_law_schema : FuncData
  F_law_schema : Fun K "_law_schema" "_law_schema" s_law_schema a_law_schema fd_law_schema
  g_law_schema : mg "_law_schema" = some (.ref a_law_schema)
  a_law_least : Addr
  fd_law_least : FuncData
  F_law_least : Fun K "_law_least" "_law_least" s_law_least a_law_least fd_law_least
  g_law_least : mg "_law_least" = some (.ref a_law_least)
  a_law_sizes : Addr
  fd_law_sizes : FuncData
  F_law_sizes : Fun K "_law_sizes" "_law_sizes" s_law_sizes a_law_sizes fd_law_sizes
  g_law_sizes : mg "_law_sizes" = some (.ref a_law_sizes)
  a_law : Addr
  fd_law : FuncData
  F_law : Fun K "law" "law" s_law a_law fd_law
  g_law : mg "law" = some (.ref a_law)
  t_OWN_EVENTS : Tok
  g_OWN_EVENTS : mg "OWN_EVENTS" = some (.int 2 t_OWN_EVENTS)
  n_isinstance : mg "isinstance" = none
  n_str : mg "str" = none
  n_len : mg "len" = none
  n_range : mg "range" = none
  n_sum : mg "sum" = none
  n_min : mg "min" = none
  n_list : mg "list" = none
  n_abs : mg "abs" = none
  n_int : mg "int" = none
  n_tuple : mg "tuple" = none
  n_all : mg "all" = none
  n_bool : mg "bool" = none
  n_sorted : mg "sorted" = none
  c_least_content : Addr
  P_least_content : Addr
  hc_least_content : fd_least_content.code = .ref c_least_content
section
variable {prog : Program} {K : PySem.W.Frag} {mg : Str → Option Value} {w : World}
theorem Txt.b_parts_of (T : Txt prog K mg w) : Binds K T.fd_parts_of ["tree"] [] := T.F_parts_of.binds (ps := ["tree"]) fun _ _ _ _ _ _ us hl => match us, hl with | [_], _ => rfl
theorem Txt.b_numbered (T : Txt prog K mg w) : Binds K T.fd_numbered ["root", "inner_of"] [] := T.F_numbered.binds (ps := ["root", "inner_of"]) fun _ _ _ _ _ _ us hl => match us, hl with | [_, _], _ => rfl
theorem Txt.b_folded (T : Txt prog K mg w) : Binds K T.fd_folded ["root", "inner_of", "tell"] [] := T.F_folded.binds (ps := ["root", "inner_of", "tell"]) fun _ _ _ _ _ _ us hl => match us, hl with | [_, _, _], _ => rfl
theorem Txt.b_least_part (T : Txt prog K mg w) : Binds K T.fd_least_part ["content", "parts", "sizes"] [] := T.F_least_part.binds (ps := ["content", "parts", "sizes"]) fun _ _ _ _ _ _ us hl => match us, hl with | [_, _, _], _ => rfl
theorem Txt.b_least_content (T : Txt prog K mg w) : Binds K T.fd_least_content ["content", "sizes"] [] := T.F_least_content.binds (ps := ["content", "sizes"]) fun _ _ _ _ _ _ us hl => match us, hl with | [_, _], _ => rfl
theorem Txt.b_least_sizes (T : Txt prog K mg w) : Binds K T.fd_least_sizes ["schema"] [] := T.F_least_sizes.binds (ps := ["schema"]) fun _ _ _ _ _ _ us hl => match us, hl with | [_], _ => rfl
theorem Txt.b_living (T : Txt prog K mg w) : Binds K T.fd_living ["schema"] [] := T.F_living.binds (ps := ["schema"]) fun _ _ _ _ _ _ us hl => match us, hl with | [_], _ => rfl
theorem Txt.b_law_draw (T : Txt prog K mg w) : Binds K T.fd_law_draw ["script"] [] := T.F_law_draw.binds (ps := ["script"]) fun _ _ _ _ _ _ us hl => match us, hl with | [_], _ => rfl
theorem Txt.b_law_next (T : Txt prog K mg w) : Binds K T.fd_law_next ["draw", "many"] [] := T.F_law_next.binds (ps := ["draw", "many"]) fun _ _ _ _ _ _ us hl => match us, hl with | [_, _], _ => rfl
theorem Txt.b_law_same (T : Txt prog K mg w) : Binds K T.fd_law_same ["actual", "due"] [] := T.F_law_same.binds (ps := ["actual", "due"]) fun _ _ _ _ _ _ us hl => match us, hl with | [_, _], _ => rfl
theorem Txt.b_law_content (T : Txt prog K mg w) : Binds K T.fd_law_content ["draw", "types", "depth"] [] := T.F_law_content.binds (ps := ["draw", "types", "depth"]) fun _ _ _ _ _ _ us hl => match us, hl with | [_, _, _], _ => rfl
theorem Txt.b_law_schema (T : Txt prog K mg w) : Binds K T.fd_law_schema ["draw", "many", "depth"] [] := T.F_law_schema.binds (ps := ["draw", "many", "depth"]) fun _ _ _ _ _ _ us hl => match us, hl with | [_, _, _], _ => rfl
theorem Txt.b_law_least (T : Txt prog K mg w) : Binds K T.fd_law_least ["content", "sizes"] [] := T.F_law_least.binds (ps := ["content", "sizes"]) fun _ _ _ _ _ _ us hl => match us, hl with | [_, _], _ => rfl
theorem Txt.b_law_sizes (T : Txt prog K mg w) : Binds K T.fd_law_sizes ["schema"] [] := T.F_law_sizes.binds (ps := ["schema"]) fun _ _ _ _ _ _ us hl => match us, hl with | [_], _ => rfl
theorem Txt.b_law (T : Txt prog K mg w) : Binds K T.fd_law ["script"] [] := T.F_law.binds (ps := ["script"]) fun _ _ _ _ _ _ us hl => match us, hl with | [_], _ => rfl
end
end K49
namespace K49
open PySem PySem.Spec PyProof.Rows L2 DL
/-- the trees directly in a tree -/
inductive PartsT : D → List D → Prop
  | one (k : D) : PartsT (.tup [k]) []
  | str (k : D) (x : Str) : PartsT (.tup [k, .str x]) []
  | sub (k : D) (s : Str) (r : List D) : PartsT (.tup [k, .tup (.str s :: r)]) [.tup (.str s :: r)]
  | sq (k : D) (q : List D) (r : List D) : PartsT (.tup [k, .tup (.tup q :: r)]) (.tup q :: r)
def sParts : List D → (D → Prop) → Prop := fun ds Φ => ∃ t l, ds = [t] ∧ PartsT t l ∧ Φ (.tup l)
section
variable [Tbs] {P : Program} {w : World} {K : PySem.W.Frag} {mg : Str → Option Value} {base : Heap}
theorem ok_parts (T : Txt P K mg w) : FnOk P w K mg base CX0 1 T.a_parts_of T.fd_parts_of ["tree"] (spOf K (pureS sParts)) := by
  refine fnD T.F_parts_of sc_parts_of [] (k := 0) (fun cdv A outer s H E hr => ⟨_, (pss_cons (ps_if (PW.pt (pw_or (pt_cmpR op_eq (pe_callB call_len (by rfl) T.n_len boot_len (pa_cons (pv 0) pa_nil)) pe_int (nomark _)) (pw_or1 (pt_val (pe_callB call_isi (by rfl) T.n_isinstance (by decide +kernel) (pa_cons (pe_ix (show IxR _ (rIxT K) from ix_tup) (pv 0) pe_int (fun _ _ => rfl)) (pa_cons (pe_bltn (v := .ty "str") (by rfl) T.n_str (by decide +kernel) rfl) pa_nil))))))) (pss_one (ps_ret (pe_tup pa_nil))) pss_nil)
      (pss_cons (ps_if (pt_val (pe_callB call_isi (by rfl) T.n_isinstance (by decide +kernel) (pa_cons (pe_ix (show IxR _ (rIx K) from ix_seq) (pe_ix (show IxR _ (rIxT K) from ix_tup) (pv 0) pe_int (fun _ _ => rfl)) pe_int (fun _ _ => rfl)) (pa_cons (pe_bltn (v := .ty "str") (by rfl) T.n_str (by decide +kernel) rfl) pa_nil)))) (pss_one (ps_ret (pe_tup (pa_cons (pe_ix (show IxR _ (rIxT K) from ix_tup) (pv 0) pe_int (fun _ _ => rfl)) pa_nil)))) pss_nil)
      (pss_one (ps_ret (pe_ix (show IxR _ (rIxT K) from ix_tup) (pv 0) pe_int (fun _ _ => rfl)))))), (rs_seq (rs_if (rt_or (rt_test (re_op ro_eq (re_cb rc_len (rv_cons (re_var 0) rv_nil)) re_int)) (rt_B (re_cb rc_isi (rv_cons (re_op ro_ixT (re_var 0) re_int) (rv_cons re_ty rv_nil))))) (rs_ret (re_tup rv_nil)) rs_next)
      (rs_seq (rs_if (rt_B (re_cb rc_isi (rv_cons (re_op ro_ix (re_op ro_ixT (re_var 0) re_int) re_int) (rv_cons re_ty rv_nil)))) (rs_ret (re_tup (rv_cons (re_op ro_ixT (re_var 0) re_int) rv_nil))) rs_next)
      (rs_ret (re_op ro_ixT (re_var 0) re_int))))⟩) (pure_len fun ds Φ h => ?_) (fun os Φ h => ?_)
  · obtain ⟨t, l, rfl, _⟩ := h
    rfl
  · obtain ⟨ds, rfl, t, l, rfl, hp, hΦ⟩ := h
    cases hp <;> simp <;> exact hΦ
end
end K49
namespace K49
open PySem PySem.Spec PyProof.Rows L2 SX DL
theorem tx_dummy : True := trivial
def But (d : Addr) (H H' : Hp) : Prop := ∀ x o, x ≠ d → H x = some o → H' x = some o
theorem small {n : Nat} (h : n ≤ 1100000) : n ≤ sizeLine := Nat.le_trans h (by decide)
/-! ### the law's draws: any number below the bound may come -/
structure DrawAt (H : Hp) (d sc : Addr) : Prop where
  ex : ∃ (ns : List Int) (i : Nat) (b s : Int), H d = some (.lst [.ref sc, .int (i : Nat), .int b, .int s]) ∧ H sc = some (.lst (ns.map V.int)) ∧ sc ≠ d ∧ ns.length ≤ 63 ∧ 0 ≤ b ∧ 0 ≤ s ∧ s < 2147483648
def spDraw (K : PySem.W.Frag) : Sp := fun vs H Q _ => ∃ (a : Addr) (ns : List Int), vs = [.ref a] ∧ SqL K H a (ns.map V.int) ∧ ns.length ≤ 63 ∧ ∀ H' d sc, Same H H' → H d = none → H sc = none → DrawAt H' d sc → Q (.ref d) H'
def spNext : Sp := fun vs H Q _ => ∃ (d sc : Addr) (many : Nat), vs = [.ref d, .int (many : Nat)] ∧ DrawAt H d sc ∧ 0 < many ∧ many ≤ 1000000 ∧ ∀ (r : Nat) H', r < many → DrawAt H' d sc → But d H H' → Q (.int (r : Nat)) H'
section
variable [Tbs] {P : Program} {w : World} {K : PySem.W.Frag} {mg : Str → Option Value} {base : Heap}
theorem ok_draw (T : Txt P K mg w) : FnOk P w K mg base CX0 1 T.a_law_draw T.fd_law_draw ["script"] (spDraw K) := by
  refine T.F_law_draw.ok sc_law_draw (fun vs H Q E h => ?_) (fun cdv A outer s H vs Q E hr h => ?_)
  · obtain ⟨_, _, rfl, _⟩ := h
    rfl
  · obtain ⟨a, ns, rfl, hS, hn, q⟩ := h
    refine ⟨_, (pss_one (ps_ret (pe_lst (pa_cons (pe_callTy call_list_of (by rfl) T.n_list (by decide +kernel) (pa_cons (pv 0) pa_nil)) (pa_cons pe_int (pa_cons pe_int (pa_cons pe_int pa_nil))))))), ?_⟩
    refine ⟨_, rfl, a, _, rfl, .inl hS, fun sc nsc => ⟨small (show 4 ≤ 1100000 by decide), fun d nd => ?_⟩⟩
    have ne : sc ≠ d := ne_of_none upd_same nd
    have s1 : Same H (upd H sc (.lst (ns.map V.int))) := same_upd nsc
    have nHd : H d = none := by
      rw [upd_ne ne.symm] at nd
      exact nd
    refine q _ d sc (s1.trans (same_upd nd)) nHd nsc ⟨ns, 0, 0, 17, upd_same, (upd_ne ne).trans upd_same, ne, hn, by decide, by decide, by decide⟩
theorem mod_nat {x : Int} {m : Nat} (h : 0 < m) : ∃ r : Nat, r < m ∧ x.fmod (m : Int) = (r : Nat) := by
  have h1 : 0 ≤ x.fmod (m : Int) := Int.fmod_nonneg_of_pos x (by omega)
  have h2 : x.fmod (m : Int) < m := Int.fmod_lt_of_pos x (by omega)
  exact ⟨(x.fmod m).toNat, by omega, by omega⟩
theorem div_nn {x : Int} {m : Nat} (h : 0 < m) (hx : 0 ≤ x) : 0 ≤ x.fdiv (m : Int) := Int.fdiv_nonneg hx (by omega)
theorem at4 {α : Type} (a b c d : α) : atI [a, b, c, d] 0 = some a ∧ atI [a, b, c, d] 1 = some b ∧ atI [a, b, c, d] 2 = some c ∧ atI [a, b, c, d] 3 = some d := ⟨rfl, rfl, rfl, rfl⟩
theorem ok_next (T : Txt P K mg w) : FnOk P w K mg base CX0 1 T.a_law_next T.fd_law_next ["draw", "many"] spNext := by
  refine T.F_law_next.ok sc_law_next (fun vs H Q E h => ?_) (fun cdv A outer s H vs Q E hr h => ?_)
  · obtain ⟨_, _, _, rfl, _⟩ := h
    rfl
  · obtain ⟨d, sc, m, rfl, ⟨ns, i, b, sd, hd, hsc, nsd, hn, hb, hs0, hs1⟩, hm0, hm1, q⟩ := h
    refine ⟨_, (pss_cons (ps_if (pt_cmpR op_gt (pe_ix (show IxR _ (rIxL K) from ix_list) (pv 0) pe_int (fun _ _ => rfl)) pe_int (nomark _)) (pss_cons (ps_set (i := 2) sc_law_next.nd rfl (by first | exact Or.inl rfl | exact Or.inr rfl) (pe_op op_modN (pe_callTy call_int1 (by rfl) T.n_int (by decide +kernel) (pa_cons (pe_ix (show IxR _ (rIxL K) from ix_list) (pv 0) pe_int (fun _ _ => rfl)) pa_nil)) (pv 1)))
      (pss_cons (ps_asg (pe_op op_fdivN (pe_ix (show IxR _ (rIxL K) from ix_list) (pv 0) pe_int (fun _ _ => rfl)) (pv 1)) (pg_sub (pv 0) pe_int set_list))
      (pss_one (ps_ret (pv 2))))) pss_nil)
      (pss_cons (ps_if (pt_cmpR op_lt (pe_ix (show IxR _ (rIxL K) from ix_list) (pv 0) pe_int (fun _ _ => rfl)) (pe_callB call_len (by rfl) T.n_len boot_len (pa_cons (pe_ix (show IxR _ (rIxL K) from ix_list) (pv 0) pe_int (fun _ _ => rfl)) pa_nil)) (nomark _)) (pss_cons (ps_set (i := 3) sc_law_next.nd rfl (by first | exact Or.inl rfl | exact Or.inr rfl) (pe_callB call_abs (by rfl) T.n_abs (by decide +kernel) (pa_cons (pe_ix (show IxR _ (rIx K) from ix_seq) (pe_ix (show IxR _ (rIxL K) from ix_list) (pv 0) pe_int (fun _ _ => rfl)) (pe_ix (show IxR _ (rIxL K) from ix_list) (pv 0) pe_int (fun _ _ => rfl)) (fun _ _ => rfl)) pa_nil)))
      (pss_cons (ps_asg (pe_op op_add (pe_ix (show IxR _ (rIxL K) from ix_list) (pv 0) pe_int (fun _ _ => rfl)) pe_int) (pg_sub (pv 0) pe_int set_list))
      (pss_cons (ps_if (pt_cmpR op_ge (pv 3) (pe_op op_pow pe_int pe_int) (nomark _)) (pss_cons (ps_asg (pe_op op_fdivN (pv 3) (pv 1)) (pg_sub (pv 0) pe_int set_list))
      (pss_one (ps_ret (pe_op op_modN (pe_callTy call_int1 (by rfl) T.n_int (by decide +kernel) (pa_cons (pv 3) pa_nil)) (pv 1))))) pss_nil)
      (pss_one (ps_asg (pe_op op_modN (pe_callTy call_int1 (by rfl) T.n_int (by decide +kernel) (pa_cons (pe_op op_add (pe_op op_add (pe_op op_mul (pe_ix (show IxR _ (rIxL K) from ix_list) (pv 0) pe_int (fun _ _ => rfl)) pe_int) (pv 3)) pe_int) pa_nil)) pe_int) (pg_sub (pv 0) pe_int set_list)))))) (pss_one (ps_asg (pe_op op_modN (pe_callTy call_int1 (by rfl) T.n_int (by decide +kernel) (pa_cons (pe_op op_add (pe_op op_mul (pe_ix (show IxR _ (rIxL K) from ix_list) (pv 0) pe_int (fun _ _ => rfl)) pe_int) pe_int) pa_nil)) pe_int) (pg_sub (pv 0) pe_int set_list))))
      (pss_one (ps_ret (pe_op op_modN (pe_op op_fdivN (pe_callTy call_int1 (by rfl) T.n_int (by decide +kernel) (pa_cons (pe_op op_modN (pe_op op_mul (pe_ix (show IxR _ (rIxL K) from ix_list) (pv 0) pe_int (fun _ _ => rfl)) pe_int) pe_int) pa_nil)) pe_int) (pv 1)))))), ?_⟩
    have j0 : (m : Int) ≠ 0 := by omega
    have jd : (m : Int) ≠ 0 ∧ (m : Int).natAbs < 1073741824 := ⟨j0, by omega⟩
    -- if draw[2] > 0
    refine ⟨_, rfl, d, _, _, _, rfl, rfl, SqL.of hd, rfl, _, _, rfl, rfl, _, rfl, ?_⟩
    by_cases hb0 : 0 < b
    · refine iT (decide_eq_true hb0) ?_
      refine ⟨_, rfl, d, _, _, _, rfl, rfl, SqL.of hd, rfl, .inl ⟨_, rfl, _, rfl, _, _, rfl, rfl, j0, ?_⟩⟩
      refine ⟨_, rfl, d, _, _, _, rfl, rfl, SqL.of hd, rfl, _, rfl, _, _, rfl, rfl, jd, _, rfl, d, _, _, 2, rfl, rfl, hd, rfl, ?_⟩
      obtain ⟨r, hr1, er⟩ := mod_nat (x := b) hm0
      have qq := q r (upd H d (.lst [.ref sc, .int (i : Nat), .int (b.fmod (m : Int) * 0 + b.fdiv (m : Int)), .int sd])) hr1 ⟨ns, i, _, sd, upd_same, (upd_ne nsd).trans hsc, nsd, hn, by rw [Int.mul_zero, Int.zero_add]; exact div_nn hm0 hb, hs0, hs1⟩ fun x o hx h => (upd_ne hx).trans h
      rw [← er, Int.mul_zero, Int.zero_add] at qq
      exact ⟨_, rfl, qq⟩
    · refine iF (decide_eq_false hb0) ?_
      -- if draw[1] < len(draw[0])
      refine ⟨_, rfl, d, _, _, _, rfl, rfl, SqL.of hd, rfl, _, rfl, d, _, _, _, rfl, rfl, SqL.of hd, rfl, _, _, rfl, .inl ⟨_, SqL.of hsc, rfl⟩, _, _, rfl, rfl, _, rfl, ?_⟩
      have last : ∀ {s' : Int}, 0 ≤ s' → s' < 2147483648 → ∃ r : Nat, r < m ∧ (((s' * 69621).fmod 2147483629).fdiv 7).fmod (m : Int) = (r : Nat) := fun _ _ => mod_nat hm0
      have big : ∀ x : Int, 0 ≤ x.fmod 2147483647 ∧ x.fmod 2147483647 < 2147483648 := fun x => by
        have h1 := Int.fmod_nonneg_of_pos x (show (0 : Int) < 2147483647 by decide)
        have h2 := Int.fmod_lt_of_pos x (show (0 : Int) < 2147483647 by decide)
        omega
      have fits : ∀ {s' : Int}, 0 ≤ s' → s' < 2147483648 → -(2 ^ 64) < s' ∧ s' < 2 ^ 64 := fun h1 h2 => by
        constructor <;> omega
      by_cases hi : i < ns.length
      · refine iT (decide_eq_true (by rw [List.length_map]; omega)) ?_
        have ga : (ns.map V.int)[i]? = some (.int ns[i]) := by
          rw [List.getElem?_map, List.getElem?_eq_getElem hi]
          rfl
        -- cell = abs(draw[0][draw[1]])
        refine ⟨_, rfl, d, _, _, _, rfl, rfl, SqL.of hd, rfl, _, rfl, d, _, _, _, rfl, rfl, SqL.of hd, rfl, .inl ⟨sc, _, _, _, rfl, rfl, SqL.of hsc, atI_nat ga, _, rfl, ?_⟩⟩
        have hc0 : 0 ≤ (if ns[i] < 0 then -ns[i] else ns[i]) := by split <;> omega
        generalize (if ns[i] < 0 then -ns[i] else ns[i]) = c at hc0
        -- draw[1] = draw[1] + 1
        refine ⟨_, rfl, d, _, _, _, rfl, rfl, SqL.of hd, rfl, _, _, rfl, rfl, _, rfl, d, _, _, 1, rfl, rfl, hd, rfl, ?_⟩
        have sc1 : ∀ {o : HO}, upd H d o sc = some (.lst (ns.map V.int)) := fun {o} => (upd_ne nsd).trans hsc
        have e1 : ∀ {o : HO}, upd H d o d = some o := fun {o} => upd_same
        -- if cell >= 10 ** 18
        refine ⟨_, rfl, _, _, rfl, rfl, ⟨by decide, by decide, by decide⟩, _, _, rfl, rfl, _, rfl, ?_⟩
        refine ite2 (fun _ => ?_) (fun _ => ?_)
        · refine ⟨_, rfl, _, rfl, _, _, rfl, rfl, jd, _, rfl, d, _, _, 2, rfl, rfl, e1, rfl, ?_⟩
          obtain ⟨r, hr1, er⟩ := mod_nat (x := c) hm0
          have qq := q r (upd (upd H d (.lst [.ref sc, .int ((i : Int) + 1), .int b, .int sd])) d (.lst [.ref sc, .int ((i : Int) + 1), .int (c.fdiv (m : Int)), .int sd])) hr1 ⟨ns, i + 1, _, sd, upd_same, (upd_ne nsd).trans sc1, nsd, hn, div_nn hm0 hc0, hs0, hs1⟩
            fun x o hx h => (upd_ne hx).trans ((upd_ne hx).trans h)
          rw [← er] at qq
          exact ⟨_, rfl, .inl ⟨_, rfl, _, rfl, _, _, rfl, rfl, j0, qq⟩⟩
        · refine ⟨_, rfl, d, _, _, _, rfl, rfl, SqL.of e1, rfl, _, _, rfl, rfl, .inl (fits hs0 hs1), _, rfl, _, _, rfl, rfl, _, _, rfl, rfl, .inl ⟨_, rfl, _, _, rfl, rfl, (show (2147483647 : Int) ≠ 0 by decide), _, rfl, d, _, _, 3, rfl, rfl, e1, rfl, ?_⟩⟩
          obtain ⟨b1, b2⟩ := big (sd * 48271 + c + 11)
          obtain ⟨r, hr1, er⟩ := last b1 b2
          have qq := q r (upd (upd H d (.lst [.ref sc, .int ((i : Int) + 1), .int b, .int sd])) d (.lst [.ref sc, .int ((i : Int) + 1), .int b, .int ((sd * 48271 + c + 11).fmod 2147483647)])) hr1 ⟨ns, i + 1, _, _, upd_same, (upd_ne nsd).trans sc1, nsd, hn, hb, b1, b2⟩
            fun x o hx h => (upd_ne hx).trans ((upd_ne hx).trans h)
          rw [← er] at qq
          exact ⟨_, rfl, d, _, _, _, rfl, rfl, SqL.of upd_same, rfl, _, _, rfl, rfl, .inl (fits b1 b2), _, _, rfl, rfl, (show (2147483629 : Int) ≠ 0 by decide), .inl ⟨_, rfl, _, _, rfl, rfl, (show (7 : Int) ≠ 0 ∧ (7 : Int).natAbs < 1073741824 from ⟨by decide, by decide⟩), _, rfl, _, _, rfl, rfl, j0, qq⟩⟩
      · refine iF (decide_eq_false (by rw [List.length_map]; omega)) ?_
        have e1 : ∀ {o : HO}, upd H d o d = some o := fun {o} => upd_same
        refine ⟨_, rfl, d, _, _, _, rfl, rfl, SqL.of hd, rfl, _, _, rfl, rfl, .inl (fits hs0 hs1), _, _, rfl, rfl, .inl ⟨_, rfl, _, _, rfl, rfl, (show (2147483647 : Int) ≠ 0 by decide), _, rfl, d, _, _, 3, rfl, rfl, hd, rfl, ?_⟩⟩
        obtain ⟨b1, b2⟩ := big (sd * 48271 + 12345)
        obtain ⟨r, hr1, er⟩ := last b1 b2
        have qq := q r (upd H d (.lst [.ref sc, .int (i : Nat), .int b, .int ((sd * 48271 + 12345).fmod 2147483647)])) hr1 ⟨ns, i, _, _, upd_same, (upd_ne nsd).trans hsc, nsd, hn, hb, b1, b2⟩ fun x o hx h => (upd_ne hx).trans h
        rw [← er] at qq
        exact ⟨_, rfl, d, _, _, _, rfl, rfl, SqL.of upd_same, rfl, _, _, rfl, rfl, .inl (fits b1 b2), _, _, rfl, rfl, (show (2147483629 : Int) ≠ 0 by decide), .inl ⟨_, rfl, _, _, rfl, rfl, (show (7 : Int) ≠ 0 ∧ (7 : Int).natAbs < 1073741824 from ⟨by decide, by decide⟩), _, rfl, _, _, rfl, rfl, j0, qq⟩⟩
/-- a draw: any number below the bound -/
def sNext : SD := fun os Φ => ∃ many : Nat, os = [.draw, .d (.int (many : Nat))] ∧ 0 < many ∧ many ≤ 1000000 ∧ ∀ r : Nat, r < many → Φ (.int (r : Nat)) [.draw, .d (.int (many : Nat))]
theorem ok_nextD (T : Txt P K mg w) : FnOk P w K mg base CX0 1 T.a_law_next T.fd_law_next ["draw", "many"] (spOf K sNext) := by
  refine (ok_next T).imp ?_
  rintro vs H Q E ⟨F, os, Φ, ⟨hsub, hnt, htb, hB⟩, ha, ⟨many, rfl, h0, h1, hΦ⟩, q⟩
  match vs, ha.len with
  | [v1, v2], _ =>
    obtain ⟨d, rfl, hF, sc, ns, i, b, s, e1, e2, hn, hb, hs0, hs1⟩ := (ha.ok 0 v1 .draw rfl rfl).inv rfl
    have hv2 : Dr K F v2 (.int (many : Nat)) := ha.ok 1 v2 _ rfl rfl
    rw [hv2.inv_int]
    have nsd : sc ≠ d := fun z => by rw [z, hF] at e2; cases e2
    refine ⟨d, sc, many, rfl, ⟨ns, i, b, s, e1, hsub _ _ e2, nsd, hn, hb, hs0, hs1⟩, h0, h1, fun r H' hr D' b' => ?_⟩
    have keepF : Sub F H' := fun a o e => b' a o (fun z => by rw [z, hF] at e; cases e) (hsub a o e)
    obtain ⟨ns', i', b2, s2, g1, g2, g3, g4, g5, g6, g7⟩ := D'
    have own : ∀ {a : Addr}, ¬ OwnA [V.ref d, v2] [OV.draw, .d (.int (many : Nat))] a → a ≠ d := fun {a} n z => n ⟨0, .draw, rfl, rfl, by rw [z]; rfl⟩
    refine q F H' _ (.int (r : Nat)) [.draw, .d (.int (many : Nat))] (Same.refl F) ⟨keepF, hnt, tabs_but htb e1 (fun t z => by cases z) (lst_nc _) fun a u na e => b' a u na e⟩ (fun a o e n _ => b' a o (own n) e) (fun a o e => ?_) (fun a o e => .inl e) rfl (fun j o o' v z1 z2 z3 z4 => ?_) (.int _) (hΦ r hr)
    · by_cases z : a = d
      · rw [z]
        exact ⟨_, g1⟩
      · exact ⟨o, b' a o z e⟩
    · match j, z1, z3, z4 with
      | 0, z1, z3, z4 =>
        cases z3
        cases z4
        have e3 : some (HO.lst (ns'.map V.int)) = some (.lst (ns.map V.int)) := g2.symm.trans (keepF _ _ e2)
        have e4 : ns'.map V.int = ns.map V.int := HO.lst.inj (Option.some.inj e3)
        exact ⟨d, rfl, hF, sc, ns', i', b2, s2, g1, by rw [e4]; exact e2, g4, g5, g6, g7⟩
      | 1, z1, z3, z4 => cases z1; cases z2
/-- the draw is made -/
theorem ok_drawS (T : Txt P K mg w) : FnOk P w K mg base CX0 1 T.a_law_draw T.fd_law_draw ["script"] (spDraw K) := ok_draw T
end
end K49
namespace K49
open PySem PySem.Spec PyProof.Rows L2 DL
/-! ### _law_same -/
/-- numbers, texts, lists and tuples of these, below n deep -/
def plain : Nat → D → Prop
  | 0, _ => False
  | n + 1, d => match d with
    | .non => True
    | .bl _ => True
    | .int _ => True
    | .str _ => True
    | .lst l => l.length ≤ 1000000 ∧ ∀ x ∈ l, plain n x
    | .tup l => l.length ≤ 1000000 ∧ ∀ x ∈ l, plain n x
    | _ => False
def sSame (n : Nat) : List D → (D → Prop) → Prop := fun ds Φ => ∃ d, ds = [d, d] ∧ plain n d ∧ Φ (.bl true)
section
variable [Tbs] {P : Program} {w : World} {K : PySem.W.Frag} {mg : Str → Option Value} {base : Heap}
theorem bls_rep (n : Nat) : blsD (List.replicate n (.bl true)) = some (List.replicate n true) := by
  induction n with
  | zero => rfl
  | succ n ih =>
    show (blsD (List.replicate n (.bl true))).map (true :: ·) = _
    rw [ih]
    rfl
theorem ok_same (T : Txt P K mg w) : ∀ n : Nat, FnOk P w K mg base CX0 (n + 1) T.a_law_same T.fd_law_same ["actual", "due"] (spOf K (pureS (sSame n))) := by
  intro n
  induction n with
  | zero =>
    refine ⟨fun vs H Q E h => ?_, fun A outer s H args us vs Q E hr e0 hb r h => ?_⟩
    all_goals
      obtain ⟨F, os, Φ, _, _, ⟨ds, _, d, _, h, _⟩, _⟩ := h
      exact h.elim
  | succ n ih =>
    have G_law_same : FnOk P w K mg base CX0 (n + 1) T.a_law_same T.fd_law_same ["actual", "due"] (spOf K (pureS (sSame n))) := ih
    refine fnD T.F_law_same sc_law_same [] (k := n + 1) (fun cdv A outer s H E hr => ⟨_, (pss_cons (ps_if (pt_val (pe_callB call_isiT (by rfl) T.n_isinstance (by decide +kernel) (pa_cons (pv 1) (pa_cons (pe_tup (pa_cons (pe_bltn (v := .ty "list") (by rfl) T.n_list (by decide +kernel) rfl) (pa_cons (pe_bltn (v := .ty "tuple") (by rfl) T.n_tuple (by decide +kernel) rfl) pa_nil))) pa_nil)))) (pss_cons (ps_if (PW.pt (pw_or (pt_cmpR op_ne (pe_callB call_isi (by rfl) T.n_isinstance (by decide +kernel) (pa_cons (pv 1) (pa_cons (pe_bltn (v := .ty "list") (by rfl) T.n_list (by decide +kernel) rfl) pa_nil))) (pe_callB call_isi (by rfl) T.n_isinstance (by decide +kernel) (pa_cons (pv 0) (pa_cons (pe_bltn (v := .ty "list") (by rfl) T.n_list (by decide +kernel) rfl) pa_nil))) (nomark _)) (pw_or1 (pt_cmpR op_ne (pe_callB call_isi (by rfl) T.n_isinstance (by decide +kernel) (pa_cons (pv 1) (pa_cons (pe_bltn (v := .ty "tuple") (by rfl) T.n_tuple (by decide +kernel) rfl) pa_nil))) (pe_callB call_isi (by rfl) T.n_isinstance (by decide +kernel) (pa_cons (pv 0) (pa_cons (pe_bltn (v := .ty "tuple") (by rfl) T.n_tuple (by decide +kernel) rfl) pa_nil))) (nomark _))))) (pss_one (ps_ret pe_bl)) pss_nil)
      (pss_cons (ps_if (pt_cmpR op_ne (pe_callB call_len (by rfl) T.n_len boot_len (pa_cons (pv 0) pa_nil)) (pe_callB call_len (by rfl) T.n_len boot_len (pa_cons (pv 1) pa_nil)) (nomark _)) (pss_one (ps_ret pe_bl)) pss_nil)
      (pss_one (ps_ret (pe_callB (cr_all rfl) (by rfl) T.n_all (by decide +kernel) (pa_cons (pe_lc (own := [("k", 2)]) (g := gName 2) (by rfl) sc_law_same.nd  (pi_range1 (by rfl) T.n_range (pa_cons (pe_callB call_len (by rfl) T.n_len boot_len (pa_cons (pv 1) pa_nil)) pa_nil)) (blkOk_by (own := [("k", 2)]) (N := ["actual", "due", "k"]) (sc := defScope s_law_same) (by decide +kernel)) (fun _ _ _ _ _ => (pg_name (i := 2) sc_law_same.nd rfl (Or.inl rfl))) (fun _ _ _ _ _ => pts_nil) (fun _ _ _ _ _ => (pe_call G_law_same (hr.mono (by omega)) (by rfl) T.g_law_same T.F_law_same.kp T.b_law_same .nil pass0 (pa_cons (pe_ix (show IxR _ (rIx K) from ix_seq) (pv 0) (pv 2) (fun _ _ => rfl)) (pa_cons (pe_ix (show IxR _ (rIx K) from ix_seq) (pv 1) (pv 2) (fun _ _ => rfl)) pa_nil))))) pa_nil)))))) pss_nil)
      (pss_cons (ps_if (pt_cmpR op_isN (pv 1) pe_non (nomark _)) (pss_one (ps_ret (pe_cmpR op_isN (pv 0) pe_non (nomark _)))) pss_nil)
      (pss_cons (ps_if (pt_cmpR op_ne (pe_callB call_isi (by rfl) T.n_isinstance (by decide +kernel) (pa_cons (pv 1) (pa_cons (pe_bltn (v := .ty "bool") (by rfl) T.n_bool (by decide +kernel) rfl) pa_nil))) (pe_callB call_isi (by rfl) T.n_isinstance (by decide +kernel) (pa_cons (pv 0) (pa_cons (pe_bltn (v := .ty "bool") (by rfl) T.n_bool (by decide +kernel) rfl) pa_nil))) (nomark _)) (pss_one (ps_ret pe_bl)) pss_nil)
      (pss_cons (ps_if (pt_val (pe_callB call_isi (by rfl) T.n_isinstance (by decide +kernel) (pa_cons (pv 1) (pa_cons (pe_bltn (v := .ty "str") (by rfl) T.n_str (by decide +kernel) rfl) pa_nil)))) (pss_one (ps_ret (pe_and (pe_callB call_isi (by rfl) T.n_isinstance (by decide +kernel) (pa_cons (pv 0) (pa_cons (pe_bltn (v := .ty "str") (by rfl) T.n_str (by decide +kernel) rfl) pa_nil))) (pe_one (pe_cmpR op_eq (pv 0) (pv 1) (nomark _)))))) pss_nil)
      (pss_one (ps_ret (pe_and (pe_callB call_isi (by rfl) T.n_isinstance (by decide +kernel) (pa_cons (pv 0) (pa_cons (pe_bltn (v := .ty "int") (by rfl) T.n_int (by decide +kernel) rfl) pa_nil))) (pe_one (pe_cmpR op_eq (pv 0) (pv 1) (nomark _)))))))))), (rs_seq (rs_if (rt_B (re_isi2 (re_var 1))) (rs_seq (rs_if (rt_or (rt_test (re_op ro_ne (re_cb rc_isi (rv_cons (re_var 1) (rv_cons re_ty rv_nil))) (re_cb rc_isi (rv_cons (re_var 0) (rv_cons re_ty rv_nil))))) (rt_test (re_op ro_ne (re_cb rc_isi (rv_cons (re_var 1) (rv_cons re_ty rv_nil))) (re_cb rc_isi (rv_cons (re_var 0) (rv_cons re_ty rv_nil)))))) (rs_ret re_bl) rs_next)
      (rs_seq (rs_if (rt_test (re_op ro_ne (re_cb rc_len (rv_cons (re_var 0) rv_nil)) (re_cb rc_len (rv_cons (re_var 1) rv_nil)))) (rs_ret re_bl) rs_next)
      (rs_ret (re_cb rc_all (rv_cons (RL.re (rl_lc (ri_range1 (rv_cons (re_cb rc_len (rv_cons (re_var 1) rv_nil)) rv_nil)) rg_name rt_yes (re_callV (rv_cons (re_op ro_ix (re_var 0) (re_var 2)) (rv_cons (re_op ro_ix (re_var 1) (re_var 2)) rv_nil))))) rv_nil))))) rs_next)
      (rs_seq (rs_if (rt_test (re_op ro_isN (re_var 1) re_non)) (rs_ret (re_op ro_isN (re_var 0) re_non)) rs_next)
      (rs_seq (rs_if (rt_test (re_op ro_ne (re_cb rc_isi (rv_cons (re_var 1) (rv_cons re_ty rv_nil))) (re_cb rc_isi (rv_cons (re_var 0) (rv_cons re_ty rv_nil))))) (rs_ret re_bl) rs_next)
      (rs_seq (rs_if (rt_B (re_cb rc_isi (rv_cons (re_var 1) (rv_cons re_ty rv_nil)))) (rs_ret (re_and (re_cb rc_isi (rv_cons (re_var 0) (rv_cons re_ty rv_nil))) (re_op ro_eq (re_var 0) (re_var 1)))) rs_next)
      (rs_ret (re_and (re_cb rc_isi (rv_cons (re_var 0) (rv_cons re_ty rv_nil))) (re_op ro_eq (re_var 0) (re_var 1))))))))⟩) (pure_len fun ds Φ h => ?_) (fun os Φ h => ?_)
    · obtain ⟨d, rfl, _⟩ := h
      rfl
    · obtain ⟨ds, rfl, d, rfl, hp, hΦ⟩ := h
      have sq : ∀ (l : List D) (d : D) (Ω : List D → DL.Env → Prop), (d = .lst l ∨ d = .tup l) → l.length ≤ 1000000 → (∀ x ∈ l, plain n x) → Ω (List.replicate l.length (.bl true)) [some (.d d), some (.d d), none] →
          dLc (dIR1 (dCons (dCB oLen (dCons (dVar 1) dNil)) dNil)) (dName 2) dYes (dCallV (sSame n) (dCons (dOp oIx (dVar 0) (dVar 2)) (dCons (dOp oIx (dVar 1) (dVar 2)) dNil))) [2] [some (.d d), some (.d d), none] Ω := by
        intro l d Ω hd hl hx hE
        refine lc_f (rngD 0 l.length) [some (.d d), some (.d d), none] [some (.d d), some (.d d), none] (fun _ => .bl true) (fun Ψ h => ?_) rfl (by rw [rngD_len]; omega) (fun x hx' A hA => ?_) ?_
        · rcases hd with rfl | rfl <;> simp <;> exact ⟨by omega, h⟩
        · obtain ⟨i, hi, rfl⟩ := mem_rng hx'
          have g := List.getElem?_eq_getElem hi
          have hp := hx _ (List.getElem_mem hi)
          rcases hd with rfl | rfl <;> simp [g] <;> exact ⟨_, rfl, hp, hA _ rfl⟩
        · have e : (rngD 0 l.length).map (fun _ => D.bl true) = List.replicate l.length (.bl true) := by
            rw [List.map_const', rngD_len]
          rw [e]
          exact hE
      cases d <;> try exact hp.elim
      · simp; exact hΦ
      · simp; exact hΦ
      · simp; exact hΦ
      · simp; exact hΦ
      · obtain ⟨hl, hx⟩ := hp
        simp
        refine sq _ _ _ (.inr rfl) hl hx ?_
        simp [bls_rep]
        exact hΦ
      · obtain ⟨hl, hx⟩ := hp
        simp
        refine sq _ _ _ (.inl rfl) hl hx ?_
        simp [bls_rep]
        exact hΦ
end
end K49
namespace K49
open PySem PySem.Spec PyProof.Rows L2 DL CT
/-! ### _law_content -/
def sContent (n : Nat) : SD := fun os Φ => ∃ (ts : List Str) (k : Nat), os = [.draw, .d (.lst (ts.map .str)), .d (.int (k : Nat))] ∧ k < n ∧ ts ≠ [] ∧ ts.length ≤ 100 ∧ ∀ c, GC ts 2 (2 * n) c → Φ (cD c) [.draw, .d (.lst (ts.map .str)), .d (.int (k : Nat))]
theorem draw_len {n : Nat} {S : SD} (h : ∀ os Φ, S os Φ → ∃ ds : List D, os = .draw :: ds.map .d ∧ ds.length + 1 = n) : ∀ os Φ, S os Φ → os.length = n ∧ (∀ (i : Nat) o, os[i]? = some o → o.own = true → i ∈ [0]) ∧ ∀ i ∈ [0], i < os.length := by
  intro os Φ hS
  obtain ⟨ds, rfl, hl⟩ := h os Φ hS
  refine ⟨by simpa using hl, fun i o e ho => ?_, fun i hi => by rw [List.mem_singleton.mp hi]; simp⟩
  match i, e with
  | 0, _ => simp
  | i + 1, e =>
    have e : (ds.map OV.d)[i]? = some o := e
    rw [List.getElem?_map] at e
    obtain ⟨d, _, rfl⟩ := Option.map_eq_some_iff.mp e
    cases ho
section
variable [Tbs] {P : Program} {w : World} {K : PySem.W.Frag} {mg : Str → Option Value} {base : Heap}
theorem ok_content (T : Txt P K mg w) : ∀ n : Nat, FnOk P w K mg base CX0 (n + 2) T.a_law_content T.fd_law_content ["draw", "types", "depth"] (spOf K (sContent n)) := by
  intro n
  induction n with
  | zero =>
    refine ⟨fun vs H Q E h => ?_, fun A outer s H args us vs Q E hr e0 hb r h => ?_⟩
    all_goals
      obtain ⟨F, os, Φ, _, _, ⟨ts, k, _, h, _⟩, _⟩ := h
      exact absurd h (Nat.not_lt_zero _)
  | succ n ih =>
    have G_law_content : FnOk P w K mg base CX0 (n + 2) T.a_law_content T.fd_law_content ["draw", "types", "depth"] (spOf K (sContent n)) := ih
    have G_law_next : FnOk P w K mg base CX0 1 T.a_law_next T.fd_law_next ["draw", "many"] (spOf K sNext) := ok_nextD T
    refine fnD T.F_law_content sc_law_content [0] (k := n + 2) (fun cdv A outer s H E hr => ⟨_, (pss_cons (ps_set (i := 3) sc_law_content.nd rfl (by first | exact Or.inl rfl | exact Or.inr rfl) (pe_call G_law_next (hr.mono (by omega)) (by rfl) T.g_law_next T.F_law_next.kp T.b_law_next .nil pass0 (pa_cons (pv 0) (pa_cons pe_int pa_nil))))
      (pss_cons (ps_if (PW.pt (pw_or (pt_cmpR op_eq (pv 2) pe_int (nomark _)) (pw_or1 (pt_cmpR op_lt (pv 3) pe_int (nomark _))))) (pss_one (ps_ret (pe_ifExp (pt_cmpR op_eq (pe_call G_law_next (hr.mono (by omega)) (by rfl) T.g_law_next T.F_law_next.kp T.b_law_next .nil pass0 (pa_cons (pv 0) (pa_cons pe_int pa_nil))) pe_int (nomark _)) (pe_tup (pa_cons pe_str pa_nil)) (pe_tup (pa_cons pe_str (pa_cons (pe_ix (show IxR _ (rIxL K) from ix_list) (pv 1) (pe_call G_law_next (hr.mono (by omega)) (by rfl) T.g_law_next T.F_law_next.kp T.b_law_next .nil pass0 (pa_cons (pv 0) (pa_cons (pe_callB call_len (by rfl) T.n_len boot_len (pa_cons (pv 1) pa_nil)) pa_nil))) (fun _ _ => rfl)) pa_nil)))))) pss_nil)
      (pss_cons (ps_if (pt_cmpR op_gt (pv 3) pe_int (nomark _)) (pss_one (ps_ret (pe_tup (pa_cons (pe_ix (show IxR _ (rIxL K) from ix_list) (pe_lst (pa_cons pe_str (pa_cons pe_str (pa_cons pe_str pa_nil)))) (pe_call G_law_next (hr.mono (by omega)) (by rfl) T.g_law_next T.F_law_next.kp T.b_law_next .nil pass0 (pa_cons (pv 0) (pa_cons pe_int pa_nil))) (fun _ _ => rfl)) (pa_cons (pe_call G_law_content (hr.mono (by omega)) (by rfl) T.g_law_content T.F_law_content.kp T.b_law_content .nil pass0 (pa_cons (pv 0) (pa_cons (pv 1) (pa_cons (pe_op op_sub (pv 2) pe_int) pa_nil)))) pa_nil))))) pss_nil)
      (pss_cons (ps_set (i := 4) sc_law_content.nd rfl (by first | exact Or.inl rfl | exact Or.inr rfl) (pe_ifExp (pt_cmpR op_lt (pv 3) pe_int (nomark _)) pe_str pe_str))
      (pss_cons (ps_set (i := 5) sc_law_content.nd rfl (by first | exact Or.inl rfl | exact Or.inr rfl) (pe_lst pa_nil))
      (pss_cons (ps_for PassesOwn.never rfl (pi_range1 (by rfl) T.n_range (pa_cons pe_int pa_nil)) (pg_name (i := 6) sc_law_content.nd rfl (by first | exact Or.inl rfl | exact Or.inr rfl)) (pss_cons (ps_set (i := 7) sc_law_content.nd rfl (by first | exact Or.inl rfl | exact Or.inr rfl) (pe_call G_law_content (hr.mono (by omega)) (by rfl) T.g_law_content T.F_law_content.kp T.b_law_content .nil pass0 (pa_cons (pv 0) (pa_cons (pv 1) (pa_cons (pe_op op_sub (pv 2) pe_int) pa_nil)))))
      (pss_one (ps_expr (pe_bm PySem.F.plainAttrs_list PySem.F.slot_list_append PySem.F.type_list_append mt_append (pv 5) (pa_cons (pe_ifExp (pt_cmpR op_eq (pe_ix (show IxR _ (rIxT K) from ix_tup) (pv 7) pe_int (fun _ _ => rfl)) (pv 4) (nomark _)) (pe_tup (pa_cons pe_str (pa_cons (pv 7) pa_nil))) (pv 7)) pa_nil))))))
      (pss_one (ps_ret (pe_tup (pa_cons (pv 4) (pa_cons (pe_callTy call_tuple_of (by rfl) T.n_tuple (by decide +kernel) (pa_cons (pv 5) pa_nil)) pa_nil))))))))))), (rs_seq (rs_asg (re_call (ra_slot (i := 0) (ra_cons re_int ra_nil))) rg_name)
      (rs_seq (rs_if (rt_or (rt_test (re_op ro_eq (re_var 2) re_int)) (rt_test (re_op ro_B0 (re_var 3) re_int))) (rs_ret (re_if (rt_test (re_op ro_eq (re_call (ra_slot (i := 0) (ra_cons re_int ra_nil))) re_int)) (re_tup (rv_cons re_str rv_nil)) (re_tup (rv_cons re_str (rv_cons (re_ixS (i := 1) (re_call (ra_slot (i := 0) (ra_cons (re_lenS (i := 1)) ra_nil)))) rv_nil))))) rs_next)
      (rs_seq (rs_if (rt_test (re_op ro_B0 (re_var 3) re_int)) (rs_ret (re_tup (rv_cons (re_op ro_ixL (RL.re (rl_lst (rv_cons re_str (rv_cons re_str (rv_cons re_str rv_nil))))) (re_call (ra_slot (i := 0) (ra_cons re_int ra_nil)))) (rv_cons (re_call (ra_slot (i := 0) (ra_cons (re_var 1) (ra_cons (re_op ro_I0 (re_var 2) re_int) ra_nil)))) rv_nil)))) rs_next)
      (rs_seq (rs_asg (re_if (rt_test (re_op ro_B0 (re_var 3) re_int)) re_str re_str) rg_name)
      (rs_seq (rs_setL (rl_lst rv_nil))
      (rs_seq (rs_for (ri_range1 (rv_cons re_int rv_nil)) rg_name (rs_seq (rs_asg (re_call (ra_slot (i := 0) (ra_cons (re_var 1) (ra_cons (re_op ro_I0 (re_var 2) re_int) ra_nil)))) rg_name)
      (rs_app (i := 5) (re_if (rt_test (re_op ro_eq (re_op ro_ixT (re_var 7) re_int) (re_var 4))) (re_tup (rv_cons re_str (rv_cons (re_var 7) rv_nil))) (re_var 7)))))
      (rs_ret (re_tup (rv_cons (re_var 4) (rv_cons (re_cb rc_tuple (rv_cons (re_var 5) rv_nil)) rv_nil))))))))))⟩) (draw_len fun os Φ h => ?_) (fun os Φ h => ?_)
    · obtain ⟨ts, k, rfl, _⟩ := h
      exact ⟨[_, _], rfl, rfl⟩
    · obtain ⟨ts, k, rfl, hk, ht, htl, hΦ⟩ := h
      simp
      refine ⟨8, rfl, by decide, by decide, fun form hf => ?_⟩
      simp
      refine (fun (leaf : ?X) => ?main) ?sec
      case main =>
        by_cases h0 : k = 0
        · rw [if_pos h0]
          exact leaf
        · rw [if_neg h0]
          by_cases h2 : form < 2
          · rw [if_pos (by omega)]
            exact leaf
          · rw [if_neg (by omega)]
            by_cases h5 : 5 < form
            · rw [if_pos (by omega)]
              refine ⟨3, rfl, by decide, by decide, fun r hr => ?_⟩
              obtain ⟨m, hm⟩ : ∃ m : Mk, ([D.str "many", D.str "some", D.str "maybe"] : List D)[r]? = some (.str (mS m)) := by
                match r, hr with
                | 0, _ => exact ⟨.many, rfl⟩
                | 1, _ => exact ⟨.some, rfl⟩
                | 2, _ => exact ⟨.maybe, rfl⟩
              simp [hm]
              refine ⟨ts, k - 1, by rw [show ((k : Int) - 1) = ((k - 1 : Nat) : Int) by omega], by omega, ht, htl, fun c hc => ?_⟩
              have z := hΦ (.mark m c) (show GC ts 2 (2 * n + 1 + 1) _ from (GC.mark hc).up)
              rw [cD_mark] at z
              simpa using z
            · rw [if_neg (by omega)]
              -- a row or a choice
              have rest : ∀ (ch : Bool) (E : DEn), (∀ cs : List Ct, 2 ≤ cs.length → cs.length ≤ 2 → (∀ c ∈ cs, GC ts 2 (2 * n + 1) c ∧ kS c ≠ sS ch) → ∀ o6 o7, E.nx [some OV.draw, some (OV.d (D.lst (List.map D.str ts))), some (OV.d (D.int ↑k)), some (OV.d (D.int ↑form)), some (.d (.str (sS ch))), some (.l (cs.map cD)), o6, o7]) →
                  dFor (dIR1 (dCons (dC (D.int 2)) dNil)) (dName 6) (dSeq (dAsg (dCall (sContent n) (dASlot 0 (dACons (dVar 1) (dACons (dOp (oI0 fun i j => D.int (i - j)) (dVar 2) (dC (D.int 1))) dANil)))) (dName 7))
                    (dApp 5 (dIf (dTest (dOp oEq (dOp oIxT (dVar 7) (dC (D.int 0))) (dVar 4))) (dTup (dCons (dC (D.str "maybe")) (dCons (dVar 7) dNil))) (dVar 7)))) E
                    [some OV.draw, some (OV.d (D.lst (List.map D.str ts))), some (OV.d (D.int ↑k)), some (OV.d (D.int ↑form)), some (.d (.str (sS ch))), some (.l []), none, none] := by
                intro ch E hE
                refine for_inv (rngD 0 2) _ (fun j ρ => ∃ (cs : List Ct) (o6 o7 : Option OV), ρ = [some OV.draw, some (OV.d (D.lst (List.map D.str ts))), some (OV.d (D.int ↑k)), some (OV.d (D.int ↑form)), some (.d (.str (sS ch))), some (.l (cs.map cD)), o6, o7] ∧ cs.length = j ∧ ∀ c ∈ cs, GC ts 2 (2 * n + 1) c ∧ kS c ≠ sS ch)
                  (fun Ψ h => ?_) ⟨[], none, none, rfl, rfl, fun c h => nomatch h⟩ ?_ ?_
                · simp
                  exact h
                · rintro j x ρ hx ⟨cs, o6, o7, rfl, hl, hc⟩
                  have hj : j < 2 := by
                    have := (List.getElem?_eq_some_iff.mp hx).1
                    rwa [rngD_len] at this
                  simp
                  refine ⟨ts, k - 1, by rw [show ((k : Int) - 1) = ((k - 1 : Nat) : Int) by omega], by omega, ht, htl, fun c hc1 => ?_⟩
                  obtain ⟨r, hr⟩ := cD_tup c
                  simp [hr]
                  by_cases hk : kS c = sS ch
                  · simp [hk]
                    refine ⟨by omega, cs ++ [.mark .maybe c], ?_, by simp [hl], ?_⟩
                    · simp [hr, mS, hk]
                    · intro c' h
                      rcases List.mem_append.mp h with h | h
                      · exact hc c' h
                      · rw [List.mem_singleton.mp h]
                        exact ⟨.mark hc1, show kS (.mark .maybe c) ≠ sS ch from mS_ne .maybe ch⟩
                  · simp [hk]
                    refine ⟨by omega, cs ++ [c], ?_, by simp [hl], ?_⟩
                    · simp [hr]
                    · intro c' h
                      rcases List.mem_append.mp h with h | h
                      · exact hc c' h
                      · rw [List.mem_singleton.mp h]
                        exact ⟨hc1.up, hk⟩
                · rintro ρ ⟨cs, o6, o7, rfl, hl, hc⟩
                  rw [rngD_len] at hl
                  exact hE cs (by omega) (by omega) hc o6 o7
              have fin : ∀ (ch : Bool) (cs : List Ct), 2 ≤ cs.length → cs.length ≤ 2 → (∀ c ∈ cs, GC ts 2 (2 * n + 1) c ∧ kS c ≠ sS ch) → Φ (.tup [.str (sS ch), .tup (cs.map cD)]) [OV.draw, OV.d (D.lst (List.map D.str ts)), OV.d (D.int ↑k)] := by
                intro ch cs h2 hl hc
                have z := hΦ (.seq ch cs) (show GC ts 2 (2 * n + 1 + 1) _ from .seq h2 hl (fun c h => (hc c h).1) fun c h => (hc c h).2)
                rwa [cD_seq] at z
              by_cases h4 : form < 5
              · rw [if_pos (by omega)]
                refine rest false _ fun cs h2 hl hc o6 o7 => ?_
                simp
                exact fin false cs h2 hl hc
              · rw [if_neg (by omega)]
                refine rest true _ fun cs h2 hl hc o6 o7 => ?_
                simp
                exact fin true cs h2 hl hc
      case sec =>
        refine ⟨7, rfl, by decide, by decide, fun r hr => ?_⟩
        simp
        by_cases hr0 : r = 0
        · rw [if_pos hr0]
          exact hΦ .empty .empty
        · rw [if_neg hr0]
          have hn : 0 < ts.length := List.length_pos_iff.mpr ht
          refine ⟨ts.length, rfl, hn, by omega, fun r2 hr2 => ?_⟩
          have g := List.getElem?_eq_getElem hr2
          simp [g]
          have z := hΦ (.ty ts[r2]) (show GC ts 2 (2 * n + 1 + 1) _ from .ty (List.getElem_mem hr2))
          rwa [cD_ty] at z
end
end K49
namespace K49
open PySem PySem.Spec PyProof.Rows L2 DL CT
/-! ### _law_schema -/
def tys : List Str := ["t", "u", "vv"]
def nms : List Str := ["a", "b", "ab"]
/-- the law's schemas -/
structure GS (k : Nat) (rs : List Rl) : Prop where
  wds : ∃ n, 1 ≤ n ∧ n ≤ 3 ∧ rs.map Rl.wd = tys.take n
  nm : ∀ r ∈ rs, r.nm ∈ nms
  ct : ∀ r ∈ rs, GC (rs.map Rl.wd) 2 (2 * k) r.ct
def sSchema : SD := fun os Φ => ∃ many k : Nat, os = [.draw, .d (.int (many : Nat)), .d (.int (k : Nat))] ∧ k < 3 ∧ 0 < many ∧ many ≤ 3 ∧ ∀ rs, GS 3 rs → Φ (schD rs) [.draw, .d (.int (many : Nat)), .d (.int (k : Nat))]
theorem cutD_take (xs : List D) (k : Nat) (h : k ≤ xs.length) : DL.cutD xs none (some (k : Int)) = xs.take k := by
  unfold DL.cutD
  rw [HT.sIx_nat, Nat.min_eq_left h]
  show List.take (k - 0) (List.drop 0 xs) = _
  rw [Nat.sub_zero, List.drop_zero]
section
variable [Tbs] {P : Program} {w : World} {K : PySem.W.Frag} {mg : Str → Option Value} {base : Heap}
theorem ok_schema (T : Txt P K mg w) : FnOk P w K mg base CX0 6 T.a_law_schema T.fd_law_schema ["draw", "many", "depth"] (spOf K sSchema) := by
  have G_law_content : FnOk P w K mg base CX0 5 T.a_law_content T.fd_law_content ["draw", "types", "depth"] (spOf K (sContent 3)) := ok_content T 3
  have G_law_next : FnOk P w K mg base CX0 1 T.a_law_next T.fd_law_next ["draw", "many"] (spOf K sNext) := ok_nextD T
  refine fnD T.F_law_schema sc_law_schema [0] (k := 5) (fun cdv A outer s H E hr => ⟨_, (pss_cons (ps_set (i := 3) sc_law_schema.nd rfl (by first | exact Or.inl rfl | exact Or.inr rfl) (pe_slice sl_list (pe_lst (pa_cons pe_str (pa_cons pe_str (pa_cons pe_str pa_nil)))) po_none (po_some (pe_op op_add pe_int (pe_call G_law_next (hr.mono (by omega)) (by rfl) T.g_law_next T.F_law_next.kp T.b_law_next .nil pass0 (pa_cons (pv 0) (pa_cons (pv 1) pa_nil)))))))
      (pss_cons (ps_set (i := 4) sc_law_schema.nd rfl (by first | exact Or.inl rfl | exact Or.inr rfl) (pe_lst pa_nil))
      (pss_cons (ps_for PassesOwn.never rfl (pi_list (pv 3)) (pg_name (i := 5) sc_law_schema.nd rfl (by first | exact Or.inl rfl | exact Or.inr rfl)) (pss_one (ps_expr (pe_bm PySem.F.plainAttrs_list PySem.F.slot_list_append PySem.F.type_list_append mt_append (pv 4) (pa_cons (pe_tup (pa_cons (pv 5) (pa_cons (pe_ix (show IxR _ (rIxL K) from ix_list) (pe_lst (pa_cons pe_str (pa_cons pe_str (pa_cons pe_str pa_nil)))) (pe_call G_law_next (hr.mono (by omega)) (by rfl) T.g_law_next T.F_law_next.kp T.b_law_next .nil pass0 (pa_cons (pv 0) (pa_cons pe_int pa_nil))) (fun _ _ => rfl)) (pa_cons (pe_call G_law_content (hr.mono (by omega)) (by rfl) T.g_law_content T.F_law_content.kp T.b_law_content .nil pass0 (pa_cons (pv 0) (pa_cons (pv 3) (pa_cons (pv 2) pa_nil)))) pa_nil)))) pa_nil)))))
      (pss_one (ps_ret (pe_callTy call_tuple_of (by rfl) T.n_tuple (by decide +kernel) (pa_cons (pv 4) pa_nil))))))), (rs_seq (rs_setL (rl_slice (RL.re (rl_lst (rv_cons re_str (rv_cons re_str (rv_cons re_str rv_nil))))) rp_none (rp_some (re_op ro_I0 re_int (re_call (ra_slot (i := 0) (ra_cons (re_var 1) ra_nil)))))))
      (rs_seq (rs_setL (rl_lst rv_nil))
      (rs_seq (rs_for (ri_list (re_var 3)) rg_name (rs_app (i := 4) (re_tup (rv_cons (re_var 5) (rv_cons (re_op ro_ixL (RL.re (rl_lst (rv_cons re_str (rv_cons re_str (rv_cons re_str rv_nil))))) (re_call (ra_slot (i := 0) (ra_cons re_int ra_nil)))) (rv_cons (re_call (ra_slot (i := 0) (ra_cons (re_var 3) (ra_cons (re_var 2) ra_nil)))) rv_nil))))))
      (rs_ret (re_cb rc_tuple (rv_cons (re_var 4) rv_nil))))))⟩) (draw_len fun os Φ h => ?_) (fun os Φ h => ?_)
  · obtain ⟨many, k, rfl, _⟩ := h
    exact ⟨[_, _], rfl, rfl⟩
  · obtain ⟨many, k, rfl, hk, h0, hm, hΦ⟩ := h
    simp
    refine ⟨many, rfl, h0, by omega, fun r hr => ?_⟩
    have hcut : DL.cutD [D.str "t", D.str "u", D.str "vv"] none (some (1 + (r : Int))) = (tys.take (r + 1)).map .str := by
      rw [show (1 : Int) + (r : Int) = ((r + 1 : Nat) : Int) by omega, cutD_take _ _ (show r + 1 ≤ 3 by omega), List.map_take]
      rfl
    simp
    rw [hcut]
    have hl : (tys.take (r + 1)).length = r + 1 := by
      rw [List.length_take]
      show min (r + 1) 3 = r + 1
      omega
    generalize hts : tys.take (r + 1) = ts at hl
    refine for_inv (ts.map .str) [some .draw, some (.d (.int (many : Nat))), some (.d (.int (k : Nat))), some (.d (.lst (ts.map .str))), some (.l []), none]
      (fun j ρ => ∃ (rs : List Rl) (o5 : Option OV), ρ = [some .draw, some (.d (.int (many : Nat))), some (.d (.int (k : Nat))), some (.d (.lst (ts.map .str))), some (.l (rs.map rD)), o5] ∧ rs.map Rl.wd = ts.take j ∧ ∀ q ∈ rs, q.nm ∈ nms ∧ GC ts 2 6 q.ct)
      (fun Ψ h => ?_) ⟨[], none, rfl, rfl, fun q h => nomatch h⟩ ?_ ?_
    · simp
      exact h
    · rintro j x ρ hx ⟨rs, o5, rfl, hw, hq⟩
      rw [List.getElem?_map] at hx
      obtain ⟨wd, hwd, rfl⟩ := Option.map_eq_some_iff.mp hx
      have hlen : rs.length ≤ 3 := by
        have := congrArg List.length hw
        rw [List.length_map, List.length_take] at this
        omega
      simp
      refine ⟨3, rfl, by decide, by decide, fun r2 hr2 => ?_⟩
      obtain ⟨nm, hnm, hmem⟩ : ∃ nm, ([D.str "a", D.str "b", D.str "ab"] : List D)[r2]? = some (.str nm) ∧ nm ∈ nms := by
        match r2, hr2 with
        | 0, _ => exact ⟨"a", rfl, by simp [nms]⟩
        | 1, _ => exact ⟨"b", rfl, by simp [nms]⟩
        | 2, _ => exact ⟨"ab", rfl, by simp [nms]⟩
      simp [hnm]
      refine ⟨ts, k, rfl, hk, (fun z => by rw [z] at hl; cases hl), by omega, fun c hc => ?_⟩
      simp
      refine ⟨by omega, rs ++ [⟨wd, nm, c⟩], by simp [rD], ?_, ?_⟩
      · rw [List.map_append, hw, List.take_add_one, hwd]
        rfl
      · intro q h
        rcases List.mem_append.mp h with h | h
        · exact hq q h
        · rw [List.mem_singleton.mp h]
          exact ⟨hmem, hc⟩
    · rintro ρ ⟨rs, o5, rfl, hw, hq⟩
      rw [List.length_map, List.take_length] at hw
      simp
      exact hΦ rs ⟨⟨r + 1, by omega, by omega, by rw [hw, hts]⟩, fun q h => (hq q h).1, fun q h => by rw [hw]; exact (hq q h).2⟩
end
end K49
namespace K49
open PySem PySem.Spec PyProof.Rows L2 DL CT
/-! ### _law_least, _law_sizes -/
def sLeast (n : Nat) : SD := fun os Φ => ∃ (c : Ct) (sz : Sz) (ts : List Str), os = [.d (cD c), .m (szD sz)] ∧ GC ts 2 n c ∧ Φ (.int (leastC sz c : Nat)) os
theorem intsD_nat (l : List Nat) : intsD (l.map fun n => .int (n : Nat)) = some (l.map fun n : Nat => (n : Int)) := by
  haveI : Tbs := ⟨[], fun _ => none⟩
  have := intsD_map (l.map fun n : Nat => (n : Int))
  rwa [List.map_map] at this
section
variable [Tbs] {P : Program} {w : World} {K : PySem.W.Frag} {mg : Str → Option Value} {base : Heap}
theorem ok_least (T : Txt P K mg w) : ∀ n : Nat, FnOk P w K mg base CX0 (n + 1) T.a_law_least T.fd_law_least ["content", "sizes"] (spOf K (sLeast n)) := by
  intro n
  induction n with
  | zero =>
    refine ⟨fun vs H Q E h => ?_, fun A outer s H args us vs Q E hr e0 hb r h => ?_⟩
    all_goals
      obtain ⟨F, os, Φ, _, _, ⟨c, sz, ts, _, h, _⟩, _⟩ := h
      cases h
  | succ n ih =>
    have G_law_least : FnOk P w K mg base CX0 (n + 1) T.a_law_least T.fd_law_least ["content", "sizes"] (spOf K (sLeast n)) := ih
    refine fnD T.F_law_least sc_law_least [1] (k := n + 1) (fun cdv A outer s H E hr => ⟨_, (pss_cons (ps_if (pt_cmpR op_in_seq (pe_ix (show IxR _ (rIxT K) from ix_tup) (pv 0) pe_int (fun _ _ => rfl)) (pe_tup (pa_cons pe_str (pa_cons pe_str (pa_cons pe_str pa_nil)))) rfl) (pss_one (ps_ret pe_int)) pss_nil)
      (pss_cons (ps_if (pt_cmpR op_eq (pe_ix (show IxR _ (rIxT K) from ix_tup) (pv 0) pe_int (fun _ _ => rfl)) pe_str (nomark _)) (pss_one (ps_ret (pe_dget2 (SX.u1 hr) (pv 1) (pe_ix (show IxR _ (rIxT K) from ix_tup) (pv 0) pe_int (fun _ _ => rfl)) pe_int (by constructor <;> rfl)))) pss_nil)
      (pss_cons (ps_if (pt_cmpR op_eq (pe_ix (show IxR _ (rIxT K) from ix_tup) (pv 0) pe_int (fun _ _ => rfl)) pe_str (nomark _)) (pss_one (ps_ret (pe_call G_law_least (hr.mono (by omega)) (by rfl) T.g_law_least T.F_law_least.kp T.b_law_least .nil pass0 (pa_cons (pe_ix (show IxR _ (rIxT K) from ix_tup) (pv 0) pe_int (fun _ _ => rfl)) (pa_cons (pv 1) pa_nil))))) pss_nil)
      (pss_cons (ps_setLc (i := 2) (own := [("part", 3)]) (g := gName 3) (by rfl) sc_law_least.nd rfl rfl (sw_true rfl rfl rfl (by decide +kernel)) (pi_tup (pe_ix (show IxR _ (rIxT K) from ix_tup) (pv 0) pe_int (fun _ _ => rfl))) (blkOk_by (own := [("part", 3)]) (N := ["content", "sizes", "found", "part"]) (sc := defScope s_law_least) (by decide +kernel)) (fun _ _ _ _ _ => (pg_name (i := 3) sc_law_least.nd rfl (Or.inl rfl))) (fun _ _ _ _ _ => pts_nil) (fun _ _ _ _ _ => (pe_call G_law_least (hr.mono (by omega)) (by rfl) T.g_law_least T.F_law_least.kp T.b_law_least .nil pass0 (pa_cons (pv 3) (pa_cons (pv 1) pa_nil)))))
      (pss_one (ps_ret (pe_ifExp (pt_cmpR op_eq (pe_ix (show IxR _ (rIxT K) from ix_tup) (pv 0) pe_int (fun _ _ => rfl)) pe_str (nomark _)) (pe_callB (cr_sum rfl) (by rfl) T.n_sum (by decide +kernel) (pa_cons (pv 2) pa_nil)) (pe_callB (cr_min rfl) (by rfl) T.n_min (by decide +kernel) (pa_cons (pv 2) pa_nil))))))))), (rs_seq (rs_if (rt_test (re_op ro_in (re_op ro_ixT (re_var 0) re_int) (re_tup (rv_cons re_str (rv_cons re_str (rv_cons re_str rv_nil)))))) (rs_ret re_int) rs_next)
      (rs_seq (rs_if (rt_test (re_op ro_eq (re_op ro_ixT (re_var 0) re_int) re_str)) (rs_ret (re_get2S (i := 1) (re_op ro_ixT (re_var 0) re_int) re_int)) rs_next)
      (rs_seq (rs_if (rt_test (re_op ro_eq (re_op ro_ixT (re_var 0) re_int) re_str)) (rs_ret (re_call (ra_cons (re_op ro_ixT (re_var 0) re_int) (ra_slot (i := 1) ra_nil)))) rs_next)
      (rs_seq (rs_setL (rl_lc (ri_tup (re_op ro_ixT (re_var 0) re_int)) rg_name rt_yes (re_call (ra_cons (re_var 3) (ra_slot (i := 1) ra_nil)))))
      (rs_ret (re_if (rt_test (re_op ro_eq (re_op ro_ixT (re_var 0) re_int) re_str)) (re_cb rc_sum (rv_cons (re_var 2) rv_nil)) (re_cb rc_min (rv_cons (re_var 2) rv_nil))))))))⟩) (own_len fun os Φ h => ?_) (fun os Φ h => ?_)
    · obtain ⟨c, sz, ts, rfl, _⟩ := h
      exact ⟨rfl, rfl⟩
    · obtain ⟨c, sz, ts, rfl, hc, hΦ⟩ := h
      cases hc with
      | empty => simp; simpa using hΦ
      | ty hw =>
        rename_i w
        simp [valD_sz]
        cases e : szL sz w with
        | none => simpa [e] using hΦ
        | some k => simpa [e] using hΦ
      | mark hc =>
        rename_i m c
        cases m with
        | many => simp [mS]; simpa [mS] using hΦ
        | maybe => simp [mS]; simpa [mS] using hΦ
        | some =>
          simp [mS]
          exact ⟨c, sz, ts, rfl, hc, by simpa [mS] using hΦ⟩
      | seq h2 hl hc hk =>
        rename_i ch cs
        have sq : ∀ (Ω : List D → DL.Env → Prop), Ω ((cs.map (leastC sz)).map fun n => .int (n : Nat)) [some (.d (cD (.seq ch cs))), some (.m (szD sz)), none, none] →
            dLc (dIT (dOp oIxT (dVar 0) (dC (D.int 1)))) (dName 3) dYes (dCall (sLeast n) (dACons (dVar 3) (dASlot 1 dANil))) [3] [some (.d (cD (.seq ch cs))), some (.m (szD sz)), none, none] Ω := by
          intro Ω hΩ
          refine lc_z (cs.map cD) ((cs.map (leastC sz)).map fun n => .int (n : Nat)) [some (.d (cD (.seq ch cs))), some (.m (szD sz)), none, none] [some (.d (cD (.seq ch cs))), some (.m (szD sz)), none, none] (fun Ψ h => ?_) rfl (by rw [List.length_map]; omega) (by simp) (fun k x e hx he A hA => ?_) hΩ
          · simp
            simpa using h
          · rw [List.getElem?_map] at hx
            obtain ⟨c, hc1, rfl⟩ := Option.map_eq_some_iff.mp hx
            rw [List.getElem?_map, List.getElem?_map, hc1] at he
            cases he
            simp
            exact ⟨c, sz, ts, rfl, hc c (List.mem_of_getElem? hc1), by simpa using hA _ (by simp)⟩
        have hne : cs ≠ [] := fun z => by rw [z] at h2; cases h2
        cases ch with
        | false =>
          simp [sS]
          simp [sS] at sq
          refine sq _ ?_
          simp
          have e := intsD_nat (cs.map (leastC sz))
          rw [List.map_map] at e
          refine ⟨_, e, ?_⟩
          rw [sum_cast]
          simpa [sS] using hΦ
        | true =>
          simp [sS]
          simp [sS] at sq
          refine sq _ ?_
          simp
          have e := intsD_nat (cs.map (leastC sz))
          rw [List.map_map] at e
          refine ⟨_, e, ?_, fun m h1 h3 => ?_⟩
          · rw [List.length_map, List.length_map]
            exact List.length_pos_iff.mpr hne
          · rw [min_is h1 h3]
            simpa [sS] using hΦ
/-- one rule of a turn -/
def stepR (sz : Sz) (r : Rl) : Sz := if 2 + leastC sz r.ct < 1000000 ∧ 2 + leastC sz r.ct < (szL sz r.wd).getD 1000000 then szPut sz r.wd (2 + leastC sz r.ct) else sz
def turnR (rs : List Rl) (sz : Sz) : Sz := rs.foldl stepR sz
def turnsR (rs : List Rl) : Nat → Sz
  | 0 => []
  | n + 1 => turnR rs (turnsR rs n)
def lawSizes (rs : List Rl) : Sz := turnsR rs (rs.length + 1)
def sSizes : List D → (D → Prop) → Prop := fun ds Φ => ∃ rs, ds = [schD rs] ∧ GS 3 rs ∧ Φ (.dct (szD (lawSizes rs)))
theorem szPut_len (sz : Sz) (w : Str) (n : Nat) : (szPut sz w n).length ≤ sz.length + 1 := by
  unfold szPut
  split
  · rw [List.length_map]; omega
  · rw [List.length_append]; exact Nat.le_refl _
theorem stepR_len (sz : Sz) (r : Rl) : (stepR sz r).length ≤ sz.length + 1 := by
  unfold stepR
  split
  · exact szPut_len _ _ _
  · omega
theorem fold_len (rs : List Rl) : ∀ sz : Sz, (rs.foldl stepR sz).length ≤ sz.length + rs.length := by
  induction rs with
  | nil => intro sz; exact Nat.le_refl _
  | cons r rs ih =>
    intro sz
    have h1 := ih (stepR sz r)
    have h2 := stepR_len sz r
    rw [List.foldl_cons, List.length_cons]
    omega
theorem turns_len (rs : List Rl) : ∀ n, (turnsR rs n).length ≤ n * rs.length
  | 0 => Nat.zero_le _
  | n + 1 => by
    have h1 := turns_len rs n
    have h2 := fold_len rs (turnsR rs n)
    rw [Nat.succ_mul]
    exact Nat.le_trans h2 (by omega)
theorem GS.len {k : Nat} {rs : List Rl} (h : GS k rs) : rs.length ≤ 3 ∧ 1 ≤ rs.length := by
  obtain ⟨n, h1, h2, h3⟩ := h.wds
  have := congrArg List.length h3
  rw [List.length_map, List.length_take] at this
  have : rs.length = min n 3 := this
  omega
theorem ite_ok {c : Prop} [Decidable c] {p q : Prop} (h1 : c → p) (h2 : ¬ c → q) : if c then p else q := by
  split
  · exact h1 ‹_›
  · exact h2 ‹_›
def IO (a b : OV) (n : Nat) (ρ : DL.Env) : Prop := ∃ o : List (Option OV), o.length = n ∧ ρ = some a :: some b :: o
theorem IO.mk5 (a b : OV) (o2 o3 o4 o5 o6 : Option OV) : IO a b 5 [some a, some b, o2, o3, o4, o5, o6] := ⟨_, rfl, rfl⟩
theorem IO.of5 {a b : OV} {ρ : DL.Env} (h : IO a b 5 ρ) : ∃ o2 o3 o4 o5 o6 : Option OV, ρ = [some a, some b, o2, o3, o4, o5, o6] := by
  obtain ⟨o, h, rfl⟩ := h
  match o, h with
  | [a, b, c, d, e], _ => exact ⟨_, _, _, _, _, rfl⟩
theorem ok_sizes (T : Txt P K mg w) : FnOk P w K mg base CX0 8 T.a_law_sizes T.fd_law_sizes ["schema"] (spOf K (pureS sSizes)) := by
  have G_law_least : FnOk P w K mg base CX0 7 T.a_law_least T.fd_law_least ["content", "sizes"] (spOf K (sLeast 6)) := ok_least T 6
  refine fnD T.F_law_sizes sc_law_sizes [] (k := 7) (fun cdv A outer s H E hr => ⟨_, (pss_cons (ps_set (i := 1) sc_law_sizes.nd rfl (by first | exact Or.inl rfl | exact Or.inr rfl) pe_dnewK)
      (pss_cons (ps_for PassesOwn.never rfl (pi_range1 (by rfl) T.n_range (pa_cons (pe_op op_add (pe_callB call_len (by rfl) T.n_len boot_len (pa_cons (pv 0) pa_nil)) pe_int) pa_nil)) (pg_name (i := 2) sc_law_sizes.nd rfl (by first | exact Or.inl rfl | exact Or.inr rfl)) (pss_one (ps_for PassesOwn.never rfl (pi_tup (pv 0)) (pg_tup (n := 3) (by rfl) (pgs_cons (pg_name (i := 3) sc_law_sizes.nd rfl (by first | exact Or.inl rfl | exact Or.inr rfl)) (pgs_cons (pg_name (i := 4) sc_law_sizes.nd rfl (by first | exact Or.inl rfl | exact Or.inr rfl)) (pgs_cons (pg_name (i := 5) sc_law_sizes.nd rfl (by first | exact Or.inl rfl | exact Or.inr rfl)) pgs_nil)))) (pss_cons (ps_set (i := 6) sc_law_sizes.nd rfl (by first | exact Or.inl rfl | exact Or.inr rfl) (pe_op op_add pe_int (pe_call G_law_least (hr.mono (by omega)) (by rfl) T.g_law_least T.F_law_least.kp T.b_law_least .nil pass0 (pa_cons (pv 5) (pa_cons (pv 1) pa_nil)))))
      (pss_one (ps_if (PW.pt (pw_and (pt_cmpR op_lt (pv 6) pe_int (nomark _)) (pw_and1 (pt_cmpR op_lt (pv 6) (pe_dget2 (SX.u1 hr) (pv 1) (pv 3) pe_int (by constructor <;> rfl)) (nomark _))))) (pss_one (ps_asg (pv 6) (pg_sub (pv 1) (pv 3) (set_dict (SX.u1 hr))))) pss_nil))))))
      (pss_one (ps_ret (pv 1))))), (rs_seq (rs_setM rd_new)
      (rs_seq (rs_for (ri_range1 (rv_cons (re_op ro_I0 (re_cb rc_len (rv_cons (re_var 0) rv_nil)) re_int) rv_nil)) rg_name (rs_for (ri_tup (re_var 0)) (rg_tup (rgs_cons rg_name (rgs_cons rg_name (rgs_cons rg_name rgs_nil)))) (rs_seq (rs_asg (re_op ro_I0 re_int (re_call (ra_cons (re_var 5) (ra_slot (i := 1) ra_nil)))) rg_name)
      (rs_if (rt_and (rt_test (re_op ro_B0 (re_var 6) re_int)) (rt_test (re_op ro_B0 (re_var 6) (re_get2S (i := 1) (re_var 3) re_int)))) (rs_putM (i := 1) (re_var 6) (re_var 3)) rs_next))))
      (rs_ret (re_var 1))))⟩) (pure_len fun ds Φ h => ?_) (fun os Φ h => ?_)
  · obtain ⟨rs, rfl, _⟩ := h
    rfl
  · obtain ⟨ds, rfl, rs, rfl, hg, hΦ⟩ := h
    simp
    obtain ⟨hl3, hl1⟩ := hg.len
    refine for_inv (rngD 0 (rs.length + 1)) [some (OV.d (schD rs)), some (OV.m []), none, none, none, none, none] (fun j ρ => IO (.d (schD rs)) (.m (szD (turnsR rs j))) 5 ρ) (fun Ψ h => ?_) (IO.mk5 ..) ?_ ?_
    · simp [schD]
      have e : ((rs.length : Int) + 1).toNat = rs.length + 1 := by omega
      exact ⟨by omega, by omega, by simpa [schD] using h⟩
    · intro j x ρ hx hρ
      obtain ⟨o2, o3, o4, o5, o6, rfl⟩ := hρ.of5
      have hj : j < rs.length + 1 := by
        have := (List.getElem?_eq_some_iff.mp hx).1
        rwa [rngD_len] at this
      have htl := turns_len rs j
      have hb : (turnsR rs j).length ≤ 12 := Nat.le_trans htl (Nat.le_trans (Nat.mul_le_mul (show j ≤ 4 by omega) hl3) (by decide))
      simp
      refine for_inv (rs.map rD) [some (OV.d (schD rs)), some (OV.m (szD (turnsR rs j))), some (.d x), o3, o4, o5, o6]
        (fun i ρ => IO (.d (schD rs)) (.m (szD ((rs.take i).foldl stepR (turnsR rs j)))) 5 ρ) (fun Ψ h => ?_) (IO.mk5 ..) ?_ ?_
      · simp [schD]
        simpa [schD] using h
      · intro i y ρ hy hρ
        obtain ⟨o2, o3, o4, o5, o6, rfl⟩ := hρ.of5
        rw [List.getElem?_map] at hy
        obtain ⟨r, hr, rfl⟩ := Option.map_eq_some_iff.mp hy
        have htk : rs.take (i + 1) = rs.take i ++ [r] := by rw [List.take_add_one, hr]; rfl
        have hfl : ((rs.take i).foldl stepR (turnsR rs j)).length ≤ 15 := by
          have := fold_len (rs.take i) (turnsR rs j)
          rw [List.length_take] at this
          omega
        have hst : (rs.take (i + 1)).foldl stepR (turnsR rs j) = stepR ((rs.take i).foldl stepR (turnsR rs j)) r := by
          rw [htk, List.foldl_append]
          rfl
        rw [hst]
        clear hst
        generalize (rs.take i).foldl stepR (turnsR rs j) = sz at hfl
        have hz : (szD sz).length < 16777216 := by
          unfold szD
          rw [List.length_map]
          omega
        have cst : (2 : Int) + ((leastC sz r.ct : Nat) : Int) = ((2 + leastC sz r.ct : Nat) : Int) := by omega
        have d1 : putD (szD sz) (.inr r.wd) (.int (2 + ((leastC sz r.ct : Nat) : Int))) = szD (szPut sz r.wd (2 + leastC sz r.ct)) := by rw [cst, putD_sz]
        have d2 := valD_sz sz r.wd
        have d3 (h : 2 + leastC sz r.ct < 1000000 ∧ 2 + leastC sz r.ct < (szL sz r.wd).getD 1000000) : stepR sz r = szPut sz r.wd (2 + leastC sz r.ct) := by
          unfold stepR
          rw [if_pos h]
        have d4 (h : ¬ (2 + leastC sz r.ct < 1000000 ∧ 2 + leastC sz r.ct < (szL sz r.wd).getD 1000000)) : stepR sz r = sz := by
          unfold stepR
          rw [if_neg h]
        generalize hM : (1000000 : Int) = M
        simp [rD]
        refine ⟨r.ct, sz, _, rfl, hg.ct r (List.mem_of_getElem? hr), ?_⟩
        clear cst
        generalize leastC sz r.ct = q at d1 d3 d4 ⊢
        generalize stepR sz r = sz' at d3 d4 ⊢
        generalize hN : (1000000 : Nat) = N at d3 d4
        have hMN : M = (N : Int) := by omega
        clear hM hN
        subst hMN
        cases e : szL sz r.wd with
        | none =>
          rw [e] at d2 d3 d4
          simp only [Option.map_none, Option.getD_none] at d2 d3 d4
          simp [d2]
          refine ite_ok (fun h => ite_ok (fun h' => ⟨hz, ?_⟩) fun h' => ?_) fun h => ?_
          · rw [d1, d3 ⟨by omega, by omega⟩]
            exact IO.mk5 ..
          · exact absurd h h'
          · rw [d4 (fun z => h (by omega))]
            exact IO.mk5 ..
        | some k =>
          rw [e] at d2 d3 d4
          simp only [Option.map_some, Option.getD_some] at d2 d3 d4
          simp [d2]
          refine ite_ok (fun h => ite_ok (fun h' => ⟨hz, ?_⟩) fun h' => ?_) fun h => ?_
          · rw [d1, d3 ⟨by omega, by omega⟩]
            exact IO.mk5 ..
          · rw [d4 (fun z => h' (by omega))]
            exact IO.mk5 ..
          · rw [d4 (fun z => h (by omega))]
            exact IO.mk5 ..
      · intro ρ hρ
        rw [List.length_map, List.take_length] at hρ
        exact hρ
    · intro ρ hρ
      obtain ⟨o2, o3, o4, o5, o6, rfl⟩ := hρ.of5
      rw [rngD_len]
      simp
      exact hΦ
end
end K49
namespace K49
open PySem PySem.Spec PyProof.Rows L2 DL CT
/-! ### least_part -/
def optD : Option Nat → D
  | none => .non
  | some n => .int (n : Nat)
@[simp] theorem optD_none : optD none = .non := rfl
@[simp] theorem optD_some (n : Nat) : optD (some n) = .int (n : Nat) := rfl
def knownN (ps : List (Option Nat)) : List Nat := ps.filterMap id
def minO (l : List Nat) : Option Nat := if l.length = 0 then none else some (minN l)
def partP (sz : Sz) : Ct → List (Option Nat) → Option Nat
  | .empty, _ => some 0
  | .ty w, _ => szL sz w
  | .mark m _, ps => if m = .some then (ps[0]?).join else some 0
  | .seq ch _, ps => if ch = true then minO (knownN ps) else if (knownN ps).length < ps.length then none else some (knownN ps).sum
def sPart : List D → (D → Prop) → Prop := fun ds Φ => ∃ (c : Ct) (ps : List (Option Nat)) (sz : Sz), ds = [cD c, .lst (ps.map optD), .dct (szD sz)] ∧ (∀ c', c = .mark .some c' → 0 < ps.length) ∧ ps.length ≤ 100 ∧ Φ (optD (partP sz c ps))
theorem knownN_len (ps : List (Option Nat)) : (knownN ps).length ≤ ps.length := List.length_filterMap_le _ _
section
variable [Tbs] {P : Program} {w : World} {K : PySem.W.Frag} {mg : Str → Option Value} {base : Heap}
theorem ok_part (T : Txt P K mg w) : FnOk P w K mg base CX0 1 T.a_least_part T.fd_least_part ["content", "parts", "sizes"] (spOf K (pureS sPart)) := by
  refine fnD T.F_least_part sc_least_part [] (k := 0) (fun cdv A outer s H E hr => ⟨_, (pss_cons (ps_set (i := 3) sc_least_part.nd rfl (by first | exact Or.inl rfl | exact Or.inr rfl) (pe_ix (show IxR _ (rIxT K) from ix_tup) (pv 0) pe_int (fun _ _ => rfl)))
      (pss_cons (ps_if (pt_cmpR op_eq (pv 3) pe_str (nomark _)) (pss_one (ps_ret (pe_dget1 (SX.u1 hr) (pv 2) (pe_ix (show IxR _ (rIxT K) from ix_tup) (pv 0) pe_int (fun _ _ => rfl)) (by constructor <;> rfl)))) pss_nil)
      (pss_cons (ps_if (pt_cmpR op_in_seq (pv 3) (pe_tup (pa_cons pe_str (pa_cons pe_str (pa_cons pe_str pa_nil)))) rfl) (pss_one (ps_ret pe_int)) pss_nil)
      (pss_cons (ps_if (pt_cmpR op_eq (pv 3) pe_str (nomark _)) (pss_one (ps_ret (pe_ix (show IxR _ (rIxL K) from ix_list) (pv 1) pe_int (fun _ _ => rfl)))) pss_nil)
      (pss_cons (ps_setLc (i := 4) (own := [("part", 5)]) (g := gName 5) (by rfl) sc_least_part.nd rfl rfl (sw_true rfl rfl rfl (by decide +kernel)) (pi_list (pv 1)) (blkOk_by (own := [("part", 5)]) (N := ["content", "parts", "sizes", "kind", "known", "part"]) (sc := defScope s_least_part) (by decide +kernel)) (fun _ _ _ _ _ => (pg_name (i := 5) sc_least_part.nd rfl (Or.inl rfl))) (fun _ _ _ _ _ => (pts_one (pt_cmpR op_notN (pv 5) pe_non (nomark _)))) (fun _ _ _ _ _ => (pv 5)))
      (pss_cons (ps_if (pt_cmpR op_eq (pv 3) pe_str (nomark _)) (pss_one (ps_ret (pe_callBK (DX.cr_minD rfl) (by rfl) T.n_min (by decide +kernel) (pa_cons (pv 4) pa_nil) (pk_cons pe_non pk_nil)))) pss_nil)
      (pss_cons (ps_if (pt_cmpR op_lt (pe_callB call_len (by rfl) T.n_len boot_len (pa_cons (pv 4) pa_nil)) (pe_callB call_len (by rfl) T.n_len boot_len (pa_cons (pv 1) pa_nil)) (nomark _)) (pss_one (ps_ret pe_non)) pss_nil)
      (pss_one (ps_ret (pe_callB (cr_sum rfl) (by rfl) T.n_sum (by decide +kernel) (pa_cons (pv 4) pa_nil))))))))))), (rs_seq (rs_asg (re_op ro_ixT (re_var 0) re_int) rg_name)
      (rs_seq (rs_if (rt_test (re_op ro_eq (re_var 3) re_str)) (rs_ret (re_get1S (i := 2) (re_op ro_ixT (re_var 0) re_int))) rs_next)
      (rs_seq (rs_if (rt_test (re_op ro_in (re_var 3) (re_tup (rv_cons re_str (rv_cons re_str (rv_cons re_str rv_nil)))))) (rs_ret re_int) rs_next)
      (rs_seq (rs_if (rt_test (re_op ro_eq (re_var 3) re_str)) (rs_ret (re_ixS (i := 1) re_int)) rs_next)
      (rs_seq (rs_setL (rl_lc (ri_list (re_var 1)) rg_name (rt_test (re_op ro_notN (re_var 5) re_non)) (re_var 5)))
      (rs_seq (rs_if (rt_test (re_op ro_eq (re_var 3) re_str)) (rs_ret (DX.re_minD (rv_cons (re_var 4) rv_nil))) rs_next)
      (rs_seq (rs_if (rt_test (re_op ro_B0 (re_lenS (i := 4)) (re_lenS (i := 1)))) (rs_ret re_non) rs_next)
      (rs_ret (re_cb rc_sum (rv_cons (re_var 4) rv_nil))))))))))⟩) (pure_len fun ds Φ h => ?_) (fun os Φ h => ?_)
  · obtain ⟨c, ps, sz, rfl, _⟩ := h
    rfl
  · obtain ⟨ds, rfl, c, ps, sz, rfl, hm, hl, hΦ⟩ := h
    cases c with
    | empty => simp; simpa [partP] using hΦ
    | ty w =>
      simp [valD_sz]
      cases e : szL sz w with
      | none => simpa [e, partP] using hΦ
      | some k => simpa [e, partP] using hΦ
    | mark m c =>
      cases m with
      | many => simp [mS]; simpa [mS, partP] using hΦ
      | maybe => simp [mS]; simpa [mS, partP] using hΦ
      | some =>
        simp [mS]
        have h0 := hm c rfl
        obtain ⟨r, ps', rfl⟩ : ∃ r ps', ps = r :: ps' := by
          cases ps with
          | nil => cases h0
          | cons r ps' => exact ⟨_, _, rfl⟩
        exact ⟨optD r, by simp, by simpa [mS, partP] using hΦ⟩
    | seq ch cs =>
      have ek : (ps.map optD).filter (fun d => !DL.isNon d) = (knownN ps).map fun n : Nat => .int (n : Nat) := by
        clear hΦ hm hl
        unfold knownN
        induction ps with
        | nil => rfl
        | cons p ps ih =>
          cases p with
          | none => simpa using ih
          | some k => simpa using ih
      have hkn := knownN_len ps
      have sq : ∀ (C : D) (Ω : List D → DL.Env → Prop), Ω ((knownN ps).map fun n : Nat => .int (n : Nat)) [some (.d (cD (.seq ch cs))), some (.d (.lst (ps.map optD))), some (.d (.dct (szD sz))), some (.d C), none, none] →
          dLc (dIL (dVar 1)) (dName 5) (dTest (dOp oNotN (dVar 5) (dC D.non))) (dVar 5) [5] [some (.d (cD (.seq ch cs))), some (.d (.lst (ps.map optD))), some (.d (.dct (szD sz))), some (.d C), none, none] Ω := by
        intro C Ω hΩ
        refine lc_fp (ps.map optD) [some (.d (cD (.seq ch cs))), some (.d (.lst (ps.map optD))), some (.d (.dct (szD sz))), some (.d C), none, none] [some (.d (cD (.seq ch cs))), some (.d (.lst (ps.map optD))), some (.d (.dct (szD sz))), some (.d C), none, none] (fun d => !DL.isNon d) id (fun Ψ h => ?_) rfl (by rw [List.length_map]; omega) (fun x hx A B hA hB => ?_) ?_
        · simpa using h
        · obtain ⟨o, _, rfl⟩ := List.mem_map.mp hx
          cases o with
          | none =>
            simp
            exact hB rfl _ (by simp)
          | some k =>
            simp
            exact hA rfl _ (by simp)
        · rw [ek, List.map_id]
          simpa using hΩ
      cases ch with
      | true =>
        simp [sS]
        simp [sS] at sq
        refine sq _ _ ?_
        simp
        refine ⟨_, intsD_nat (knownN ps), fun z => ?_, fun m h1 h3 => ?_⟩
        · have z : knownN ps = [] := by simpa using z
          simpa [sS, partP, minO, z] using hΦ
        · have z : ¬ (knownN ps).length = 0 := fun z => by
            rw [List.eq_nil_of_length_eq_zero z] at h1
            cases h1
          rw [min_is h1 h3]
          simpa [sS, partP, minO, z] using hΦ
      | false =>
        simp [sS]
        simp [sS] at sq
        refine sq _ _ ?_
        simp
        refine ite_ok (fun h => ?_) fun h => ⟨_, intsD_nat (knownN ps), ?_⟩
        · simpa [sS, partP, h] using hΦ
        · rw [sum_cast]
          simpa [sS, partP, h] using hΦ
end
end K49
namespace K49
open PySem PySem.Spec PyProof.Rows L2 DL CT
section
variable {P : Program} {w : World} {K : PySem.W.Frag} {mg : Str → Option Value} {base : Heap}
theorem ok_numbered [Tbs] (T : Txt P K mg w) (SI : Addr → Option NB.SV) (HA : ∀ f sp, NB.spA K SI f = some sp → Held P w K mg base 1 f sp) : FnOk P w K mg base CX0 2 T.a_numbered T.fd_numbered ["root", "inner_of"] (spOf K (pureS (FD.sNum SI))) := by
  refine fnD T.F_numbered sc_numbered [] (k := 1) (fun cdv A outer s H E hr => ⟨_, (pss_cons (ps_set (i := 2) sc_numbered.nd rfl (by first | exact Or.inl rfl | exact Or.inr rfl) (pe_lst pa_nil))
      (pss_cons (ps_set (i := 3) sc_numbered.nd rfl (by first | exact Or.inl rfl | exact Or.inr rfl) (pe_lst (pa_cons (pe_tup (pa_cons (pv 0) (pa_cons pe_non pa_nil))) pa_nil)))
      (pss_cons (ps_while PassesOwn.never (pt_truth (pv 3) (by intro _; rfl)) (pss_cons (ps_asg (pe_bm0 PySem.F.plainAttrs_list PySem.F.slot_list_pop PySem.F.type_list_pop mt_pop (pv 3)) (pg_tup (n := 2) (by rfl) (pgs_cons (pg_name (i := 4) sc_numbered.nd rfl (by first | exact Or.inl rfl | exact Or.inr rfl)) (pgs_cons (pg_name (i := 5) sc_numbered.nd rfl (by first | exact Or.inl rfl | exact Or.inr rfl)) pgs_nil))))
      (pss_cons (ps_set (i := 6) sc_numbered.nd rfl (by first | exact Or.inl rfl | exact Or.inr rfl) (pe_callB call_len (by rfl) T.n_len boot_len (pa_cons (pv 2) pa_nil)))
      (pss_cons (ps_expr (pe_bm PySem.F.plainAttrs_list PySem.F.slot_list_append PySem.F.type_list_append mt_append (pv 2) (pa_cons (pe_tup (pa_cons (pv 4) (pa_cons (pe_lst pa_nil) pa_nil))) pa_nil)))
      (pss_cons (ps_if (pt_cmpR op_notN (pv 5) pe_non (nomark _)) (pss_one (ps_expr (pe_bm PySem.F.plainAttrs_list PySem.F.slot_list_append PySem.F.type_list_append mt_append (pe_ix (show IxR _ (rIxT K) from ix_tup) (pe_ix (show IxR _ (rIxL K) from ix_list) (pv 2) (pv 5) (fun _ _ => rfl)) pe_int (fun _ _ => rfl)) (pa_cons (pv 6) pa_nil)))) pss_nil)
      (pss_one (ps_expr (pe_bm PySem.F.plainAttrs_list PySem.F.slot_list_extend PySem.F.type_list_extend mt_extend (pv 3) (pa_cons (pe_lc (own := [("inner", 7)]) (g := gName 7) (by rfl) sc_numbered.nd  (pi_tup (SX.pe_revT (pe_callA (i := 1) (S := NB.spA K SI) HA (hr.mono (by omega)) rfl (by first | exact Or.inl rfl | exact Or.inr (Or.inl rfl) | exact Or.inr (Or.inr rfl)) (pa_cons (pv 4) pa_nil)))) (blkOk_by (own := [("inner", 7)]) (N := ["root", "inner_of", "nodes", "waiting", "node", "outer", "number", "inner"]) (sc := defScope s_numbered) (by decide +kernel)) (fun _ _ _ _ _ => (pg_name (i := 7) sc_numbered.nd rfl (Or.inl rfl))) (fun _ _ _ _ _ => pts_nil) (fun _ _ _ _ _ => (pe_tup (pa_cons (pv 7) (pa_cons (pv 6) pa_nil))))) pa_nil)))))))))
      (pss_one (ps_ret (pv 2)))))), NB.rs_numbered⟩) (pure_len fun ds Φ h => ?_) (fun os Φ h => ?_)
  · obtain ⟨t, f, s, rfl, _⟩ := h
    rfl
  · obtain ⟨ds, rfl, t, f, s, rfl, h1, h2, h3, hΦ⟩ := h
    exact ⟨t, f, s, rfl, h1, h2, h3, fun o2 o4 o5 o6 o7 => ⟨fun i hi => (nomatch hi), hΦ⟩⟩
theorem gives_folded {X : Cx} (T : Txt X.prog X.K X.mg X.w) {I : Tbs} {SI : Addr → Option NB.SV} (HA : ∀ (J : Tbs) f sp, @NB.spA J X.K SI f = some sp → Held X.prog X.w X.K X.mg X.base 1 f sp) {cdg : Value} (m : Nat) (q : Str) :
    CLX.Gives X ["root", "inner_of", "tell", "nodes", "told", "number", "node", "numbers", "k"] "folded" (defScope s_folded) T.a_folded cdg (defBody s_folded) "tell" 2 2 (m + 2) q (FD.TTf I X.K SI) := by
  intro f c' s H Q vs tl hr HL hco hf hT
  refine FD.fold_run rfl hco hT fun J sL hJT HC HT => ?_
  let K : PySem.W.Frag := X.K
  have G_numbered : FnOk X.prog X.w X.K X.mg X.base CX0 2 T.a_numbered T.fd_numbered ["root", "inner_of"] (@spOf J X.K (pureS (FD.sNum SI))) := @ok_numbered _ _ _ _ _ J T SI (HA J)
  exact ⟨_, (pss_cons (ps_set (i := 3) sc_folded.nd rfl (by first | exact Or.inl rfl | exact Or.inr rfl) (pe_call G_numbered (hr.mono (by omega)) (by rfl) T.g_numbered T.F_numbered.kp T.b_numbered .nil pass0 (pa_cons (pv 0) (pa_cons (pv 1) pa_nil))))
      (pss_cons (ps_set (i := 4) sc_folded.nd rfl (by first | exact Or.inl rfl | exact Or.inr rfl) (pe_op op_rep (pe_lst (pa_cons pe_non pa_nil)) (pe_callB call_len (by rfl) T.n_len boot_len (pa_cons (pv 3) pa_nil))))
      (pss_cons (ps_for PassesOwn.never rfl (pi_range3 (by rfl) T.n_range (pa_cons (pe_op op_sub (pe_callB call_len (by rfl) T.n_len boot_len (pa_cons (pv 3) pa_nil)) pe_int) (pa_cons (pe_un un_neg pe_int) (pa_cons (pe_un un_neg pe_int) pa_nil)))) (pg_name (i := 5) sc_folded.nd rfl (by first | exact Or.inl rfl | exact Or.inr rfl)) (pss_cons (ps_asg (pe_ix (show IxR _ (rIxL K) from ix_list) (pv 3) (pv 5) (fun _ _ => rfl)) (pg_tup (n := 2) (by rfl) (pgs_cons (pg_name (i := 6) sc_folded.nd rfl (by first | exact Or.inl rfl | exact Or.inr rfl)) (pgs_cons (pg_name (i := 7) sc_folded.nd rfl (by first | exact Or.inl rfl | exact Or.inr rfl)) pgs_nil))))
      (pss_one (ps_asg (HL _ _ _ _ _ _ _ (pa_cons (pv 6) (pa_cons (pe_lc (own := [("k", 8)]) (g := gName 8) (by rfl) sc_folded.nd  (pi_list (pv 7)) (blkOk_by (own := [("k", 8)]) (N := ["root", "inner_of", "tell", "nodes", "told", "number", "node", "numbers", "k"]) (sc := defScope s_folded) (by decide +kernel)) (fun _ _ _ _ _ => (pg_name (i := 8) sc_folded.nd rfl (Or.inl rfl))) (fun _ _ _ _ _ => pts_nil) (fun _ _ _ _ _ => (pe_ix (show IxR _ (rIxL K) from ix_list) (pv 4) (pv 8) (fun _ _ => rfl)))) pa_nil)) rfl rfl) (pg_sub (pv 4) (pv 5) set_list)))))
      (pss_one (ps_ret (pe_ix (show IxR _ (rIxL K) from ix_list) (pv 4) pe_int (fun _ _ => rfl))))))), (rs_seq (rs_asg (re_callV (rv_cons (re_var 0) (rv_cons (re_var 1) rv_nil))) rg_name)
      (rs_seq (rs_setL (rl_op rol_rep (RL.re (rl_lst (rv_cons re_non rv_nil))) (re_lenS (i := 3))))
      (rs_seq (rs_for (ri_range3 (rv_cons (re_op ro_I0 (re_lenS (i := 3)) re_int) (rv_cons (re_neg re_int) (rv_cons (re_neg re_int) rv_nil)))) rg_name (rs_seq (rs_asg (re_ixS (i := 3) (re_var 5)) (rg_tup (rgs_cons rg_name (rgs_cons rg_name rgs_nil))))
      (rs_putL (i := 4) (FD.re_tell (i := 2) HC HT (rv_cons (re_var 6) (rv_cons (RL.re (rl_lc (ri_list (re_var 7)) rg_name rt_yes (re_ixS (i := 4) (re_var 8)))) rv_nil))) (re_var 5))))
      (rs_ret (re_ixS (i := 4) re_int)))))⟩
end
end K49
namespace K49
open PySem PySem.Spec PyProof.Rows L2 DL CT
/-! ### folded with a lambda; least_content -/
theorem pe_folded {X : Cx} (T : Txt X.prog X.K X.mg X.w) [I : Tbs] {SI : Addr → Option NB.SV} (HA : ∀ (J : Tbs) f sp, @NB.spA J X.K SI f = some sp → Held X.prog X.w X.K X.mg X.base 1 f sp) {m : Nat} {c Pt : Addr} {params : Arguments} {body : Expr} {scope : Scope}
    {t1 t2 tb : TE} {e1 e2 : Expr} {p lpos pos : Pos} {N ps fr : List Str} {js : List Nat} (hg : Gl X "folded") (TB : LamX.TabB X.base X.mg c Pt) (hcode : X.env.code = .ref c) (hmT : (Pt, X.env.qual ++ "<lambda>") ∈ Tbs.T) (hu : ∀ p ∈ Tbs.T, p.1 = Pt → p.2 = X.env.qual ++ "<lambda>")
    (hr : Room (m + 3) X.A) (S : NdefX.NScope N ps fr scope) (hfree : ∀ y ∈ scope.names, y.2 = .free → X.env.scope.names.lookup y.1 = some .cell ∨ X.env.scope.names.lookup y.1 = some .free) (hfr : ∀ y ∈ fr, (y, NameKind.free) ∈ scope.names) (hjs : js.map (fun j => X.N[j]?) = fr.map some) (hdef : defaultsOf params X.env = ([], []))
    (hbind : ∀ (q : Str) (cl : List (Str × Addr)) (pm cv ctv : Value) (us : List Value), us.length = ps.length → bindArgs (PySem.W.kla_fn "<lambda>" q params body scope cl pm cv ctv) ⟨us, []⟩ = pure (ps.zip us))
    (hbody : ∀ (A : Around) (outer : List PySem.Env) (s : Shared) (H : Hp) (f c' : Addr), Room (m + 1) (A.deeper (NdefX.envF (CLX.lamF (X.env.qual ++ "<lambda>") params scope (cloFrom X.env.cells scope.names []) c') f s.heap.objs.size)) →
      PE (NdefX.ncx C8.CX0 X.prog X.w X.K X.mg X.base N (CLX.lamF (X.env.qual ++ "<lambda>") params scope (cloFrom X.env.cells scope.names []) c') f A outer s H CLX.E0) body tb)
    (h1 : PE X e1 t1) (h2 : PE X e2 t2) (hp2 : ps.length = 2 := by rfl)
    (hs1 : starEach [e1, e2, .Lambda params body scope lpos] X.env = [(false, eval e1 X.env), (false, eval e2 X.env), (false, eval (.Lambda params body scope lpos) X.env)] := by rfl)
    (he : starEach [e1, e2, .Lambda params body scope lpos] X.env = (false, eval e1 X.env) :: starEach [e2, .Lambda params body scope lpos] X.env := by rfl) (hpl : (backTo pos (starEach [e2, .Lambda params body scope lpos] X.env)).any (·.1) = false := by rfl) :
    PE X (.Call (.Name "folded" p) [e1, e2, .Lambda params body scope lpos] [] pos) (CLX.tGive Tbs.T (FD.TTf I X.K SI) (tCons t1 (tCons t2 tNil)) fun σ vs HZ1 Q => tb (NdefX.startF N vs (js.map (NdefX.slotAt σ))) HZ1 Q) := by
  obtain ⟨oc, od, kV, doc, pm, an, cdg, ct, osl, efd, lkF, hcF⟩ := T.F_folded.ex
  have hb := T.b_folded
  rw [efd] at hb lkF
  exact CLX.pe_give (k := m + 1) hg T.g_folded T.F_folded.kp lkF hcF hb sc_folded rfl rfl (.inl rfl) (by rw [hp2]; exact gives_folded T HA m _) TB hcode hmT hu hr S hfree hfr hjs hdef hbind hbody h1 h2 (by decide) (by decide) (by decide) hs1 he hpl
mutual
def ctT : Ct → TR.Tr Ct
  | .empty => .nd .empty []
  | .ty w => .nd (.ty w) []
  | .mark m c => .nd (.mark m c) [ctT c]
  | .seq ch cs => .nd (.seq ch cs) (ctTs cs)
def ctTs : List Ct → List (TR.Tr Ct)
  | [] => []
  | c :: cs => ctT c :: ctTs cs
end
theorem ctTs_map (cs : List Ct) : ctTs cs = cs.map ctT := by
  induction cs with
  | nil => rw [ctTs]; rfl
  | cons c cs ih => rw [ctTs, ih]; rfl
theorem ctT_d (c : Ct) : (ctT c).d = c := by cases c <;> rw [ctT] <;> rfl
def kids : Ct → List Ct
  | .empty => []
  | .ty _ => []
  | .mark _ c => [c]
  | .seq _ cs => cs
theorem ctT_ks (c : Ct) : (ctT c).ks = (kids c).map ctT := by
  cases c with
  | seq ch cs => rw [ctT, TR.ks_nd, ctTs_map]; rfl
  | _ => rw [ctT]; rfl
mutual
def leastP (sz : Sz) : Ct → Option Nat
  | .empty => some 0
  | .ty w => szL sz w
  | .mark m c => if m = .some then leastP sz c else some 0
  | .seq ch cs => partP sz (.seq ch cs) (leastPs sz cs)
def leastPs (sz : Sz) : List Ct → List (Option Nat)
  | [] => []
  | c :: cs => leastP sz c :: leastPs sz cs
end
theorem leastPs_map (sz : Sz) (cs : List Ct) : leastPs sz cs = cs.map (leastP sz) := by
  induction cs with
  | nil => rw [leastPs]; rfl
  | cons c cs ih => rw [leastPs, ih]; rfl
theorem leastP_part (sz : Sz) (c : Ct) : leastP sz c = partP sz c ((kids c).map (leastP sz)) := by
  cases c with
  | seq ch cs => rw [leastP, leastPs_map]; rfl
  | mark m c =>
    rw [leastP]
    show _ = if m = .some then _ else _
    rfl
  | _ => rw [leastP]; rfl
theorem GC.kid {ts : List Str} {L n : Nat} {c : Ct} (h : GC ts L n c) : ∀ k ∈ kids c, GC ts L n k := by
  cases h with
  | empty => intro k hk; cases hk
  | ty h => intro k hk; cases hk
  | mark h => intro k hk; rw [List.mem_singleton.mp hk]; exact h.up
  | seq h2 hl h hk => intro k hm; exact (h k hm).up
mutual
theorem pre_ct {ts : List Str} {L n : Nat} : ∀ c : Ct, GC ts L n c → ∀ s ∈ TR.pre (ctT c), s = ctT s.d ∧ GC ts L n s.d
  | .empty, hc, s, h => by
    rw [ctT, TR.pre, TR.pres, List.mem_singleton] at h
    subst h
    exact ⟨by rw [TR.d_nd, ctT], hc⟩
  | .ty w, hc, s, h => by
    rw [ctT, TR.pre, TR.pres, List.mem_singleton] at h
    subst h
    exact ⟨by rw [TR.d_nd, ctT], hc⟩
  | .mark m c, hc, s, h => by
    rw [ctT, TR.pre, TR.pres, TR.pres, List.append_nil] at h
    rcases List.mem_cons.mp h with rfl | h
    · exact ⟨by rw [TR.d_nd, ctT], hc⟩
    · exact pre_ct c (GC.kid hc c (List.mem_singleton.mpr rfl)) s h
  | .seq ch cs, hc, s, h => by
    rw [ctT, TR.pre] at h
    rcases List.mem_cons.mp h with rfl | h
    · exact ⟨by rw [TR.d_nd, ctT], hc⟩
    · exact pre_cts cs (GC.kid hc) s h
theorem pre_cts {ts : List Str} {L n : Nat} : ∀ cs : List Ct, (∀ c ∈ cs, GC ts L n c) → ∀ s ∈ TR.pres (ctTs cs), s = ctT s.d ∧ GC ts L n s.d
  | [], _, s, h => by rw [ctTs, TR.pres] at h; cases h
  | c :: cs, hc, s, h => by
    rw [ctTs, TR.pres] at h
    rcases List.mem_append.mp h with h | h
    · exact pre_ct c (hc c List.mem_cons_self) s h
    · exact pre_cts cs (fun c hm => hc c (List.mem_cons_of_mem _ hm)) s h
end
theorem good_ct {ts : List Str} {L n : Nat} {c : Ct} (h : GC ts L n c) : NB.Good sParts (TR.mapT cD (ctT c)) := by
  induction h with
  | empty =>
    rw [ctT, TR.mapT, TR.mapTs]
    exact .nd (fun Φ h => ⟨_, [], rfl, by rw [cD_empty]; exact .one _, h⟩) (fun k hk => nomatch hk)
  | ty hw =>
    rw [ctT, TR.mapT, TR.mapTs]
    exact .nd (fun Φ h => ⟨_, [], rfl, by rw [cD_ty]; exact .str _ _, h⟩) (fun k hk => nomatch hk)
  | mark h ih =>
    rename_i n m c
    rw [ctT, TR.mapT, TR.mapTs, TR.mapTs]
    refine .nd (fun Φ h => ⟨_, [cD c], rfl, ?_, ?_⟩) (fun k hk => by rw [List.mem_singleton.mp hk]; exact ih)
    · rw [cD_mark]
      obtain ⟨r, e⟩ := cD_tup c
      rw [e]
      exact .sub _ _ _
    · rw [List.map_cons, List.map_nil, TR.mapT_d, ctT_d] at h
      exact h
  | seq h2 hl h hk ih =>
    rename_i n ch cs
    rw [ctT, TR.mapT]
    refine .nd (fun Φ hΦ => ⟨_, cs.map cD, rfl, ?_, ?_⟩) (fun k hk => ?_)
    · rw [cD_seq]
      cases cs with
      | nil => cases h2
      | cons c cs =>
        obtain ⟨r, e⟩ := cD_tup c
        rw [List.map_cons, e]
        exact .sq _ _ _
    · rw [TR.mapTs_map, ctTs_map, List.map_map, List.map_map] at hΦ
      have e : (TR.Tr.d ∘ TR.mapT cD) ∘ ctT = cD := by
        funext c
        show (TR.mapT cD (ctT c)).d = cD c
        rw [TR.mapT_d, ctT_d]
      rw [e] at hΦ
      exact hΦ
    · rw [TR.mapTs_map, ctTs_map, List.map_map] at hk
      obtain ⟨c, hc, rfl⟩ := List.mem_map.mp hk
      exact ih c hc
def bnd (L : Nat) : Nat → Nat
  | 0 => 0
  | n + 1 => 1 + (L + 1) * bnd L n
theorem szs_le {b : Nat} : ∀ (cs : List Ct), (∀ c ∈ cs, TR.sz (ctT c) ≤ b) → TR.szs (ctTs cs) ≤ cs.length * b
  | [], _ => by rw [ctTs, TR.szs]; exact Nat.zero_le _
  | c :: cs, h => by
    have h1 := szs_le cs fun c hc => h c (List.mem_cons_of_mem _ hc)
    have h2 := h c List.mem_cons_self
    rw [ctTs, TR.szs, List.length_cons, Nat.succ_mul]
    omega
theorem sz_ct {ts : List Str} {L n : Nat} {c : Ct} (h : GC ts L n c) : TR.sz (ctT c) ≤ bnd L n := by
  induction h with
  | empty => rw [ctT, TR.sz, TR.szs, bnd]; omega
  | ty hw => rw [ctT, TR.sz, TR.szs, bnd]; omega
  | mark h ih =>
    rename_i n m c
    rw [ctT, TR.sz, TR.szs, TR.szs, bnd, Nat.succ_mul]
    omega
  | seq h2 hl h hk ih =>
    rename_i n ch cs
    have h1 := szs_le cs ih
    have h3 : cs.length * bnd L n ≤ L * bnd L n := Nat.mul_le_mul_right _ hl
    rw [ctT, TR.sz, bnd, Nat.succ_mul]
    omega
/-- what least_content promises -/
def sLC : NB.SV := fun ds Φ => ∃ (c : Ct) (sz : Sz) (ts : List Str) (L n : Nat), ds = [cD c, .dct (szD sz)] ∧ GC ts L n c ∧ L ≤ 100 ∧ bnd L n ≤ 1000000 ∧ Φ (optD (leastP sz c))
def LAM : List D → NB.SV := fun caps ds Φ => ds.length = 2 ∧ sPart (ds ++ caps) Φ
section
variable [I : Tbs] {P : Program} {w : World} {K : PySem.W.Frag} {mg : Str → Option Value} {base : Heap}
theorem ok_lc (T : Txt P K mg w) (TB : LamX.TabB base mg T.c_least_content T.P_least_content) (HM : (T.P_least_content, (envOfC "least_content" (defScope s_least_content) 0 0 .none).qual ++ "<lambda>") ∈ Tbs.T) (HU : ∀ p ∈ Tbs.T, p.1 = T.P_least_content → p.2 = (envOfC "least_content" (defScope s_least_content) 0 0 .none).qual ++ "<lambda>") :
    FnOk P w K mg base CX0 4 T.a_least_content T.fd_least_content ["content", "sizes"] (spOf K (pureS sLC)) := by
  let SI : Addr → Option NB.SV := fun a => if a = T.a_parts_of then some sParts else none
  have hSI : SI T.a_parts_of = some sParts := if_pos rfl
  have HA : ∀ (J : Tbs) f sp, @NB.spA J K SI f = some sp → Held P w K mg base 1 f sp := fun J f sp e => by
    unfold NB.spA at e
    by_cases hf : f = T.a_parts_of
    · subst hf
      rw [hSI] at e
      cases e
      exact ⟨_, _, @ok_parts J _ _ _ _ _ T, T.F_parts_of.kp, T.b_parts_of⟩
    · rw [show SI f = none from if_neg hf] at e
      cases e
  have G_least_part : FnOk P w K mg base CX0 1 T.a_least_part T.fd_least_part ["content", "parts", "sizes"] (spOf K (pureS sPart)) := ok_part T
  have HSEM : ∀ caps ds Φ, caps.length = 1 → LAM caps ds Φ → ds.length = 2 ∧ (dCallV sPart (dCons (dVar 0) (dCons (dVar 1) (dCons (dVar 2) dNil)))) (FD.startL ds caps 0) (fun d _ => Φ d) := fun caps ds Φ hc ⟨h1, h2⟩ => by
    match caps, ds, hc, h1, h2 with
    | [c], [a, b], _, _, h2 =>
      refine ⟨rfl, ?_⟩
      simp [FD.startL]
      exact h2
  refine fnDC T.F_least_content T.hc_least_content sc_least_content [] (k := 3) (fun A outer s H E hr => ⟨_, (pss_one (ps_ret (pe_folded T HA (m := 0) (N := ["part", "parts", "sizes"]) (ps := ["part", "parts"]) (fr := ["sizes"]) (js := [1]) (by rfl) TB rfl HM HU (hr.mono (by omega)) (NdefX.nscope_by (by decide +kernel)) (FD.free_by (so := defScope s_least_content) (by decide +kernel)) (by decide +kernel) (by rfl) (by rfl) (fun _ _ _ _ _ us hl => match us, hl with | [_, _], _ => rfl) (fun A outer s H f c' hr => (pe_call G_least_part (hr.mono (by omega)) (by rfl) T.g_least_part T.F_least_part.kp T.b_least_part .nil pass0 (pa_cons (pv 0) (pa_cons (pv 1) (pa_cons (pv 2) pa_nil))))) (pv 0) (pe_glob (v := .ref T.a_parts_of) (by rfl) T.g_parts_of rfl)))), (rs_ret (FD.re_give (I := inferInstance) (nl := 2) (N := ["part", "parts", "sizes"]) (js := [1]) (Lam := LAM) (rv_cons (re_var 0) (rv_cons re_fn rv_nil)) (re_callV (rv_cons (re_var 0) (rv_cons (re_var 1) (rv_cons (re_var 2) rv_nil)))) HSEM))⟩) (pure_len fun ds Φ h => ?_) (fun os Φ h => ?_)
  · obtain ⟨c, sz, ts, L, n, rfl, _⟩ := h
    rfl
  · obtain ⟨ds, rfl, c, sz, ts, L, n, rfl, hc, hL, hn, hΦ⟩ := h
    simp
    refine FD.give_at (α := Ct) [some (.d (cD c)), some (.d (.dct (szD sz)))] cD (ctT c) T.a_parts_of sParts (fun s => optD (leastP sz s.d)) [.dct (szD sz)] (fun Ψ h => ?_) hSI (good_ct hc) (Nat.le_trans (sz_ct hc) hn) rfl (fun s hs Φ' h' => ?_) ?_
    · rw [ctT_d] at h
      simpa using h
    · obtain ⟨e, hcs⟩ := pre_ct c hc s hs
      refine ⟨rfl, s.d, (kids s.d).map (leastP sz), sz, ?_, fun c' e' => ?_, ?_, ?_⟩
      · have ek : s.ks = (kids s.d).map ctT := by
          have := ctT_ks s.d
          rwa [← e] at this
        rw [ek, List.map_map, List.map_map]
        have e3 : ((fun s : TR.Tr Ct => optD (leastP sz s.d)) ∘ ctT) = (optD ∘ leastP sz) := by
          funext c
          show optD (leastP sz (ctT c).d) = _
          rw [ctT_d]
          rfl
        rw [e3]
        rfl
      · rw [e']
        exact Nat.zero_lt_one
      · rw [List.length_map]
        generalize s.d = d at hcs
        cases hcs with
        | empty => exact Nat.zero_le _
        | ty h => exact Nat.zero_le _
        | mark h => exact (show 1 ≤ 100 by decide)
        | seq h2 hl h hk => exact Nat.le_trans hl hL
      · rw [← leastP_part]
        exact h'
    · rw [ctT_d]
      exact hΦ
end
end K49
/-! The least sizes: the law's turns and the program's loop. -/
namespace K49
open L2 DL CT PySem
def leO (a b : Option Nat) : Prop := ∀ y, b = some y → ∃ x, a = some x ∧ x ≤ y
def leS (S T : Sz) : Prop := ∀ w, leO (szL S w) (szL T w)
theorem leO.refl (a : Option Nat) : leO a a := fun y h => ⟨y, h, Nat.le_refl _⟩
theorem leO.trans {a b c : Option Nat} (h : leO a b) (k : leO b c) : leO a c := fun y e => by
  obtain ⟨x, hx, h1⟩ := k y e
  obtain ⟨z, hz, h2⟩ := h x hx
  exact ⟨z, hz, Nat.le_trans h2 h1⟩
theorem leO.anti {a b : Option Nat} (h : leO a b) (k : leO b a) : a = b := by
  cases b with
  | none =>
    cases a with
    | none => rfl
    | some x => obtain ⟨y, hy, _⟩ := k x rfl; cases hy
  | some y =>
    obtain ⟨x, hx, h1⟩ := h y rfl
    obtain ⟨z, hz, h2⟩ := k x hx
    cases hz
    rw [hx, Nat.le_antisymm h1 h2]
theorem leS.refl (S : Sz) : leS S S := fun w => .refl _
theorem leS.trans {S T U : Sz} (h : leS S T) (k : leS T U) : leS S U := fun w => (h w).trans (k w)
theorem szL_put (S : Sz) (w : Str) (n : Nat) (u : Str) : szL (szPut S w n) u = if u = w then some n else szL S u := by
  unfold szPut
  split
  · rename_i h
    unfold szL
    induction S with
    | nil => simp at h
    | cons p S ih =>
      rw [List.map_cons, List.find?_cons, List.find?_cons]
      by_cases hp : p.1 = w
      · rw [if_pos hp]
        by_cases hu : u = w
        · rw [if_pos hu]
          have h1 : decide (p.1 = u) = true := decide_eq_true (by rw [hp, hu])
          simp [h1]
        · rw [if_neg hu]
          have h1 : decide (p.1 = u) = false := decide_eq_false (by rw [hp]; exact fun z => hu z.symm)
          simp only [h1]
          have : ∀ S : Sz, ((S.map fun p => if p.1 = w then (p.1, n) else p).find? fun p => decide (p.1 = u)) = (S.find? fun p => decide (p.1 = u)) := by
            intro S
            induction S with
            | nil => rfl
            | cons q S ih2 =>
              rw [List.map_cons, List.find?_cons, List.find?_cons, ih2]
              by_cases hq : q.1 = w
              · rw [if_pos hq]
                have h2 : decide (q.1 = u) = false := decide_eq_false (by rw [hq]; exact fun z => hu z.symm)
                simp only [h2]
              · rw [if_neg hq]
          rw [this]
      · rw [if_neg hp]
        by_cases hpu : p.1 = u
        · have h1 : decide (p.1 = u) = true := decide_eq_true hpu
          simp only [h1]
          rw [if_neg (fun z => hp (by rw [hpu, z]))]
        · have h1 : decide (p.1 = u) = false := decide_eq_false hpu
          simp only [h1]
          refine ih ?_
          rw [List.any_cons] at h
          simpa [hp] using h
  · rename_i h
    unfold szL
    rw [List.find?_append]
    by_cases hu : u = w
    · rw [if_pos hu]
      have : (S.find? fun p => decide (p.1 = u)) = none := by
        rw [List.find?_eq_none]
        intro p hp hd
        exact h (List.any_eq_true.mpr ⟨p, hp, by rw [← hu]; exact hd⟩)
      rw [this]
      have h1 : decide (w = u) = true := decide_eq_true hu.symm
      simp [h1]
    · rw [if_neg hu]
      have h1 : decide (w = u) = false := decide_eq_false fun z => hu z.symm
      cases (S.find? fun p => decide (p.1 = u)) with
      | none => simp [h1]
      | some p => rfl
/-! ### the parts of a row, of a choice -/
theorem known_cons_none (ps : List (Option Nat)) : knownN (none :: ps) = knownN ps := rfl
theorem known_cons_some (n : Nat) (ps : List (Option Nat)) : knownN (some n :: ps) = n :: knownN ps := rfl
theorem row_some {sz : Sz} {cs : List Ct} {ps : List (Option Nat)} {y : Nat} : partP sz (.seq false cs) ps = some y ↔ ∃ ys : List Nat, ps = ys.map some ∧ y = ys.sum := by
  show (if false = true then minO (knownN ps) else if (knownN ps).length < ps.length then none else some (knownN ps).sum) = some y ↔ _
  rw [if_neg (by decide)]
  have key : ¬ (knownN ps).length < ps.length ↔ ps = (knownN ps).map some := by
    induction ps with
    | nil => exact ⟨fun _ => rfl, fun _ => by simp [knownN]⟩
    | cons p ps ih =>
      cases p with
      | none =>
        have := knownN_len ps
        rw [known_cons_none, List.length_cons]
        refine ⟨fun h => absurd (Nat.lt_succ_of_le this) h, fun h => ?_⟩
        have h2 := congrArg List.length h
        rw [List.length_cons, List.length_map] at h2
        omega
      | some n =>
        rw [known_cons_some, List.length_cons, List.length_cons, List.map_cons]
        refine ⟨fun h => by rw [← ih.mp (by omega)], fun h => ?_⟩
        have := ih.mpr (List.cons.inj h).2
        omega
  constructor
  · intro h
    split at h
    · cases h
    · rename_i hl
      exact ⟨knownN ps, key.mp hl, (Option.some.inj h).symm⟩
  · rintro ⟨ys, rfl, rfl⟩
    have e : knownN (ys.map some) = ys := by
      induction ys with
      | nil => rfl
      | cons y ys ih =>
        rw [List.map_cons, known_cons_some]
        rw [ih (by
          have e : ∀ zs : List Nat, knownN (zs.map some) = zs := fun zs => by
            induction zs with
            | nil => rfl
            | cons z zs ih => rw [List.map_cons, known_cons_some, ih]
          rw [e]
          simp)]
    rw [e, if_neg (by simp)]
theorem mem_known {ps : List (Option Nat)} {x : Nat} : x ∈ knownN ps ↔ some x ∈ ps := by
  unfold knownN
  rw [List.mem_filterMap]
  constructor
  · rintro ⟨o, ho, e⟩
    rw [id] at e
    rw [← e]
    exact ho
  · intro h
    exact ⟨some x, h, rfl⟩
theorem ch_some {sz : Sz} {cs : List Ct} {ps : List (Option Nat)} {y : Nat} : partP sz (.seq true cs) ps = some y ↔ some y ∈ ps ∧ ∀ x, some x ∈ ps → y ≤ x := by
  show minO (knownN ps) = some y ↔ _
  unfold minO
  by_cases h : (knownN ps).length = 0
  · rw [if_pos h]
    have hn := List.eq_nil_of_length_eq_zero h
    refine ⟨fun z => (by cases z), fun ⟨z, _⟩ => ?_⟩
    rw [← mem_known, hn] at z
    cases z
  · rw [if_neg h]
    obtain ⟨m1, m2⟩ := minN_mem (l := knownN ps) (fun z => h (by rw [z]; rfl))
    constructor
    · intro e
      cases e
      exact ⟨mem_known.mp m1, fun x hx => m2 x (mem_known.mpr hx)⟩
    · rintro ⟨z1, z2⟩
      have a := m2 y (mem_known.mpr z1)
      have b := z2 _ (mem_known.mp m1)
      rw [Nat.le_antisymm a b]
theorem least_row (sz : Sz) (cs : List Ct) : leastP sz (.seq false cs) = partP sz (.seq false cs) (cs.map (leastP sz)) := by rw [leastP, leastPs_map]
theorem least_ch (sz : Sz) (cs : List Ct) : leastP sz (.seq true cs) = partP sz (.seq true cs) (cs.map (leastP sz)) := by rw [leastP, leastPs_map]
theorem rows_le {f g : Ct → Option Nat} : ∀ {cs : List Ct} {ys : List Nat}, (∀ c ∈ cs, leO (f c) (g c)) → cs.map g = ys.map some → ∃ xs : List Nat, cs.map f = xs.map some ∧ xs.sum ≤ ys.sum
  | [], ys, _, h => by
    cases ys with
    | nil => exact ⟨[], rfl, Nat.le_refl _⟩
    | cons => cases h
  | c :: cs, [], _, h => by cases h
  | c :: cs, y :: ys, hf, h => by
    rw [List.map_cons, List.map_cons] at h
    obtain ⟨h1, h2⟩ := List.cons.inj h
    obtain ⟨x, hx, hxy⟩ := hf c List.mem_cons_self y h1
    obtain ⟨xs, e, hs⟩ := rows_le (fun c hc => hf c (List.mem_cons_of_mem _ hc)) h2
    refine ⟨x :: xs, by rw [List.map_cons, List.map_cons, hx, e], ?_⟩
    rw [List.sum_cons, List.sum_cons]
    omega
mutual
theorem least_mono {V S : Sz} (h : leS V S) : ∀ c : Ct, leO (leastP V c) (leastP S c)
  | .empty => by rw [leastP, leastP]; exact .refl _
  | .ty w => by rw [leastP, leastP]; exact h w
  | .mark m c => by
    rw [leastP, leastP]
    split
    · exact least_mono h c
    · exact .refl _
  | .seq false cs => by
    intro y hy
    rw [least_row, row_some] at hy
    obtain ⟨ys, e, rfl⟩ := hy
    obtain ⟨xs, e2, hs⟩ := rows_le (least_monos h cs) e
    refine ⟨xs.sum, ?_, hs⟩
    rw [least_row, row_some]
    exact ⟨xs, e2, rfl⟩
  | .seq true cs => by
    intro y hy
    rw [least_ch, ch_some] at hy
    obtain ⟨h1, h2⟩ := hy
    obtain ⟨c, hc, e⟩ := List.mem_map.mp h1
    obtain ⟨x, hx, hxy⟩ := least_monos h cs c hc y e
    rw [least_ch]
    have hm : x ∈ knownN (cs.map (leastP V)) := mem_known.mpr (List.mem_map.mpr ⟨c, hc, hx⟩)
    obtain ⟨m1, m2⟩ := minN_mem (l := knownN (cs.map (leastP V))) (fun z => by rw [z] at hm; cases hm)
    exact ⟨_, ch_some.mpr ⟨mem_known.mp m1, fun z hz => m2 z (mem_known.mpr hz)⟩, Nat.le_trans (m2 x hm) hxy⟩
theorem least_monos {V S : Sz} (h : leS V S) : ∀ cs : List Ct, ∀ c ∈ cs, leO (leastP V c) (leastP S c)
  | [], c, hc => by cases hc
  | k :: cs, c, hc => by
    rcases List.mem_cons.mp hc with e | hc
    · rw [e]; exact least_mono h k
    · exact least_monos h cs c hc
end
theorem rows_eq {f g : Ct → Option Nat} {v : Nat} : ∀ {cs : List Ct} {ys : List Nat}, (∀ c ∈ cs, ∀ m, g c = some m → m < v → f c = some m) → cs.map g = ys.map some → ys.sum < v → cs.map f = ys.map some
  | [], ys, _, h, _ => by
    cases ys with
    | nil => rfl
    | cons => cases h
  | c :: cs, [], _, h, _ => by cases h
  | c :: cs, y :: ys, hf, h, hv => by
    rw [List.map_cons, List.map_cons] at h
    rw [List.sum_cons] at hv
    obtain ⟨h1, h2⟩ := List.cons.inj h
    rw [List.map_cons, List.map_cons, hf c List.mem_cons_self y h1 (by omega), rows_eq (fun c hc => hf c (List.mem_cons_of_mem _ hc)) h2 (by omega)]
mutual
/-- below v all is settled: then what is below v is told -/
theorem least_told {V S : Sz} {v : Nat} (h : leS V S) (hv : ∀ w x, szL V w = some x → x < v → szL S w = some x) : ∀ (c : Ct) (m : Nat), leastP V c = some m → m < v → leastP S c = some m
  | .empty, m, e, hm => by rw [leastP] at e ⊢; exact e
  | .ty w, m, e, hm => by rw [leastP] at e ⊢; exact hv w m e hm
  | .mark mk c, m, e, hm => by
    rw [leastP] at e ⊢
    split
    · rename_i h1
      rw [if_pos h1] at e
      exact least_told h hv c m e hm
    · rename_i h1
      rw [if_neg h1] at e
      exact e
  | .seq false cs, m, e, hm => by
    rw [least_row, row_some] at e ⊢
    obtain ⟨ys, e, rfl⟩ := e
    exact ⟨ys, rows_eq (fun c hc m e hm => least_tolds h hv cs c hc m e hm) e hm, rfl⟩
  | .seq true cs, m, e, hm => by
    rw [least_ch, ch_some] at e ⊢
    obtain ⟨h1, h2⟩ := e
    obtain ⟨c, hc, e⟩ := List.mem_map.mp h1
    refine ⟨List.mem_map.mpr ⟨c, hc, least_tolds h hv cs c hc m e hm⟩, fun x hx => ?_⟩
    obtain ⟨c', hc', e'⟩ := List.mem_map.mp hx
    obtain ⟨z, hz, hzx⟩ := least_mono h c' x e'
    exact Nat.le_trans (h2 z (List.mem_map.mpr ⟨c', hc', hz⟩)) hzx
theorem least_tolds {V S : Sz} {v : Nat} (h : leS V S) (hv : ∀ w x, szL V w = some x → x < v → szL S w = some x) : ∀ (cs : List Ct), ∀ c ∈ cs, ∀ (m : Nat), leastP V c = some m → m < v → leastP S c = some m
  | [], c, hc, m, e, hm => by cases hc
  | k :: cs, c, hc, m, e, hm => by
    rcases List.mem_cons.mp hc with e2 | hc
    · rw [e2] at e ⊢; exact least_told h hv k m e hm
    · exact least_tolds h hv cs c hc m e hm
end
end K49
/-! The least sizes: bounds, steps, turns. -/
namespace K49
open L2 DL CT PySem
mutual
/-- how many types stand in a content -/
def lv : Ct → Nat
  | .empty => 0
  | .ty _ => 1
  | .mark _ c => lv c
  | .seq _ cs => lvs cs
def lvs : List Ct → Nat
  | [] => 0
  | c :: cs => lv c + lvs cs
end
theorem lvs_le {b : Nat} : ∀ (cs : List Ct), (∀ c ∈ cs, lv c ≤ b) → lvs cs ≤ cs.length * b
  | [], _ => Nat.zero_le _
  | c :: cs, h => by
    have h1 := lvs_le cs fun c hc => h c (List.mem_cons_of_mem _ hc)
    have h2 := h c List.mem_cons_self
    rw [lvs, List.length_cons, Nat.succ_mul]
    omega
theorem lv_le {ts : List Str} {L n : Nat} (hL : 1 ≤ L) {c : Ct} (h : GC ts L n c) : lv c ≤ L ^ n := by
  induction h with
  | empty => rw [lv]; exact Nat.zero_le _
  | ty hw => rw [lv]; exact Nat.one_le_pow _ _ hL
  | mark h ih =>
    rename_i n m c
    rw [lv, Nat.pow_succ]
    exact Nat.le_trans ih (Nat.le_mul_of_pos_right _ hL)
  | seq h2 hl h hk ih =>
    rename_i n ch cs
    rw [lv, Nat.pow_succ, Nat.mul_comm]
    exact Nat.le_trans (lvs_le cs ih) (Nat.mul_le_mul_right _ hl)
theorem sum_le {f : Ct → Option Nat} {b : Ct → Nat} {M : Nat} : ∀ {cs : List Ct} {ys : List Nat}, (∀ c ∈ cs, ∀ k, f c = some k → k ≤ lv c * M) → cs.map f = ys.map some → ys.sum ≤ lvs cs * M
  | [], ys, _, h => by
    cases ys with
    | nil => exact Nat.zero_le _
    | cons => cases h
  | c :: cs, [], _, h => by cases h
  | c :: cs, y :: ys, hf, h => by
    rw [List.map_cons, List.map_cons] at h
    obtain ⟨h1, h2⟩ := List.cons.inj h
    have a := hf c List.mem_cons_self y h1
    have b := sum_le (b := b) (fun c hc => hf c (List.mem_cons_of_mem _ hc)) h2
    rw [List.sum_cons, lvs, Nat.add_mul]
    omega
theorem sz_mem {c : Ct} : ∀ {cs : List Ct}, c ∈ cs → lv c ≤ lvs cs
  | k :: cs, h => by
    rw [lvs]
    rcases List.mem_cons.mp h with rfl | h
    · omega
    · have := sz_mem h
      omega
mutual
theorem least_le {S : Sz} {M : Nat} (h : ∀ w x, szL S w = some x → x ≤ M) : ∀ (c : Ct) (k : Nat), leastP S c = some k → k ≤ lv c * M
  | .empty, k, e => by rw [leastP] at e; cases e; exact Nat.zero_le _
  | .ty w, k, e => by
    rw [leastP] at e
    rw [lv]
    have := h w k e
    omega
  | .mark m c, k, e => by
    rw [leastP] at e
    split at e
    · have := least_le h c k e
      rw [lv]
      exact this
    · cases e
      exact Nat.zero_le _
  | .seq false cs, k, e => by
    rw [least_row, row_some] at e
    obtain ⟨ys, e, rfl⟩ := e
    have := sum_le (b := fun _ => 0) (least_les h cs) e
    rw [lv]
    omega
  | .seq true cs, k, e => by
    rw [least_ch, ch_some] at e
    obtain ⟨c, hc, e⟩ := List.mem_map.mp e.1
    have a := least_les h cs c hc k e
    have b := Nat.mul_le_mul_right M (sz_mem hc)
    rw [lv]
    omega
theorem least_les {S : Sz} {M : Nat} (h : ∀ w x, szL S w = some x → x ≤ M) : ∀ (cs : List Ct), ∀ c ∈ cs, ∀ (k : Nat), leastP S c = some k → k ≤ lv c * M
  | [], c, hc, k, e => by cases hc
  | j :: cs, c, hc, k, e => by
    rcases List.mem_cons.mp hc with e2 | hc
    · rw [e2] at e ⊢; exact least_le h j k e
    · exact least_les h cs c hc k e
end
theorem row_none {sz : Sz} {cs : List Ct} {ps : List (Option Nat)} (h : partP sz (.seq false cs) ps = none) : none ∈ ps := by
  apply Classical.byContradiction
  intro hn
  have : ∃ ys : List Nat, ps = ys.map some := by
    clear h
    induction ps with
    | nil => exact ⟨[], rfl⟩
    | cons p ps ih =>
      cases p with
      | none => exact absurd List.mem_cons_self hn
      | some n =>
        obtain ⟨ys, rfl⟩ := ih fun z => hn (List.mem_cons_of_mem _ z)
        exact ⟨n :: ys, rfl⟩
  obtain ⟨ys, rfl⟩ := this
  have := row_some (sz := sz) (cs := cs) (ps := ys.map some) (y := ys.sum) |>.mpr ⟨ys, rfl, rfl⟩
  rw [h] at this
  cases this
theorem ch_none {sz : Sz} {cs : List Ct} {ps : List (Option Nat)} (h : partP sz (.seq true cs) ps = none) : ∀ x, some x ∉ ps := by
  intro x hx
  have hm : x ∈ knownN ps := mem_known.mpr hx
  obtain ⟨m1, m2⟩ := minN_mem (l := knownN ps) (fun z => by rw [z] at hm; cases hm)
  have := ch_some (sz := sz) (cs := cs) (ps := ps) (y := minN (knownN ps)) |>.mpr ⟨mem_known.mp m1, fun z hz => m2 z (mem_known.mpr hz)⟩
  rw [h] at this
  cases this
theorem le_sum {l : List Nat} {x : Nat} (h : x ∈ l) : x ≤ l.sum := by
  induction l with
  | nil => cases h
  | cons a l ih =>
    rw [List.sum_cons]
    rcases List.mem_cons.mp h with rfl | h
    · omega
    · have := ih h
      omega
theorem map_sum {f : Ct → Option Nat} {g : Ct → Nat} : ∀ {cs : List Ct} {ys : List Nat}, (∀ c ∈ cs, ∀ k, f c = some k → g c = k) → cs.map f = ys.map some → cs.map g = ys
  | [], ys, _, h => by
    cases ys with
    | nil => rfl
    | cons => cases h
  | c :: cs, [], _, h => by cases h
  | c :: cs, y :: ys, hf, h => by
    rw [List.map_cons, List.map_cons] at h
    obtain ⟨h1, h2⟩ := List.cons.inj h
    rw [List.map_cons, hf c List.mem_cons_self y h1, map_sum (fun c hc => hf c (List.mem_cons_of_mem _ hc)) h2]
/-- the law's reckoning with a million for none -/
theorem least_law {S : Sz} {M : Nat} (h : ∀ w x, szL S w = some x → x ≤ M) {ts : List Str} {L n : Nat} {c : Ct} (hc : GC ts L n c) : lv c * M < 1000000 → (∀ k, leastP S c = some k → leastC S c = k) ∧ (leastP S c = none → 1000000 ≤ leastC S c) := by
  generalize hN : (1000000 : Nat) = N
  induction hc with
  | empty => intro _; rw [leastP, leastC_empty]; exact ⟨fun k e => (by cases e; rfl), fun e => (by cases e)⟩
  | ty hw =>
    intro _
    rw [leastP, leastC_ty]
    refine ⟨fun k e => by rw [e]; rfl, fun e => ?_⟩
    rw [e, hN]
    exact Nat.le_refl _
  | mark hc ih =>
    rename_i n m c
    intro hb
    rw [lv] at hb
    rw [leastP, leastC_mark]
    split
    · exact ih hb
    · exact ⟨fun k e => (by cases e; rfl), fun e => (by cases e)⟩
  | seq h2 hl hcs hk ih =>
    rename_i n ch cs
    intro hb
    rw [lv] at hb
    have hb' : ∀ c ∈ cs, lv c * M < N := fun c hc => by
      have := Nat.mul_le_mul_right M (sz_mem hc)
      omega
    have ih' := fun c hc => ih c hc (hb' c hc)
    have hle := fun c (hc : c ∈ cs) k e => Nat.lt_of_le_of_lt (least_les h cs c hc k e) (hb' c hc)
    have hne : cs ≠ [] := fun z => by rw [z] at h2; cases h2
    cases ch with
    | false =>
      rw [least_row]
      have e1 : leastC S (.seq false cs) = (cs.map (leastC S)).sum := by rw [leastC, leastCs_map]; rfl
      rw [e1]
      refine ⟨fun k e => ?_, fun e => ?_⟩
      · obtain ⟨ys, e2, e3⟩ := row_some.mp e
        rw [map_sum (fun c hc => (ih' c hc).1) e2, e3]
      · obtain ⟨c, hc, e⟩ := List.mem_map.mp (row_none e)
        exact Nat.le_trans ((ih' c hc).2 e) (le_sum (List.mem_map_of_mem hc))
    | true =>
      rw [least_ch]
      have e1 : leastC S (.seq true cs) = minN (cs.map (leastC S)) := by rw [leastC, leastCs_map]; rfl
      rw [e1]
      obtain ⟨m1, m2⟩ := minN_mem (l := cs.map (leastC S)) (fun z => hne (List.map_eq_nil_iff.mp z))
      refine ⟨fun k e => ?_, fun e => ?_⟩
      · obtain ⟨z1, z2⟩ := ch_some.mp e
        obtain ⟨c, hc, ec⟩ := List.mem_map.mp z1
        have hk := (ih' c hc).1 k ec
        have a := m2 _ (List.mem_map_of_mem (f := leastC S) hc)
        obtain ⟨c', hc', ec'⟩ := List.mem_map.mp m1
        have hkN := hle c hc k ec
        cases q : leastP S c' with
        | none =>
          have := (ih' c' hc').2 q
          omega
        | some x =>
          have b := z2 x (List.mem_map.mpr ⟨c', hc', q⟩)
          have d := (ih' c' hc').1 x q
          omega
      · obtain ⟨c', hc', ec'⟩ := List.mem_map.mp m1
        cases q : leastP S c' with
        | none =>
          have := (ih' c' hc').2 q
          omega
        | some x => exact absurd (List.mem_map.mpr ⟨c', hc', q⟩) (ch_none e x)
/-! ### steps and turns -/
def FR (S : Sz) (r : Rl) : Option Nat := (leastP S r.ct).map (· + 2)
def stepP (S : Sz) (r : Rl) : Sz := match leastP S r.ct with
  | none => S
  | some k => if szL S r.wd = some (k + 2) then S else szPut S r.wd (k + 2)
def Bd : Nat → Nat
  | 0 => 0
  | k + 1 => 2 + 64 * Bd k
theorem Bd_mono (k : Nat) : Bd k ≤ Bd (k + 1) := by
  show Bd k ≤ 2 + 64 * Bd k
  omega
structure Iv (rs : List Rl) (S : Sz) : Prop where
  pre : ∀ r ∈ rs, leO (FR S r) (szL S r.wd)
  bd : ∀ w x, szL S w = some x → x ≤ Bd S.length
  nd : (S.map (·.1)).Nodup
  sub : ∀ w ∈ S.map (·.1), w ∈ rs.map Rl.wd
theorem szL_key {S : Sz} {w : Str} {x : Nat} (h : szL S w = some x) : w ∈ S.map (·.1) := by
  unfold szL at h
  obtain ⟨p, hp, rfl⟩ := Option.map_eq_some_iff.mp h
  have := List.find?_some hp
  rw [decide_eq_true_eq] at this
  exact List.mem_map.mpr ⟨p, List.mem_of_find?_eq_some hp, this⟩
theorem key_szL {S : Sz} {w : Str} (h : w ∈ S.map (·.1)) : ∃ x, szL S w = some x := by
  obtain ⟨p, hp, e⟩ := List.mem_map.mp h
  unfold szL
  cases q : S.find? fun p => decide (p.1 = w) with
  | none => exact absurd (decide_eq_true e) (by simpa using List.find?_eq_none.mp q p hp)
  | some p => exact ⟨_, rfl⟩
theorem put_keys (S : Sz) (w : Str) (n : Nat) : (szPut S w n).map (·.1) = if w ∈ S.map (·.1) then S.map (·.1) else S.map (·.1) ++ [w] := by
  unfold szPut
  have hiff : (S.any fun p => decide (p.1 = w)) = true ↔ w ∈ S.map (·.1) := by
    rw [List.any_eq_true]
    constructor
    · rintro ⟨p, hp, e⟩
      exact List.mem_map.mpr ⟨p, hp, of_decide_eq_true e⟩
    · intro h
      obtain ⟨p, hp, e⟩ := List.mem_map.mp h
      exact ⟨p, hp, decide_eq_true e⟩
  by_cases h : w ∈ S.map (·.1)
  · rw [if_pos h, if_pos (hiff.mpr h), List.map_map]
    congr 1
    funext p
    show (if p.1 = w then (p.1, n) else p).1 = p.1
    split <;> rfl
  · rw [if_neg h, if_neg (fun z => h (hiff.mp z)), List.map_append]
    rfl
theorem put_len (S : Sz) (w : Str) (n : Nat) : (szPut S w n).length = if w ∈ S.map (·.1) then S.length else S.length + 1 := by
  have := congrArg List.length (put_keys S w n)
  rw [List.length_map] at this
  rw [this]
  split
  · rw [List.length_map]
  · rw [List.length_append, List.length_map]; rfl
theorem nodup_len {α : Type} [DecidableEq α] : ∀ {l m : List α}, l.Nodup → (∀ x ∈ l, x ∈ m) → l.length ≤ m.length
  | [], m, _, _ => Nat.zero_le _
  | a :: l, m, h, hs => by
    obtain ⟨h1, h2⟩ := List.nodup_cons.mp h
    have ha := hs a List.mem_cons_self
    have := nodup_len (m := m.erase a) h2 fun x hx => by
      have hxa : x ≠ a := fun z => h1 (by rw [← z]; exact hx)
      exact (List.mem_erase_of_ne hxa).mpr (hs x (List.mem_cons_of_mem _ hx))
    rw [List.length_erase_of_mem ha] at this
    have hp := List.length_pos_of_mem ha
    rw [List.length_cons]
    omega
section
variable {rs : List Rl} (hg : GS 3 rs)
include hg
theorem wd_inj {r r' : Rl} (h : r ∈ rs) (h' : r' ∈ rs) (e : r.wd = r'.wd) : r = r' := by
  obtain ⟨n, _, _, hw⟩ := hg.wds
  have nd : (rs.map Rl.wd).Nodup := by
    rw [hw]
    exact (show tys.Nodup by decide +kernel).sublist (List.take_sublist _ _)
  obtain ⟨i, hi⟩ := List.getElem?_of_mem h
  obtain ⟨j, hj⟩ := List.getElem?_of_mem h'
  have e1 : (rs.map Rl.wd)[i]? = some r.wd := by rw [List.getElem?_map, hi]; rfl
  have e2 : (rs.map Rl.wd)[j]? = some r.wd := by rw [List.getElem?_map, hj, e]; rfl
  have hij : i = j := (List.getElem?_inj (List.getElem?_eq_some_iff.mp e1).1 nd).mp (e1.trans e2.symm)
  subst hij
  rw [hi] at hj
  exact Option.some.inj hj
theorem iv_nil : Iv rs [] := ⟨fun r hr y e => (by cases e), fun w x e => (by cases e), List.nodup_nil, fun w hw => (by cases hw)⟩
theorem ct_sz {r : Rl} (h : r ∈ rs) : lv r.ct ≤ 64 := Nat.le_trans (lv_le (by decide) (hg.ct r h)) (by decide)
theorem iv_len {S : Sz} (I : Iv rs S) : S.length ≤ 3 := by
  have h1 := nodup_len I.nd I.sub
  rw [List.length_map, List.length_map] at h1
  haveI : Tbs := ⟨[], fun _ => none⟩
  have := hg.len
  omega
theorem iv_bd {S : Sz} (I : Iv rs S) : ∀ w x, szL S w = some x → x ≤ 8322 := fun w x e => by
  refine Nat.le_trans (I.bd w x e) ?_
  have h := iv_len hg I
  match S.length, h with
  | 0, _ => decide
  | 1, _ => decide
  | 2, _ => decide
  | 3, _ => decide
theorem step_le {S : Sz} (I : Iv rs S) {r : Rl} (hr : r ∈ rs) : leS (stepP S r) S := by
  intro w
  unfold stepP
  split
  · exact .refl _
  · rename_i k hk
    split
    · exact .refl _
    · rw [szL_put]
      split
      · rename_i hw
        subst hw
        have := I.pre r hr
        unfold FR at this
        rw [hk] at this
        exact this
      · exact .refl _
theorem step_ge {V S : Sz} (h : leS V S) (hV : ∀ r ∈ rs, FR V r = szL V r.wd) {r : Rl} (hr : r ∈ rs) : leS V (stepP S r) := by
  intro w
  unfold stepP
  split
  · exact h w
  · rename_i k hk
    split
    · exact h w
    · rw [szL_put]
      split
      · rename_i hw
        subst hw
        rw [← hV r hr]
        intro y hy
        cases hy
        obtain ⟨x, hx, hxk⟩ := least_mono h r.ct k hk
        exact ⟨x + 2, by unfold FR; rw [hx]; rfl, by omega⟩
      · exact h w
theorem step_told {S : Sz} {r : Rl} {k : Nat} (hk : leastP S r.ct = some k) : szL (stepP S r) r.wd = some (k + 2) := by
  unfold stepP
  rw [hk]
  show szL (if szL S r.wd = some (k + 2) then S else szPut S r.wd (k + 2)) r.wd = _
  split
  · assumption
  · rw [szL_put, if_pos rfl]
theorem step_iv {S : Sz} (I : Iv rs S) {r : Rl} (hr : r ∈ rs) : Iv rs (stepP S r) := by
  have hle := step_le hg I hr
  unfold stepP at hle ⊢
  split at hle
  · exact I
  · rename_i k hk
    split at hle
    · rename_i h1
      rw [if_pos h1]
      exact I
    · rename_i h1
      rw [if_neg h1]
      have hkb := least_le I.bd r.ct k hk
      have hcs := ct_sz hg hr
      have hkb2 : k + 2 ≤ Bd (S.length + 1) := by
        have := Nat.mul_le_mul_right (Bd S.length) hcs
        show k + 2 ≤ 2 + 64 * Bd S.length
        omega
      refine ⟨fun q hq => ?_, fun w x e => ?_, ?_, fun w hw => ?_⟩
      · have hm : leO (FR (szPut S r.wd (k + 2)) q) (FR S q) := by
          intro y hy
          unfold FR at hy ⊢
          obtain ⟨z, hz, rfl⟩ := Option.map_eq_some_iff.mp hy
          obtain ⟨x, hx, hxz⟩ := least_mono hle q.ct z hz
          exact ⟨x + 2, by rw [hx]; rfl, by omega⟩
        rw [szL_put]
        split
        · rename_i e
          have := wd_inj hg hq hr e
          subst this
          have e2 : FR S q = some (k + 2) := by unfold FR; rw [hk]; rfl
          rw [e2] at hm
          exact hm
        · exact hm.trans (I.pre q hq)
      · rw [szL_put] at e
        rw [put_len]
        by_cases hin : r.wd ∈ S.map (·.1)
        · rw [if_pos hin]
          by_cases hw : w = r.wd
          · rw [if_pos hw] at e
            cases e
            obtain ⟨y, hy⟩ := key_szL hin
            obtain ⟨z, hz, hzy⟩ := I.pre r hr y hy
            unfold FR at hz
            rw [hk] at hz
            cases hz
            exact Nat.le_trans hzy (I.bd _ _ hy)
          · rw [if_neg hw] at e
            exact I.bd _ _ e
        · rw [if_neg hin]
          by_cases hw : w = r.wd
          · rw [if_pos hw] at e
            cases e
            exact hkb2
          · rw [if_neg hw] at e
            exact Nat.le_trans (I.bd _ _ e) (Bd_mono _)
      · rw [put_keys]
        split
        · exact I.nd
        · rename_i hin
          refine List.nodup_append.mpr ⟨I.nd, by simp, fun x hx y hy => ?_⟩
          rw [List.mem_singleton.mp hy]
          exact fun z => hin (by rw [← z]; exact hx)
      · rw [put_keys] at hw
        split at hw
        · exact I.sub w hw
        · rcases List.mem_append.mp hw with hw | hw
          · exact I.sub w hw
          · rw [List.mem_singleton.mp hw]
            exact List.mem_map_of_mem hr
/-- the law's step is the program's -/
theorem step_law {S : Sz} (I : Iv rs S) {r : Rl} (hr : r ∈ rs) : stepR S r = stepP S r := by
  have hb := iv_bd hg I
  have hcs := ct_sz hg hr
  obtain ⟨l1, l2⟩ := least_law hb (hg.ct r hr) (by
    have := Nat.mul_le_mul_right 8322 hcs
    omega)
  unfold stepR stepP
  cases q : leastP S r.ct with
  | none =>
    have := l2 q
    rw [if_neg (by omega)]
  | some k =>
    have hk := l1 k q
    have hkb := least_le hb r.ct k q
    have hkb2 : k < 999998 := by
      have := Nat.mul_le_mul_right 8322 hcs
      omega
    rw [hk]
    show _ = if szL S r.wd = some (k + 2) then S else szPut S r.wd (k + 2)
    have e2 : 2 + k = k + 2 := Nat.add_comm _ _
    rw [e2]
    cases hs : szL S r.wd with
    | none =>
      rw [if_pos ⟨by omega, by show k + 2 < 1000000; omega⟩, if_neg (fun z => (nomatch z))]
    | some y =>
      obtain ⟨z, hz, hzy⟩ := I.pre r hr y hs
      unfold FR at hz
      rw [q] at hz
      cases hz
      rw [Option.getD_some]
      by_cases hy : y = k + 2
      · rw [if_neg (show ¬ (k + 2 < 1000000 ∧ k + 2 < y) by omega), if_pos (by rw [hy])]
      · have hzy : k + 2 ≤ y := hzy
        rw [if_pos (show k + 2 < 1000000 ∧ k + 2 < y by omega), if_neg (fun z => hy (Option.some.inj z))]
end
end K49
/-! The least sizes: after as many turns as there are types nothing changes any more. -/
namespace K49
open L2 DL CT PySem
def turnP (rs : List Rl) (S : Sz) : Sz := rs.foldl stepP S
section
variable {rs : List Rl} (hg : GS 3 rs)
include hg
theorem fold_iv {S : Sz} (I : Iv rs S) : ∀ l : List Rl, (∀ r ∈ l, r ∈ rs) → Iv rs (l.foldl stepP S) ∧ l.foldl stepR S = l.foldl stepP S ∧ leS (l.foldl stepP S) S := by
  intro l
  induction l generalizing S with
  | nil => intro _; exact ⟨I, rfl, leS.refl _⟩
  | cons r l ih =>
    intro h
    have hr := h r List.mem_cons_self
    obtain ⟨a, b, c⟩ := ih (step_iv hg I hr) fun q hq => h q (List.mem_cons_of_mem _ hq)
    exact ⟨a, by rw [List.foldl_cons, List.foldl_cons, step_law hg I hr]; exact b, c.trans (step_le hg I hr)⟩
theorem turn_iv {S : Sz} (I : Iv rs S) : Iv rs (turnP rs S) ∧ turnR rs S = turnP rs S ∧ leS (turnP rs S) S := fold_iv hg I rs fun _ h => h
theorem turns_iv : ∀ n, Iv rs (turnsR rs n)
  | 0 => iv_nil hg
  | n + 1 => by
    show Iv rs (turnR rs (turnsR rs n))
    rw [(turn_iv hg (turns_iv n)).2.1]
    exact (turn_iv hg (turns_iv n)).1
theorem turns_step (n : Nat) : turnsR rs (n + 1) = turnP rs (turnsR rs n) := (turn_iv hg (turns_iv hg n)).2.1
theorem fold_ge {V S : Sz} (h : leS V S) (hV : ∀ r ∈ rs, FR V r = szL V r.wd) : ∀ l : List Rl, (∀ r ∈ l, r ∈ rs) → leS V (l.foldl stepP S) := by
  intro l
  induction l generalizing S with
  | nil => intro _; exact h
  | cons r l ih =>
    intro hl
    exact ih (step_ge hg h hV (hl r List.mem_cons_self)) fun q hq => hl q (List.mem_cons_of_mem _ hq)
end
/-! ### a measure -/
def mu1 (S : Sz) (r : Rl) : Nat := match szL S r.wd with
  | none => 1000000
  | some x => x
def mu (rs : List Rl) (S : Sz) : Nat := (rs.map (mu1 S)).sum
theorem sum_mono {f g : Rl → Nat} : ∀ {l : List Rl}, (∀ r ∈ l, f r ≤ g r) → (l.map f).sum ≤ (l.map g).sum
  | [], _ => Nat.le_refl _
  | r :: l, h => by
    have a := h r List.mem_cons_self
    have b := sum_mono (l := l) fun q hq => h q (List.mem_cons_of_mem _ hq)
    rw [List.map_cons, List.map_cons, List.sum_cons, List.sum_cons]
    omega
theorem sum_strict {f g : Rl → Nat} {r : Rl} : ∀ {l : List Rl}, (∀ r ∈ l, f r ≤ g r) → r ∈ l → f r < g r → (l.map f).sum < (l.map g).sum
  | q :: l, h, hr, hs => by
    have a := h q List.mem_cons_self
    have b := sum_mono (l := l) fun q hq => h q (List.mem_cons_of_mem _ hq)
    rw [List.map_cons, List.map_cons, List.sum_cons, List.sum_cons]
    rcases List.mem_cons.mp hr with e | hr
    · rw [e] at hs
      omega
    · have c := sum_strict (l := l) (fun q hq => h q (List.mem_cons_of_mem _ hq)) hr hs
      omega
section
variable {rs : List Rl} (hg : GS 3 rs)
include hg
theorem mu_le {S T : Sz} (h : leS S T) (hS : Iv rs S) : mu rs S ≤ mu rs T := by
  refine sum_mono fun r hr => ?_
  unfold mu1
  have hb := iv_bd hg hS r.wd
  generalize hN : (1000000 : Nat) = N
  cases e : szL T r.wd with
  | none =>
    cases e2 : szL S r.wd with
    | none => exact Nat.le_refl _
    | some x =>
      have := hb x e2
      show x ≤ N
      omega
  | some y =>
    obtain ⟨x, hx, hxy⟩ := h r.wd y e
    rw [hx]
    exact hxy
theorem mu_step {S : Sz} (I : Iv rs S) {r : Rl} (hr : r ∈ rs) (hne : stepP S r ≠ S) : mu rs (stepP S r) < mu rs S := by
  have hle := step_le hg I hr
  have I2 := step_iv hg I hr
  have h1 : ∀ q ∈ rs, mu1 (stepP S r) q ≤ mu1 S q := fun q hq => by
    unfold mu1
    have hb := iv_bd hg I2 q.wd
    generalize hN : (1000000 : Nat) = N
    cases e : szL S q.wd with
    | none =>
      cases e2 : szL (stepP S r) q.wd with
      | none => exact Nat.le_refl _
      | some x =>
        have := hb x e2
        show x ≤ N
        omega
    | some y =>
      obtain ⟨x, hx, hxy⟩ := hle q.wd y e
      rw [hx]
      exact hxy
  refine sum_strict h1 hr ?_
  cases hk : leastP S r.ct with
  | none =>
    exfalso
    apply hne
    unfold stepP
    rw [hk]
  | some k =>
    have ht := step_told hg hk
    have hb := iv_bd hg I2 r.wd _ ht
    unfold mu1
    rw [ht]
    generalize hN : (1000000 : Nat) = N
    cases e : szL S r.wd with
    | none => show k + 2 < N; omega
    | some y =>
      obtain ⟨z, hz, hzy⟩ := I.pre r hr y e
      unfold FR at hz
      rw [hk] at hz
      cases hz
      have hzy : k + 2 ≤ y := hzy
      show k + 2 < y
      rcases Nat.lt_or_eq_of_le hzy with h | h
      · exact h
      · exfalso
        apply hne
        unfold stepP
        rw [hk]
        show (if szL S r.wd = some (k + 2) then S else szPut S r.wd (k + 2)) = S
        rw [if_pos (by rw [e, h])]
theorem mu_fold {S : Sz} (I : Iv rs S) : ∀ l : List Rl, (∀ r ∈ l, r ∈ rs) → (∃ r ∈ l, stepP S r ≠ S) → mu rs (l.foldl stepP S) < mu rs S := by
  intro l
  induction l generalizing S with
  | nil => rintro _ ⟨r, hr, _⟩; cases hr
  | cons q l ih =>
    rintro hl ⟨r, hr, hne⟩
    have hq := hl q List.mem_cons_self
    have hl' := fun q hq => hl q (List.mem_cons_of_mem _ hq)
    by_cases hs : stepP S q = S
    · rw [List.foldl_cons, hs]
      refine ih I hl' ⟨r, ?_, hne⟩
      rcases List.mem_cons.mp hr with rfl | hr
      · exact absurd hs hne
      · exact hr
    · have h1 := mu_step hg I hq hs
      obtain ⟨a, _, c⟩ := fold_iv hg (step_iv hg I hq) l hl'
      have h2 := mu_le hg c a
      rw [List.foldl_cons]
      omega
/-- a turn that changes nothing has no step that changes something -/
theorem fix_steps {S : Sz} (I : Iv rs S) (h : turnP rs S = S) : ∀ r ∈ rs, stepP S r = S := by
  intro r hr
  apply Classical.byContradiction
  intro hne
  have := mu_fold hg I rs (fun _ h => h) ⟨r, hr, hne⟩
  rw [show rs.foldl stepP S = S from h] at this
  omega
theorem ends : ∀ (m : Nat) (S : Sz), Iv rs S → mu rs S ≤ m → ∃ V, Iv rs V ∧ turnP rs V = V := by
  intro m
  induction m with
  | zero =>
    intro S I hm
    by_cases h : turnP rs S = S
    · exact ⟨S, I, h⟩
    · have hx : ∃ r ∈ rs, stepP S r ≠ S := by
        apply Classical.byContradiction
        intro hn
        apply h
        have hall : ∀ r ∈ rs, stepP S r = S := fun r hr => Classical.byContradiction fun z => hn ⟨r, hr, z⟩
        have : ∀ l : List Rl, (∀ r ∈ l, r ∈ rs) → l.foldl stepP S = S := by
          intro l
          induction l with
          | nil => intro _; rfl
          | cons q l ih => intro hl; rw [List.foldl_cons, hall q (hl q List.mem_cons_self)]; exact ih fun q hq => hl q (List.mem_cons_of_mem _ hq)
        exact this rs fun _ h => h
      have := mu_fold hg I rs (fun _ h => h) hx
      omega
  | succ m ih =>
    intro S I hm
    by_cases h : turnP rs S = S
    · exact ⟨S, I, h⟩
    · have hx : ∃ r ∈ rs, stepP S r ≠ S := by
        apply Classical.byContradiction
        intro hn
        apply h
        have hall : ∀ r ∈ rs, stepP S r = S := fun r hr => Classical.byContradiction fun z => hn ⟨r, hr, z⟩
        have : ∀ l : List Rl, (∀ r ∈ l, r ∈ rs) → l.foldl stepP S = S := by
          intro l
          induction l with
          | nil => intro _; rfl
          | cons q l ih => intro hl; rw [List.foldl_cons, hall q (hl q List.mem_cons_self)]; exact ih fun q hq => hl q (List.mem_cons_of_mem _ hq)
        exact this rs fun _ h => h
      have h1 : mu rs (turnP rs S) < mu rs S := mu_fold hg I rs (fun _ h => h) hx
      exact ih _ (turn_iv hg I).1 (by omega)
theorem fix_FR {V : Sz} (I : Iv rs V) (h : turnP rs V = V) : ∀ r ∈ rs, FR V r = szL V r.wd := by
  intro r hr
  have hs := fix_steps hg I h r hr
  cases hk : leastP V r.ct with
  | none =>
    unfold FR
    rw [hk]
    cases e : szL V r.wd with
    | none => rfl
    | some y =>
      obtain ⟨x, hx, _⟩ := I.pre r hr y e
      unfold FR at hx
      rw [hk] at hx
      cases hx
  | some k =>
    have ht := step_told hg hk
    rw [hs] at ht
    unfold FR
    rw [hk, ht]
    rfl
/-- how many are below v in the end -/
def below (V : Sz) (v : Nat) (q : Rl) : Bool := match szL V q.wd with
  | some x => decide (x < v)
  | none => false
omit hg in
theorem below_t {V : Sz} {v x : Nat} {q : Rl} (h : szL V q.wd = some x) : below V v q = decide (x < v) := by unfold below; rw [h]
omit hg in
theorem below_up {V : Sz} {v x : Nat} {q : Rl} (hx : x < v) (h : below V x q = true) : below V v q = true := by
  unfold below at h ⊢
  cases e : szL V q.wd with
  | none => rw [e] at h; cases h
  | some y =>
    rw [e] at h
    have := of_decide_eq_true h
    exact decide_eq_true (by omega)
def cnt (rs : List Rl) (V : Sz) (v : Nat) : Nat := (rs.filter (below V v)).length
theorem cnt_lt {V : Sz} {r : Rl} (hr : r ∈ rs) {v : Nat} (h : szL V r.wd = some v) : cnt rs V v < rs.length := by
  unfold cnt
  refine Nat.lt_of_le_of_ne (List.length_filter_le _ _) fun e => ?_
  have := List.length_filter_eq_length_iff.mp e r hr
  rw [below_t h] at this
  simp at this
theorem cnt_mono {V : Sz} {r : Rl} (hr : r ∈ rs) {x v : Nat} (h : szL V r.wd = some x) (hx : x < v) : cnt rs V x < cnt rs V v := by
  unfold cnt
  have key : ∀ l : List Rl, r ∈ l → (l.filter (below V x)).length < (l.filter (below V v)).length := by
    have weak : ∀ l : List Rl, (l.filter (below V x)).length ≤ (l.filter (below V v)).length := by
      intro l
      induction l with
      | nil => exact Nat.le_refl _
      | cons q l ih =>
        rw [List.filter_cons, List.filter_cons]
        by_cases h1 : below V x q = true
        · rw [if_pos h1, if_pos (below_up hx h1), List.length_cons, List.length_cons]
          omega
        · rw [if_neg h1]
          split
          · rw [List.length_cons]; omega
          · exact ih
    intro l
    induction l with
    | nil => intro h; cases h
    | cons q l ih =>
      intro hm
      rw [List.filter_cons, List.filter_cons]
      by_cases hq : q = r
      · subst hq
        have h1 : ¬ below V x q = true := by rw [below_t h]; simp
        have h2 : below V v q = true := by rw [below_t h]; exact decide_eq_true hx
        rw [if_neg h1, if_pos h2, List.length_cons]
        have := weak l
        omega
      · have hm' : r ∈ l := by
          rcases List.mem_cons.mp hm with e | hm
          · exact absurd e.symm hq
          · exact hm
        have := ih hm'
        by_cases h1 : below V x q = true
        · rw [if_pos h1, if_pos (below_up hx h1), List.length_cons, List.length_cons]
          omega
        · rw [if_neg h1]
          split
          · rw [List.length_cons]; omega
          · exact this
  exact key rs hr
/-- after k turns those are settled that have fewer than k below them -/
theorem ranked {V : Sz} (IV : Iv rs V) (hV : ∀ r ∈ rs, FR V r = szL V r.wd) : ∀ k, leS V (turnsR rs k) ∧ ∀ r ∈ rs, ∀ v, szL V r.wd = some v → cnt rs V v < k → szL (turnsR rs k) r.wd = some v := by
  intro k
  induction k with
  | zero => exact ⟨fun w y e => (by cases e), fun r hr v _ h => absurd h (Nat.not_lt_zero _)⟩
  | succ k ih =>
    obtain ⟨h1, h2⟩ := ih
    have I := turns_iv hg k
    rw [turns_step hg k]
    refine ⟨fold_ge hg h1 hV rs fun _ h => h, ?_⟩
    have key : ∀ (l : List Rl), (∀ r ∈ l, r ∈ rs) → ∀ S : Sz, Iv rs S → leS V S → leS S (turnsR rs k) → ∀ r, r ∈ l ∨ (r ∈ rs ∧ ∀ v, szL V r.wd = some v → cnt rs V v < k + 1 → szL S r.wd = some v) → ∀ v, szL V r.wd = some v → cnt rs V v < k + 1 → szL (l.foldl stepP S) r.wd = some v := by
      intro l
      induction l with
      | nil =>
        rintro _ S _ _ _ r (h | ⟨_, h⟩) v e hc
        · cases h
        · exact h v e hc
      | cons q l ihl =>
        intro hl S IS hVS hSk r hr v e hc
        have hq := hl q List.mem_cons_self
        have I' := step_iv hg IS hq
        have hV' := step_ge hg hVS hV hq
        have hle := step_le hg IS hq
        rw [List.foldl_cons]
        refine ihl (fun q hq => hl q (List.mem_cons_of_mem _ hq)) _ I' hV' (hle.trans hSk) r ?_ v e hc
        have told : ∀ v, szL V q.wd = some v → cnt rs V v < k + 1 → szL (stepP S q) q.wd = some v := by
          intro v e hc
          have hf := hV q hq
          rw [e] at hf
          unfold FR at hf
          obtain ⟨m, hm, emv⟩ := Option.map_eq_some_iff.mp hf
          have emv : m + 2 = v := emv
          have hS : leastP S q.ct = some m := by
            refine least_told (v := v) hVS (fun w x ew hx => ?_) q.ct m hm (by omega)
            obtain ⟨q', hq', ewq⟩ : ∃ q' ∈ rs, q'.wd = w := by
              have := IV.sub w (szL_key ew)
              obtain ⟨q', h1, h2⟩ := List.mem_map.mp this
              exact ⟨q', h1, h2⟩
            subst ewq
            have hc' := cnt_mono hg hq' ew hx
            have h3 := h2 q' hq' x ew (by omega)
            obtain ⟨y, hy, hyx⟩ := hSk q'.wd x h3
            obtain ⟨z, hz, hzy⟩ := hVS q'.wd y hy
            rw [ew] at hz
            cases hz
            rw [hy, Nat.le_antisymm hyx hzy]
          rw [step_told hg hS, emv]
        by_cases hrq : r = q
        · subst hrq
          exact .inr ⟨hq, told⟩
        · rcases hr with hr | ⟨hr, h⟩
          · rcases List.mem_cons.mp hr with e2 | hr
            · exact absurd e2 hrq
            · exact .inl hr
          · refine .inr ⟨hr, fun v e hc => ?_⟩
            obtain ⟨y, hy, hyx⟩ := hle r.wd v (h v e hc)
            obtain ⟨z, hz, hzy⟩ := hV' r.wd y hy
            rw [e] at hz
            cases hz
            rw [hy, Nat.le_antisymm hyx hzy]
    intro r hr v e hc
    exact key rs (fun _ h => h) _ I h1 (leS.refl _) r (.inl hr) v e hc
/-- after as many turns as there are types nothing changes -/
theorem settled : turnP rs (turnsR rs rs.length) = turnsR rs rs.length ∧ ∀ r ∈ rs, stepP (turnsR rs rs.length) r = turnsR rs rs.length := by
  obtain ⟨V, IV, hV⟩ := ends hg _ [] (iv_nil hg) (Nat.le_refl _)
  have hF := fix_FR hg IV hV
  obtain ⟨h1, h2⟩ := ranked hg IV hF rs.length
  have I := turns_iv hg rs.length
  generalize turnsR rs rs.length = S at h1 h2 I
  have h3 : leS S V := fun w y e => by
    obtain ⟨q, hq, ew⟩ := List.mem_map.mp (IV.sub w (szL_key e))
    subst ew
    exact ⟨y, h2 q hq y e (cnt_lt hg hq e), Nat.le_refl _⟩
  have all : ∀ r ∈ rs, stepP S r = S := fun r hr => by
    have e1 : leastP S r.ct = leastP V r.ct := (least_mono h3 r.ct).anti (least_mono h1 r.ct)
    have e2 : szL S r.wd = szL V r.wd := (h3 r.wd).anti (h1 r.wd)
    have e3 := hF r hr
    unfold FR at e3
    unfold stepP
    rw [e1]
    cases hk : leastP V r.ct with
    | none => rfl
    | some k =>
      rw [hk] at e3
      show (if szL S r.wd = some (k + 2) then S else _) = S
      rw [if_pos (by rw [e2, ← e3]; rfl)]
  refine ⟨?_, all⟩
  have : ∀ l : List Rl, (∀ r ∈ l, r ∈ rs) → l.foldl stepP S = S := by
    intro l
    induction l with
    | nil => intro _; rfl
    | cons q l ih => intro hl; rw [List.foldl_cons, all q (hl q List.mem_cons_self)]; exact ih fun q hq => hl q (List.mem_cons_of_mem _ hq)
  exact this rs fun _ h => h
end
end K49
/-! least_sizes, living. -/
namespace K49
open PySem PySem.Spec PyProof.Rows L2 DL CT
def stepO (S A : Sz) (r : Rl) : Sz := match szL S r.wd with
  | none => A
  | some x => szPut A r.wd x
def outS (rs : List Rl) (S : Sz) : Sz := rs.foldl (stepO S) []
def finS (rs : List Rl) : Sz := turnsR rs rs.length
def sLS : NB.SV := fun ds Φ => ∃ rs, ds = [schD rs] ∧ GS 3 rs ∧ Φ (.dct (szD (outS rs (finS rs))))
section
variable {rs : List Rl} (hg : GS 3 rs)
include hg
theorem turns_fix {j : Nat} (h : turnP rs (turnsR rs j) = turnsR rs j) : ∀ i, turnsR rs (j + i) = turnsR rs j
  | 0 => rfl
  | i + 1 => by
    rw [← Nat.add_assoc, turns_step hg, turns_fix h i, h]
theorem fix_fin {j : Nat} (h : turnP rs (turnsR rs j) = turnsR rs j) : turnsR rs j = finS rs := by
  unfold finS
  rcases Nat.le_total j rs.length with hj | hj
  · obtain ⟨i, e⟩ := Nat.le.dest hj
    rw [← e, turns_fix hg h i]
  · obtain ⟨i, e⟩ := Nat.le.dest hj
    rw [← e, turns_fix hg (settled hg).1 i]
theorem nofix_lt {j : Nat} (h : turnP rs (turnsR rs j) ≠ turnsR rs j) : j < rs.length := by
  apply Classical.byContradiction
  intro hj
  obtain ⟨i, e⟩ := Nat.le.dest (Nat.le_of_not_lt hj)
  apply h
  rw [← e, turns_fix hg (settled hg).1 i, (settled hg).1]
end
theorem outS_len (S : Sz) : ∀ (l : List Rl) (A : Sz), (l.foldl (stepO S) A).length ≤ A.length + l.length
  | [], A => Nat.le_refl _
  | r :: l, A => by
    rw [List.foldl_cons, List.length_cons]
    refine Nat.le_trans (outS_len S l _) ?_
    unfold stepO
    split
    · omega
    · haveI : Tbs := ⟨[], fun _ => none⟩
      have := szPut_len A r.wd (by assumption)
      omega
def LI (rs : List Rl) (j : Nat) (S : Sz) (c : Bool) : Prop := (c = false → S = turnsR rs j) ∧ (c = true → mu rs S < mu rs (turnsR rs j))
def WI (rs : List Rl) (m : Nat) (S : Sz) (c : Bool) : Prop := ∃ j, S = turnsR rs j ∧ (c = true → j ≤ rs.length ∧ m = rs.length + 1 - j) ∧ (c = false → m = 0 ∧ S = finS rs)
def InE (rs : List Rl) (A : Sz → Bool → Prop) (ρ : DL.Env) : Prop := ∃ (S : Sz) (c : Bool) (o3 o4 o5 o6 o7 : Option OV), ρ = [some (.d (schD rs)), some (.m (szD S)), some (.d (.bl c)), o3, o4, o5, o6, o7] ∧ A S c
theorem InE.mk {rs : List Rl} {A : Sz → Bool → Prop} {S : Sz} {c : Bool} {o3 o4 o5 o6 o7 : Option OV} (h : A S c) : InE rs A [some (.d (schD rs)), some (.m (szD S)), some (.d (.bl c)), o3, o4, o5, o6, o7] := ⟨_, _, _, _, _, _, _, rfl, h⟩
theorem InE.mk' {rs : List Rl} {A : Sz → Bool → Prop} {S : Sz} {c : Bool} {x : List (Key × D)} {o3 o4 o5 o6 o7 : Option OV} (e : x = szD S) (h : A S c) : InE rs A [some (.d (schD rs)), some (.m x), some (.d (.bl c)), o3, o4, o5, o6, o7] := by
  subst e
  exact .mk h
section
variable [I : Tbs] {P : Program} {w : World} {K : PySem.W.Frag} {mg : Str → Option Value} {base : Heap}
theorem ok_ls (T : Txt P K mg w) (TB : LamX.TabB base mg T.c_least_content T.P_least_content) (HM : (T.P_least_content, (envOfC "least_content" (defScope s_least_content) 0 0 .none).qual ++ "<lambda>") ∈ Tbs.T) (HU : ∀ p ∈ Tbs.T, p.1 = T.P_least_content → p.2 = (envOfC "least_content" (defScope s_least_content) 0 0 .none).qual ++ "<lambda>") :
    FnOk P w K mg base CX0 5 T.a_least_sizes T.fd_least_sizes ["schema"] (spOf K (pureS sLS)) := by
  have G_least_content : FnOk P w K mg base CX0 4 T.a_least_content T.fd_least_content ["content", "sizes"] (spOf K (pureS sLC)) := ok_lc T TB HM HU
  refine fnD T.F_least_sizes sc_least_sizes [] (k := 4) (fun cdv A outer s H E hr => ⟨_, (pss_cons (ps_set (i := 1) sc_least_sizes.nd rfl (by first | exact Or.inl rfl | exact Or.inr rfl) pe_dnewK)
      (pss_cons (ps_set (i := 2) sc_least_sizes.nd rfl (by first | exact Or.inl rfl | exact Or.inr rfl) pe_bl)
      (pss_cons (ps_while PassesOwn.never (pt_val (pv 2)) (pss_cons (ps_set (i := 2) sc_least_sizes.nd rfl (by first | exact Or.inl rfl | exact Or.inr rfl) pe_bl)
      (pss_one (ps_for PassesOwn.never rfl (pi_tup (pv 0)) (pg_tup (n := 3) (by rfl) (pgs_cons (pg_name (i := 3) sc_least_sizes.nd rfl (by first | exact Or.inl rfl | exact Or.inr rfl)) (pgs_cons (pg_name (i := 4) sc_least_sizes.nd rfl (by first | exact Or.inl rfl | exact Or.inr rfl)) (pgs_cons (pg_name (i := 5) sc_least_sizes.nd rfl (by first | exact Or.inl rfl | exact Or.inr rfl)) pgs_nil)))) (pss_cons (ps_set (i := 6) sc_least_sizes.nd rfl (by first | exact Or.inl rfl | exact Or.inr rfl) (pe_call G_least_content (hr.mono (by omega)) (by rfl) T.g_least_content T.F_least_content.kp T.b_least_content .nil pass0 (pa_cons (pv 5) (pa_cons (pv 1) pa_nil))))
      (pss_one (ps_if (PW.pt (pw_and (pt_cmpR op_notN (pv 6) pe_non (nomark _)) (pw_and1 (pt_cmpR op_ne (pe_dget1 (SX.u1 hr) (pv 1) (pv 3) (by constructor <;> rfl)) (pe_op op_add (pv 6) (pe_glob (v := .int (2)) (by rfl) T.g_OWN_EVENTS ⟨_, rfl⟩)) (nomark _))))) (pss_cons (ps_asg (pe_op op_add (pv 6) (pe_glob (v := .int (2)) (by rfl) T.g_OWN_EVENTS ⟨_, rfl⟩)) (pg_sub (pv 1) (pv 3) (set_dict (SX.u1 hr))))
      (pss_one (ps_set (i := 2) sc_least_sizes.nd rfl (by first | exact Or.inl rfl | exact Or.inr rfl) pe_bl))) pss_nil)))))))
      (pss_one (ps_ret (pe_dc (own := [("rule", 7)]) (g := gName 7) (by rfl) sc_least_sizes.nd (pi_tup (pv 0)) (blkOk_by (own := [("rule", 7)]) (N := ["schema", "sizes", "changed", "word", "_", "content", "inside", "rule"]) (sc := defScope s_least_sizes) (by decide +kernel)) (fun _ _ _ _ _ => (pg_name (i := 7) sc_least_sizes.nd rfl (Or.inl rfl))) (fun _ _ _ _ _ => (pts_one (pt_cmpR (op_inDK (SX.u1 hr)) (pe_ix (show IxR _ (rIxT K) from ix_tup) (pv 7) pe_int (fun _ _ => rfl)) (pv 1) rfl))) (fun _ _ _ _ _ => (pe_ix (show IxR _ (rIxT K) from ix_tup) (pv 7) pe_int (fun _ _ => rfl))) (fun _ _ _ _ _ => (pe_dget (SX.u1 hr) (pv 1) (pe_ix (show IxR _ (rIxT K) from ix_tup) (pv 7) pe_int (fun _ _ => rfl)) (fun _ _ => rfl))))))))), (rs_seq (rs_setM rd_new)
      (rs_seq (rs_asg re_bl rg_name)
      (rs_seq (rs_while (rt_B (re_var 2)) (rs_seq (rs_asg re_bl rg_name)
      (rs_for (ri_tup (re_var 0)) (rg_tup (rgs_cons rg_name (rgs_cons rg_name (rgs_cons rg_name rgs_nil)))) (rs_seq (rs_asg (re_callB (ra_cons (re_var 5) (ra_slot (i := 1) ra_nil))) rg_name)
      (rs_if (rt_and (rt_test (re_op ro_notN (re_var 6) re_non)) (rt_test (re_op ro_ne (re_get1S (i := 1) (re_var 3)) (re_op ro_I0 (re_var 6) re_int)))) (rs_seq (rs_putM (i := 1) (re_op ro_I0 (re_var 6) re_int) (re_var 3))
      (rs_asg re_bl rg_name)) rs_next)))))
      (rs_ret (RD.re (rd_dc (ri_tup (re_var 0)) rg_name (rt_test (re_inS (i := 1) (re_op ro_ixT (re_var 7) re_int))) (re_op ro_ixT (re_var 7) re_int) (re_dgetS (i := 1) (re_op ro_ixT (re_var 7) re_int))))))))⟩) (pure_len fun ds Φ h => ?_) (fun os Φ h => ?_)
  · obtain ⟨rs, rfl, _⟩ := h
    rfl
  · obtain ⟨ds, rfl, rs, rfl, hg, hΦ⟩ := h
    simp
    obtain ⟨hl3, hl1⟩ := hg.len
    refine while_inv (fun m ρ => InE rs (WI rs m) ρ) ⟨_, .mk' (S := turnsR rs 0) rfl ⟨0, rfl, fun _ => ⟨Nat.zero_le _, rfl⟩, fun z => (nomatch z)⟩⟩ ?_
    rintro m ρ ⟨S, c, o3, o4, o5, o6, o7, rfl, j, rfl, h1, h2⟩
    cases c with
    | false =>
      obtain ⟨_, hfin⟩ := h2 rfl
      simp
      rw [hfin]
      generalize finS rs = S at hΦ
      have hA : ∀ (i : Nat), ((rs.take i).foldl (stepO S) []).length ≤ 3 := fun i => by
        have := outS_len S (rs.take i) []
        rw [List.length_take, List.length_nil] at this
        omega
      refine dc_inv (rs.map rD) [some (.d (schD rs)), some (.m (szD S)), some (.d (.bl false)), o3, o4, o5, o6, o7] (fun i acc ρ => acc = szD ((rs.take i).foldl (stepO S) []) ∧ ρ = [some (.d (schD rs)), some (.m (szD S)), some (.d (.bl false)), o3, o4, o5, o6, none]) (fun Ψ h => ?_) ⟨rfl, rfl⟩ ?_ ?_
      · simp [schD]
        simpa [schD] using h
      · rintro i x acc ρ hx ⟨rfl, rfl⟩
        rw [List.getElem?_map] at hx
        obtain ⟨r, hr, rfl⟩ := Option.map_eq_some_iff.mp hx
        have htk : rs.take (i + 1) = rs.take i ++ [r] := by rw [List.take_add_one, hr]; rfl
        have hAi := hA i
        rw [htk, List.foldl_append]
        generalize (rs.take i).foldl (stepO S) [] = A at hAi
        rw [List.foldl_cons, List.foldl_nil]
        unfold stepO
        have hz : (szD A).length < 16777216 := by
          unfold szD
          rw [List.length_map]
          omega
        simp [rD, valD_sz]
        cases e : szL S r.wd with
        | none => simp
        | some x => simp [hz, putD_sz]
      · rintro acc ρ ⟨rfl, rfl⟩
        rw [List.length_map, List.take_length]
        simp
        exact hΦ
    | true =>
      obtain ⟨hj, hm⟩ := h1 rfl
      subst hm
      have IS := turns_iv hg j
      simp
      refine for_inv (rs.map rD) [some (.d (schD rs)), some (.m (szD (turnsR rs j))), some (.d (.bl false)), o3, o4, o5, o6, o7]
        (fun i ρ => InE rs (fun S c => S = (rs.take i).foldl stepP (turnsR rs j) ∧ LI rs j S c) ρ)
        (fun Ψ h => ?_) (.mk ⟨rfl, fun _ => rfl, fun z => (nomatch z)⟩) ?_ ?_
      · simp [schD]
        simpa [schD] using h
      · rintro i x ρ hx ⟨S, c, q3, q4, q5, q6, q7, rfl, hS, hc1, hc2⟩
        rw [List.getElem?_map] at hx
        obtain ⟨r, hr, rfl⟩ := Option.map_eq_some_iff.mp hx
        have hrm : r ∈ rs := List.mem_of_getElem? hr
        have htk : rs.take (i + 1) = rs.take i ++ [r] := by rw [List.take_add_one, hr]; rfl
        have hst : (rs.take (i + 1)).foldl stepP (turnsR rs j) = stepP ((rs.take i).foldl stepP (turnsR rs j)) r := by rw [htk, List.foldl_append]; rfl
        have IT := (fold_iv hg IS (rs.take i) fun q hq => List.mem_of_mem_take hq).1
        have hmu := mu_le hg (fold_iv hg IS (rs.take i) fun q hq => List.mem_of_mem_take hq).2.2 IT
        rw [hst]
        clear hst
        rw [← hS] at IT hmu ⊢
        clear hS
        have hz : (szD S).length < 16777216 := by
          unfold szD
          rw [List.length_map]
          have := iv_len hg IT
          omega
        have d2 := valD_sz S r.wd
        have d1 : ∀ k : Nat, putD (szD S) (.inr r.wd) (.int ((k : Int) + 2)) = szD (szPut S r.wd (k + 2)) := fun k => by
          rw [show (k : Int) + 2 = ((k + 2 : Nat) : Int) by omega, putD_sz]
        have mus := mu_step hg IT hrm
        simp [rD]
        refine ⟨r.ct, S, rs.map Rl.wd, 2, 6, rfl, hg.ct r hrm, by decide, by decide, ?_⟩
        cases hk : leastP S r.ct with
        | none =>
          have es : stepP S r = S := by unfold stepP; rw [hk]
          rw [es]
          simp
          exact ⟨rfl, .mk ⟨rfl, hc1, hc2⟩⟩
        | some k =>
          have es : stepP S r = if szL S r.wd = some (k + 2) then S else szPut S r.wd (k + 2) := by unfold stepP; rw [hk]
          simp [d2]
          have grow : stepP S r = szPut S r.wd (k + 2) → szPut S r.wd (k + 2) ≠ S → (szD S).length < 16777216 ∧ InE rs (fun S' c => S' = stepP S r ∧ LI rs j S' c) [some (.d (schD rs)), some (.m (putD (szD S) (.inr r.wd) (.int ((k : Int) + 2)))), some (.d (.bl true)), some (.d (.str r.wd)), some (.d (.str r.nm)), some (.d (cD r.ct)), some (.d (.int (k : Nat))), q7] := fun es hne => by
            rw [es] at mus ⊢
            have := mus hne
            exact ⟨hz, .mk' (d1 k) ⟨rfl, fun z => (nomatch z), fun _ => by omega⟩⟩
          cases e : szL S r.wd with
          | none =>
            rw [e, if_neg (fun z => (nomatch z))] at es
            simp
            exact grow es fun z => by
              have := szL_put S r.wd (k + 2) r.wd
              rw [z, e, if_pos rfl] at this
              cases this
          | some y =>
            simp
            rw [e] at es
            by_cases hy : y = k + 2
            · subst hy
              rw [if_pos rfl] at es
              rw [es]
              simp
              exact .mk ⟨rfl, hc1, hc2⟩
            · have hyi : ¬ ((y : Int) = (k : Int) + 2) := by omega
              rw [if_neg (fun z => hy (Option.some.inj z))] at es
              simp [hyi]
              exact grow es fun z => by
                have := szL_put S r.wd (k + 2) r.wd
                rw [z, e, if_pos rfl] at this
                exact hy (Option.some.inj this)
      · rintro ρ ⟨S, c, q3, q4, q5, q6, q7, rfl, hS, hc1, hc2⟩
        rw [List.length_map, List.take_length] at hS
        have ht : S = turnsR rs (j + 1) := hS.trans (turns_step hg j).symm
        cases c with
        | true =>
          have hlt := nofix_lt hg (j := j) fun z => by
            have := hc2 rfl
            rw [ht, turns_step hg j, z] at this
            exact Nat.lt_irrefl _ this
          exact ⟨rs.length + 1 - (j + 1), by omega, .mk ⟨j + 1, ht, fun _ => ⟨hlt, rfl⟩, fun z => (nomatch z)⟩⟩
        | false =>
          have h3 := hc1 rfl
          have h4 := fix_fin hg (j := j) (by rw [← turns_step hg j, ← ht]; exact h3)
          exact ⟨0, by omega, .mk ⟨j + 1, ht, fun z => (nomatch z), fun _ => ⟨rfl, h3.trans h4⟩⟩⟩
end
end K49
/-! living, the law. -/
namespace K49
open PySem PySem.Spec PyProof.Rows L2 DL CT
/-! ### the sizes that are told are those that are known -/
theorem szL_outS (S : Sz) : ∀ (l : List Rl) (A : Sz) (w : Str), szL (l.foldl (stepO S) A) w = if w ∈ l.map Rl.wd then (szL S w).or (szL A w) else szL A w
  | [], A, w => rfl
  | r :: l, A, w => by
    rw [List.foldl_cons, szL_outS S l, List.map_cons]
    have h1 : szL (stepO S A r) w = if w = r.wd then (szL S w).or (szL A w) else szL A w := by
      unfold stepO
      cases e : szL S r.wd with
      | none =>
        by_cases hw : w = r.wd
        · subst hw
          rw [if_pos rfl, e]
          rfl
        · rw [if_neg hw]
      | some x =>
        show szL (szPut A r.wd x) w = _
        rw [szL_put]
        by_cases hw : w = r.wd
        · subst hw
          rw [if_pos rfl, if_pos rfl, e]
          rfl
        · rw [if_neg hw, if_neg hw]
    rw [h1]
    by_cases hw : w = r.wd
    · subst hw
      rw [if_pos rfl, if_pos List.mem_cons_self]
      split
      · cases szL S r.wd <;> rfl
      · rfl
    · rw [if_neg hw]
      by_cases hm : w ∈ l.map Rl.wd
      · rw [if_pos hm, if_pos (List.mem_cons_of_mem _ hm)]
      · rw [if_neg hm, if_neg fun z => (List.mem_cons.mp z).elim hw hm]
theorem keys_outS (S : Sz) : ∀ (l : List Rl) (A : Sz), (l.map Rl.wd).Nodup → (∀ w ∈ A.map (·.1), w ∉ l.map Rl.wd) → (l.foldl (stepO S) A).map (·.1) = A.map (·.1) ++ (l.filter fun r => (szL S r.wd).isSome).map Rl.wd
  | [], A, _, _ => by simp
  | r :: l, A, hn, hA => by
    rw [List.map_cons] at hn hA
    obtain ⟨n1, n2⟩ := List.nodup_cons.mp hn
    rw [List.foldl_cons, List.filter_cons]
    cases e : szL S r.wd with
    | none =>
      have es : stepO S A r = A := by unfold stepO; rw [e]
      rw [es, keys_outS S l A n2 fun w hw z => hA w hw (List.mem_cons_of_mem _ z)]
      rfl
    | some x =>
      have es : stepO S A r = szPut A r.wd x := by unfold stepO; rw [e]
      have hr : r.wd ∉ A.map (·.1) := fun z => hA _ z List.mem_cons_self
      rw [es, keys_outS S l _ n2 fun w hw z => ?_, put_keys, if_neg hr]
      · simp
      · rw [put_keys, if_neg hr] at hw
        rcases List.mem_append.mp hw with hw | hw
        · exact hA w hw (List.mem_cons_of_mem _ z)
        · rw [List.mem_singleton.mp hw] at z
          exact n1 z
/-! ### texts in order -/
def allL : List (List Str) := [[]] ++ tys.map (fun a => [a]) ++ tys.flatMap (fun a => tys.map fun b => [a, b]) ++ tys.flatMap (fun a => tys.flatMap fun b => tys.map fun c => [a, b, c])
theorem allL_mem {l : List Str} (h : ∀ w ∈ l, w ∈ tys) (hl : l.length ≤ 3) : l ∈ allL := by
  unfold allL
  match l, h, hl with
  | [], _, _ => simp
  | [a], h, _ =>
    have ha := h a (by simp)
    refine List.mem_append_left _ (List.mem_append_left _ (List.mem_append_right _ (List.mem_map.mpr ⟨a, ha, rfl⟩)))
  | [a, b], h, _ =>
    have ha := h a (by simp)
    have hb := h b (by simp)
    exact List.mem_append_left _ (List.mem_append_right _ (List.mem_flatMap.mpr ⟨a, ha, List.mem_map.mpr ⟨b, hb, rfl⟩⟩))
  | [a, b, c], h, _ =>
    have ha := h a (by simp)
    have hb := h b (by simp)
    have hc := h c (by simp)
    exact List.mem_append_right _ (List.mem_flatMap.mpr ⟨a, ha, List.mem_flatMap.mpr ⟨b, hb, List.mem_map.mpr ⟨c, hc, rfl⟩⟩⟩)
  | _ :: _ :: _ :: _ :: _, _, hl => simp at hl
theorem all_one : (allL.all fun l => !decide l.Nodup || !sortedS l || decide (l = tys.filter fun w => decide (w ∈ l))) = true := by decide +kernel
def eqvB (l : List Str) : Bool := match toPy (.lst (l.map .str)) with
  | some p => SeqAt.shaped p && PyData.eqv p p
  | none => false
theorem all_eqv : (allL.all eqvB) = true := by decide +kernel
theorem sorted_one {l : List Str} (h : ∀ w ∈ l, w ∈ tys) (hn : l.Nodup) (hs : sortedS l = true) : l = tys.filter fun w => decide (w ∈ l) := by
  have hl : l.length ≤ 3 := nodup_len (m := tys) hn h
  have := List.all_eq_true.mp all_one l (allL_mem h hl)
  rw [hs, decide_eq_true hn] at this
  simpa using this
theorem sorted_same {l m k1 k2 : List Str} (h1 : l.Perm k1) (h2 : m.Perm k2) (s1 : sortedS l = true) (s2 : sortedS m = true) (n1 : k1.Nodup) (n2 : k2.Nodup) (hk : ∀ w, w ∈ k1 ↔ w ∈ k2) (ht : ∀ w ∈ k1, w ∈ tys) : l = m := by
  have e1 := sorted_one (fun w hw => ht w (h1.mem_iff.mp hw)) (h1.nodup_iff.mpr n1) s1
  have e2 := sorted_one (fun w hw => ht w ((hk w).mpr (h2.mem_iff.mp hw))) (h2.nodup_iff.mpr n2) s2
  rw [e1, e2]
  congr 1
  funext w
  have : w ∈ l ↔ w ∈ m := by rw [h1.mem_iff, h2.mem_iff, hk]
  simp only [this]
theorem eqv_self {l : List Str} (h : ∀ w ∈ l, w ∈ tys) (hn : l.Nodup) : ∃ p, toPy (.lst (l.map .str)) = some p ∧ SeqAt.shaped p = true ∧ PyData.eqv p p = true := by
  have hl : l.length ≤ 3 := nodup_len (m := tys) hn h
  have := List.all_eq_true.mp all_eqv l (allL_mem h hl)
  unfold eqvB at this
  cases e : toPy (.lst (l.map .str)) with
  | none => rw [e] at this; cases this
  | some p =>
    rw [e] at this
    obtain ⟨a, b⟩ := Bool.and_eq_true_iff.mp this
    exact ⟨p, rfl, a, b⟩
/-! ### the draw into its slot -/
def dDraw (i j : Nat) : DS := fun E ρ => ∃ ns, ρ[i]? = some (some (.d (.scr ns))) ∧ ns.length ≤ 63 ∧ E.nx (ρ.set j (some .draw))
theorem rs_draw [Tbs] {K : PySem.W.Frag} {ps : List Nat} {i j : Nat} {E : XK} (hj : j ∉ ps := by decide) : RS K ps (tAsg (tCall (spDraw K) [] E (tCons (tVar i) tNil)) (gName j)) (dDraw i j) := by
  intro b σ H F ρ E' D' R hT n r bk ct
  obtain ⟨ns, e, hn, hT⟩ := hT
  obtain ⟨v, h1, h2⟩ := R.slot i _ e
  obtain ⟨a, rfl, hs⟩ := Dr.inv_scr h2
  refine ⟨_, h1, a, ns, rfl, sqL_same R.sub hs, hn, fun H' d sc sm hd hsc DA' => ?_⟩
  obtain ⟨ns', i', b', s', e1, e2, e3, e4, e5, e6, e7⟩ := DA'
  obtain ⟨hFd, h0d, _⟩ := R.fresh hd
  obtain ⟨hFs, h0s, _⟩ := R.fresh hsc
  have lo := R.loose hd
  have sF : Same F (upd F sc (.lst (ns'.map V.int))) := SX.same_upd hFs
  have R2 : Rep K ps b σ H' (upd F sc (.lst (ns'.map V.int))) ρ := R.grown sm sF (fun x o eo => by
    by_cases hx : x = sc
    · subst hx
      rw [upd_same] at eo
      rw [e2]
      exact eo
    · rw [upd_ne hx] at eo
      exact sm _ _ (R.sub _ _ eo)) (fun x o eo => by
    by_cases hx : x = sc
    · subst hx
      exact .inr hsc
    · rw [upd_ne hx] at eo
      exact .inl eo) (fun x o eo => by
    by_cases hx : x = sc
    · subst hx
      rw [upd_same] at eo
      cases eo
      exact .inr (fun t z => by cases z)
    · rw [upd_ne hx] at eo
      exact .inl eo)
  refine n _ H' _ _ sF (R2.setO (o := .draw) hj rfl ⟨by rw [upd_ne (Ne.symm e3)]; exact hFd, h0d, lo.2.2⟩ ⟨sc, ns', i', b', s', e1, upd_same, e4, e5, e6, e7⟩) hT
theorem dDraw_ (i j : Nat) (E : DEn) (ρ : DL.Env) : dDraw i j E ρ = ∃ ns, ρ[i]? = some (some (.d (.scr ns))) ∧ ns.length ≤ 63 ∧ E.nx (ρ.set j (some .draw)) := rfl
def sLiv : NB.SV := fun ds Φ => ∃ rs, ds = [schD rs] ∧ GS 3 rs ∧ Φ (.lst ((rs.filter fun r => (szL (finS rs) r.wd).isSome).map fun r => .str r.wd))
def sLaw : NB.SV := fun ds Φ => ∃ ns, ds = [.scr ns] ∧ ns.length ≤ 63 ∧ Φ (.bl true)
theorem wds_nd {rs : List Rl} (hg : GS 3 rs) : (rs.map Rl.wd).Nodup := by
  obtain ⟨n, _, _, hw⟩ := hg.wds
  rw [hw]
  exact (show tys.Nodup by decide +kernel).sublist (List.take_sublist _ _)
theorem wds_tys {rs : List Rl} (hg : GS 3 rs) : ∀ w ∈ rs.map Rl.wd, w ∈ tys := by
  obtain ⟨n, _, _, hw⟩ := hg.wds
  rw [hw]
  exact fun w hw => List.mem_of_mem_take hw
section
variable [I : Tbs] {P : Program} {w : World} {K : PySem.W.Frag} {mg : Str → Option Value} {base : Heap}
theorem ok_liv (T : Txt P K mg w) (TB : LamX.TabB base mg T.c_least_content T.P_least_content) (HM : (T.P_least_content, (envOfC "least_content" (defScope s_least_content) 0 0 .none).qual ++ "<lambda>") ∈ Tbs.T) (HU : ∀ p ∈ Tbs.T, p.1 = T.P_least_content → p.2 = (envOfC "least_content" (defScope s_least_content) 0 0 .none).qual ++ "<lambda>") :
    FnOk P w K mg base CX0 6 T.a_living T.fd_living ["schema"] (spOf K (pureS sLiv)) := by
  have G_least_sizes : FnOk P w K mg base CX0 5 T.a_least_sizes T.fd_least_sizes ["schema"] (spOf K (pureS sLS)) := ok_ls T TB HM HU
  refine fnD T.F_living sc_living [] (k := 5) (fun cdv A outer s H E hr => ⟨_, (pss_one (ps_ret (pe_callTy (call_listD rfl) (by rfl) T.n_list (by decide +kernel) (pa_cons (pe_call G_least_sizes (hr.mono (by omega)) (by rfl) T.g_least_sizes T.F_least_sizes.kp T.b_least_sizes .nil pass0 (pa_cons (pv 0) pa_nil)) pa_nil)))), (rs_ret (RL.re (rl_cb rcl_listD (rv_cons (re_callV (rv_cons (re_var 0) rv_nil)) rv_nil))))⟩) (pure_len fun ds Φ h => ?_) (fun os Φ h => ?_)
  · obtain ⟨rs, rfl, _⟩ := h
    rfl
  · obtain ⟨ds, rfl, rs, rfl, hg, hΦ⟩ := h
    simp
    refine ⟨rs, rfl, hg, ?_⟩
    have hk := keys_outS (finS rs) rs [] (wds_nd hg) (fun w hw => (nomatch hw))
    have e : (szD (outS rs (finS rs))).map (fun kv => kyD kv.1) = (rs.filter fun r => (szL (finS rs) r.wd).isSome).map fun r => .str r.wd := by
      have e1 : (szD (outS rs (finS rs))).map (fun kv => kyD kv.1) = ((outS rs (finS rs)).map (·.1)).map .str := by
        unfold szD
        rw [List.map_map, List.map_map]
        rfl
      rw [e1]
      unfold outS
      rw [hk, List.map_nil, List.nil_append, List.map_map]
      rfl
    simp only [oListD_]
    rw [e]
    simpa using hΦ
theorem ok_law' (T : Txt P K mg w) (TB : LamX.TabB base mg T.c_least_content T.P_least_content) (HM : (T.P_least_content, (envOfC "least_content" (defScope s_least_content) 0 0 .none).qual ++ "<lambda>") ∈ Tbs.T) (HU : ∀ p ∈ Tbs.T, p.1 = T.P_least_content → p.2 = (envOfC "least_content" (defScope s_least_content) 0 0 .none).qual ++ "<lambda>") :
    FnOk P w K mg base CX0 9 T.a_law T.fd_law ["script"] (spOf K (pureS sLaw)) := by
  have G_least_sizes : FnOk P w K mg base CX0 5 T.a_least_sizes T.fd_least_sizes ["schema"] (spOf K (pureS sLS)) := ok_ls T TB HM HU
  have G_living : FnOk P w K mg base CX0 6 T.a_living T.fd_living ["schema"] (spOf K (pureS sLiv)) := ok_liv T TB HM HU
  have G_law_draw : FnOk P w K mg base CX0 1 T.a_law_draw T.fd_law_draw ["script"] (spDraw K) := ok_drawS T
  have G_law_schema : FnOk P w K mg base CX0 6 T.a_law_schema T.fd_law_schema ["draw", "many", "depth"] (spOf K sSchema) := ok_schema T
  have G_law_sizes : FnOk P w K mg base CX0 8 T.a_law_sizes T.fd_law_sizes ["schema"] (spOf K (pureS sSizes)) := ok_sizes T
  have G_law_same : FnOk P w K mg base CX0 4 T.a_law_same T.fd_law_same ["actual", "due"] (spOf K (pureS (sSame 3))) := ok_same T 3
  refine fnD T.F_law sc_law [] (k := 8) (fun cdv A outer s H E hr => ⟨_, (pss_cons (ps_set (i := 1) sc_law.nd rfl (by first | exact Or.inl rfl | exact Or.inr rfl) (pe_call G_law_draw (hr.mono (by omega)) (by rfl) T.g_law_draw T.F_law_draw.kp T.b_law_draw .nil pass0 (pa_cons (pv 0) pa_nil)))
      (pss_cons (ps_for PassesOwn.never rfl (pi_range1 (by rfl) T.n_range (pa_cons pe_int pa_nil)) (pg_name (i := 2) sc_law.nd rfl (by first | exact Or.inl rfl | exact Or.inr rfl)) (pss_cons (ps_set (i := 3) sc_law.nd rfl (by first | exact Or.inl rfl | exact Or.inr rfl) (pe_call G_law_schema (hr.mono (by omega)) (by rfl) T.g_law_schema T.F_law_schema.kp T.b_law_schema .nil pass0 (pa_cons (pv 1) (pa_cons pe_int (pa_cons pe_int pa_nil)))))
      (pss_cons (ps_set (i := 4) sc_law.nd rfl (by first | exact Or.inl rfl | exact Or.inr rfl) (pe_call G_law_sizes (hr.mono (by omega)) (by rfl) T.g_law_sizes T.F_law_sizes.kp T.b_law_sizes .nil pass0 (pa_cons (pv 3) pa_nil)))
      (pss_cons (ps_if (pt_not (pt_val (pe_call G_law_same (hr.mono (by omega)) (by rfl) T.g_law_same T.F_law_same.kp T.b_law_same .nil pass0 (pa_cons (pe_call G_living (hr.mono (by omega)) (by rfl) T.g_living T.F_living.kp T.b_living .nil pass0 (pa_cons (pv 3) pa_nil)) (pa_cons (pe_lc (own := [("rule", 5)]) (g := gName 5) (by rfl) sc_law.nd  (pi_tup (pv 3)) (blkOk_by (own := [("rule", 5)]) (N := ["script", "draw", "turn", "schema", "sizes", "rule", "found", "name"]) (sc := defScope s_law) (by decide +kernel)) (fun _ _ _ _ _ => (pg_name (i := 5) sc_law.nd rfl (Or.inl rfl))) (fun _ _ _ _ _ => (pts_one (pt_cmpR (op_inDK (SX.u1 hr)) (pe_ix (show IxR _ (rIxT K) from ix_tup) (pv 5) pe_int (fun _ _ => rfl)) (pv 4) rfl))) (fun _ _ _ _ _ => (pe_ix (show IxR _ (rIxT K) from ix_tup) (pv 5) pe_int (fun _ _ => rfl)))) pa_nil))))) (pss_one (ps_ret pe_bl)) pss_nil)
      (pss_cons (ps_set (i := 6) sc_law.nd rfl (by first | exact Or.inl rfl | exact Or.inr rfl) (pe_call G_least_sizes (hr.mono (by omega)) (by rfl) T.g_least_sizes T.F_least_sizes.kp T.b_least_sizes .nil pass0 (pa_cons (pv 3) pa_nil)))
      (pss_cons (ps_if (pt_cmpR (op_neD hr.units) (pe_callB (call_sortedD rfl) (by rfl) T.n_sorted (by decide +kernel) (pa_cons (pv 6) pa_nil)) (pe_callB (call_sortedD rfl) (by rfl) T.n_sorted (by decide +kernel) (pa_cons (pv 4) pa_nil)) (nomark _)) (pss_one (ps_ret pe_bl)) pss_nil)
      (pss_one (ps_for PassesOwn.never rfl (pi_list (pe_callB (call_sortedD rfl) (by rfl) T.n_sorted (by decide +kernel) (pa_cons (pv 4) pa_nil))) (pg_name (i := 7) sc_law.nd rfl (by first | exact Or.inl rfl | exact Or.inr rfl)) (pss_one (ps_if (pt_not (pt_val (pe_call G_law_same (hr.mono (by omega)) (by rfl) T.g_law_same T.F_law_same.kp T.b_law_same .nil pass0 (pa_cons (pe_dget (SX.u1 hr) (pv 6) (pv 7) (fun _ _ => rfl)) (pa_cons (pe_dget (SX.u1 hr) (pv 4) (pv 7) (fun _ _ => rfl)) pa_nil))))) (pss_one (ps_ret pe_bl)) pss_nil))))))))))
      (pss_one (ps_ret pe_bl)))), (rs_seq (rs_draw (i := 0) (j := 1))
      (rs_seq (rs_for (ri_range1 (rv_cons re_int rv_nil)) rg_name (rs_seq (rs_asg (re_call (ra_slot (i := 1) (ra_cons re_int (ra_cons re_int ra_nil)))) rg_name)
      (rs_seq (rs_asg (re_callV (rv_cons (re_var 3) rv_nil)) rg_name)
      (rs_seq (rs_if (rt_not (rt_B (re_callV (rv_cons (re_callV (rv_cons (re_var 3) rv_nil)) (rv_cons (RL.re (rl_lc (ri_tup (re_var 3)) rg_name (rt_test (re_inS (i := 4) (re_op ro_ixT (re_var 5) re_int))) (re_op ro_ixT (re_var 5) re_int))) rv_nil))))) (rs_ret re_bl) rs_next)
      (rs_seq (rs_asg (re_callV (rv_cons (re_var 3) rv_nil)) rg_name)
      (rs_seq (rs_if (rt_test (re_op ro_neD (RL.re (rl_sortS (i := 6))) (RL.re (rl_sortS (i := 4))))) (rs_ret re_bl) rs_next)
      (rs_for (ri_list (RL.re (rl_sortS (i := 4)))) rg_name (rs_if (rt_not (rt_B (re_callV (rv_cons (re_dgetS (i := 6) (re_var 7)) (rv_cons (re_dgetS (i := 4) (re_var 7)) rv_nil))))) (rs_ret re_bl) rs_next))))))))
      (rs_ret re_bl)))⟩) (pure_len fun ds Φ h => ?_) (fun os Φ h => ?_)
  · obtain ⟨ns, rfl, _⟩ := h
    rfl
  · obtain ⟨ds, rfl, ns, rfl, hn, hΦ⟩ := h
    simp
    refine ⟨ns, rfl, hn, ?_⟩
    simp
    refine for_inv (rngD 0 4) [some (.d (.scr ns)), some .draw, none, none, none, none, none, none] (fun k ρ => ∃ o2 o3 o4 o5 o6 o7 : Option OV, ρ = [some (.d (.scr ns)), some .draw, o2, o3, o4, o5, o6, o7]) (fun Ψ h => ?_) ⟨none, none, none, none, none, none, rfl⟩ ?_ ?_
    · simp
      exact h
    · rintro k x ρ hx ⟨o2, o3, o4, o5, o6, o7, rfl⟩
      simp
      refine ⟨3, 2, rfl, by decide, by decide, by decide, fun rs hg => ?_⟩
      simp
      refine ⟨rs, rfl, hg, ?_⟩
      have hfin : lawSizes rs = finS rs := by
        unfold lawSizes
        rw [turns_step hg]
        exact (settled hg).1
      rw [hfin]
      simp
      refine ⟨rs, rfl, hg, ?_⟩
      have IS : Iv rs (finS rs) := turns_iv hg _
      obtain ⟨hl3, hl1⟩ := hg.len
      have hkO := keys_outS (finS rs) rs [] (wds_nd hg) (fun w hw => (nomatch hw))
      have hlO := fun w => szL_outS (finS rs) rs [] w
      generalize hS : finS rs = S at IS hkO hlO
      have hkO : (outS rs S).map (·.1) = (rs.filter fun r => (szL S r.wd).isSome).map Rl.wd := hkO
      have hlO : ∀ w, szL (outS rs S) w = szL S w := fun w => by
        show szL (rs.foldl (stepO S) []) w = _
        rw [hlO w]
        split
        · cases szL S w <;> rfl
        · rename_i hw
          cases e : szL S w with
          | none => rfl
          | some x => exact absurd (IS.sub w (szL_key e)) hw
      have hln : (rs.filter fun r => (szL S r.wd).isSome).length ≤ 3 := Nat.le_trans (List.length_filter_le _ _) hl3
      refine lc_fp (rs.map rD) [some (.d (.scr ns)), some .draw, some (.d x), some (.d (schD rs)), some (.d (.dct (szD S))), o5, o6, o7] [some (.d (.scr ns)), some .draw, some (.d x), some (.d (schD rs)), some (.d (.dct (szD S))), none, o6, o7]
        (fun d => match d with | .tup (.str w :: _) => (szL S w).isSome | _ => false) (fun d => match d with | .tup (d :: _) => d | _ => .non) (fun Ψ h => ?_) rfl (by rw [List.length_map]; omega) (fun y hy A B hA hB => ?_) ?_
      · simp [schD]
        simpa [schD] using h
      · obtain ⟨r, hr, rfl⟩ := List.mem_map.mp hy
        have hA' : (szL S r.wd).isSome = true → ∀ ρ4, wipeD ρ4 [5] = [some (.d (.scr ns)), some .draw, some (.d x), some (.d (schD rs)), some (.d (.dct (szD S))), none, o6, o7] → A (.str r.wd) ρ4 := hA
        have hB' : (szL S r.wd).isSome = false → ∀ ρ4, wipeD ρ4 [5] = [some (.d (.scr ns)), some .draw, some (.d x), some (.d (schD rs)), some (.d (.dct (szD S))), none, o6, o7] → B ρ4 := hB
        clear hA hB
        simp [rD, valD_sz]
        cases e : szL S r.wd with
        | none => simp; exact hB' (by rw [e]; rfl) _ (by simp)
        | some v => simp; exact hA' (by rw [e]; rfl) _ (by simp)
      · have efl : ((rs.map rD).filter fun d => match d with | .tup (.str w :: _) => (szL S w).isSome | _ => false).map (fun d => match d with | .tup (d :: _) => d | _ => .non) = (rs.filter fun r => (szL S r.wd).isSome).map fun r => .str r.wd := by
          rw [List.filter_map, List.map_map]
          rfl
        rw [efl]
        have hpl : plain 3 (.lst ((rs.filter fun r => (szL S r.wd).isSome).map fun r => .str r.wd)) := ⟨by rw [List.length_map]; omega, fun d hd => by
          obtain ⟨r, _, rfl⟩ := List.mem_map.mp hd
          exact trivial⟩
        refine ⟨_, rfl, hpl, ?_⟩
        simp
        refine ⟨rs, rfl, hg, ?_⟩
        rw [hS]
        simp
        have hk1 : (szD (outS rs S)).map (fun x => x.1) = ((outS rs S).map (·.1)).map Sum.inr := by
          unfold szD
          rw [List.map_map, List.map_map]
          rfl
        have hk2 : (szD S).map (fun x => x.1) = (S.map (·.1)).map Sum.inr := by
          unfold szD
          rw [List.map_map, List.map_map]
          rfl
        have hnO : ((outS rs S).map (·.1)).Nodup := by
          rw [hkO]
          exact (wds_nd hg).sublist ((List.filter_sublist).map _)
        have hmem : ∀ w, w ∈ (outS rs S).map (·.1) ↔ w ∈ S.map (·.1) := fun w => by
          constructor
          · intro h
            obtain ⟨v, hv⟩ := key_szL h
            rw [hlO] at hv
            exact szL_key hv
          · intro h
            obtain ⟨v, hv⟩ := key_szL h
            rw [← hlO] at hv
            exact szL_key hv
        have htO : ∀ w ∈ (outS rs S).map (·.1), w ∈ tys := fun w hw => wds_tys hg w (IS.sub w ((hmem w).mp hw))
        have hlS := iv_len hg IS
        refine ⟨_, hk1, by rw [hkO, List.length_map]; omega, fun l hl sl => ?_⟩
        refine ⟨_, hk2, by rw [List.length_map]; omega, fun m hm sm => ?_⟩
        have elm := sorted_same hl hm sl sm hnO IS.nd hmem htO
        subst elm
        obtain ⟨p, hp, hsh, heq⟩ := eqv_self (fun w hw => htO w (hl.mem_iff.mp hw)) (hl.nodup_iff.mpr hnO)
        refine ⟨p, hp, p, hp, hsh, hsh, ?_⟩
        rw [if_pos heq]
        refine for_inv (l.map .str) [some (.d (.scr ns)), some .draw, some (.d x), some (.d (schD rs)), some (.d (.dct (szD S))), keepD (some o5), some (.d (.dct (szD (outS rs S)))), o7]
          (fun i ρ => ∃ q7 : Option OV, ρ = [some (.d (.scr ns)), some .draw, some (.d x), some (.d (schD rs)), some (.d (.dct (szD S))), keepD (some o5), some (.d (.dct (szD (outS rs S)))), q7]) (fun Ψ h => ?_) ⟨_, rfl⟩ ?_ ?_
        · simp
          refine ⟨_, hk2, by rw [List.length_map]; omega, fun m hm2 sm2 => ?_⟩
          have elm := sorted_same hl hm2 sl sm2 hnO IS.nd hmem htO
          subst elm
          exact h
        · rintro i y ρ hy ⟨q7, rfl⟩
          rw [List.getElem?_map] at hy
          obtain ⟨nm, hnm, rfl⟩ := Option.map_eq_some_iff.mp hy
          obtain ⟨v, hv⟩ := key_szL (hm.mem_iff.mp (List.mem_of_getElem? hnm))
          have v1 := valD_sz S nm
          have v2 := valD_sz (outS rs S) nm
          rw [hv] at v1
          rw [hlO, hv] at v2
          simp [v1, v2]
          exact ⟨_, rfl, trivial, by simp⟩
        · rintro ρ ⟨q7, rfl⟩
          exact ⟨_, _, _, _, _, _, rfl⟩
    · rintro ρ ⟨o2, o3, o4, o5, o6, o7, rfl⟩
      simp
      exact hΦ
end
end K49
namespace K49
open PySem PySem.Spec PyProof.Rows L2 DL CT
theorem law_at {l : PySem.W.OpenLaw} {w : World} {K : PySem.W.Frag} {mg : Str → Option Value} {h : Heap} (T : Txt l.prog K mg w) (hb : ∀ (s : Shared) (v : Value), BindsTo s T.fd_law ⟨[v], []⟩ [("script", v)])
    (t : h.get? T.P_least_content = some { cls := .none, data := .fields #[] } ∧ PySem.W.CodeHd h T.c_least_content T.P_least_content) (n : K.lookup T.P_least_content = none) : LamX.LawAtS l w K CX0 9 63 "script" mg T.a_law h := by
  refine ⟨T.fd_law, [(T.c_least_content, T.P_least_content)], @spOf ⟨[(T.P_least_content, (envOfC "least_content" (defScope s_least_content) 0 0 .none).qual ++ "<lambda>")], fun _ => none⟩ K (pureS sLaw), fun p hp => ?_, fun p hp => ?_, fun p hp => ?_, hb, fun H a ns hl _ hH hS => ?_, fun base _ _ hT => ?_⟩
  · rw [List.mem_singleton.mp hp]
    exact t.1
  · rw [List.mem_singleton.mp hp]
    exact n
  · rw [List.mem_singleton.mp hp]
    exact t.2
  · refine FE.law_entry (fun p hp => ?_) hS fun Φ h => ⟨ns, rfl, hl, h⟩
    rw [List.mem_singleton.mp hp]
    exact hH _ (List.mem_singleton.mpr rfl)
  · refine @ok_law' ⟨[(T.P_least_content, (envOfC "least_content" (defScope s_least_content) 0 0 .none).qual ++ "<lambda>")], fun _ => none⟩ _ _ _ _ _ T (hT _ (List.mem_singleton.mpr rfl)) (List.mem_singleton.mpr rfl) fun p hp _ => ?_
    rw [List.mem_singleton.mp hp]
theorem all_mk {l : PySem.W.OpenLaw} {w : World} {K : PySem.W.Frag} {h : Heap} {mg : Str → Option Value} {fa : Addr} (X : K.In h) (G : h.Ns mainGlobals mg) (hfa : mg "law" = some (.ref fa)) (tbs : ∀ x ∈ [("least_content" : Str)], FE.TabAt mg h x)
    {prog : Program} (hprog : prog = l.prog)
    {f_parts_of : Addr} {od_parts_of an_parts_of : Option Addr} {sl_parts_of : Array (Option Value)} {oc_parts_of kV_parts_of dc_parts_of pm_parts_of cd_parts_of ct_parts_of : Value}
    {f_numbered : Addr} {od_numbered an_numbered : Option Addr} {sl_numbered : Array (Option Value)} {oc_numbered kV_numbered dc_numbered pm_numbered cd_numbered ct_numbered : Value}
    {f_folded : Addr} {od_folded an_folded : Option Addr} {sl_folded : Array (Option Value)} {oc_folded kV_folded dc_folded pm_folded cd_folded ct_folded : Value}
    {f_least_part : Addr} {od_least_part an_least_part : Option Addr} {sl_least_part : Array (Option Value)} {oc_least_part kV_least_part dc_least_part pm_least_part cd_least_part ct_least_part : Value}
    {f_least_content : Addr} {od_least_content an_least_content : Option Addr} {sl_least_content : Array (Option Value)} {oc_least_content kV_least_content dc_least_content pm_least_content ct_least_content : Value}
    {ca_least_content Pa_least_content : Addr} {e_least_content : Value} {dd_least_content : Option Addr} {vs_least_content : Array Value} {sc_least_content' : Array (Option Value)}
    {f_least_sizes : Addr} {od_least_sizes an_least_sizes : Option Addr} {sl_least_sizes : Array (Option Value)} {oc_least_sizes kV_least_sizes dc_least_sizes pm_least_sizes cd_least_sizes ct_least_sizes : Value}
    {f_living : Addr} {od_living an_living : Option Addr} {sl_living : Array (Option Value)} {oc_living kV_living dc_living pm_living cd_living ct_living : Value}
    {f_law_draw : Addr} {od_law_draw an_law_draw : Option Addr} {sl_law_draw : Array (Option Value)} {oc_law_draw kV_law_draw dc_law_draw pm_law_draw cd_law_draw ct_law_draw : Value}
    {f_law_next : Addr} {od_law_next an_law_next : Option Addr} {sl_law_next : Array (Option Value)} {oc_law_next kV_law_next dc_law_next pm_law_next cd_law_next ct_law_next : Value}
    {f_law_same : Addr} {od_law_same an_law_same : Option Addr} {sl_law_same : Array (Option Value)} {oc_law_same kV_law_same dc_law_same pm_law_same cd_law_same ct_law_same : Value}
    {f_law_content : Addr} {od_law_content an_law_content : Option Addr} {sl_law_content : Array (Option Value)} {oc_law_content kV_law_content dc_law_content pm_law_content cd_law_content ct_law_content : Value}
    {f_law_schema : Addr} {od_law_schema an_law_schema : Option Addr} {sl_law_schema : Array (Option Value)} {oc_law_schema kV_law_schema dc_law_schema pm_law_schema cd_law_schema ct_law_schema : Value}
    {f_law_least : Addr} {od_law_least an_law_least : Option Addr} {sl_law_least : Array (Option Value)} {oc_law_least kV_law_least dc_law_least pm_law_least cd_law_least ct_law_least : Value}
    {f_law_sizes : Addr} {od_law_sizes an_law_sizes : Option Addr} {sl_law_sizes : Array (Option Value)} {oc_law_sizes kV_law_sizes dc_law_sizes pm_law_sizes cd_law_sizes ct_law_sizes : Value}
    {f_law : Addr} {od_law an_law : Option Addr} {sl_law : Array (Option Value)} {oc_law kV_law dc_law pm_law cd_law ct_law : Value}
    {t_OWN_EVENTS : Tok}
    (a_parts_of : PySem.W.nsIn K mainGlobals "parts_of" = some (some (.ref f_parts_of)))
    (l_parts_of : K.lookup f_parts_of = some ⟨oc_parts_of, od_parts_of, .func (PySem.W.fnOf "parts_of" "parts_of" (defArgs s_parts_of) (defBody s_parts_of) (defScope s_parts_of) .none kV_parts_of dc_parts_of pm_parts_of an_parts_of cd_parts_of ct_parts_of), sl_parts_of⟩)
    (c_parts_of : PySem.W.codeIn K cd_parts_of "parts_of" = true)
    (k_parts_of : PySem.W.keepIn K (.ref f_parts_of) = true)
    (a_numbered : PySem.W.nsIn K mainGlobals "numbered" = some (some (.ref f_numbered)))
    (l_numbered : K.lookup f_numbered = some ⟨oc_numbered, od_numbered, .func (PySem.W.fnOf "numbered" "numbered" (defArgs s_numbered) (defBody s_numbered) (defScope s_numbered) .none kV_numbered dc_numbered pm_numbered an_numbered cd_numbered ct_numbered), sl_numbered⟩)
    (c_numbered : PySem.W.codeIn K cd_numbered "numbered" = true)
    (k_numbered : PySem.W.keepIn K (.ref f_numbered) = true)
    (a_folded : PySem.W.nsIn K mainGlobals "folded" = some (some (.ref f_folded)))
    (l_folded : K.lookup f_folded = some ⟨oc_folded, od_folded, .func (PySem.W.fnOf "folded" "folded" (defArgs s_folded) (defBody s_folded) (defScope s_folded) .none kV_folded dc_folded pm_folded an_folded cd_folded ct_folded), sl_folded⟩)
    (c_folded : PySem.W.codeIn K cd_folded "folded" = true)
    (k_folded : PySem.W.keepIn K (.ref f_folded) = true)
    (a_least_part : PySem.W.nsIn K mainGlobals "least_part" = some (some (.ref f_least_part)))
    (l_least_part : K.lookup f_least_part = some ⟨oc_least_part, od_least_part, .func (PySem.W.fnOf "least_part" "least_part" (defArgs s_least_part) (defBody s_least_part) (defScope s_least_part) .none kV_least_part dc_least_part pm_least_part an_least_part cd_least_part ct_least_part), sl_least_part⟩)
    (c_least_part : PySem.W.codeIn K cd_least_part "least_part" = true)
    (k_least_part : PySem.W.keepIn K (.ref f_least_part) = true)
    (a_least_content : PySem.W.nsIn K mainGlobals "least_content" = some (some (.ref f_least_content)))
    (l_least_content : K.lookup f_least_content = some ⟨oc_least_content, od_least_content, .func (PySem.W.fnOf "least_content" "least_content" (defArgs s_least_content) (defBody s_least_content) (defScope s_least_content) .none kV_least_content dc_least_content pm_least_content an_least_content (.ref ca_least_content) ct_least_content), sl_least_content⟩)
    (c_least_content : PySem.W.codeIn K (.ref ca_least_content) "least_content" = true)
    (k_least_content : PySem.W.keepIn K (.ref f_least_content) = true)
    (lc_least_content : K.lookup ca_least_content = some ⟨e_least_content, dd_least_content, .fields vs_least_content, sc_least_content'⟩)
    (pv_least_content : vs_least_content[11]? = some (.ref Pa_least_content))
    (pn_least_content : K.lookup Pa_least_content = none)
    (a_least_sizes : PySem.W.nsIn K mainGlobals "least_sizes" = some (some (.ref f_least_sizes)))
    (l_least_sizes : K.lookup f_least_sizes = some ⟨oc_least_sizes, od_least_sizes, .func (PySem.W.fnOf "least_sizes" "least_sizes" (defArgs s_least_sizes) (defBody s_least_sizes) (defScope s_least_sizes) .none kV_least_sizes dc_least_sizes pm_least_sizes an_least_sizes cd_least_sizes ct_least_sizes), sl_least_sizes⟩)
    (c_least_sizes : PySem.W.codeIn K cd_least_sizes "least_sizes" = true)
    (k_least_sizes : PySem.W.keepIn K (.ref f_least_sizes) = true)
    (a_living : PySem.W.nsIn K mainGlobals "living" = some (some (.ref f_living)))
    (l_living : K.lookup f_living = some ⟨oc_living, od_living, .func (PySem.W.fnOf "living" "living" (defArgs s_living) (defBody s_living) (defScope s_living) .none kV_living dc_living pm_living an_living cd_living ct_living), sl_living⟩)
    (c_living : PySem.W.codeIn K cd_living "living" = true)
    (k_living : PySem.W.keepIn K (.ref f_living) = true)
    (a_law_draw : PySem.W.nsIn K mainGlobals "_law_draw" = some (some (.ref f_law_draw)))
    (l_law_draw : K.lookup f_law_draw = some ⟨oc_law_draw, od_law_draw, .func (PySem.W.fnOf "_law_draw" "_law_draw" (defArgs s_law_draw) (defBody s_law_draw) (defScope s_law_draw) .none kV_law_draw dc_law_draw pm_law_draw an_law_draw cd_law_draw ct_law_draw), sl_law_draw⟩)
    (c_law_draw : PySem.W.codeIn K cd_law_draw "_law_draw" = true)
    (k_law_draw : PySem.W.keepIn K (.ref f_law_draw) = true)
    (a_law_next : PySem.W.nsIn K mainGlobals "_law_next" = some (some (.ref f_law_next)))
    (l_law_next : K.lookup f_law_next = some ⟨oc_law_next, od_law_next, .func (PySem.W.fnOf "_law_next" "_law_next" (defArgs s_law_next) (defBody s_law_next) (defScope s_law_next) .none kV_law_next dc_law_next pm_law_next an_law_next cd_law_next ct_law_next), sl_law_next⟩)
    (c_law_next : PySem.W.codeIn K cd_law_next "_law_next" = true)
    (k_law_next : PySem.W.keepIn K (.ref f_law_next) = true)
    (a_law_same : PySem.W.nsIn K mainGlobals "_law_same" = some (some (.ref f_law_same)))
    (l_law_same : K.lookup f_law_same = some ⟨oc_law_same, od_law_same, .func (PySem.W.fnOf "_law_same" "_law_same" (defArgs s_law_same) (defBody s_law_same) (defScope s_law_same) .none kV_law_same dc_law_same pm_law_same an_law_same cd_law_same ct_law_same), sl_law_same⟩)
    (c_law_same : PySem.W.codeIn K cd_law_same "_law_same" = true)
    (k_law_same : PySem.W.keepIn K (.ref f_law_same) = true)
    (a_law_content : PySem.W.nsIn K mainGlobals "_law_content" = some (some (.ref f_law_content)))
    (l_law_content : K.lookup f_law_content = some ⟨oc_law_content, od_law_content, .func (PySem.W.fnOf "_law_content" "_law_content" (defArgs s_law_content) (defBody s_law_content) (defScope s_law_content) .none kV_law_content dc_law_content pm_law_content an_law_content cd_law_content ct_law_content), sl_law_content⟩)
    (c_law_content : PySem.W.codeIn K cd_law_content "_law_content" = true)
    (k_law_content : PySem.W.keepIn K (.ref f_law_content) = true)
    (a_law_schema : PySem.W.nsIn K mainGlobals "_law_schema" = some (some (.ref f_law_schema)))
    (l_law_schema : K.lookup f_law_schema = some ⟨oc_law_schema, od_law_schema, .func (PySem.W.fnOf "_law_schema" "_law_schema" (defArgs s_law_schema) (defBody s_law_schema) (defScope s_law_schema) .none kV_law_schema dc_law_schema pm_law_schema an_law_schema cd_law_schema ct_law_schema), sl_law_schema⟩)
    (c_law_schema : PySem.W.codeIn K cd_law_schema "_law_schema" = true)
    (k_law_schema : PySem.W.keepIn K (.ref f_law_schema) = true)
    (a_law_least : PySem.W.nsIn K mainGlobals "_law_least" = some (some (.ref f_law_least)))
    (l_law_least : K.lookup f_law_least = some ⟨oc_law_least, od_law_least, .func (PySem.W.fnOf "_law_least" "_law_least" (defArgs s_law_least) (defBody s_law_least) (defScope s_law_least) .none kV_law_least dc_law_least pm_law_least an_law_least cd_law_least ct_law_least), sl_law_least⟩)
    (c_law_least : PySem.W.codeIn K cd_law_least "_law_least" = true)
    (k_law_least : PySem.W.keepIn K (.ref f_law_least) = true)
    (a_law_sizes : PySem.W.nsIn K mainGlobals "_law_sizes" = some (some (.ref f_law_sizes)))
    (l_law_sizes : K.lookup f_law_sizes = some ⟨oc_law_sizes, od_law_sizes, .func (PySem.W.fnOf "_law_sizes" "_law_sizes" (defArgs s_law_sizes) (defBody s_law_sizes) (defScope s_law_sizes) .none kV_law_sizes dc_law_sizes pm_law_sizes an_law_sizes cd_law_sizes ct_law_sizes), sl_law_sizes⟩)
    (c_law_sizes : PySem.W.codeIn K cd_law_sizes "_law_sizes" = true)
    (k_law_sizes : PySem.W.keepIn K (.ref f_law_sizes) = true)
    (a_law : PySem.W.nsIn K mainGlobals "law" = some (some (.ref f_law)))
    (l_law : K.lookup f_law = some ⟨oc_law, od_law, .func (PySem.W.fnOf "law" "law" (defArgs s_law) (defBody s_law) (defScope s_law) .none kV_law dc_law pm_law an_law cd_law ct_law), sl_law⟩)
    (c_law : PySem.W.codeIn K cd_law "law" = true)
    (k_law : PySem.W.keepIn K (.ref f_law) = true)
    (g_OWN_EVENTS : PySem.W.nsIn K mainGlobals "OWN_EVENTS" = some (some (.int 2 t_OWN_EVENTS)))
    (n_isinstance : PySem.W.nsIn K mainGlobals "isinstance" = some none)
    (n_str : PySem.W.nsIn K mainGlobals "str" = some none)
    (n_len : PySem.W.nsIn K mainGlobals "len" = some none)
    (n_range : PySem.W.nsIn K mainGlobals "range" = some none)
    (n_sum : PySem.W.nsIn K mainGlobals "sum" = some none)
    (n_min : PySem.W.nsIn K mainGlobals "min" = some none)
    (n_list : PySem.W.nsIn K mainGlobals "list" = some none)
    (n_abs : PySem.W.nsIn K mainGlobals "abs" = some none)
    (n_int : PySem.W.nsIn K mainGlobals "int" = some none)
    (n_tuple : PySem.W.nsIn K mainGlobals "tuple" = some none)
    (n_all : PySem.W.nsIn K mainGlobals "all" = some none)
    (n_bool : PySem.W.nsIn K mainGlobals "bool" = some none)
    (n_sorted : PySem.W.nsIn K mainGlobals "sorted" = some none) :
    LamX.LawAtS l w K CX0 9 63 "script" mg fa h := by
  have e := hfa.symm.trans (PySem.W.mg_of X G a_law)
  cases e
  subst hprog
  let T : Txt l.prog K mg w := {
    a_parts_of := f_parts_of, fd_parts_of := _, F_parts_of := fun_mk (st := s_parts_of) l_parts_of c_parts_of k_parts_of, g_parts_of := PySem.W.mg_of X G a_parts_of,
    a_numbered := f_numbered, fd_numbered := _, F_numbered := fun_mk (st := s_numbered) l_numbered c_numbered k_numbered, g_numbered := PySem.W.mg_of X G a_numbered,
    a_folded := f_folded, fd_folded := _, F_folded := fun_mk (st := s_folded) l_folded c_folded k_folded, g_folded := PySem.W.mg_of X G a_folded,
    a_least_part := f_least_part, fd_least_part := _, F_least_part := fun_mk (st := s_least_part) l_least_part c_least_part k_least_part, g_least_part := PySem.W.mg_of X G a_least_part,
    a_least_content := f_least_content, fd_least_content := _, F_least_content := fun_mk (st := s_least_content) l_least_content c_least_content k_least_content, g_least_content := PySem.W.mg_of X G a_least_content,
    a_least_sizes := f_least_sizes, fd_least_sizes := _, F_least_sizes := fun_mk (st := s_least_sizes) l_least_sizes c_least_sizes k_least_sizes, g_least_sizes := PySem.W.mg_of X G a_least_sizes,
    a_living := f_living, fd_living := _, F_living := fun_mk (st := s_living) l_living c_living k_living, g_living := PySem.W.mg_of X G a_living,
    a_law_draw := f_law_draw, fd_law_draw := _, F_law_draw := fun_mk (st := s_law_draw) l_law_draw c_law_draw k_law_draw, g_law_draw := PySem.W.mg_of X G a_law_draw,
    a_law_next := f_law_next, fd_law_next := _, F_law_next := fun_mk (st := s_law_next) l_law_next c_law_next k_law_next, g_law_next := PySem.W.mg_of X G a_law_next,
    a_law_same := f_law_same, fd_law_same := _, F_law_same := fun_mk (st := s_law_same) l_law_same c_law_same k_law_same, g_law_same := PySem.W.mg_of X G a_law_same,
    a_law_content := f_law_content, fd_law_content := _, F_law_content := fun_mk (st := s_law_content) l_law_content c_law_content k_law_content, g_law_content := PySem.W.mg_of X G a_law_content,
    a_law_schema := f_law_schema, fd_law_schema := _, F_law_schema := fun_mk (st := s_law_schema) l_law_schema c_law_schema k_law_schema, g_law_schema := PySem.W.mg_of X G a_law_schema,
    a_law_least := f_law_least, fd_law_least := _, F_law_least := fun_mk (st := s_law_least) l_law_least c_law_least k_law_least, g_law_least := PySem.W.mg_of X G a_law_least,
    a_law_sizes := f_law_sizes, fd_law_sizes := _, F_law_sizes := fun_mk (st := s_law_sizes) l_law_sizes c_law_sizes k_law_sizes, g_law_sizes := PySem.W.mg_of X G a_law_sizes,
    a_law := fa, fd_law := _, F_law := fun_mk (st := s_law) l_law c_law k_law, g_law := PySem.W.mg_of X G a_law,
    t_OWN_EVENTS := t_OWN_EVENTS, g_OWN_EVENTS := PySem.W.mg_of X G g_OWN_EVENTS,
    n_isinstance := PySem.W.mg_none_of X G n_isinstance, n_str := PySem.W.mg_none_of X G n_str, n_len := PySem.W.mg_none_of X G n_len, n_range := PySem.W.mg_none_of X G n_range, n_sum := PySem.W.mg_none_of X G n_sum, n_min := PySem.W.mg_none_of X G n_min, n_list := PySem.W.mg_none_of X G n_list, n_abs := PySem.W.mg_none_of X G n_abs, n_int := PySem.W.mg_none_of X G n_int, n_tuple := PySem.W.mg_none_of X G n_tuple, n_all := PySem.W.mg_none_of X G n_all, n_bool := PySem.W.mg_none_of X G n_bool, n_sorted := PySem.W.mg_none_of X G n_sorted,
    c_least_content := ca_least_content, P_least_content := Pa_least_content, hc_least_content := rfl }
  exact law_at T (fun s v => .of_eq rfl) (FE.tab_at X (PySem.W.mg_of X G a_least_content) l_least_content rfl lc_least_content pv_least_content (tbs _ (by simp))) pn_least_content
end K49
open PySem PySem.W PyProof.Rows
set_option maxHeartbeats 0 in
theorem PySem.Challenge.cw_soonsettled_k49_types_that_have_elements_holds : PySem.Challenge.rw_soonsettled_k49_types_that_have_elements.Holds := by
  w_on; o_law; k_head; (case hw => w_witness2)
  k_fill
  refine FE.walk_tab (l := PySem.Challenge.rw_soonsettled_k49_types_that_have_elements) (n := 63) (k := 9) (x := "script") (CX := fun _ => L2.CX0) ["least_content"] rfl (by decide) rfl ⟨rfl, by decide, by decide⟩ (by decide +kernel) (fun w h Y => PySem.W.km_in_of Y) ?F (fun _ _ _ _ _ z => z)
  case F =>
    intro w mg fa h KX G hmg tbs
    refine' K49.all_mk (prog := PySem.Challenge.rw_soonsettled_k49_types_that_have_elements.prog) KX G hmg tbs rfl ?a_parts_of ?l_parts_of ?c_parts_of ?k_parts_of ?a_numbered ?l_numbered ?c_numbered ?k_numbered ?a_folded ?l_folded ?c_folded ?k_folded ?a_least_part ?l_least_part ?c_least_part ?k_least_part ?a_least_content ?l_least_content ?c_least_content ?k_least_content ?lc_least_content ?pv_least_content ?pn_least_content ?a_least_sizes ?l_least_sizes ?c_least_sizes ?k_least_sizes ?a_living ?l_living ?c_living ?k_living ?a_law_draw ?l_law_draw ?c_law_draw ?k_law_draw ?a_law_next ?l_law_next ?c_law_next ?k_law_next ?a_law_same ?l_law_same ?c_law_same ?k_law_same ?a_law_content ?l_law_content ?c_law_content ?k_law_content ?a_law_schema ?l_law_schema ?c_law_schema ?k_law_schema ?a_law_least ?l_law_least ?c_law_least ?k_law_least ?a_law_sizes ?l_law_sizes ?c_law_sizes ?k_law_sizes ?a_law ?l_law ?c_law ?k_law ?g_OWN_EVENTS ?n_isinstance ?n_str ?n_len ?n_range ?n_sum ?n_min ?n_list ?n_abs ?n_int ?n_tuple ?n_all ?n_bool ?n_sorted
    (case a_parts_of => k_is); (case l_parts_of => k_is); (case c_parts_of => k_is); (case k_parts_of => k_is); (case a_numbered => k_is); (case l_numbered => k_is); (case c_numbered => k_is); (case k_numbered => k_is); (case a_folded => k_is); (case l_folded => k_is); (case c_folded => k_is); (case k_folded => k_is); (case a_least_part => k_is); (case l_least_part => k_is); (case c_least_part => k_is); (case k_least_part => k_is); (case a_least_content => k_is); (case l_least_content => k_is); (case c_least_content => k_is); (case k_least_content => k_is); (case lc_least_content => k_is); (case pv_least_content => first | rfl | kernel_rfl); (case pn_least_content => first | rfl | kernel_rfl); (case a_least_sizes => k_is); (case l_least_sizes => k_is); (case c_least_sizes => k_is); (case k_least_sizes => k_is); (case a_living => k_is); (case l_living => k_is); (case c_living => k_is); (case k_living => k_is); (case a_law_draw => k_is); (case l_law_draw => k_is); (case c_law_draw => k_is); (case k_law_draw => k_is); (case a_law_next => k_is); (case l_law_next => k_is); (case c_law_next => k_is); (case k_law_next => k_is); (case a_law_same => k_is); (case l_law_same => k_is); (case c_law_same => k_is); (case k_law_same => k_is); (case a_law_content => k_is); (case l_law_content => k_is); (case c_law_content => k_is); (case k_law_content => k_is); (case a_law_schema => k_is); (case l_law_schema => k_is); (case c_law_schema => k_is); (case k_law_schema => k_is); (case a_law_least => k_is); (case l_law_least => k_is); (case c_law_least => k_is); (case k_law_least => k_is); (case a_law_sizes => k_is); (case l_law_sizes => k_is); (case c_law_sizes => k_is); (case k_law_sizes => k_is); (case a_law => k_is); (case l_law => k_is); (case c_law => k_is); (case k_law => k_is); (case g_OWN_EVENTS => k_is); (case n_isinstance => k_is); (case n_str => k_is); (case n_len => k_is); (case n_range => k_is); (case n_sum => k_is); (case n_min => k_is); (case n_list => k_is); (case n_abs => k_is); (case n_int => k_is); (case n_tuple => k_is); (case n_all => k_is); (case n_bool => k_is); (case n_sorted => k_is)
