import PyProof.Rows.All
import Wide.All
import OpenK.AllK
import Wide.FinOn
import HandS.ForMost
import HandS.ForExc
import HandS.ExcCtx
import HandS.ExcInit
import HandS.ExcSuper
import HandS.FStr
import KE.KExcSuper
import KE.KExcMore
import KE.KExcIs
import HandS.IsInst
import HandS.TupAny
import HandS.Style
import KE.KRevSl
import HandS.Nested
import KE.KSuper
import KE.RegKSuper
import HandS.Dict
import HandS.More
import HandS.Small
import HandS.Lambda
import HandS.Rev
import HandS.RevRange
import HandS.Walk
import KE.DataMinMax
import HandS.SortKw
import HandS.CallLocal
import HandS.Iter
import HandS.DictComp
import HandS.EndOwn
import PySem.Challenge.RW_soonsettled_k48_conditions_hold
set_option Elab.async false
set_option linter.all false
set_option maxRecDepth 100000
set_option maxHeartbeats 4000000
/-! TextError: an own error of two generations below ValueError, whose __init__ tells a text to super() and keeps two fields. Part 1: over the heap. -/
namespace TE
open PySem PySem.W PySem.Calls PyProof.Rows PySem.HandSPX
/-- "MESSAGE at PLACE" -/
def says (m : Str) (p : Int) : Str := Str.empty ++ m ++ (" at " : Str) ++ (toString p : Str)
/-! ### the text of __init__ -/
def iArgs : Arguments :=
  { posonlyargs := [], args := [{ arg := "self", annotation := none, pos := ⟨9, 17, 9, 21⟩ }, { arg := "place", annotation := none, pos := ⟨9, 23, 9, 28⟩ }, { arg := "message", annotation := none, pos := ⟨9, 30, 9, 37⟩ }],
    vararg := none, kwonlyargs := [], kw_defaults := [], kwarg := none, defaults := [] }
def iBody : List Stmt :=
  [.Expr (.Call (.Attribute (.Call (.Name "super" ⟨10, 8, 10, 13⟩) [] [] ⟨10, 8, 10, 15⟩) "__init__" ⟨10, 8, 10, 24⟩)
      [.JoinedStr [.FormattedValue (.Name "message" ⟨10, 28, 10, 35⟩) (-1) none ⟨10, 27, 10, 36⟩, .Constant (.str " at ") 0 ⟨10, 36, 10, 40⟩,
        .FormattedValue (.Name "place" ⟨10, 41, 10, 46⟩) (-1) none ⟨10, 40, 10, 47⟩] ⟨10, 25, 10, 48⟩] [] ⟨10, 8, 10, 49⟩) ⟨10, 8, 10, 49⟩,
   .Assign [.Attribute (.Name "self" ⟨11, 8, 11, 12⟩) "place" ⟨11, 8, 11, 18⟩] (.Name "place" ⟨11, 21, 11, 26⟩) ⟨11, 8, 11, 26⟩,
   .Assign [.Attribute (.Name "self" ⟨12, 8, 12, 12⟩) "message" ⟨12, 8, 12, 20⟩] (.Name "message" ⟨12, 23, 12, 30⟩) ⟨12, 8, 12, 30⟩]
def iScope : Scope :=
  { kind := .function, names := [(Str.ofString "self", .local), (Str.ofString "place", .local), (Str.ofString "message", .local), (Str.ofString "__class__", .free), (Str.ofString "super", .globalImplicit)],
    isGenerator := false, isCoroutine := false, more := [] }
/-- what the written part says of TextError, at C, and of its __init__, at fI -/
structure Txt (prog : Program) (K : Frag) (mg : Str → Option Value) (C fI : Addr) : Prop where
  gC : mg "TextError" = some (.ref C)
  cls : ∃ nm q N bs bm sn sub ab col dd k0 k1 k2 k3 k5, K.lookup C = some (excClassObj nm q C N bs bm true sn sub ab col dd k0 k1 k2 k3 k5 "ValueError.__new__") ∧ refsVE bm = true
  sup : ks_superIn K C C "__init__" = some (some (.builtin "ValueError.__init__"))
  ini : excInitIn K C [.type "ValueError", .type "Exception", .type "BaseException", .type "object"] "ValueError.__new__" = true
  subV : subIn K (.ref C) (.type "ValueError") = some true
  opq : nsIn K cStatics "thirdparty.any" = some none
  noS : nsIn K mainGlobals "super" = some none
  topS : (prog.main.scope.names.lookup ("super" : Str)).isSome = false
  sa : findIn K (.ref C) "__setattr__" = some (some (.builtin "object.__setattr__"))
  noP : findIn K (.ref C) "place" = some none
  noM : findIn K (.ref C) "message" = some none
  iC : findIn K (.ref C) "__init__" = some (some (.ref fI))
  tI : typeIn K (.ref fI) = some (.type "function")
  kC : keepIn K (.ref C) = true
  exC : subIn K (.ref C) (.type "BaseException") = some true
  tyC : typeIn K (.ref C) = some (.type "type")
  fn : ∃ (oc : Value) (od : Option Addr) (kV doc pm : Value) (an : Option Addr) (cda : Addr) (ct : Value) (cc : Addr) (osl : Array (Option Value))
      (ccl : Value) (cdd : Option Addr) (vs : Array Value) (ccs : Array (Option Value)) (file : Str) (tf : Tok) (cl : Value) (cld : Option Addr) (csl : Array (Option Value)),
    K.lookup fI = some ⟨oc, od, .func (ksFn "__init__" "TextError.__init__" iArgs iBody iScope .none kV doc pm an (.ref cda) ct cc), osl⟩ ∧
    codeIn K (.ref cda) "TextError.__init__" = true ∧ K.lookup cda = some ⟨ccl, cdd, .fields vs, ccs⟩ ∧ vs[2]? = some (.str file tf) ∧ ((prog.main.file : Str) == file) = true ∧
    K.lookup cc = some ⟨cl, cld, .cell (some (.ref C)), csl⟩
/-- what __init__ leaves of a fresh error at x -/
structure InitEnd (h h' : Heap) (x C dx t1 : Addr) (p : Int) (tp : Tok) (m : Str) (tm : Tok) : Prop where
  keep : ∀ b o, b ≠ x → h.get? b = some o → h'.get? b = some o
  obj : h'.get? x = some (excObj C t1 (some dx) .none)
  tup : ∃ tk, h'.get? t1 = some (excTup [.str (says m p) tk])
  dbig : h.objs.size ≤ dx
  dne : dx ≠ x
  tbig : h.objs.size ≤ t1
  tne : t1 ≠ x
  td : t1 ≠ dx
  ns : h'.Ns1 dx (fun y => if y = "message" then some (.str m tm) else if y = "place" then some (.int p tp) else none)
section
variable {prog : Program} {w : World} {A : Around} {R : Result → Shared → Prop} {s : Shared} {K : Frag} {mg : Str → Option Value} {base : Heap} {C fI : Addr}
theorem init (T : Txt prog K mg C fI) (Md : L2.Mod K mg base) (kb : ∀ b o, base.get? b = some o → s.heap.get? b = some o) {x t0 : Addr} {p : Int} {m : Str} {tp tm : Tok} (hx : s.heap.get? x = some (excO C t0)) (hnx : base.get? x = none)
    (hlim : s.heap.NoLimit) (hroom : A.depth < recursionLimit) (hp : p.natAbs.log2 < 1920) (hm : m.length ≤ 1000000)
    (hq : ∀ h' tk dx t1, InitEnd s.heap h' x C dx t1 p tp m tm → R (.ok (.ret .none)) { s with heap := h', toks := tk }) :
    codeAny (model prog w) A (.call (.ref fI) ⟨[.ref x, .int p tp, .str m tm], []⟩) R s := by
  obtain ⟨oc, od, kV, doc, pm, an, cda, ct, cc, osl, ccl, cdd, vs, ccs, file, tf, cl, cld, csl, ho, hcd, hcode, hvs, hfile, hcell⟩ := T.fn
  have X : K.In s.heap := Md.kin.keeps kb
  refine ks_codeAny_call_defAt (binds := [(("self" : Str), .ref x), (("place" : Str), .int p tp), (("message" : Str), .str m tm)]) hroom (X _ _ ho) rfl hlim (codeRec_of X hcd) rfl (BindsTo.of_eq (by first | rfl | with_unfolding_all rfl)) (show ∀ x ∈ iScope.names, x.2 ≠ .cell by decide) ?loc (fun h₁ hns hk => ?_) rfl rfl rfl
  case loc =>
    intro y hy
    rcases List.mem_cons.mp hy with rfl | hy
    · rfl
    rcases List.mem_cons.mp hy with rfl | hy
    · rfl
    rcases List.mem_cons.mp hy with rfl | hy
    · rfl
    cases hy
  -- super().__init__(f'{message} at {place}')
  refine ks_wpAt_execs_cons (ks_wpAt_Expr_any (ks_wpAt_MethodCall ?_))
  obtain ⟨nm, q, N, bs, bm, sn, sub, ab, col, dd, k0, k1, k2, k3, k5, hC, hbm⟩ := T.cls
  obtain ⟨mb, hbl, hbb⟩ := Md.blt
  have kb1 : ∀ b o, base.get? b = some o → h₁.get? b = some o := fun b o e => hk b o (kb b o e)
  have X₁ : K.In h₁ := X.keeps hk
  have hC₁ := X₁ _ _ hC
  have hx₁ := hk _ _ hx
  have hsuper : mg ("super" : Str) = none := mg_none_of Md.kin Md.glob T.noS
  have hboot : mb ("super" : Str) = some (.type "super") := (hbb _ (by decide)).trans (by decide +kernel)
  have hcl : clsIn K C = some { name := nm, bases := bs, mro := .ref C :: bm, ns := N, qualname := q, hasDict := true, slotNames := sn, subclasses := sub, abstract := ab, collection := col, hasDel := false } := by
    unfold clsIn
    rw [hC] <;> rfl
  refine ks_wpAt_super_base (vs := vs) rfl rfl (by decide) rfl (X₁ _ _ ho) rfl rfl rfl (X₁ _ _ hcode) rfl hvs hfile T.topS ?_
  refine ks_loadName_global rfl rfl (loadGlobal_builtin (Md.glob.keeps kb1) hsuper (hbl.keeps kb1) hboot ⟨rfl, ?_⟩)
  refine wpAny_loadName_free rfl rfl rfl ⟨_, X₁ _ _ hcell, rfl⟩ ?_
  refine wpAny_loadName_local rfl rfl hns rfl ?_
  refine ks_wpAny_isType_cls hC₁ rfl ⟨rfl, ?_⟩
  refine ks_wpAny_call_super hC₁ rfl hx₁ rfl (fun c e => by cases e) (looks_mroIn X₁ ?hmro) (fun h₂ e2 k2' => ?_)
  case hmro =>
    unfold mroIn
    rw [hcl]
    show (if (Value.ref C :: bm).isEmpty = true then none else some ((Value.ref C :: bm).contains (.ref C))) = some true
    rw [if_neg (show ¬ ((Value.ref C :: bm).isEmpty = true) from Bool.false_ne_true), List.contains_cons]
    simp
  -- from here on by the ledger, over all that stood but the error itself
  have hxL : x < s.heap.objs.size := Heap.lt_size hx
  have hg : ∀ b o, b ≠ x → s.heap.get? b = some o → (hideAll s.heap [x]).get? b = some o := fun b o hb e => hideAll_get [x] e (by simpa using hb)
  have X0 : K.In (hideAll s.heap [x]) := fun b o e => hg b o (fun z => by rw [z] at e; rw [Md.kin _ _ e] at hnx; cases hnx) (X b o e)
  have F₂ : Fr (hideAll s.heap [x]) s.heap.objs.size h₂ (fun y => [(("self" : Str), Value.ref x), (("place" : Str), Value.int p tp), (("message" : Str), Value.str m tm)].reverse.lookup y) := by
    obtain ⟨oL, es, ep, hL, r⟩ := hns
    exact ⟨⟨oL, es, ep, k2' _ _ hL, r⟩, fun b o e => k2' _ _ (hk _ _ (of_hideAll _ e)), Nat.le_of_eq (hideAll_size _ _)⟩
  have hxg : (hideAll s.heap [x]).get? x = none := hideAll_none [x] (by simp)
  have h₁L : s.heap.objs.size < h₁.objs.size := hns.lt
  have N₂ : News (hideAll s.heap [x]) s.heap.objs.size h₂ [(h₁.objs.size, ks_superObj C x C), (x, excObj C t0 none .none)] := by
    intro b hb
    rcases List.mem_cons.mp hb with rfl | hb
    · refine ⟨e2, Nat.ne_of_gt h₁L, ?_⟩
      cases z : (hideAll s.heap [x]).get? h₁.objs.size with
      | none => rfl
      | some o =>
        have z' : h₁.objs.size < s.heap.objs.size := Heap.lt_size (of_hideAll _ z)
        exact absurd (Nat.lt_trans h₁L z') (Nat.lt_irrefl _)
    · rcases List.mem_cons.mp hb with rfl | hb
      · exact ⟨k2' _ _ hx₁, Nat.ne_of_lt hxL, hxg⟩
      · cases hb
  have I₂ : W.InstAt h₂ x (excObj C t0 none .none) C none := ⟨k2' _ _ hx₁, rfl, rfl, trivial⟩
  refine kxs_method kxs_ValueError F₂ X0 N₂ List.mem_cons_self I₂ T.opq T.sup T.subV (by decide) (fun u h₃ F₃ N₃ l₃ => ?_)
  show wpAny _ _ (callWith _ (Value.ref u) [] _ []) _ _ _
  refine kxs_callWith1 N₃ List.mem_cons_self ?_
  refine spliced_cons (wpAny_JoinedStr (pos := ⟨10, 25, 10, 48⟩) ?_)
  -- the three parts
  have hm4 : (Str.empty ++ m).length ≤ 1000000 := by
    rw [Str.length_append]
    show 0 + m.length ≤ _
    omega
  have h4 : (Str.empty ++ m ++ (" at " : Str)).length ≤ 1000004 := by
    rw [Str.length_append]
    show _ + 4 ≤ _
    omega
  have hall : (says m p).length ≤ 1001925 := by
    unfold says
    rw [Str.length_append]
    have z := int_text_len_1921 hp
    omega
  refine wpAny_FormattedValue_plain (ESX.ldL (v := .str m tm) F₃.ns rfl ?_ (by first | rfl | with_unfolding_all rfl) (by first | rfl | with_unfolding_all rfl))
  have sz : ∀ {n : Nat}, n ≤ 1100000 → n ≤ sizeLine := fun h => by
    rw [sizeLine_eq]
    omega
  have neu : u ≠ x := Nat.ne_of_gt (l₃ (x, excObj C t0 none .none) (List.mem_cons_of_mem _ List.mem_cons_self))
  have nes : h₁.objs.size ≠ x := Nat.ne_of_gt (Nat.lt_trans hxL h₁L)
  have mE : ((x, excObj C t0 none .none) : Addr × Obj) ∈ [(u, kxs_mw "ValueError.__init__" x), (h₁.objs.size, ks_superObj C x C), (x, excObj C t0 none .none)] := List.mem_cons_of_mem _ (List.mem_cons_of_mem _ List.mem_cons_self)
  refine wpAny_formatField_str ?_ ?_ (sz (by omega))
  all_goals
    refine ⟨_, _, rfl, sz (by omega), ?_⟩
    refine wpAny_Constant_str ⟨_, _, rfl, sz (by omega), ?_⟩
    refine wpAny_FormattedValue_plain (ESX.ldL (v := .int p tp) F₃.ns rfl ?_ (by first | rfl | with_unfolding_all rfl) (by first | rfl | with_unfolding_all rfl))
    refine wpAny_formatField_int hp ⟨_, _, rfl, sz (Nat.le_trans hall (by decide)), ?_⟩
    refine ⟨sz (Nat.le_trans hall (by decide)), ?_⟩
    refine spliced_nil ⟨kxs_at N₃ List.mem_cons_self, ?_⟩
    refine kxs_call F₃ X0 N₃ F.excBase_ValueError T.ini List.mem_cons_self (.tail neu (.tail nes (.head fun _ h => nomatch h))) (sz (show 1 ≤ 1100000 by decide)) (fun t1 h₄ F₄ N₄ l₄ => ?_)
    -- self.place = place
    have X₄ : K.In h₄ := X0.keeps F₄.keep
    have hx₄ : h₄.get? x = some (excObj C t1 none .none) := (N₄ (x, excObj C t1 none .none) (by simp)).1
    have lx1 : x < t1 := l₄ _ mE
    have ht₄ := (N₄ (t1, _) List.mem_cons_self).1
    refine wpAt_of_wpAny (wpAny_execs_cons (plainObj_wpAny_Assign_Attribute ?_))
    refine ESX.ldL (v := .int p tp) F₄.ns rfl (ESX.ldL (v := .ref x) F₄.ns rfl ?_ (by first | rfl | with_unfolding_all rfl) (by first | rfl | with_unfolding_all rfl)) (by first | rfl | with_unfolding_all rfl) (by first | rfl | with_unfolding_all rfl)
    refine set_plain X₄ (ox := excObj C t1 none .none) (od := none) ⟨hx₄, rfl, rfl, trivial⟩ T.sa ?_
    refine exc_osa X₄ hx₄ hcl (show refsVE (.ref C :: bm) = true from hbm) rfl T.noP (fun h₅ tk₅ dx k₅ dn dne hx₅ hn₅ => ?_)
    -- self.message = message
    have X₅ : K.In h₅ := fun b o e => k₅ b o (fun z => by rw [z] at e; rw [Md.kin _ _ e] at hnx; cases hnx) (X₄ b o e)
    have ns₅ : h₅.Ns s.heap.objs.size (fun y => [(("self" : Str), Value.ref x), (("place" : Str), Value.int p tp), (("message" : Str), Value.str m tm)].reverse.lookup y) := by
      obtain ⟨oL, es, ep, hL, r⟩ := F₄.ns
      exact ⟨oL, es, ep, k₅ _ _ (Nat.ne_of_gt hxL) hL, r⟩
    obtain ⟨oD, esD, epD, hoD, rD⟩ := id hn₅
    refine wpAny_execs_cons (plainObj_wpAny_Assign_Attribute ?_)
    refine ESX.ldL (v := .str m tm) ns₅ rfl (ESX.ldL (v := .ref x) ns₅ rfl ?_ (by first | rfl | with_unfolding_all rfl) (by first | rfl | with_unfolding_all rfl)) (by first | rfl | with_unfolding_all rfl) (by first | rfl | with_unfolding_all rfl)
    refine set_plain X₅ (ox := excObj C t1 (some dx) .none) (od := some oD) ⟨hx₅, rfl, rfl, hoD⟩ T.sa ?_
    refine OEX.osa_old X₅ hx₅ hn₅ (nl := [("place" : Str)]) ?_ (by decide) hcl (show refsVE (.ref C :: bm) = true from hbm) rfl T.noM (fun h₆ tk₆ k₆ hn₆ => ?_)
    · exact Within.cons _ _ Within.nil
    · have bigT : t1 < h₄.objs.size := Heap.lt_size ht₄
      have bigL : s.heap.objs.size < h₄.objs.size := F₄.ns.lt
      have lso : h₁.objs.size < t1 := l₄ (h₁.objs.size, ks_superObj C x C) (List.mem_cons_of_mem _ List.mem_cons_self)
      have ntd : t1 ≠ dx := Nat.ne_of_lt (Nat.lt_of_lt_of_le bigT dn)
      have ntx : t1 ≠ x := Nat.ne_of_gt lx1
      refine wpAny_execs_nil (hq h₆ tk₆ dx t1 ⟨fun b o hb e => ?_, k₆ x _ dne.symm hx₅, ⟨_, k₆ t1 _ ntd (k₅ t1 _ ntx ht₄)⟩, Nat.le_of_lt (Nat.lt_of_lt_of_le bigL dn), dne, Nat.le_of_lt (Nat.lt_trans h₁L lso), ntx, ntd, hn₆⟩)
      have e4 := F₄.keep b o (hg b o hb e)
      exact k₆ b o (Nat.ne_of_lt (Nat.lt_of_lt_of_le (Heap.lt_size e4) dn)) (k₅ b o hb e4)
/-- a made TextError -/
structure Made (h h' : Heap) (e C d t1 : Addr) (p : Int) (tp : Tok) (m : Str) (tm : Tok) : Prop where
  keep : ∀ b o, h.get? b = some o → h'.get? b = some o
  new : h.objs.size ≤ e
  obj : h'.get? e = some (excObj C t1 (some d) .none)
  tup : ∃ tk, h'.get? t1 = some (excTup [.str (says m p) tk])
  dbig : h.objs.size ≤ d
  dne : d ≠ e
  tbig : h.objs.size ≤ t1
  tne : t1 ≠ e
  td : t1 ≠ d
  ns : h'.Ns1 d (fun y => if y = "message" then some (.str m tm) else if y = "place" then some (.int p tp) else none)
theorem made (T : Txt prog K mg C fI) (Md : L2.Mod K mg base) (kb : ∀ b o, base.get? b = some o → s.heap.get? b = some o) {p : Int} {m : Str} {tp tm : Tok} (hlim : s.heap.NoLimit) (hroom : A.depth + 1 < recursionLimit)
    (hp : p.natAbs.log2 < 1920) (hm : m.length ≤ 1000000) (hq : ∀ h' tk e d t1, Made s.heap h' e C d t1 p tp m tm → R (.ok (.ret (.ref e))) { s with heap := h', toks := tk }) :
    codeAny (model prog w) A (.call (.ref C) ⟨[.int p tp, .str m tm], []⟩) R s := by
  obtain ⟨nm, q, N, bs, bm, sn, sub, ab, col, dd, k0, k1, k2, k3, k5, hC, hbm⟩ := T.cls
  obtain ⟨hh, g, dr, tk, os⟩ := s
  have X : K.In hh := Md.kin.keeps kb
  have k : ∀ b o, hh.get? b = some o → ((hh.push (kdv_tup [.int p tp, .str m tm])).push (excO C hh.objs.size)).get? b = some o := fun b o e => Heap.get?_push_of_some _ (Heap.get?_push_of_some _ e)
  have hget : ((hh.push (kdv_tup [.int p tp, .str m tm])).push (excO C hh.objs.size)).get? (hh.objs.size + 1) = some (excO C hh.objs.size) := by heap_get
  have hnx : base.get? (hh.objs.size + 1) = none := by
    cases e : base.get? (hh.objs.size + 1) with
    | none => rfl
    | some o => exact absurd (Nat.lt_of_succ_lt (Heap.lt_size (kb _ _ e))) (Nat.lt_irrefl _)
  have two : ([.int p tp, .str m tm] : List Value).length ≤ sizeLine := by
    rw [sizeLine_eq]
    show 2 ≤ 16777216
    decide
  refine call_own F.excBase_ValueError (fun Y => refsVE_contains Y bm hbm) (X _ _ hC) (looks_findIn X T.iC) (fun self => bind_fn X self T.tI) two ?_
  have hs : ((hh.push (kdv_tup [.int p tp, .str m tm])).push (excO C hh.objs.size)).objs.size = hh.objs.size + 1 + 1 := by simp [Heap.size_push]
  refine init (s := ⟨(hh.push (kdv_tup [.int p tp, .str m tm])).push (excO C hh.objs.size), g, dr, tk, os⟩) T Md (fun b o e => k b o (kb b o e)) hget hnx (hlim.keeps k) ?_ hp hm fun h' tk' dx t1 Z => ?_
  · show A.depth + 1 < recursionLimit
    exact hroom
  · have zd : hh.objs.size + 1 + 1 ≤ dx := by
      rw [← hs]
      exact Z.dbig
    have zt : hh.objs.size + 1 + 1 ≤ t1 := by
      rw [← hs]
      exact Z.tbig
    exact ⟨rfl, hq h' tk' (hh.objs.size + 1) dx t1 ⟨fun b o e => Z.keep b o (Nat.ne_of_lt (Nat.lt_succ_of_lt (Heap.lt_size e))) (k b o e), Nat.le_succ _, Z.obj, Z.tup, Nat.le_of_succ_le (Nat.le_of_succ_le zd), Z.dne, Nat.le_of_succ_le (Nat.le_of_succ_le zt), Z.tne, Z.td, Z.ns⟩⟩
end
end TE
/-! TextError. Part 2: raised, let out of defs, caught; the text of the error is kept (its arguments' tuple stays tracked). -/
namespace TE
open PySem PySem.Spec PyProof.Rows L2 HandSPX
abbrev St := L2.St
/-- the error's own dict -/
def fs (m : Str) (p : Int) : List (Str × V) := [(("message" : Str), .str m), (("place" : Str), .int p)]
/-- the dict at d and the arguments at t tell one error -/
def Tells (H : Hp) (d t : Addr) : Prop := ∃ (m : Str) (p : Int), H d = some (.xd (fs m p)) ∧ H t = some (.tup [.str (says m p)])
/-- what is kept of the error's object -/
def Ze (cls : Value) (d t : Addr) (o : Obj) : Prop := o.cls = cls ∧ o.dict = some d ∧ ∀ vs, o.data = .fields vs → vs[0]? = some (.ref t)
theorem Ze.steady {cls : Value} {d t : Addr} : PXN.Steady1 (Ze cls d t) := by
  rintro ⟨c, dd, dt, sl⟩ v ⟨h1, h2, h3⟩
  cases dt with
  | fields vs0 =>
    refine ⟨h1, h2, fun vs e => ?_⟩
    cases (show Data.fields (vs0.setIfInBounds 1 v) = Data.fields vs from e)
    rw [Array.getElem?_setIfInBounds_ne (by decide)]
    exact h3 vs0 rfl
  | _ => exact ⟨h1, h2, h3⟩
/-- an error in the air of X, above the ground B; sI is the state without it -/
structure Air (X : Cx) (a : Addr) (s' : Shared) (B : Heap) (sI : Shared) (pins : List (Addr × Obj)) (σ : St) (H : Hp) (cls : Value) (d t : Addr) : Prop where
  inv : Inv X pins σ H sI
  gnd : ∀ b o, sI.heap.get? b = some o → b ∉ frs X.stack → B.get? b = some o
  up : sI.heap.UpToSlots s'.heap
  sky : Sky B X.stack a (Ze cls d t) X.env.locals s'.heap
  na : H a = none
  os : s'.os = sI.os
  bare : AllBare s'.gens
  tells : Tells H d t
def XE (X : Cx) (W : WX) (u : Value) (s' : Shared) : Prop := ∃ a B sI pins σ H cls d t, u = .ref a ∧ Air X a s' B sI pins σ H cls d t ∧ W cls (some d) σ H
def Takes (X : Cx) (W : WX) : Prop := ∀ u s', XE X W u s' → X.xe u s'
/-- an error that a call let out -/
structure Out (P : Program) (w : World) (outer : List Env) (H : Hp) (s : Shared) (a : Addr) (s' : Shared) (B : Heap) (H' : Hp) (cls : Value) (d t : Addr) : Prop where
  fl : FlyingZ B outer a (Ze cls d t) s'.heap
  hok : HOk P w H' B
  ub : UB (frs outer) H H' s.heap B s'.heap
  na : H' a = none
  os : s'.os = s.os
  bare : AllBare s'.gens
  tells : Tells H' d t
def CX (P : Program) (w : World) : CXT := fun outer H s E u s' => ∃ a B H' cls d t, u = .ref a ∧ Out P w outer H s a s' B H' cls d t ∧ E cls (some d) H'
section
variable {X : Cx} {pins : List (Addr × Obj)} {σ : St} {H : Hp} {sI s s' : Shared} {B : Heap} {W : WX} {E : XK}
/-- out of a call into our air -/
theorem XE.called (I : Inv X pins σ H s) (hW : ∀ cls d H', E cls d H' → W cls d σ H') {u : Value} (c : CX X.prog X.w X.stack H s E u s') : XE X W u s' := by
  obtain ⟨a, B, H', cls, d, t, rfl, ⟨fl, hok, ub, na, os, ag, te⟩, hE⟩ := c
  obtain ⟨G, gIn, gOut⟩ := restrict s'.heap (fun b => decide (b ∈ frs X.stack) || (B.get? b).isSome)
  have toG : ∀ {b o}, B.get? b = some o → G.get? b = some o := fun {b o} e => (gIn b (by simp [e])).trans (fl.1 b o e)
  have frG : ∀ {b}, b ∈ frs X.stack → G.get? b = s'.heap.get? b := fun {b} hb => gIn b (by simp [hb])
  have ofG : ∀ {b o}, G.get? b = some o → s'.heap.get? b = some o ∧ (b ∈ frs X.stack ∨ (B.get? b).isSome = true) := fun {b o} e => by
    by_cases q : (decide (b ∈ frs X.stack) || (B.get? b).isSome) = true
    · rw [gIn b q] at e
      exact ⟨e, by simpa using q⟩
    · rw [gOut b (by simpa using q)] at e
      cases e
  have J : Inv X pins σ H' { s with heap := G, gens := s'.gens, drawn := s'.drawn, toks := s'.toks } := by
    refine I.call (ch := []) ⟨?_, ?_, ?_, ?_, ub.tups, ub.frzs, ub.tbls⟩ (hok.kept fun b o e => toG e) ag (fun _ z => nomatch z)
    · exact fun b o e n hb _ => toG (ub.keep b o e n hb)
    · intro b o e n hb _
      obtain ⟨sl, q⟩ := ub.slot b o e hb
      exact ⟨sl, (frG hb).trans q⟩
    · exact fun b o e n _ => ub.free b o e n
    · intro b o e _
      by_cases hb : b ∈ frs X.stack
      · obtain ⟨sl, q⟩ := ub.slot b o e hb
        exact ⟨_, (frG hb).trans q⟩
      · obtain ⟨o', q⟩ := ub.there b o e hb
        exact ⟨o', toG q⟩
  refine ⟨a, B, _, pins, σ, H', cls, d, t, rfl, ⟨J, ?_, Heap.UpToSlots.of_keeps fun b o e => (ofG e).1, .inr (.inl fl), na, os, ag, te⟩, hW _ _ _ hE⟩
  intro b o e hb
  obtain ⟨e1, q | q⟩ := ofG e
  · exact absurd q hb
  · obtain ⟨o', q'⟩ := Option.isSome_iff_exists.mp q
    have e2 := fl.1 b o' q'
    rw [e1] at e2
    cases e2
    exact q'
/-- a new one in our air -/
theorem XE.fresh {a : Addr} {oe : Obj} {vs : Array Value} {cls : Value} {d t : Addr} (I : Inv X pins σ H sI) (k : ∀ b o, sI.heap.get? b = some o → s'.heap.get? b = some o) (hne : sI.heap.get? a = none) (he : s'.heap.get? a = some oe)
    (hz : Ze cls d t oe) (hd : oe.data = .fields vs) (h1 : vs[1]? = some .none) (na : H a = none) (os : s'.os = sI.os) (ag : AllBare s'.gens) (te : Tells H d t) (hw : W cls (some d) σ H) : XE X W (.ref a) s' := by
  have hide : ∀ {b o}, (PySem.W.hideAll sI.heap (frs X.stack)).get? b = some o → sI.heap.get? b = some o := fun {b o} e => PySem.W.of_hideAll _ e
  have no : (PySem.W.hideAll sI.heap (frs X.stack)).get? a = none := by
    cases q : (PySem.W.hideAll sI.heap (frs X.stack)).get? a with
    | none => rfl
    | some o =>
      rw [hide q] at hne
      cases hne
  have ff : s'.heap.FunFrames (PySem.W.hideAll sI.heap (frs X.stack)) X.stack := Heap.FunFrames.of_keeps (fun b o e _ => ⟨o, k b o e, rfl⟩) (funFrames_none I.stack fun b hb => PySem.W.hideAll_none _ hb)
  exact ⟨a, _, sI, pins, σ, H, cls, d, t, rfl, ⟨I, fun b o e hb => PySem.W.hideAll_get _ e hb, Heap.UpToSlots.of_keeps k, .inl ⟨fun b o e => k b o (hide e), no, ff, oe, vs, he, hz, hd, h1⟩, na, os, ag, te⟩, hw⟩
/-- it leaves the def -/
theorem XE.leave (hs : X.stack = X.env :: X.outer) (hf : X.env.frame = some X.env.locals) (hex : X.ex = []) {E₁ : Value → Shared → Prop} {u : Value} (x : XE X (fun cls d _ H => E cls d H) u s') :
    wpAny (model X.prog X.w) X.A (leaving X.env u) (fun _ s'' => CX X.prog X.w X.outer X.H_0 X.s_0 E u s'') E₁ s' := by
  obtain ⟨a, B, sI, pins, σ, H, cls, d, t, rfl, ⟨I, gnd, up, sky, na, os, ag, te⟩, hw⟩ := x
  have hfr : X.A.frames = some (X.env :: X.outer) := I.ok.frames.trans (congrArg some hs)
  have nex : ∀ b, b ∉ X.ex := fun b hb => by
    rw [hex] at hb
    cases hb
  have apart : ∀ {b o}, X.s_0.heap.get? b = some o → b ∉ X.fs → b ∉ frs X.stack := fun {b o} e hb hm => by
    rcases List.mem_cons.mp (I.stkSub b hm) with rfl | z
    · exact absurd (Nat.lt_of_lt_of_le (Heap.lt_size e) I.ok.above) (Nat.lt_irrefl _)
    · exact hb z
  have done : ∀ h', FlyingZ B X.outer a (Ze cls d t) h' → s'.heap.UpToSlots h' → CX X.prog X.w X.outer X.H_0 X.s_0 E (.ref a) { s' with heap := h' } := fun h' fl up' => by
    refine ⟨a, B, H, cls, d, t, rfl, ⟨fl, I.inGround gnd, ⟨?_, ?_, ?_, ?_, I.base.tups, I.base.frzs, I.base.tbls⟩, na, os.trans I.os, ag, te⟩, hw⟩
    · exact fun b o e n hb => gnd b o (I.base.keep b o e n hb (nex b)) (apart e hb)
    · intro b o e hb
      obtain ⟨_, o₀, e₀, nf⟩ := I.ok.funs.mem hb
      rw [e] at e₀
      cases e₀
      obtain ⟨sl1, e1⟩ := I.base.slot b o e (I.ok.frf b hb) hb (nex b)
      obtain ⟨sl2, e2⟩ := up b _ e1 nf
      obtain ⟨sl3, e3⟩ := up' b _ e2 nf
      exact ⟨sl3, e3⟩
    · exact fun b o e n => I.base.free b o e n (nex b)
    · intro b o e hb
      obtain ⟨o', e1⟩ := I.base.there b o e (nex b)
      exact ⟨o', gnd b o' e1 (apart e hb)⟩
  rw [hs] at sky
  rcases sky with ⟨c1, c2, c3, oe, vs, c4, c5, c6, c7⟩ | fl | hh
  · exact PXN.leaving_firstZ Ze.steady hfr c3 hf c4 c1 c2 c6 c7 c5 done
  · exact PXN.leaves_onZ Ze.steady hfr hf fl done
  · exact leaves_heldZ hf hh done
theorem takes_of (hs : X.stack = X.env :: X.outer) (hf : X.env.frame = some X.env.locals) (hex : X.ex = []) {E₁ : Value → Shared → Prop}
    (hx : X.xe = fun e s' => wpAny (model X.prog X.w) X.A (leaving X.env e) (fun _ s'' => CX X.prog X.w X.outer X.H_0 X.s_0 E e s'') E₁ s') : Takes X (fun cls d _ H => E cls d H) := by
  intro u s' x
  rw [hx]
  exact x.leave hs hf hex
theorem passes (tk : Takes X (fun cls d _ H => E cls d H)) : Passes (CX X.prog X.w) X E := fun _ _ _ _ e s' I c => tk e s' (XE.called I (fun _ _ _ h => h) c)
theorem passesAt (tk : Takes X W) (σ : St) : PassesAt (CX X.prog X.w) X σ (WE W σ) := fun _ _ _ e s' I c => tk e s' (XE.called I (fun _ _ _ h => h) c)
end
/-! ### made, raised -/
def MkP (X : Cx) (pins : List (Addr × Obj)) (σ : St) (Q : XK) (u : Value) (s' : Shared) : Prop :=
  ∃ (a : Addr) (oe : Obj) (vs : Array Value) (sI : Shared) (H' : Hp) (cls : Value) (d t : Addr), u = .ref a ∧ Inv X pins σ H' sI ∧ (∀ b o, sI.heap.get? b = some o → s'.heap.get? b = some o) ∧ sI.heap.get? a = none ∧ s'.heap.get? a = some oe ∧
    Ze cls d t oe ∧ oe.data = .fields vs ∧ vs[1]? = some .none ∧ H' a = none ∧ s'.os = sI.os ∧ AllBare s'.gens ∧ Raises X cls ∧ Tells H' d t ∧ Q cls (some d) H'
def PMk (X : Cx) (e : Expr) (t : St → Hp → XK → Prop) : Prop :=
  ∀ (pins : List (Addr × Obj)) (s : Shared) (σ : St) (H : Hp) (Q : XK), Inv X pins σ H s → t σ H Q → wpAny (model X.prog X.w) X.A (eval e X.env) (MkP X pins σ Q) X.xe s
def tRaise (W : WX) (t : St → Hp → XK → Prop) : TS := fun _ σ H => t σ H fun cls d H' => W cls d σ H'
theorem ps_raise {X : Cx} {W : WX} {e : Expr} {t : St → Hp → XK → Prop} {pos : Pos} (hc : X.calm = true) (tk : Takes X W) (he : PMk X e t) : PS X (.Raise (some e) none pos) (tRaise W t) := by
  constructor
  intro pins s σ H D I h
  show wpAny _ _ (standAt pos >>= fun _ => raiseStmt X.env (some (eval e X.env >>= fun v => standAt pos >>= fun _ => pure v)) none) _ _ _
  refine wpAny_bind (wpAny_standAt (raise_made (I.ok.hd hc) (wpAny_bind (wpAny_mono (he pins s σ H _ I h) ?_ fun _ _ z => z))))
  rintro u s1 ⟨a, oe, vs, sI, H', cls, d, t', rfl, J, k, hne, ha, hz, hd, h1, na, os, ag, r, te, q⟩
  have R := r (model X.prog X.w) s1.heap (J.kIn.keeps k)
  exact wpAny_bind (wpAny_standAt (wpAny_pure ⟨a, oe, vs, cls, rfl, ha, hz.1, hd, h1, R.1, R.2, tk _ _ (XE.fresh J k hne ha hz hd h1 na os ag te q)⟩))
end TE
/-! TextError. Part 3: made, raised, caught as a name; its fields, its text, its class asked. -/
namespace TE
open PySem PySem.Spec PyProof.Rows L2 HandSPX
/-- two new objects are tracked at once -/
theorem laid2 {X : Cx} {pins : List (Addr × Obj)} {σ : St} {H : Hp} {hp G : Heap} {g : Array GenState} {dr : Drawn} {tk tk' : Nat} {os : OsState} {t d : Addr} {ot od : HO} (I : L2.Inv X pins σ H ⟨hp, g, dr, tk, os⟩)
    (k : ∀ b u, hp.get? b = some u → G.get? b = some u) (ht : hp.objs.size ≤ t) (hd : hp.objs.size ≤ d) (ntd : t ≠ d) (et : ObjOk X.prog X.w (upd (upd H t ot) d od) G t ot) (ed : ObjOk X.prog X.w (upd (upd H t ot) d od) G d od) :
    L2.Inv X pins σ (upd (upd H t ot) d od) ⟨G, g, dr, tk', os⟩ := by
  have nt := I.hok.fresh ht
  have nd := I.hok.fresh hd
  have old : ∀ {b u}, H b = some u → upd (upd H t ot) d od b = some u := fun {b u} e => by
    rw [upd_ne (ne_of_none e nd), upd_ne (ne_of_none e nt)]
    exact e
  have free : ∀ {b u}, hp.get? b = some u → H b = none → upd (upd H t ot) d od b = none := fun {b u} e n => by
    have z := Heap.lt_size e
    rw [upd_ne (Nat.ne_of_lt (Nat.lt_of_lt_of_le z hd)), upd_ne (Nat.ne_of_lt (Nat.lt_of_lt_of_le z ht))]
    exact n
  refine I.call' (ch := []) rfl ⟨fun b u e _ _ _ => k b u e, fun b u e _ _ _ => ⟨u.slots, k b u e⟩, fun b u e n _ => free e n, fun b u e _ => ⟨u, k b u e⟩, fun b xs e => old e, fun b u xs e => old e, fun b ps e => ⟨#[], by simpa using old e⟩⟩ ?_ I.bare (fun b z => absurd z (by simp))
  intro b o e
  by_cases h1 : b = d
  · subst h1
    rw [upd_same] at e
    cases e
    exact ed
  · rw [upd_ne h1] at e
    by_cases h2 : b = t
    · subst h2
      rw [upd_same] at e
      cases e
      exact et
    · rw [upd_ne h2] at e
      exact (I.hok b o e).stay (fun c u _ q => k c u q) (fun c q => old q) fun c xs q => old q
theorem rel_fs {m : Str} {p : Int} {tm tp : Tok} (f : Str) : RelO ((fs m p).lookup f) (if f = "message" then some (Value.str m tm) else if f = "place" then some (Value.int p tp) else none) := by
  unfold fs
  rw [lookup_put, lookup_put]
  by_cases h1 : f = "message"
  · rw [if_pos h1, if_pos h1]
    exact ⟨tm, rfl⟩
  · rw [if_neg h1, if_neg h1]
    by_cases h2 : f = "place"
    · rw [if_pos h2, if_pos h2]
      exact ⟨tp, rfl⟩
    · rw [if_neg h2, if_neg h2]
      trivial
section
variable {X : Cx} {C fI : Addr}
/-- TextError(place, message) -/
def tMk (C : Addr) (ta : TA) : St → Hp → XK → Prop := fun σ H Q => ta σ H fun vs H1 => ∃ (p : Int) (m : Str), vs = [.int p, .str m] ∧ p.natAbs.log2 < 1920 ∧ m.length ≤ 1000000 ∧
  ∀ d t, H1 d = none → H1 t = none → t ≠ d → Q (.ref C) (some d) (upd (upd H1 t (.tup [.str (says m p)])) d (.xd (fs m p)))
theorem pmk {a b : Expr} {ta : TA} {p0 pos : Pos} {k : Nat} (T : Txt X.prog X.K X.mg C fI) (hr : Room k X.A) (ha : PA X [a, b] ta) (hg : Gl X "TextError" := by rfl)
    (he : starEach (a :: [b]) X.env = (false, eval a X.env) :: starEach [b] X.env := by rfl) (hpl : (backTo pos (starEach [b] X.env)).any (·.1) = false := by rfl) :
    PMk X (.Call (.Name "TextError" p0) [a, b] [] pos) (tMk C ta) := by
  intro pins s σ H Q I h
  refine wpAny_Call_Name_kw (ld_glob I hg T.gC ?_)
  refine PySem.W.callWith_K (h₀ := X.base) I.ok.mod.kin T.kC (thn (ha.run pos pins s σ H _ I h) ?_) he hpl
  rintro us s1 ⟨vs, H1, I1, r1, p, m, rfl, hp, hm, q⟩
  refine ⟨I1.kIn, ?_⟩
  cases r1 with
  | cons rp r1 =>
    cases r1 with
    | cons rm r1 =>
      cases r1
      obtain ⟨tp, rfl⟩ := rp
      obtain ⟨tm, rfl⟩ := rm
      have hlim := I1.nolimit
      have kb := I1.bs
      obtain ⟨hh, g, dr, tk, os⟩ := s1
      refine wpAny_call (made T I1.ok.mod (fun b o e => (kb b o e).1) hlim (by have := hr.dp; omega) hp hm fun h' tk' e d t M => ?_)
      show MkP X pins σ Q (.ref e) ⟨h', g, dr, tk', os⟩
      obtain ⟨G, gIn, gOut⟩ := restrict h' fun b => decide (b ≠ e)
      have gk : ∀ {b}, b ≠ e → G.get? b = h'.get? b := fun {b} hb => gIn b (decide_eq_true hb)
      have ge : G.get? e = none := gOut e (by simp)
      obtain ⟨tk1, ht⟩ := M.tup
      have hz : (1 : Nat) ≤ sizeLine := by
        rw [sizeLine_eq]
        decide
      have J := laid2 (tk' := tk') (t := t) (d := d) (ot := .tup [.str (says m p)]) (od := .xd (fs m p)) I1 (fun b o z => (gk (Nat.ne_of_lt (Nat.lt_of_lt_of_le (Heap.lt_size z) M.new))).trans (M.keep b o z)) M.tbig M.dbig M.td
        ⟨hz, [.str (says m p) tk1], .cons ⟨tk1, rfl⟩ .nil, _, (gk M.tne).trans ht, rfl, 0, rfl⟩ ⟨_, M.ns.at (fun o z => (gk M.dne).trans z), rel_fs⟩
      have ne := I1.hok.fresh M.new
      refine ⟨e, _, _, ⟨G, g, dr, tk', os⟩, _, .ref C, d, t, rfl, J, fun b o z => ?_, ge, M.obj, ⟨rfl, rfl, fun vs z => by cases z; rfl⟩, rfl, rfl, ?_, rfl, I1.bare, raises_own T.exC T.tyC, ⟨m, p, upd_same, ?_⟩, q d t (I1.hok.fresh M.dbig) (I1.hok.fresh M.tbig) M.td⟩
      · by_cases hb : b = e
        · subst hb
          rw [show (⟨G, g, dr, tk', os⟩ : Shared).heap.get? b = none from ge] at z
          cases z
        · exact (gk hb).symm.trans z
      · rw [upd_ne (Ne.symm M.dne), upd_ne (Ne.symm M.tne)]
        exact ne
      · rw [upd_ne M.td, upd_same]
/-- raise TextError(place, message) -/
theorem ps_raiseTE {a b : Expr} {ta : TA} {W : WX} {p0 pos pos2 : Pos} {k : Nat} (hc : X.calm = true) (T : Txt X.prog X.K X.mg C fI) (hr : Room k X.A) (tk : Takes X W) (ha : PA X [a, b] ta) (hg : Gl X "TextError" := by rfl)
    (he : starEach (a :: [b]) X.env = (false, eval a X.env) :: starEach [b] X.env := by rfl) (hpl : (backTo pos (starEach [b] X.env)).any (·.1) = false := by rfl) :
    PS X (.Raise (some (.Call (.Name "TextError" p0) [a, b] [] pos)) none pos2) (tRaise W (tMk C ta)) := ps_raise hc tk (pmk T hr ha hg he hpl)
end
end TE
/-! TextError. Part 4: try .. except TextError as n, and what the suite asks of n. -/
namespace TE
open PySem PySem.Spec PyProof.Rows L2 HandSPX
/-- the suite's ends: its name goes behind each of them -/
def suiteEnds (i : Nat) (D : Ends) : Ends := { nx := fun σ H => D.nx (σ.set i none) H, rt := D.rt, bk := fun σ H => D.bk (σ.set i none) H, ct := fun σ H => D.ct (σ.set i none) H }
/-- what the clause wishes of an error of the body -/
def wAs (K : PySem.W.Frag) (c : Value) (i : Nat) (ts : Addr → Value → Addr → Addr → TS) (D : Ends) : WX := fun cls d σ H =>
  PySem.W.exmOne K cls c = some true ∧ ∀ a dd t, d = some dd → H a = none → Tells H dd t → ts a cls dd t (suiteEnds i D) (σ.set i (some (.ref a))) H
section
variable {X : Cx} {x n : Str} {c : Value} {i : Nat} {body suite : List Stmt} {b₀ : Stmt} {np pos pos' : Pos} {tb : WX → TS} {ts : Addr → Value → Addr → Addr → TS}
theorem ps_try_as (hs : X.stack = X.env :: X.outer) (hf : X.env.frame = some X.env.locals) (hN : X.N.Nodup) (hi : X.N[i]? = some n) (hln : X.env.kindOf n = some .local) (hc : Names X x c)
    (hb : ∀ (W : WX) (pn : List (Addr × Obj)) (xe : Value → Shared → Prop), Takes (X.tr pn xe) W → PassesOwn (model X.prog X.w) X.A X.env xe → PSs (X.tr pn xe) body (tb W))
    (hsu : ∀ (a : Addr) (oe : Obj) (cls : Value) (d t : Addr) (pn : List (Addr × Obj)), Ze cls d t oe → (∃ vs, oe.data = .fields vs) → PSs (X.suite a ((a, oe) :: pn)) (b₀ :: suite) (ts a cls d t)) :
    PS X (.Try body [.ExceptHandler (some (.Name x np)) (some n) (b₀ :: suite) pos'] [] [] pos) (fun D σ H => tb (wAs X.K c i ts D) D σ H) := by
  constructor
  intro pins s σ H D I h
  have ok := I.ok
  have hfr : X.A.frames = some (X.env :: X.outer) := ok.frames.trans (congrArg some hs)
  refine wpAny_Try_except ?_
  have caught : Takes (X.tr (X.pn ++ pins) fun e s₁ => wpAny (model X.prog X.w) X.A (noteFrame e X.env) (fun _ s₂ => wpAny (model X.prog X.w) X.A (setFlight e none)
      (fun _ s₃ => wpAny (model X.prog X.w) X.A (handleBy e X.env [.ExceptHandler (some (.Name x np)) (some n) (b₀ :: suite) pos']) (SP X pins D) X.xe s₃) X.xe s₂) X.xe s₁) (wAs X.K c i ts D) := by
    rintro u s' ⟨a, B, sI, pins', σ', H', cls, d, t, rfl, Z, hm, hyes⟩
    have J : L2.Inv X pins σ' H' sI := Z.inv.ofTry ok
    have sky : Sky B (X.env :: X.outer) a (Ze cls d t) X.env.locals s'.heap := by
      rw [← hs]
      exact Z.sky
    show wpAny (model X.prog X.w) X.A (noteFrame (.ref a) X.env) _ _ _
    refine L2N.Sky.land Ze.steady hfr hf sky fun h3 fl3 up3 => ?_
    have J3 : L2.Inv X pins σ' H' { s' with heap := h3 } := J.landed Z.gnd fl3.1 (Z.up.trans up3) Z.os Z.bare
    obtain ⟨oe3, vs3, e3, z3, d3⟩ := fl3.there
    have apart : a ∉ frs (X.env :: X.outer) := fun hm => by
      obtain ⟨_, o, e, nf⟩ := fl3.2.2.1.mem hm
      rw [e3] at e
      cases e
      exact nf _ d3
    have nL : a ≠ X.env.locals := fun z => apart (List.mem_filterMap.mpr ⟨X.env, List.mem_cons_self, hf.trans (congrArg some z.symm)⟩)
    have nF : a ∉ X.fs := fun hm => by
      obtain ⟨v, hv, q⟩ := List.mem_filterMap.mp hm
      exact apart (List.mem_filterMap.mpr ⟨v, List.mem_cons_of_mem _ hv, q⟩)
    have S3 := J3.suite e3 d3 Z.na nL nF
    have asked : ∀ {Q : Value → Shared → Prop} {E : Value → Shared → Prop}, Q c { s' with heap := h3 } → wpAny (model X.prog X.w) (X.A.mark (some (.ref a))) (eval (.Name x np) X.env) Q E { s' with heap := h3 } := fun {Q E} q => by
      obtain ⟨hg, hdb, hm | ⟨hm, hv, hn⟩⟩ := hc
      · exact ld_glob S3 hg hm q hdb
      · exact ld_blt S3 hg hm hv q hn hdb
    have LT : PySem.W.Looks (model X.prog X.w) h3 (typeOf (.ref a)) cls := fun A Q E s k q => wpAny_typeOf_ref (k _ _ e3) (by rw [z3.1]; exact q)
    refine wpAny_handleBy_cons (codeAny_handlers_test (asked ((PySem.W.exm_one (M := model X.prog X.w) J3.kIn LT hm).here ?_))) (by intro q; cases q)
    refine codeAny_handlers_suite_as (lands_againZ fl3 fun h4 fl4 up4 => ?_)
    have J4 : L2.Inv X pins σ' H' { s' with heap := h4 } := J.landed Z.gnd fl4.1 ((Z.up.trans up3).trans up4) Z.os Z.bare
    obtain ⟨oe4, vs4, e4, z4, d4⟩ := fl4.there
    refine store_ok (X := X.suite a ((a, oe4) :: (X.pn ++ pins))) (v := .ref a) (J4.suite e4 d4 Z.na nL nF) hN hi (.inl hln) rfl (fun s5 S5 => ?_) (.inr hln)
    refine wpAny_mono ((hsu a oe4 cls d t (X.pn ++ pins) z4 ⟨_, d4⟩).run [] s5 _ H' _ S5 (hyes a d t rfl Z.na Z.tells)) ?_ (fun _ _ z => False.elim z)
    intro f s6 hsp
    cases f with
    | next =>
      obtain ⟨σ6, H6, S6, q6⟩ := hsp
      exact gone_ok (S6.unsuite ok) hN hi hln fun s7 J7 => ⟨_, _, J7, q6⟩
    | brk =>
      obtain ⟨σ6, H6, S6, q6⟩ := hsp
      exact gone_ok (S6.unsuite ok) hN hi hln fun s7 J7 => ⟨_, _, J7, q6⟩
    | cont =>
      obtain ⟨σ6, H6, S6, q6⟩ := hsp
      exact gone_ok (S6.unsuite ok) hN hi hln fun s7 J7 => ⟨_, _, J7, q6⟩
    | ret u =>
      obtain ⟨v6, σ6, H6, S6, r6, q6⟩ := hsp
      exact gone_ok (S6.unsuite ok) hN hi hln fun s7 J7 => ⟨_, _, _, J7, r6, q6⟩
  refine wpAny_mono ((hb (wAs X.K c i ts D) (X.pn ++ pins) _ caught PassesOwn.looking).run [] s σ H D (I.toTry _) h) ?_ (fun e s1 he => he)
  intro f s1 hsp
  cases f with
  | next =>
    obtain ⟨σ', H', J', q⟩ := hsp
    exact wpAny_execs_nil ⟨σ', H', J'.ofTry ok, q⟩
  | brk =>
    obtain ⟨σ', H', J', q⟩ := hsp
    exact ⟨σ', H', J'.ofTry ok, q⟩
  | cont =>
    obtain ⟨σ', H', J', q⟩ := hsp
    exact ⟨σ', H', J'.ofTry ok, q⟩
  | ret u =>
    obtain ⟨v, σ', H', J', r, q⟩ := hsp
    exact ⟨v, σ', H', J'.ofTry ok, r, q⟩
end
/-- what is asked of the caught error beside Txt -/
structure Ask (K : PySem.W.Frag) (C : Addr) : Prop where
  ga : PySem.W.findIn K (.ref C) "__getattribute__" = some (some (.builtin "BaseException.__getattribute__"))
  gg : PySem.W.findIn K (.ref C) "__getattr__" = some none
  hd : PySem.W.hasDictIn K C = true
  cl : PySem.W.findIn K (.ref C) "__class__" = some (some (.builtin "object.__class__"))
  gs : PySem.W.specialIn K (.builtin "object.__class__") "__get__" = some (some (.builtin "getset_descriptor.__get__"))
  tk : PySem.W.takesIn K (.builtin "object.__class__") = some true
  mo : PySem.W.mroIn K C (.type "object") = some true
  st : PySem.W.findIn K (.ref C) "__str__" = some (some (.builtin "BaseException.__str__"))
section
variable {X : Cx} {C fI a d t : Addr} {oe : Obj} {cls : Value} {pn : List (Addr × Obj)}
/-- the error's own dict, read in the suite -/
theorem inst {pins : List (Addr × Obj)} {σ : St} {H : Hp} {s : Shared} {f : Str} {l : List (Str × V)} {v : V} (I : L2.Inv (X.suite a ((a, oe) :: pn)) pins σ H s) (hz : Ze (.ref C) d t oe) (hf : ∃ vs, oe.data = .fields vs) (hd : H d = some (.xd l)) (hl : l.lookup f = some v) :
    ∃ od u, PySem.W.InstAt s.heap a oe C (some od) ∧ PySem.W.lookIn f od = some (some u) ∧ RelV v u := by
  obtain ⟨ha, _⟩ := I.pin (a, oe) (List.mem_append_left _ List.mem_cons_self)
  obtain ⟨vs, hv⟩ := hf
  have hx : ObjOk X.prog X.w H s.heap d (.xd l) := I.hok d _ hd
  obtain ⟨mA, hns, hr⟩ := hx
  obtain ⟨od, ho, hlk⟩ := lookIn_ns hns
  have r := hr f
  rw [hl] at r
  cases em : mA f with
  | none =>
    rw [em] at r
    exact r.elim
  | some u =>
    rw [em] at r
    refine ⟨od, u, ⟨ha, hz.1, by unfold PySem.W.notCls; rw [hv] <;> rfl, by rw [hz.2.1]; exact ho⟩, ?_, r⟩
    rw [hlk, em]
/-- n.f, n the error that the suite holds -/
def tByF (C a : Addr) (cls : Value) (d : Addr) (f : Str) (te : TE) : TE := fun σ H Q => te σ H fun x H1 => x = .ref a ∧ cls = .ref C ∧ ∃ l v, H1 d = some (.xd l) ∧ l.lookup f = some v ∧ Q v H1
theorem pe_byF {e : Expr} {te : TE} {pos : Pos} {f : Str} (T : Txt X.prog X.K X.mg C fI) (G : Ask X.K C) (hno : PySem.W.findIn X.K (.ref C) f = some none) (hz : Ze cls d t oe) (hf : ∃ vs, oe.data = .fields vs) (he : PE (X.suite a ((a, oe) :: pn)) e te)
    (hb : attributeBase e f X.env (eval e X.env) = eval e X.env := by rfl) : PE (X.suite a ((a, oe) :: pn)) (.Attribute e f pos) (tByF C a cls d f te) := by
  constructor
  intro pins s σ H Q I h
  refine attr_of hb (thn (he.run pins s σ H _ I h) ?_)
  rintro u s1 ⟨x, H1, I1, rx, rfl, rfl, l, v, hd, hl, q⟩
  obtain rfl : u = Value.ref a := rx
  obtain ⟨od, w, J, hlk, rw'⟩ := inst (C := C) I1 hz hf hd hl
  exact exc_get I1.kIn J G.ga G.gg T.exC (PySem.W.findObj_own G.hd hno rfl hlk) (handed_of rw') ⟨v, H1, I1.tok _, rw', q⟩
/-- str(n) -/
def rStr (C a : Addr) (cls : Value) (t : Addr) : List V → Hp → VK → Prop := fun xs H Q => xs = [.ref a] ∧ cls = .ref C ∧ ∃ y, H t = some (.tup [.str y]) ∧ Q (.str y) H
theorem call_str (T : Txt X.prog X.K X.mg C fI) (G : Ask X.K C) (hr : X.A.units + 2 < cLine) (hz : Ze cls d t oe) (hf : ∃ vs, oe.data = .fields vs) : CallR (X.suite a ((a, oe) :: pn)) (.type "str") (rStr C a cls t) := by
  intro pins s σ H xs us Q I r h
  obtain ⟨rfl, rfl, y, hy, q⟩ := h
  obtain ⟨u, rfl, ru⟩ := vals1 r
  obtain rfl : u = Value.ref a := ru
  obtain ⟨ha, _⟩ := I.pin (a, oe) (List.mem_append_left _ List.mem_cons_self)
  obtain ⟨vs, hv⟩ := hf
  have ht : ObjOk X.prog X.w H s.heap t (.tup [.str y]) := I.hok t _ hy
  obtain ⟨_, its, ri, o, ho, hc, n, hdt⟩ := ht
  cases ri with
  | cons ry ri =>
    cases ri
    obtain ⟨tk, rfl⟩ := ry
    refine PySem.P.str_of_C_one (prog := X.prog) (w := X.w) (A := X.A.mark (some (.ref a))) (K := X.K) (C := C) (e := a) (t0 := t) (s := s) (m := y) (tk := tk) (show (X.A.mark (some (.ref a))).units + 2 < cLine from hr) (show PySem.ExcC X.K C a t s.heap from ⟨I.kIn, oe, vs, ha, hz.1, hv, hz.2.2 vs hv⟩) (show s.heap.TupAt t [.str y tk] from ⟨o, n, ho, hc, hdt⟩) G.st T.exC ?_
    exact ⟨.str y, H, I, ⟨_, rfl⟩, q⟩
/-- isinstance(n, c), c an own class -/
def rIsi (K : PySem.W.Frag) (C a : Addr) (cls : Value) : List V → Hp → VK → Prop := fun xs H Q => ∃ (D : Addr) (b : Bool), xs = [.ref a, .ref D] ∧ cls = .ref C ∧ PySem.W.kitOne K (.ref C) (.ref D) = some b ∧ Q (.bl b) H
theorem call_isi (T : Txt X.prog X.K X.mg C fI) (G : Ask X.K C) (hz : Ze cls d t oe) (hf : ∃ vs, oe.data = .fields vs) :
    CallR (X.suite a ((a, oe) :: pn)) (.builtin "isinstance") (fun xs H Q => (∃ l, H d = some (.xd l)) ∧ rIsi X.K C a cls xs H Q) := by
  intro pins s σ H xs us Q I r h
  obtain ⟨⟨l, hd⟩, D, b, rfl, rfl, e, q⟩ := h
  cases r with
  | cons rx r =>
    cases r with
    | cons ry r =>
      cases r
      cases rx
      cases ry
      obtain ⟨ha, _⟩ := I.pin (a, oe) (List.mem_append_left _ List.mem_cons_self)
      obtain ⟨vs, hv⟩ := hf
      have hx : ObjOk X.prog X.w H s.heap d (.xd l) := I.hok d _ hd
      obtain ⟨mA, ⟨od, es, ep, ho, _⟩, _⟩ := hx
      have J : PySem.W.InstAt s.heap a oe C (some od) := ⟨ha, hz.1, by unfold PySem.W.notCls; rw [hv] <;> rfl, by rw [hz.2.1]; exact ho⟩
      have hcl : (PySem.W.clsIn X.K C).isSome = true := by
        obtain ⟨cd, hc, _⟩ := PySem.W.any_some G.hd
        rw [hc]
        rfl
      exact PySem.W.kia_one (PySem.W.kitx_exc hcl G.ga G.gg T.exC G.cl G.gs G.tk G.mo) I.kIn J e (fun z => nomatch z) fun tk => ⟨.bl b, H, I.kept (t' := tk) fun _ _ z => z, rfl, q⟩
end
end TE
/-! Texts of beginnings: their tokens, their reading, and the law's own look at the same tokens. Plain Lean. -/
namespace SS
abbrev Tx := List Nat
/-- a letter from a to z -/
def isLow (c : Nat) : Bool := decide (97 ≤ c ∧ c ≤ 122)
/-- the tokens of a text from place i on, or the place of the first character that belongs to none -/
inductive Lex (sg : List Nat) : Tx → Nat → List (Tx × Nat) → Option Nat → Prop
  | done {i : Nat} : Lex sg [] i [([], i)] none
  | word {w s : Tx} {i : Nat} {l : List (Tx × Nat)} {e : Option Nat} (h0 : w ≠ []) (h1 : ∀ c ∈ w, isLow c = true) (h2 : ∀ c, s.head? = some c → isLow c = false) (r : Lex sg s (i + w.length) l e) : Lex sg (w ++ s) i ((w, i) :: l) e
  | sign {c : Nat} {s : Tx} {i : Nat} {l : List (Tx × Nat)} {e : Option Nat} (h1 : isLow c = false) (h2 : c ∈ sg) (r : Lex sg s (i + 1) l e) : Lex sg (c :: s) i (([c], i) :: l) e
  | space {c : Nat} {s : Tx} {i : Nat} {l : List (Tx × Nat)} {e : Option Nat} (h1 : isLow c = false) (h2 : c ∉ sg) (h3 : c = 32 ∨ c = 10) (r : Lex sg s (i + 1) l e) : Lex sg (c :: s) i l e
  | bad {c : Nat} {s : Tx} {i : Nat} (h1 : isLow c = false) (h2 : c ∉ sg) (h3 : ¬ (c = 32 ∨ c = 10)) : Lex sg (c :: s) i [] (some i)
/-- a word that may stand as a name -/
def okName (t : Tx) : Bool := !t.isEmpty && t.all isLow && decide (t.length ≤ 8)
/-- reading a beginning: the events, or the place of the error and whether it is that of the end -/
def rd : List (Tx × Nat) → Nat → Bool → List Tx × Option (Nat × Bool)
  | [], _, _ => ([], none)
  | (t, p) :: r, d, b =>
    if t = [] then ([], none)
    else if b = true ∧ d = 0 then ([], some (p, false))
    else if t = [41] ∧ 0 < d then ([41] :: (rd r (d - 1) true).1, (rd r (d - 1) true).2)
    else if okName t = true then
      match r with
      | [] => ([], none)
      | (t2, p2) :: r2 => if t2 = [40] then (t :: (rd r2 (d + 1) true).1, (rd r2 (d + 1) true).2) else ([], some (p2, decide (t2 = [])))
    else ([], some (p, false))
theorem rd_eq (t : Tx) (p : Nat) (r : List (Tx × Nat)) (d : Nat) (b : Bool) : rd ((t, p) :: r) d b =
    if t = [] then ([], none)
    else if b = true ∧ d = 0 then ([], some (p, false))
    else if t = [41] ∧ 0 < d then ([41] :: (rd r (d - 1) true).1, (rd r (d - 1) true).2)
    else if okName t = true then
      match r with
      | [] => ([], none)
      | (t2, p2) :: r2 => if t2 = [40] then (t :: (rd r2 (d + 1) true).1, (rd r2 (d + 1) true).2) else ([], some (p2, decide (t2 = [])))
    else ([], some (p, false)) := by
  cases r with
  | nil => first | rfl | (conv => lhs; unfold rd)
  | cons q r2 =>
    obtain ⟨t2, p2⟩ := q
    rw [rd]
/-- the law's own look: the index of the first token that is wrong -/
def fw : List Tx → Nat → Bool → Bool → Option Nat
  | [], _, _, _ => none
  | t :: r, v, op, nm =>
    if nm = true then (if t ≠ [40] then some 0 else (fw r (v + 1) true false).map (· + 1))
    else if t = [41] then (if v = 0 then some 0 else (fw r (v - 1) op false).map (· + 1))
    else if t = [40] ∨ (op = true ∧ v = 0) ∨ 8 < t.length then some 0
    else (fw r v op true).map (· + 1)
/-- the tokens that the law draws, the wrong signs left out -/
def Fine (t : Tx) : Prop := t = [40] ∨ t = [41] ∨ (t ≠ [] ∧ t.all isLow = true)
theorem fine_ne {t : Tx} (h : Fine t) : t ≠ [] := by
  rcases h with h | h | h
  · rw [h]; exact List.cons_ne_nil _ _
  · rw [h]; exact List.cons_ne_nil _ _
  · exact h.1
def lastName (ts : List Tx) : Bool :=
  match ts.getLast? with
  | some t => decide (t ≠ [40]) && decide (t ≠ [41])
  | none => false
def toks (ts : List Tx) (ps : List Nat) (n : Nat) : List (Tx × Nat) := ts.zip ps ++ [([], n)]
theorem low_not {t : Tx} (h : t ≠ [] ∧ t.all isLow = true) : t ≠ [40] ∧ t ≠ [41] := by
  constructor
  · intro e
    rw [e] at h
    exact absurd h.2 (by decide)
  · intro e
    rw [e] at h
    exact absurd h.2 (by decide)
theorem last_cons {t t2 : Tx} {r : List Tx} : lastName (t :: t2 :: r) = lastName (t2 :: r) := by
  unfold lastName
  rw [List.getLast?_cons_cons]
theorem last_paren {t : Tx} {r : List Tx} (h : t = [40] ∨ t = [41]) : lastName (t :: r) = lastName r := by
  cases r with
  | nil => rcases h with h | h <;> subst h <;> rfl
  | cons t2 r => exact last_cons
theorem ok_of {t : Tx} (h : t ≠ [] ∧ t.all isLow = true) (h8 : ¬ 8 < t.length) : okName t = true := by
  have e : t.isEmpty = false := by
    cases t with
    | nil => exact absurd rfl h.1
    | cons a b => rfl
  simp [okName, e, h.2]
  omega
theorem ok_not {t : Tx} (h8 : 8 < t.length) : okName t = false := by
  have z : decide (t.length ≤ 8) = false := decide_eq_false (by omega)
  simp [okName, z]
/-- what reading gives, by the law's own look -/
def Agree (ts : List Tx) (ps : List Nat) (n v : Nat) (op : Bool) : Prop :=
  match fw ts v op false with
  | some k => (rd (toks ts ps n) v op).2 = some (ps.getD k 0, false)
  | none => if lastName ts = true then (rd (toks ts ps n) v op).2 = some (n, true) else rd (toks ts ps n) v op = (ts.filter (fun t => decide (t ≠ [40])), none)
theorem agree_map {o : Option Nat} {A : Nat → Prop} {B : Prop} (h : match o with | some k => A (k + 1) | none => B) : match o.map (· + 1) with | some k => A k | none => B := by
  cases o with
  | none => exact h
  | some k => exact h
theorem agree (n : Nat) : ∀ (m : Nat) (ts : List Tx) (ps : List Nat) (v : Nat) (op : Bool), ts.length ≤ m → ts.length = ps.length → (∀ t ∈ ts, Fine t) → (0 < v → op = true) → Agree ts ps n v op := by
  intro m
  induction m with
  | zero =>
    intro ts ps v op hm hl hf hv
    have e : ts = [] := List.length_eq_zero_iff.mp (by omega)
    subst e
    rfl
  | succ m ih =>
    intro ts ps v op hm hl hf hv
    cases ts with
    | nil => rfl
    | cons t r =>
      cases ps with
      | nil => simp at hl
      | cons p ps =>
        have hr : r.length ≤ m := by simp at hm; omega
        have hl' : r.length = ps.length := by simpa using hl
        have hfr : ∀ x ∈ r, Fine x := fun x hx => hf x (List.mem_cons_of_mem _ hx)
        have ht := hf t List.mem_cons_self
        have htn := fine_ne ht
        have et : toks (t :: r) (p :: ps) n = (t, p) :: toks r ps n := rfl
        by_cases hb : op = true ∧ v = 0
        · -- behind the end
          have e1 : fw (t :: r) v op false = some 0 := by
            by_cases h41 : t = [41]
            · simp [fw, h41, hb.2]
            · simp [fw, h41, hb]
          unfold Agree
          rw [e1, et]
          simp only [rd_eq, if_neg htn, if_pos hb]
          rfl
        · by_cases h41 : t = [41]
          · by_cases hv0 : v = 0
            · have e1 : fw (t :: r) v op false = some 0 := by simp [fw, h41, hv0]
              have no : ¬ (t = [41] ∧ 0 < v) := fun z => by omega
              have nk : ¬ okName t = true := by rw [h41]; decide
              unfold Agree
              rw [e1, et]
              simp only [rd_eq, if_neg htn, if_neg hb, if_neg no, if_neg nk]
              rfl
            · have hop := hv (by omega)
              have yes : t = [41] ∧ 0 < v := ⟨h41, by omega⟩
              have e1 : fw (t :: r) v op false = (fw r (v - 1) true false).map (· + 1) := by
                simp [fw, h41, hv0, hop]
              have A := ih r ps (v - 1) true hr hl' hfr (fun _ => rfl)
              have e2 : rd (toks (t :: r) (p :: ps) n) v op = ([41] :: (rd (toks r ps n) (v - 1) true).1, (rd (toks r ps n) (v - 1) true).2) := by
                rw [et]
                simp only [rd_eq, if_neg htn, if_neg hb, if_pos yes]
              unfold Agree
              rw [e1, e2, last_paren (.inr h41)]
              refine agree_map (A := fun k => (rd (toks r ps n) (v - 1) true).2 = some ((p :: ps).getD k 0, false)) ?_
              unfold Agree at A
              cases q : fw r (v - 1) true false with
              | some k =>
                rw [q] at A
                exact A
              | none =>
                rw [q] at A
                dsimp only at A ⊢
                by_cases hn : lastName r = true
                · rw [if_pos hn] at A ⊢
                  exact A
                · rw [if_neg hn] at A ⊢
                  rw [A, List.filter_cons, h41]
                  rfl
          · by_cases h40 : t = [40]
            · have e1 : fw (t :: r) v op false = some 0 := by simp [fw, h40]
              have no : ¬ (t = [41] ∧ 0 < v) := fun z => h41 z.1
              have nk : ¬ okName t = true := by rw [h40]; decide
              unfold Agree
              rw [e1, et]
              simp only [rd_eq, if_neg htn, if_neg hb, if_neg no, if_neg nk]
              rfl
            · have hw : t ≠ [] ∧ t.all isLow = true := by
                rcases ht with z | z | z
                · exact absurd z h40
                · exact absurd z h41
                · exact z
              have no : ¬ (t = [41] ∧ 0 < v) := fun z => h41 z.1
              by_cases h8 : 8 < t.length
              · have e1 : fw (t :: r) v op false = some 0 := by simp [fw, h41, h8]
                have nk : ¬ okName t = true := by rw [ok_not h8]; decide
                unfold Agree
                rw [e1, et]
                simp only [rd_eq, if_neg htn, if_neg hb, if_neg no, if_neg nk]
                rfl
              · have hk := ok_of hw h8
                have e1 : fw (t :: r) v op false = (fw r v op true).map (· + 1) := by
                  simp only [fw, if_neg h41]
                  have z : ¬ (t = [40] ∨ (op = true ∧ v = 0) ∨ 8 < t.length) := fun z => by
                    rcases z with z | z | z
                    · exact h40 z
                    · exact hb z
                    · exact h8 z
                  simp only [if_neg z]
                  rfl
                cases r with
                | nil =>
                  cases ps with
                  | cons _ _ => simp at hl'
                  | nil =>
                    have hn : lastName [t] = true := by simp [lastName, h40, h41]
                    unfold Agree
                    rw [e1, et]
                    simp only [fw, Option.map_none, if_pos hn]
                    show (rd [(t, p), ([], n)] v op).2 = _
                    simp only [rd_eq, if_neg htn, if_neg hb, if_neg no, if_pos hk]
                    rfl
                | cons t2 r2 =>
                  cases ps with
                  | nil => simp at hl'
                  | cons p2 ps2 =>
                    have ht2 := fine_ne (hfr t2 List.mem_cons_self)
                    have et2 : toks (t2 :: r2) (p2 :: ps2) n = (t2, p2) :: toks r2 ps2 n := rfl
                    by_cases h2 : t2 = [40]
                    · have e3 : fw (t2 :: r2) v op true = (fw r2 (v + 1) true false).map (· + 1) := by
                        simp [fw, h2]
                      have A := ih r2 ps2 (v + 1) true (by simp at hr; omega) (by simpa using hl') (fun x hx => hfr x (List.mem_cons_of_mem _ hx)) (fun _ => rfl)
                      have e4 : rd (toks (t :: t2 :: r2) (p :: p2 :: ps2) n) v op = (t :: (rd (toks r2 ps2 n) (v + 1) true).1, (rd (toks r2 ps2 n) (v + 1) true).2) := by
                        rw [et, et2]
                        simp only [rd_eq, if_neg htn, if_neg hb, if_neg no, if_pos hk, if_pos h2]
                      unfold Agree
                      rw [e1, e3, e4, last_cons, last_paren (.inl h2)]
                      refine agree_map (A := fun k => (rd (toks r2 ps2 n) (v + 1) true).2 = some ((p :: p2 :: ps2).getD k 0, false)) ?_
                      refine agree_map (A := fun k => (rd (toks r2 ps2 n) (v + 1) true).2 = some ((p :: p2 :: ps2).getD (k + 1) 0, false)) ?_
                      unfold Agree at A
                      cases q : fw r2 (v + 1) true false with
                      | some k =>
                        rw [q] at A
                        exact A
                      | none =>
                        rw [q] at A
                        dsimp only at A ⊢
                        by_cases hn : lastName r2 = true
                        · rw [if_pos hn] at A ⊢
                          exact A
                        · rw [if_neg hn] at A ⊢
                          rw [A, List.filter_cons, List.filter_cons, h2, if_pos (decide_eq_true h40)]
                          rfl
                    · have e3 : fw (t2 :: r2) v op true = some 0 := by simp [fw, h2]
                      unfold Agree
                      rw [e1, e3, et, et2]
                      simp only [rd_eq, if_neg htn, if_neg hb, if_neg no, if_pos hk, if_neg h2, decide_eq_false ht2]
                      rfl
/-! ### texts glued of tokens and blanks -/
def glue : List (Tx × Tx) → Tx
  | [] => []
  | x :: r => x.1 ++ (x.2 ++ glue r)
def spots : Nat → List (Tx × Tx) → List Nat
  | _, [] => []
  | n, x :: r => n :: spots (n + x.1.length + x.2.length) r
def Blank (s : Tx) : Prop := ∀ c ∈ s, c = 32 ∨ c = 10
theorem glue_snoc (t s : Tx) : ∀ z : List (Tx × Tx), glue (z ++ [(t, s)]) = glue z ++ (t ++ s)
  | [] => by simp [glue]
  | x :: r => by
    show x.1 ++ (x.2 ++ glue (r ++ [(t, s)])) = _
    rw [glue_snoc t s r]
    simp [glue]
theorem spots_snoc (t s : Tx) : ∀ (z : List (Tx × Tx)) (n : Nat), spots n (z ++ [(t, s)]) = spots n z ++ [n + (glue z).length]
  | [], n => by simp [spots, glue]
  | x :: r, n => by
    show n :: spots _ (r ++ [(t, s)]) = _
    rw [spots_snoc t s r]
    simp [spots, glue]
    omega
theorem spots_len : ∀ (z : List (Tx × Tx)) (n : Nat), (spots n z).length = z.length
  | [], _ => rfl
  | x :: r, n => by
    show (spots _ r).length + 1 = r.length + 1
    rw [spots_len r]
theorem lex_blank {sg : List Nat} (hs : 32 ∉ sg ∧ 10 ∉ sg) {x : Tx} {l : List (Tx × Nat)} {e : Option Nat} : ∀ {s : Tx} {i : Nat}, Blank s → Lex sg x (i + s.length) l e → Lex sg (s ++ x) i l e
  | [], i, _, h => h
  | c :: s, i, hb, h => by
    have hc := hb c List.mem_cons_self
    have h' : Lex sg x (i + 1 + s.length) l e := by
      have e1 : i + (c :: s).length = i + 1 + s.length := by simp; omega
      rw [e1] at h
      exact h
    have r := lex_blank hs (s := s) (i := i + 1) (fun c h => hb c (List.mem_cons_of_mem _ h)) h'
    rcases hc with rfl | rfl
    · exact .space (by decide) hs.1 (.inl rfl) r
    · exact .space (by decide) hs.2 (.inr rfl) r
/-- the wrong signs that the law draws -/
def bad (t : Tx) : Bool := t == [45] || t == [61] || t == [65] || t == [55]
def firstBad : List Tx → Option Nat
  | [] => none
  | t :: r => if bad t = true then some 0 else (firstBad r).map (· + 1)
theorem lex_glue : ∀ (z : List (Tx × Tx)) (i : Nat), (∀ x ∈ z, Blank x.2 ∧ x.2 ≠ [] ∧ (Fine x.1 ∨ bad x.1 = true)) →
    match firstBad (z.map (·.1)) with
    | some k => ∃ l, Lex [40, 41] (glue z) i l (some ((spots i z).getD k 0))
    | none => Lex [40, 41] (glue z) i (toks (z.map (·.1)) (spots i z) (i + (glue z).length)) none
  | [], i, _ => .done
  | x :: r, i, h => by
    obtain ⟨hb, hn, ht⟩ := h x List.mem_cons_self
    have ih := lex_glue r (i + x.1.length + x.2.length) fun y hy => h y (List.mem_cons_of_mem _ hy)
    have hs : (32 : Nat) ∉ [40, 41] ∧ (10 : Nat) ∉ [40, 41] := by decide
    by_cases hbad : bad x.1 = true
    · have e1 : firstBad ((x :: r).map (·.1)) = some 0 := by simp [firstBad, hbad]
      rw [e1]
      refine ⟨[], ?_⟩
      have e2 : ∃ c, x.1 = [c] ∧ (c = 45 ∨ c = 61 ∨ c = 65 ∨ c = 55) := by
        simp only [bad, Bool.or_eq_true, beq_iff_eq] at hbad
        rcases hbad with ((h | h) | h) | h
        · exact ⟨45, h, .inl rfl⟩
        · exact ⟨61, h, .inr (.inl rfl)⟩
        · exact ⟨65, h, .inr (.inr (.inl rfl))⟩
        · exact ⟨55, h, .inr (.inr (.inr rfl))⟩
      obtain ⟨c, e3, hc⟩ := e2
      show Lex [40, 41] (x.1 ++ (x.2 ++ glue r)) i [] (some i)
      rw [e3]
      rcases hc with rfl | rfl | rfl | rfl
      · exact .bad (by decide) (by decide) (by decide)
      · exact .bad (by decide) (by decide) (by decide)
      · exact .bad (by decide) (by decide) (by decide)
      · exact .bad (by decide) (by decide) (by decide)
    · have hf : Fine x.1 := ht.resolve_right hbad
      have e1 : firstBad ((x :: r).map (·.1)) = (firstBad (r.map (·.1))).map (· + 1) := by simp [firstBad, hbad]
      -- the token in front of what is read
      have step : ∀ {l : List (Tx × Nat)} {e : Option Nat}, Lex [40, 41] (glue r) (i + x.1.length + x.2.length) l e → Lex [40, 41] (x.1 ++ (x.2 ++ glue r)) i ((x.1, i) :: l) e := by
        intro l e h0
        have h1 := lex_blank hs hb h0
        rcases hf with hf | hf | hf
        · rw [hf] at h1 ⊢
          exact .sign (by decide) (by decide) h1
        · rw [hf] at h1 ⊢
          exact .sign (by decide) (by decide) h1
        · refine .word hf.1 (fun c hc => List.all_eq_true.mp hf.2 c hc) (fun c hc => ?_) h1
          cases e2 : x.2 with
          | nil => exact absurd e2 hn
          | cons a b =>
            rw [e2] at hc
            cases hc
            have := hb c (by rw [e2]; exact List.mem_cons_self)
            rcases this with rfl | rfl <;> decide
      rw [e1]
      cases q : firstBad (r.map (·.1)) with
      | some k =>
        rw [q] at ih
        obtain ⟨l, hl⟩ := ih
        exact ⟨_, step hl⟩
      | none =>
        rw [q] at ih
        have e4 : i + (glue (x :: r)).length = i + x.1.length + x.2.length + (glue r).length := by
          show i + (x.1 ++ (x.2 ++ glue r)).length = _
          simp
          omega
        rw [e4]
        exact step ih
end SS
/-! Rules of one's own beside the layer's: a field as a target, defs that let TextErrors out, texts as lists of codes. -/
namespace SX
open PySem PySem.Spec PyProof.Rows L2
abbrev St := L2.St
/-- o.f as a target -/
def gFld (K : PySem.W.Frag) (to : TE) (f : Str) : TG := fun v σ H Q => to σ H fun x H1 => ∃ a C dx fs, x = .ref a ∧ H1 a = some (.ins C dx fs) ∧ Cls K C ∧ NoAttr K C f ∧ fs.length < 1000 ∧ Q σ (upd H1 a (.ins C dx (putF f v fs)))
theorem pg_fld {X : Cx} {o : Expr} {f : Str} {pos : Pos} {to : TE} (ho : PE X o to) : PG X (.Attribute o f pos) (gFld X.K to f) := by
  constructor
  intro pins s σ H v u Q I r h
  rw [assign_Attribute]
  refine wpAny_bind (wpAny_holding (wpAny_mono (ho.run pins s σ H _ I h) ?_ fun _ _ z => z))
  rintro ov s1 ⟨x, H1, I1, rx, a, C, dx, fs, rfl, ea, c, n, l, q⟩
  obtain rfl : ov = Value.ref a := rx
  refine wpAny_bind (wpAny_standAt (wpAny_bind (wpAny_holding (setattr_ok I1 ea c n l r fun s2 I2 => ?_))))
  exact wpAny_release ⟨σ, _, I2, q⟩
section
variable {P : Program} {w : World} {K : PySem.W.Frag} {mg : Str → Option Value} {base : Heap}
/-- a def that lets TextErrors out -/
theorem okT {x qual : Str} {st : Stmt} {f : Addr} {fd : FuncData} {N ps : List Str} {k : Nat} {sp : Sp} (F : Fun K x qual st f fd) (S : FnScope N ps (defScope st)) (len : ∀ vs H Q E, sp vs H Q E → vs.length = ps.length)
    (hbody : ∀ (cdv : Value) (A : Around) (outer : List Env) (s : Shared) (H : Hp) (vs : List V) (Q : VK) (E : XK), Room k (A.deeper (envOfC qual (defScope st) s.heap.objs.size f cdv)) → sp vs H Q E →
      ∃ t, PSs (cxOf (TE.CX P w) P w K mg base N qual (defScope st) f cdv A outer s H E) (defBody st) t ∧ t { nx := fun _ H' => Q .non H', rt := Q } (start N vs) H) : FnOk P w K mg base (TE.CX P w) (k + 1) f fd ps sp := by
  obtain ⟨oc, od, kV, doc, pm, an, cdv, ct, osl, rfl, lk, hcd⟩ := F.ex
  exact fn_of lk hcd S len fun A outer s H vs Q E hr hsp => hbody cdv A outer s H vs Q E hr hsp
end
theorem iT {c : Bool} {A B : Prop} (hc : c = true) (h : A) : if c = true then A else B := by
  rw [if_pos hc]
  exact h
theorem iF {c : Bool} {A B : Prop} (hc : c = false) (h : B) : if c = true then A else B := by
  rw [if_neg (by rw [hc]; exact Bool.false_ne_true)]
  exact h
theorem same_upd {H : Hp} {p : Addr} {o : HO} (h : H p = none) : Same H (upd H p o) := fun b u e => by
  rw [upd_ne (ne_of_none e h)]
  exact e
theorem log_small {n : Nat} (h : n ≤ 1100000) : ((n : Int)).natAbs.log2 < 1920 := by
  have e : ((n : Int)).natAbs = n := rfl
  rw [e]
  by_cases h0 : n = 0
  · subst h0
    decide
  · exact (Nat.log2_lt h0).mpr (Nat.lt_of_le_of_lt h (Nat.lt_of_lt_of_le (show 1100000 < 2 ^ 21 by decide) (Nat.pow_le_pow_right (by decide) (by decide))))
/-! ### texts and their codes -/
abbrev cd (z : Str) : List Nat := z.cps.toList
theorem len_cd (z : Str) : z.length = (cd z).length := by
  show z.cps.size = z.cps.toList.length
  simp
theorem cd_inj {a b : Str} (h : cd a = cd b) : a = b := by
  obtain ⟨a⟩ := a
  obtain ⟨b⟩ := b
  have : a = b := by simpa using h
  rw [this]
theorem cd_append (a b : Str) : cd (a ++ b) = cd a ++ cd b := by
  obtain ⟨a⟩ := a
  obtain ⟨b⟩ := b
  show (a ++ b).toList = _
  simp
theorem cd_mk (l : List Nat) : cd ⟨l.toArray⟩ = l := by simp [cd]
theorem len_mk (l : List Nat) : (⟨l.toArray⟩ : Str).length = l.length := by rw [len_cd, cd_mk]
theorem wEnd_le (l : List Nat) (i : Nat) (h : i ≤ l.length) : i + ((l.drop i).takeWhile SS.isLow).length ≤ l.length := by
  have e : ((l.drop i).takeWhile SS.isLow).length ≤ (l.drop i).length := (List.takeWhile_sublist _).length_le
  rw [List.length_drop] at e
  omega
theorem letters_in : ∀ c, (c ∈ cd ("abcdefghijklmnopqrstuvwxyz" : Str)) ↔ SS.isLow c = true := by
  intro c
  have e : cd ("abcdefghijklmnopqrstuvwxyz" : Str) = (List.range 26).map (· + 97) := by decide +kernel
  rw [e]
  simp only [List.mem_map, List.mem_range, SS.isLow, decide_eq_true_eq]
  constructor
  · rintro ⟨a, h, rfl⟩
    omega
  · intro h
    exact ⟨c - 97, by omega, by omega⟩
end SX
namespace SX
open PySem PySem.Spec PyProof.Rows L2 HT
open PySem.AutoSeq1 (wpAny_loadPart')
section
variable {prog : Program} {w : World} {A : Around} {E : Value → Shared → Prop} {s : Shared}
theorem sliceApplied_rev {sl : Addr} {vs : Value} {n : Nat} {Q : Int × Int × Nat → Shared → Prop} (hs : s.heap.IsSliceOf sl .none .none vs) (ps : IsPart vs (some (-1)))
    (h : Q ((n : Int) - 1, -1, n) s) : wpAny (model prog w) A (Builtin.Slice.sliceApplied (.ref sl) (pure (n : Int))) Q E s := by
  obtain ⟨os, hos, hcs, hds⟩ := id hs
  unfold Builtin.Slice.sliceApplied Builtin.Slice.sliceFields
  refine wpAny_bind (wpAny_bind (wpAny_field hos hds (x := .none) rfl (wpAny_bind (wpAny_field hos hds (x := .none) rfl (wpAny_bind (wpAny_field hos hds (x := vs) rfl (wpAny_pure ?_)))))))
  refine wpAny_bind (slicePart_ ps ?_)
  show wpAny _ _ (if ((-1 : Int) == 0) = true then _ else _) _ _ s
  rw [if_neg (by decide)]
  refine wpAny_bind (slicePart_ .none (wpAny_bind (slicePart_ .none (wpAny_bind (wpAny_pure ?_)))))
  show wpAny _ _ (match Builtin.Slice.sliceAdjust none none (-1) (n : Int) with | (lo, hi) => pure (lo, (-1 : Int), Builtin.Slice.slicePlaces lo hi (-1))) _ _ s
  have e1 : Builtin.Slice.sliceAdjust none none (-1) (n : Int) = ((n : Int) - 1, -1) := by
    unfold Builtin.Slice.sliceAdjust
    simp
  rw [e1]
  have e2 : Builtin.Slice.slicePlaces ((n : Int) - 1) (-1) (-1) = n := by
    unfold Builtin.Slice.slicePlaces
    have h1 : ¬ ((-1 : Int) > 0) := by omega
    simp only [h1, if_false, show (- -1 : Int) = 1 by decide, Int.ediv_one]
    split <;> omega
  show wpAny _ _ (pure ((n : Int) - 1, (-1 : Int), Builtin.Slice.slicePlaces ((n : Int) - 1) (-1) (-1))) _ _ s
  rw [e2]
  exact wpAny_pure h
theorem pick_rev (xs : Array Value) : ((List.range xs.size).filterMap fun (m : Nat) => xs[(((xs.size : Int) - 1) + (m : Int) * (-1)).toNat]?).toArray = xs.toList.reverse.toArray := by
  congr 1
  have h : ∀ k : Nat, k ≤ xs.size → ((List.range k).filterMap fun (m : Nat) => xs[(((xs.size : Int) - 1) + (m : Int) * (-1)).toNat]?) = xs.toList.reverse.take k := by
    intro k
    induction k with
    | zero => intro _; simp
    | succ k ih =>
      intro hk
      rw [List.range_succ, List.filterMap_append, ih (by omega), List.take_add_one]
      congr 1
      have e : (((xs.size : Int) - 1) + (k : Int) * (-1)).toNat = xs.size - 1 - k := by omega
      have hl : xs.size - 1 - k < xs.size := by omega
      have hr : xs.toList.reverse[k]? = some xs[xs.size - 1 - k] := by
        rw [List.getElem?_reverse (by rw [Array.length_toList]; omega)]
        simp only [Array.length_toList, Array.getElem?_toList]
        exact Array.getElem?_eq_getElem hl
      rw [hr]
      simp only [List.filterMap_cons, List.filterMap_nil, e, Array.getElem?_eq_getElem hl, Option.toList]
  rw [h _ (Nat.le_refl _)]
  exact List.take_of_length_le (by simp)
theorem getItem_tuple_rev {t sl : Addr} {items : Array Value} {vs : Value} {Q : Value → Shared → Prop} (ht : IsTup s.heap t items) (hs : s.heap.IsSliceOf sl .none .none vs) (ps : IsPart vs (some (-1)))
    (h : Q (.ref s.heap.objs.size) { s with heap := s.heap.push { cls := .type "tuple", data := .seq items.toList.reverse.toArray } })
    (hsz : items.size ≤ sizeLine) : wpAny (model prog w) A (getItem (.ref t) (.ref sl)) Q E s := by
  have htake : sizeOk (.seq items.toList.reverse.toArray) := by
    show items.toList.reverse.toArray.size ≤ sizeLine
    rw [List.size_toArray, List.length_reverse, Array.length_toList]
    exact hsz
  obtain ⟨os, hos, hcs, hds⟩ := id hs
  have hTs : s.TypeIs (.ref sl) "slice" := ⟨os, hos, hcs⟩
  unfold getItem
  try with_reducible refine wpAny_holding ?_
  first | refine wpAny_bind (wpAny_pure ?_) | skip
  refine wpAny_bind (wpAny_sequenceKey ht.typeIs (by decide) ?_)
  refine wpAny_bind (wpAny_callSpecial?_slot (name := Str.ofString "__getitem__") ht.typeIs PyProof.Rows.slot_tuple_getitem
    (wpAny_call_entry PyProof.Rows.slot_tuple_getitem ht.typeIs entry_tuple_getitem ?_ (args_tuple_getitem _ _)))
  show wpAny _ _ (Builtin.Tuple.tupleItemsOf (.ref t) >>= _) _ _ s
  refine wpAny_bind (tupleItemsOf_ ht ?_)
  refine wpAny_bind (wpAny_typeOf hTs ?_)
  rw [if_pos (by decide)]
  refine wpAny_bind (sliceApplied_rev hs ps ?_)
  have hno : ¬ ((((items.size : Int) - 1) == 0 && (-1 : Int) == 1 && items.size == items.size) = true) := by
    intro q
    rw [Bool.and_eq_true, Bool.and_eq_true] at q
    exact absurd q.1.2 (by decide)
  show wpAny _ _ (if (((items.size : Int) - 1) == 0 && (-1 : Int) == 1 && items.size == items.size) = true then _ else _) _ _ s
  rw [if_neg hno, pick_rev]
  first
    | exact wpAny_bind (m := Builtin.Tuple.tupleExact _) (wpAny_newObj_type (wpAny_pure ⟨_, rfl, wpAny_pure h⟩) htake)
    | exact wpAny_bind (m := Builtin.Tuple.tupleExact _) (wpAny_newObj_type (wpAny_bind (wpAny_pure (wpAny_pure ⟨_, rfl, wpAny_pure h⟩))) htake)
    | exact wpAny_bind (wpAny_bind (m := Builtin.Tuple.tupleExact _) (wpAny_newObj_type (wpAny_pure (wpAny_pure ⟨_, rfl, wpAny_pure h⟩)) htake))
    | exact wpAny_bind (wpAny_bind (m := Builtin.Tuple.tupleExact _) (wpAny_newObj_type (wpAny_pure ⟨_, rfl, wpAny_pure h⟩) htake))
theorem list_extend_tuple (l : Addr) (items : Array Value) (n : Nat) (b : Addr) (items2 : Array Value) (n2 : Nat) (dd : Option Addr) (sl : Array (Option Value)) (hs0 : ¬(!items.isEmpty && Builtin.List.listTooLong (items.size + items2.size)) = true) (hs1 : items.size ≤ sizeLine) (hs2 : items.size + items2.size ≤ sizeLine + 1) :
    Meets (Builtin.«list.extend» ⟨[.ref l, .ref b], []⟩) (fun _ R s => s.heap.get? l = some { cls := .type "list", dict := none, data := .seq items n, slots := #[] } ∧ s.heap.get? b = some { cls := .type "tuple", dict := dd, data := .seq items2 n2, slots := sl } ∧ R (.ok (.ret Value.none)) { s with heap := s.heap.update l (Obj.mapSeq fun x => x ++ items2), toks := s.toks }) :=
  .of_wp fun prog w A R s h => by
    obtain ⟨hp, g, d, tk, os⟩ := s; obtain ⟨hl, hb, h⟩ := h; have f1 := AutoSeq1.idx_int; have f2 := AutoSeq1.sub_tuple_tuple; have f3 := AutoSeq1.sub_list_list; have f4 := AutoSeq1.sub_tuple_list; have f5 := AutoSeq1.sub_list_tuple;
    have hz' : (items ++ items2).size ≤ sizeLine + 1 := by rw [Array.size_append]; exact hs2
    wp_walk using (wpAny_updateSeq hl rfl (hz := hs1) (_hz' := hz')), wpAny_loadPart' hl, wpAny_loadPart' hb; exact ⟨_, rfl, h⟩
end
section
variable {X : Cx}
/-- t[::-1], a tuple -/
def tRevT (K : PySem.W.Frag) (te : TE) : TE := fun σ H Q => te σ H fun x H1 => ∃ a xs, x = .ref a ∧ SqT K H1 a xs ∧ ∀ p, H1 p = none → Q (.ref p) (upd H1 p (.tup xs.reverse))
theorem pe_revT {e : Expr} {te : TE} {k : Nat} {p1 p2 p3 pos : Pos} (he : PE X e te) : PE X (.Subscript e (.Slice none none (some (.UnaryOp .USub (.Constant (.int 1) k p1) p2)) p3) pos) (tRevT X.K te) := by
  refine ⟨fun pins s σ H Q I h => ?_⟩
  refine Subscript_ (thn (he.run pins s σ H _ I h) fun v s1 ⟨x, H1, I1, r1, q1⟩ => ?_)
  obtain ⟨a, xs, ex, hx, q⟩ := q1
  subst ex
  cases r1
  have hst : PO X (some (.UnaryOp .USub (.Constant (.int 1) k p1) p2)) (tPart (tUn (rU fun i => .int (-i)) (tC (.int 1)))) := po_some (pe_un un_neg pe_int)
  refine wpAny_Slice (thn (po_none.run pins s1 σ H1 (fun o H2 => o = none ∧ H2 = H1) I1 ⟨rfl, rfl⟩) fun vl s2 ⟨l, H2, I2, pl, el, e2⟩ => ?_)
  subst el e2
  refine thn (po_none.run pins s2 σ H2 (fun o H3 => o = none ∧ H3 = H2) I2 ⟨rfl, rfl⟩) fun vu s3 ⟨u, H3, I3, pu, eu, e3⟩ => ?_
  subst eu e3
  refine thn (hst.run pins s3 σ H3 (fun o H4 => o = some (-1) ∧ H4 = H3) I3 ⟨1, rfl, -1, rfl, rfl, rfl⟩) fun vs s4 ⟨o, H4, I4, ps, eo, e4⟩ => ?_
  subst eo e4
  have I5 : Inv X pins σ H4 { s4 with heap := s4.heap.push { cls := .type "slice", data := .fields #[vl, vu, vs] } } := I4.kept (t' := s4.toks) fun b ob q => Heap.get?_push_of_some _ q
  obtain ⟨its, r, ht, hz⟩ := I5.tuple hx
  have hlen := r.length
  cases pl
  cases pu
  show wpAny (model X.prog X.w) X.A (subscriptTail e (.Slice none none (some (.UnaryOp .USub (.Constant (.int 1) k p1) p2)) p3) (.ref a) (.ref s4.heap.objs.size)) (EP X pins σ Q) X.xe { s4 with heap := s4.heap.push { cls := .type "slice", data := .fields #[.none, .none, vs] } }
  refine tail_any (ops := [.ref a, .ref s4.heap.objs.size]) ht.typeIs (PyProof.Rows.slot_tuple_getitem.lookup) ?_ (by with_unfolding_all rfl)
  refine getItem_tuple_rev ht (Heap.IsSliceOf.new _ .none .none vs) ps ?_ (by rw [List.size_toArray]; omega)
  refine ⟨.ref _, _, I5.laid (t' := s4.toks) (o := .tup xs.reverse) (fun b ob q => Heap.get?_push_of_some _ q) (Nat.le_refl _) ?_, rfl, q _ (I5.hok.fresh (Nat.le_refl _))⟩
  exact ⟨by rw [List.length_reverse]; exact hz, its.reverse, r.reverse, IsTup.new _ _⟩

/-- l.extend(t), a tuple -/
def rExtendT (K : PySem.W.Frag) : V → List V → Hp → VK → Prop := fun x vs H Q => ∃ l b xs zs, x = .ref l ∧ vs = [.ref b] ∧ H l = some (.lst xs) ∧ SqT K H b zs ∧ xs.length + zs.length ≤ sizeLine ∧ Q .non (upd H l (.lst (xs ++ zs)))
theorem mt_extendT : MtM X "list.extend" (rExtendT X.K) := by
  intro pins s σ H x vs v us Q I rx rv h
  obtain ⟨l, b, xs, zs, rfl, rfl, hH, hB, hz, q⟩ := h
  cases rx
  obtain ⟨u, rfl, ru⟩ := rv.one
  cases ru
  obtain ⟨z, its, n, r, hl, e⟩ := I.lstM hH
  obtain ⟨its2, r2, ht, hz2⟩ := I.tuple hB
  have hl2 := r2.length
  have hl1 := r.length
  obtain ⟨⟨cls2, dd2, data2, sl2⟩, ho2, hc2, n2, hd2⟩ := id ht
  simp only at hc2 hd2
  subst hc2 hd2
  have hsz : its.toArray.size + its2.toArray.size ≤ sizeLine := by rw [List.size_toArray, List.size_toArray]; omega
  have hlong : ¬ (!its.toArray.isEmpty && Builtin.List.listTooLong (its.toArray.size + its2.toArray.size)) = true := by
    rw [notLongL hsz, Bool.and_false]
    exact Bool.false_ne_true
  refine call_meets F.slot_list_extend ⟨_, e, rfl⟩ F.entry_list_extend (F.args_list_extend_2 _ _)
    (list_extend_tuple l its.toArray n b its2.toArray n2 dd2 sl2 hlong (by rw [List.size_toArray]; omega) (by omega)) ⟨e, ho2, ?_⟩
  refine ⟨.non, _, I.lset (its' := its ++ its2) hH e (by simp) (r.append r2) ?_, rfl, q⟩
  rw [List.length_append]
  omega
/-- a call that lets no error out here, of a def that may let TextErrors out -/
theorem passN : Passes (TE.CX X.prog X.w) X (fun _ _ _ => False) := fun _ _ _ _ _ _ _ ⟨_, _, _, _, _, _, _, _, h⟩ => h.elim
end
end SX
/-! A method whose first row is super().__init__(..), the __init__ above being one of the program's own. -/
namespace SU
open PySem PySem.W PySem.Calls PyProof.Rows L2 NdefX
/-- what the written part says of the class at D, of its __init__ at f, and of the __init__ above, at f2 -/
structure Txt (prog : Program) (K : Frag) (D f f2 cda cc : Addr) (qual : Str) (params : Arguments) (body : List Stmt) (scope : Scope) (fd : FuncData) : Prop where
  cls : ∃ cd, clsIn K D = some cd
  mro : mroIn K D (.ref D) = some true
  sup : ks_superIn K D D "__init__" = some (some (.ref f2))
  ty2 : typeIn K (.ref f2) = some (.type "function")
  fn2 : fnIn K f2 = true
  opq : nsIn K cStatics "thirdparty.any" = some none
  noS : nsIn K mainGlobals "super" = some none
  topS : (prog.main.scope.names.lookup ("super" : Str)).isSome = false
  fn : ∃ (oc : Value) (od : Option Addr) (kV doc pm : Value) (an : Option Addr) (ct : Value) (osl : Array (Option Value)) (ccl : Value) (cdd : Option Addr) (vs : Array Value) (ccs : Array (Option Value)) (file : Str) (tf : Tok) (cl : Value) (cld : Option Addr) (csl : Array (Option Value)),
    fd = ksFn "__init__" qual params body scope .none kV doc pm an (.ref cda) ct cc ∧
    K.lookup f = some ⟨oc, od, .func fd, osl⟩ ∧
    codeIn K (.ref cda) qual = true ∧ K.lookup cda = some ⟨ccl, cdd, .fields vs, ccs⟩ ∧ vs[2]? = some (.str file tf) ∧ ((prog.main.file : Str) == file) = true ∧
    K.lookup cc = some ⟨cl, cld, .cell (some (.ref D)), csl⟩
abbrev sb (p0 p1 p2 p3 p4 : Pos) (e : Expr) (es : List Expr) (rest : List Stmt) : List Stmt := .Expr (.Call (.Attribute (.Call (.Name "super" p0) [] [] p1) "__init__" p2) (e :: es) [] p3) p4 :: rest
abbrev nf (qual : Str) (params : Arguments) (body : List Stmt) (scope : Scope) (cda cc : Addr) : NF := ⟨"__init__", qual, params, body, scope, [("__class__", cc)], cda⟩
section
variable {CX CX2 : CXT} {P : Program} {w : World} {K : Frag} {mg : Str → Option Value} {base : Heap} {k k2 : Nat} {D f f2 cda cc : Addr} {qual : Str} {params : Arguments} {scope : Scope} {fd fd2 : FuncData} {N ps ps2 : List Str} {sp sp2 : Sp}
  {p0 p1 p2 p3 p4 : Pos} {e : Expr} {es : List Expr} {rest : List Stmt} {ar : Arg}
theorem init_of (T : Txt P K D f f2 cda cc qual params (sb p0 p1 p2 p3 p4 e es rest) scope fd)
    (S : NScope N ps ["__class__"] scope) (hks : scope.names.lookup ("super" : Str) = some .globalImplicit) (hp : (params.posonlyargs ++ params.args).head? = some ar) (hps : ps.head? = some ar.arg)
    (F2 : FnOk P w K mg base CX2 k2 f2 fd2 ps2 sp2) (hk : k2 ≤ k) (hb2 : Binds K fd2 ps2 [])
    (len : ∀ vs H Q E, sp vs H Q E → vs.length = ps.length)
    (hbody : ∀ (A : Around) (outer : List Env) (s : Shared) (H : Hp) (vs : List V) (Q : VK) (E : XK), Room k (A.deeper (envF (nf qual params (sb p0 p1 p2 p3 p4 e es rest) scope cda cc) f s.heap.objs.size)) → sp vs H Q E →
      ∃ (x : Addr) (dx : Addr) (fs : List (Str × V)) (ws : List V) (E2 : XK) (t : TA) (tr : TS), vs = .ref x :: ws ∧ H x = some (.ins D dx fs) ∧
        PA (ncx CX P w K mg base N (nf qual params (sb p0 p1 p2 p3 p4 e es rest) scope cda cc) f A outer s H E) (e :: es) t ∧
        PSs (ncx CX P w K mg base N (nf qual params (sb p0 p1 p2 p3 p4 e es rest) scope cda cc) f A outer s H E) rest tr ∧
        Passes CX2 (ncx CX P w K mg base N (nf qual params (sb p0 p1 p2 p3 p4 e es rest) scope cda cc) f A outer s H E) E2 ∧
        t (startF N vs [none]) H fun us H1 => sp2 (.ref x :: us) H1 (fun _ H2 => tr { nx := fun _ H' => Q .non H', rt := Q } (startF N vs [none]) H2) E2)
    {pl : Env → Sem Bool} (he : ∀ env, eval (.Call (.Attribute (.Call (.Name "super" p0) [] [] p1) "__init__" p2) (e :: es) [] p3) env = (do
      let ov ← attributeBase (.Call (.Name "super" p0) [] [] p1) "__init__" env (eval (.Call (.Name "super" p0) [] [] p1) env)
      standAt p2.atName
      let (f, first) ← holding [ov] (getMethod ov "__init__" (pl env))
      callWith p3 f first (backTo p3 (starEach (e :: es) env)) []))
    (hst : ∀ env, starEach (e :: es) env = (false, eval e env) :: starEach es env) (hpl : ∀ env, (backTo p3 (starEach es env)).any (·.1) = false) :
    FnOk P w K mg base CX (k + 1) f fd ps sp := by
  obtain ⟨oc, od, kV, doc, pm, an, ct, osl, ccl, cdd, vs, ccs, file, tf, cl, cld, csl, hfd, lk, hcd, hcode, hvs, hfile, hcell⟩ := T.fn
  subst hfd
  refine ⟨len, fun A outer s H args us vv Q E hr e0 hb r hsp => ?_⟩
  have hl := len _ _ _ _ hsp
  have kb : ∀ b o, base.get? b = some o → s.heap.get? b = some o := fun b o e => (e0.bs b o e).1
  have KX : K.In s.heap := e0.mod.kin.keeps kb
  have lim : s.heap.NoLimit := e0.mod.nolimit.keeps kb
  obtain ⟨x, dx, fs, ws, E2, t, tr, rfl, hx, hA, hR, hE2, hq⟩ := hbody A outer s H vv Q E (hr.deeper _) hsp
  refine ks_codeAny_call_defAt (binds := ps.zip us) hr.depth (KX _ _ lk) rfl lim (codeRec_of KX hcd) rfl hb S.nocell (fun y hy => S.par y.1 (List.of_mem_zip (show (y.1, y.2) ∈ ps.zip us from hy)).1) (fun h₁ hns hk₁ => ?_) S.co S.gen S.kind
  let F : NF := nf qual params (sb p0 p1 p2 p3 p4 e es rest) scope cda cc
  have hccb : base.get? cc = some ⟨cl, cld, .cell (some (.ref D)), csl⟩ := e0.mod.kin _ _ hcell
  have one : ∀ {y : Str} {c : Addr}, List.lookup y [(("__class__" : Str), cc)] = some c → y = "__class__" ∧ c = cc := fun {y c} h => by
    have := PySem.mem_of_lookup h
    rcases List.mem_cons.mp this with h' | h'
    · exact ⟨congrArg Prod.fst h', congrArg Prod.snd h'⟩
    · cases h'
  have C : CellsAt F.cl ["__class__"] [none] s.heap H := by
    refine ⟨rfl, fun y c h => ?_, fun y z c h1 h2 => (one h1).1.trans (one h2).1.symm, fun i y h => ?_⟩
    · obtain ⟨rfl, rfl⟩ := one h
      exact ⟨(e0.bs _ _ hccb).2, _, _, kb _ _ hccb, rfl⟩
    · match i, h with
      | 0, h =>
        cases h
        exact ⟨cc, rfl, fun v h => by cases h⟩
  have I : Inv (ncx CX P w K mg base N F f A outer s H E) [] (startF N (.ref x :: ws) [none]) H { s with heap := h₁, toks := s.toks + (ps.zip us).length } := inv_startN S hr.hd e0 hl r C hns hk₁
  have hint : ∀ (q : Str) (L a : Addr) (cd : Value) (cl : List (Str × Addr)), interactive (envX q scope L a cd cl) = false := fun _ _ _ _ _ => by
    show (scope.kind == .module && _) = false
    rw [S.kind]
    rfl
  refine ks_wpAt_execs_cons (ks_wpAt_Expr_any (ks_wpAt_MethodCall ?_ (he _)) (hint _ _ _ _ _))
  have KX1 : K.In h₁ := KX.keeps hk₁
  obtain ⟨cdD, hD⟩ := T.cls
  obtain ⟨oD, hD1, hD2⟩ : ∃ oD, h₁.get? D = some oD ∧ oD.data = .cls cdD := by
    unfold clsIn at hD
    split at hD
    · rename_i c d cd' sl ho
      cases hD
      exact ⟨_, KX1 _ _ ho, rfl⟩
    · cases hD
  obtain ⟨mb, hbl, hbb⟩ := e0.mod.blt
  have kb1 : ∀ b o, base.get? b = some o → h₁.get? b = some o := fun b o e => hk₁ b o (kb b o e)
  have hsuper : mg ("super" : Str) = none := mg_none_of e0.mod.kin e0.mod.glob T.noS
  have hboot : mb ("super" : Str) = some (.type "super") := (hbb _ (by decide)).trans (by decide +kernel)
  have hkc : scope.names.lookup ("__class__" : Str) = some .free := S.frk _ List.mem_cons_self
  refine ks_wpAt_super_base (vs := vs) (ar := ar) hks hkc (by decide) rfl (KX1 _ _ lk) rfl hp rfl (KX1 _ _ hcode) rfl hvs hfile T.topS ?_
  refine ks_loadName_global S.kind hks (loadGlobal_builtin (e0.mod.glob.keeps kb1) hsuper (hbl.keeps kb1) hboot ⟨rfl, ?_⟩)
  refine wpAny_loadName_free S.kind hkc rfl ⟨_, KX1 _ _ hcell, rfl⟩ ?_
  have hpar : ps[0]? = some ar.arg := by rw [← hps]; cases ps <;> rfl
  have hu0 : us[0]? = some (.ref x) := by
    cases r with
    | cons a b =>
      cases a
      rfl
  have hndp : ps.Nodup := by
    have q := S.nd.sublist (List.take_sublist (ps.length + 1) N)
    have e : N.take (ps.length + 1) = ps ++ [("__class__" : Str)] := S.pre
    rw [e] at q
    exact (List.nodup_append.mp q).1
  refine wpAny_loadName_local S.kind (S.par _ (List.mem_of_getElem? hpar)) hns (zip_look hndp hpar hu0) ?_
  refine ks_wpAny_isType_cls hD1 hD2 ⟨rfl, ?_⟩
  obtain ⟨hown, hfs, hdx, hxo, mA, hns1, hrel, hwi⟩ := (show ObjOk P w H h₁ x (.ins D dx fs) from I.hok x _ hx)
  refine ks_wpAny_call_super hD1 hD2 hxo rfl (fun c e => by cases e) (looks_mroIn KX1 T.mro) (fun h₂ e2 k2' => ?_)
  have KX2 : K.In h₂ := KX1.keeps k2'
  have hnxD : x ≠ D := fun z => by
    rw [z, hD1] at hxo
    rw [Option.some.inj hxo] at hD2
    cases hD2
  have hsup : alongIn K "__init__" ((cdD.mro.dropWhile (· != .ref D)).drop 1) = some (some (.ref f2)) := by
    have := T.sup
    unfold ks_superIn at this
    rw [hD] at this
    exact this
  obtain ⟨of, hof, hofc⟩ : ∃ of, h₂.get? f2 = some of ∧ of.cls = .type "function" := by
    have ht' : (K.lookup f2).map (·.cls) = some (.type "function") := T.ty2
    cases z : K.lookup f2 with
    | none => rw [z] at ht'; cases ht'
    | some of => rw [z] at ht'; exact ⟨of, KX2 _ _ z, Option.some.inj ht'⟩
  refine ks_wpAny_getMethod_super e2 (looks_opaque KX2 T.opq) (l₀ := cdD.mro) (fun A Q E s k q => wpAny_bind ((looks_clsIn KX2 hD) A _ E s k (wpAny_pure q))) rfl KX2 hsup hof hofc hnxD (by decide) ?_
  -- the arguments, the method object pinned
  have kq : ∀ b o, h₁.get? b = some o → (h₂.push { cls := .type "method", data := .fields #[.ref f2, .ref x] }).get? b = some o := fun b o e => Heap.get?_push_of_some _ (k2' _ _ e)
  have I2 := I.kept (h' := h₂.push { cls := .type "method", data := .fields #[.ref f2, .ref x] }) (t' := s.toks + (ps.zip us).length + 1) kq
  have hl2 : h₁.objs.size ≤ h₂.objs.size := Nat.le_of_lt (Heap.lt_size e2)
  have I3 : Inv (ncx CX P w K mg base N F f A outer s H E) [(h₂.objs.size, methodObj (.ref f2) (.ref x))] (startF N (.ref x :: ws) [none]) H { s with heap := h₂.push { cls := .type "method", data := .fields #[.ref f2, .ref x] }, toks := s.toks + (ps.zip us).length + 1 } := by
    refine I2.pins_of fun p hp => ?_
    rcases List.mem_cons.mp hp with rfl | hp
    · refine ⟨Heap.get?_push_at rfl rfl, I.hok.fresh hl2, fun z => ?_, I.nofs hl2, fun v z => by cases z⟩
      have := I.lt
      have z : h₂.objs.size = (ncx CX P w K mg base N F f A outer s H E).env.locals := z
      rw [← z] at this
      exact absurd this (Nat.not_lt.mpr hl2)
    · cases hp
  show wpAny _ _ (callWith p3 (.ref h₂.objs.size) [] (backTo p3 (starEach (e :: es) (envF F f s.heap.objs.size))) []) _ _ _
  have hA' := hA.run p3 _ _ _ _ _ I3 hq
  have hst' := hst (envF F f s.heap.objs.size)
  have hpl' := hpl (envF F f s.heap.objs.size)
  rw [hst']
  refine callWith_of (P := MethP K h₂.objs.size f2 (.ref x)) (by
    show ((false || (backTo p3 (starEach es (envF F f s.heap.objs.size))).any (·.1)) || false) = false
    rw [hpl'] <;> rfl) (keeps_M T.fn2) (evalArgs_plain ?_)
  have hA2 : wpAny (model P w) (A.deeper (envF F f s.heap.objs.size)) (spliced (backTo p3 (starEach (e :: es) (envF F f s.heap.objs.size)))) _ _ _ := hA'
  rw [hst'] at hA2
  refine wpAny_mono hA2 (fun us2 s4 hs4 => ?_) fun _ _ z => z
  obtain ⟨vs2, H4, I4, r4, q4⟩ := hs4
  have hpin := I4.pin _ (List.mem_append_right _ List.mem_cons_self)
  refine ⟨⟨hpin.1, I4.kIn⟩, ?_⟩
  have hl4 : (Value.ref x :: us2 ++ []).length = ps2.length := by
    have := F2.len _ _ _ _ q4
    rw [List.append_nil, ← this, List.length_cons, List.length_cons, r4.length]
  refine wpAny_call (ks_codeAny_call_bound hpin.1 (codeAny_mono (F2.run _ _ s4 H4 ⟨.ref x :: us2, []⟩ (.ref x :: us2) (.ref x :: vs2) _ E2 ((hr.deeper _).mono hk) I4.env0 (by have := hb2 s4 (.ref x :: us2) I4.kIn hl4; rwa [List.append_nil] at this) (.cons rfl r4) q4) fun r s5 hq5 => ?_))
  cases r with
  | error e => exact hE2 _ _ _ _ e s5 I4 hq5
  | ok fl =>
    cases fl with
    | next => exact False.elim hq5
    | brk => exact False.elim hq5
    | cont => exact False.elim hq5
    | ret u =>
      obtain ⟨v5, H5, I5, rv5, q5⟩ := I4.after hq5
      have I6 := I5.pins_of (pins' := []) fun p hp => by cases hp
      refine wpAt_of_wpAny (wpAny_mono (hR.run [] s5 _ H5 _ I6 q5) (fun fl s' hs => ?_) fun e s' hs => hs)
      have fin : ∀ {σ' : L2.St} {H' : Hp} {v : V} {u : Value}, Inv (ncx CX P w K mg base N F f A outer s H E) [] σ' H' s' → L2.RelV v u → Q v H' → CE outer P w H s Q u s' :=
        fun {σ' H' v u} J rv q => ⟨v, H', J.os, J.bare, J.base, J.hok, rv, q⟩
      cases fl with
      | ret u =>
        obtain ⟨v, σ', H', J, rv, q⟩ := hs
        exact fin J rv q
      | next =>
        obtain ⟨σ', H', J, q⟩ := hs
        exact fin (v := V.non) (u := Value.none) J rfl q
      | brk =>
        obtain ⟨_, _, _, q⟩ := hs
        exact False.elim q
      | cont =>
        obtain ⟨_, _, _, q⟩ := hs
        exact False.elim q
end
end SU
/-! Written dicts of the module by any text key; dicts made in the call: in, not in, [..]; l == [[]] of lists of lists. -/
namespace SX
open PySem PySem.Spec PyProof.Rows L2
/-- at d a written dict of these text keys -/
structure WD (K : PySem.W.Frag) (w : World) (d : Addr) (kvs : List (Str × V)) : Prop where
  ex : ∃ es n, KDict K w d es n ∧ ∀ z : Str, ∃ r, PySem.W.nsIn K d z = some r ∧ RelO (kvs.lookup z) r
/-- the entries are these -/
def Ents : List DictEntry → List (Str × V) → Prop
  | [], [] => True
  | e :: es, kv :: kvs => (∃ t, e.key = .str kv.1 t) ∧ RelV kv.2 e.val ∧ Ents es kvs
  | _, _ => False
theorem ents_find {z : Str} : ∀ {es : List DictEntry} {kvs : List (Str × V)}, Ents es kvs → RelO (kvs.lookup z) ((es.find? (·.key.isStr z)).map (·.val)) ∧ es.any (·.refKey) = false
  | [], [], _ => ⟨True.intro, rfl⟩
  | [], _ :: _, h => (show False from h).elim
  | _ :: _, [], h => (show False from h).elim
  | e :: es, kv :: kvs, h => by
    obtain ⟨⟨t, hk⟩, hv, hr⟩ := h
    obtain ⟨k, v⟩ := kv
    obtain ⟨ih1, ih2⟩ := ents_find (z := z) hr
    have hs : e.key.isStr z = (k == z) := by
      rw [hk, PySem.W.isStr_of]
      rfl
    have hrf : e.refKey = false := by
      unfold DictEntry.refKey
      rw [hk]
    refine ⟨?_, by rw [List.any_cons, hrf, ih2]; rfl⟩
    rw [List.find?_cons, hs, List.lookup_cons]
    by_cases hkz : k = z
    · subst hkz
      rw [show (k == k) = true from beq_self_eq_true k]
      exact hv
    · have e1 : (k == z) = false := beq_eq_false_iff_ne.mpr hkz
      have e2 : (z == k) = false := beq_eq_false_iff_ne.mpr (Ne.symm hkz)
      rw [e1, e2]
      exact ih1
theorem wd_of {K : PySem.W.Frag} {w : World} {d : Addr} {es : Array DictEntry} {n : Nat} {kvs : List (Str × V)} (hl : K.lookup d = some ⟨.type "dict", none, .dict es n, #[]⟩) (lit : PySem.W.KeysLit w.params es.toList) (low : (d == sysModules) = false) (h : Ents es.toList kvs) : WD K w d kvs := by
  refine ⟨es, n, ⟨hl, lit, low⟩, fun z => ?_⟩
  obtain ⟨h1, h2⟩ := ents_find (z := z) h
  refine ⟨_, ?_, h1⟩
  unfold PySem.W.nsIn
  rw [hl]
  dsimp only
  cases e : es.toList.find? (·.key.isStr z) with
  | some en => rfl
  | none =>
    dsimp only
    rw [h2]
    rfl
section
variable {X : Cx} {d : Addr} {kvs : List (Str × V)}
theorem relO_some {o : Option V} {r : Option Value} (h : RelO o r) : r.isSome = o.isSome := by
  cases o <;> cases r <;> first | rfl | exact (show False from h).elim
theorem op_in_wd (D : WD X.K X.w d kvs) : OpR X (compareOp .In) (fun x y H Q => ∃ z : Str, x = .str z ∧ y = .ref d ∧ Q (.bl (kvs.lookup z).isSome) H) := by
  intro pins s σ H x y v u Q I rx ry h
  obtain ⟨z, rfl, rfl, q⟩ := h
  obtain ⟨es, n, D', f⟩ := D.ex
  obtain ⟨r, e, rel⟩ := f z
  exact op_in_kd D' pins s σ H _ _ v u Q I rx ry ⟨z, r, rfl, rfl, e, by rw [relO_some rel]; exact q⟩
theorem op_notIn_wd (D : WD X.K X.w d kvs) : OpR X (compareOp .NotIn) (fun x y H Q => ∃ z : Str, x = .str z ∧ y = .ref d ∧ Q (.bl (!(kvs.lookup z).isSome)) H) := by
  intro pins s σ H x y v u Q I rx ry h
  obtain ⟨z, rfl, rfl, q⟩ := h
  obtain ⟨es, n, D', f⟩ := D.ex
  obtain ⟨r, e, rel⟩ := f z
  exact op_notIn_kd D' pins s σ H _ _ v u Q I rx ry ⟨z, r, rfl, rfl, e, by rw [relO_some rel]; exact q⟩
theorem ix_wd (D : WD X.K X.w d kvs) : IxR X (fun x y H Q => ∃ (z : Str) (v : V), x = .ref d ∧ y = .str z ∧ kvs.lookup z = some v ∧ Q v H) := by
  intro value slice pins s σ H x y v u Q I rx ry h hs
  obtain ⟨z, r, rfl, rfl, el, q⟩ := h
  obtain ⟨es, n, D', f⟩ := D.ex
  obtain ⟨o, e, rel⟩ := f z
  rw [el] at rel
  cases o with
  | none => exact (show False from rel).elim
  | some u0 => exact ix_kdict value slice pins s σ H _ _ v u Q I rx ry ⟨d, z, r, rfl, rfl, ⟨es, n, u0, D'.at_, D'.lit, e, rel⟩, q⟩ hs
theorem u1 {k : Nat} {A : Around} (r : Room k A) : A.units + 1 < cLine := by
  have := r.units
  omega
/-- k in a dict made in the call -/
theorem op_in_dK (hu : X.A.units + 1 < cLine) : OpR X (compareOp .In) (fun x y H Q => ∃ (z : Str) (a : Addr) (ks : List (Key × V)), x = .str z ∧ y = .ref a ∧ H a = some (.dK ks) ∧ Q (.bl (valV ks (.inr z)).isSome) H) := by
  intro pins s σ H x y v u Q I rx ry h
  obtain ⟨z, a, ks, rfl, rfl, e, q⟩ := h
  cases ry
  exact d_in hu I (DGet.k (k := .inr z) e) rx fun s' I' => ⟨.bl _, H, I', rfl, q⟩
theorem op_notIn_dK (hu : X.A.units + 1 < cLine) : OpR X (compareOp .NotIn) (fun x y H Q => ∃ (z : Str) (a : Addr) (ks : List (Key × V)), x = .str z ∧ y = .ref a ∧ H a = some (.dK ks) ∧ Q (.bl (!(valV ks (.inr z)).isSome)) H) := by
  intro pins s σ H x y v u Q I rx ry h
  obtain ⟨z, a, ks, rfl, rfl, e, q⟩ := h
  cases ry
  exact d_notIn hu I (DGet.k (k := .inr z) e) rx fun s' I' => ⟨.bl _, H, I', rfl, q⟩
end
end SX
namespace SX
open PySem PySem.Spec PyProof.Rows L2
/-! l == [[]], l a list of lists -/
/-- the lists at ls hold xss -/
def LsAt (H : Hp) : List Addr → List (List V) → Prop
  | [], [] => True
  | r :: ls, xs :: xss => H r = some (.lst xs) ∧ LsAt H ls xss
  | _, _ => False
theorem LsAt.len {H : Hp} : ∀ {ls : List Addr} {xss : List (List V)}, LsAt H ls xss → ls.length = xss.length
  | [], [], _ => rfl
  | [], _ :: _, h => (show False from h).elim
  | _ :: _, [], h => (show False from h).elim
  | _ :: _, _ :: _, h => congrArg (· + 1) (LsAt.len h.2)
section
variable {X : Cx}
def rEqNest : R2 := fun x y H Q => ∃ (a b c : Addr) (ls : List Addr) (xss : List (List V)), x = .ref a ∧ y = .ref b ∧ H a = some (.lst (ls.map V.ref)) ∧ LsAt H ls xss ∧ H b = some (.lst [.ref c]) ∧ H c = some (.lst []) ∧ Q (.bl (decide (xss = [[]]))) H
theorem op_eqNest (hu : X.A.units + 64 < cLine) : OpR X (compareOp .Eq) rEqNest := by
  intro pins s σ H x y v u Q I rx ry h
  obtain ⟨a, b, c, ls, xss, rfl, rfl, ha, hls, hb, hc, q⟩ := h
  cases (show v = Value.ref a from rx)
  cases (show u = Value.ref b from ry)
  obtain ⟨us, r1, p1, _⟩ := I.list (SqL.of ha)
  obtain ⟨ws, r2, p2, _⟩ := I.list (SqL.of hb)
  have l1 : us.length = ls.length := by rw [← r1.length, List.length_map]
  have l2 : ws.length = 1 := by rw [← r2.length]; rfl
  have hl := hls.len
  by_cases h1 : ls.length = 1
  · match ls, xss, hls, h1, r1, l1, hl with
    | [r], [xs], hls, _, r1, l1, _ =>
      obtain ⟨hr, _⟩ := hls
      obtain ⟨u0, rfl, ra⟩ := r1.one
      obtain ⟨w0, rfl, rb⟩ := r2.one
      cases (show u0 = Value.ref r from ra)
      cases (show w0 = Value.ref c from rb)
      have he : SeqAt.EqAt X.A.in1 s (.ref r) (.ref c) (decide (xs = [])) := by
        by_cases e : r = c
        · subst e
          rw [hc] at hr
          cases hr
          rw [decide_eq_true rfl]
          exact SeqAt.EqAt.same _
        · obtain ⟨us2, r3, p3, _⟩ := I.list (SqL.of hr)
          obtain ⟨ws2, r4, p4, _⟩ := I.list (SqL.of hc)
          cases r4
          by_cases hx : xs = []
          · subst hx
            cases r3
            rw [decide_eq_true rfl]
            exact SeqAt.EqAt.of_refs e (SeqAt.RcAt.lists (e := fun _ => true) p3.isList p4.isList rfl (by show X.A.units + 1 < cLine; omega) fun j h1 h2 => absurd h1 (Nat.not_lt_zero _))
          · have : us2.toArray.size ≠ 0 := by
              rw [List.size_toArray, ← r3.length]
              exact fun h => hx (List.length_eq_zero_iff.mp h)
            rw [decide_eq_false hx]
            exact SeqAt.EqAt.of_refs e (SeqAt.RcAt.lists_lengths p3.isList p4.isList (by simpa using this) (by show X.A.units + 1 < cLine; omega))
      have fin := SeqAt.RcAt.lists (e := fun _ => decide (xs = [])) p1.isList p2.isList rfl (show X.A.units < cLine by omega) fun j h1 h2 => by
        have : j = 0 := by simpa using h1
        subst this
        exact he
      refine fin _ _ _ _ ⟨.bl (decide ([xs] = [[]])), H, I, ?_, q⟩
      show Value.bool _ = Value.bool _
      congr 1
      simp
  · have ne : (us.toArray.size != ws.toArray.size) = true := by
      rw [List.size_toArray, List.size_toArray, l1, l2]
      simpa using h1
    refine SeqAt.RcAt.lists_lengths p1.isList p2.isList ne (by omega) _ _ _ _ ⟨.bl false, H, I, rfl, ?_⟩
    have : decide (xss = [[]]) = false := decide_eq_false fun h => h1 (by rw [hl, h]; rfl)
    rw [this] at q
    exact q
end
end SX
/-! A layer over the readings: data without the heap. Part 1: data, how values hold them, what stands in the slots. -/
namespace DL
open PySem PySem.Spec PyProof.Rows L2
abbrev St := L2.St
/-- data: what is never changed any more -/
inductive D where
  | non | bl (b : Bool) | int (i : Int) | str (x : Str) | ty (n : String) | fn (a : Addr) | scr (ns : List Int)
  | tup (l : List D) | lst (l : List D) | dct (l : List (Key × D)) | obj (C : Addr) (fs : List (Str × D))
/-- the part F of the heap is kept for good; v holds d in it -/
inductive Dr (K : PySem.W.Frag) (F : Hp) : V → D → Prop
  | non : Dr K F .non .non
  | bl (b : Bool) : Dr K F (.bl b) (.bl b)
  | int (i : Int) : Dr K F (.int i) (.int i)
  | str (x : Str) : Dr K F (.str x) (.str x)
  | ty (n : String) : Dr K F (.ty n) (.ty n)
  | fn (a : Addr) : Dr K F (.ref a) (.fn a)
  | scr {a : Addr} {ns : List Int} (e : SqL K F a (ns.map V.int)) : Dr K F (.ref a) (.scr ns)
  | tup {a : Addr} {xs : List V} {ds : List D} (e : SqT K F a xs) (hl : xs.length = ds.length) (h : ∀ (i : Nat) (v : V) (d : D), xs[i]? = some v → ds[i]? = some d → Dr K F v d) : Dr K F (.ref a) (.tup ds)
  | lst {a : Addr} {xs : List V} {ds : List D} (e : F a = some (.lst xs)) (hl : xs.length = ds.length) (h : ∀ (i : Nat) (v : V) (d : D), xs[i]? = some v → ds[i]? = some d → Dr K F v d) : Dr K F (.ref a) (.lst ds)
  | dct {a : Addr} {xs : List (Key × V)} {ds : List (Key × D)} (e : F a = some (.dK xs)) (hk : xs.map (·.1) = ds.map (·.1)) (h : ∀ (i : Nat) (v : Key × V) (d : Key × D), xs[i]? = some v → ds[i]? = some d → Dr K F v.2 d.2) : Dr K F (.ref a) (.dct ds)
  | obj {a C dx : Addr} {xs : List (Str × V)} {ds : List (Str × D)} (e : F a = some (.ins C dx xs)) (hk : xs.map (·.1) = ds.map (·.1)) (h : ∀ (i : Nat) (v : Str × V) (d : Str × D), xs[i]? = some v → ds[i]? = some d → Dr K F v.2 d.2) : Dr K F (.ref a) (.obj C ds)
/-- the values hold the data -/
def DA (K : PySem.W.Frag) (F : Hp) (xs : List V) (ds : List D) : Prop := xs.length = ds.length ∧ ∀ (i : Nat) (v : V) (d : D), xs[i]? = some v → ds[i]? = some d → Dr K F v d
/-- the pairs of a dict hold .. -/
def DM {κ : Type} (K : PySem.W.Frag) (F : Hp) (xs : List (κ × V)) (ds : List (κ × D)) : Prop := xs.map (·.1) = ds.map (·.1) ∧ ∀ (i : Nat) (v : κ × V) (d : κ × D), xs[i]? = some v → ds[i]? = some d → Dr K F v.2 d.2
section
variable {K : PySem.W.Frag} {F F' : Hp}
theorem sqT_same {a : Addr} {xs : List V} (s : Same F F') (h : SqT K F a xs) : SqT K F' a xs := by
  rcases h with (h | ⟨o, h⟩) | h
  · exact .inl (.inl (s _ _ h))
  · exact .inl (.inr ⟨o, s _ _ h⟩)
  · exact .inr h
theorem sqL_same {a : Addr} {xs : List V} (s : Same F F') (h : SqL K F a xs) : SqL K F' a xs := Same.seq s h
theorem Dr.up (s : Same F F') {v : V} {d : D} (h : Dr K F v d) : Dr K F' v d := by
  induction h with
  | non => exact .non
  | bl b => exact .bl b
  | int i => exact .int i
  | str x => exact .str x
  | ty n => exact .ty n
  | fn a => exact .fn a
  | scr e => exact .scr (sqL_same s e)
  | tup e hl _ ih => exact .tup (sqT_same s e) hl ih
  | lst e hl _ ih => exact .lst (s _ _ e) hl ih
  | dct e hk _ ih => exact .dct (s _ _ e) hk ih
  | obj e hk _ ih => exact .obj (s _ _ e) hk ih
theorem DA.up (s : Same F F') {xs : List V} {ds : List D} (h : DA K F xs ds) : DA K F' xs ds := ⟨h.1, fun i v d a b => (h.2 i v d a b).up s⟩
theorem DM.up {κ : Type} (s : Same F F') {xs : List (κ × V)} {ds : List (κ × D)} (h : DM K F xs ds) : DM K F' xs ds := ⟨h.1, fun i v d a b => (h.2 i v d a b).up s⟩
theorem DA.nil : DA K F [] [] := ⟨rfl, fun i v d h => (nomatch h)⟩
theorem DA.cons {v : V} {d : D} {xs : List V} {ds : List D} (h : Dr K F v d) (t : DA K F xs ds) : DA K F (v :: xs) (d :: ds) :=
  ⟨congrArg Nat.succ t.1, fun i u e a b => match i, a, b with
    | 0, a, b => by cases a; cases b; exact h
    | i + 1, a, b => t.2 i u e a b⟩
theorem DA.one {v : V} {d : D} (h : Dr K F v d) : DA K F [v] [d] := .cons h .nil
theorem DA.inv_nil {xs : List V} (h : DA K F xs []) : xs = [] := List.length_eq_zero_iff.mp h.1
theorem DA.inv {d : D} {xs : List V} {ds : List D} (h : DA K F xs (d :: ds)) : ∃ v r, xs = v :: r ∧ Dr K F v d ∧ DA K F r ds := by
  cases xs with
  | nil => cases h.1
  | cons v r => exact ⟨v, r, rfl, h.2 0 v d rfl rfl, Nat.succ.inj h.1, fun i u e a b => h.2 (i + 1) u e a b⟩
theorem DA.app {xs ys : List V} {ds es : List D} (h : DA K F xs ds) (t : DA K F ys es) : DA K F (xs ++ ys) (ds ++ es) := by
  refine ⟨by rw [List.length_append, List.length_append, h.1, t.1], fun i u e a b => ?_⟩
  by_cases hi : i < xs.length
  · rw [List.getElem?_append_left hi] at a
    rw [List.getElem?_append_left (by have := h.1; omega)] at b
    exact h.2 i u e a b
  · rw [List.getElem?_append_right (by omega)] at a
    rw [List.getElem?_append_right (by have := h.1; omega), ← h.1] at b
    exact t.2 _ u e a b
theorem DA.get {xs : List V} {ds : List D} (h : DA K F xs ds) {i : Nat} {d : D} (e : ds[i]? = some d) : ∃ v, xs[i]? = some v ∧ Dr K F v d := by
  have hi : i < ds.length := (List.getElem?_eq_some_iff.mp e).1
  have g := List.getElem?_eq_getElem (show i < xs.length by rw [h.1]; exact hi)
  exact ⟨_, g, h.2 i _ d g e⟩
theorem DA.getV {xs : List V} {ds : List D} (h : DA K F xs ds) {i : Nat} {v : V} (e : xs[i]? = some v) : ∃ d, ds[i]? = some d ∧ Dr K F v d := by
  have hi : i < xs.length := (List.getElem?_eq_some_iff.mp e).1
  have g := List.getElem?_eq_getElem (show i < ds.length by rw [← h.1]; exact hi)
  exact ⟨_, g, h.2 i v _ e g⟩
theorem DA.atI {xs : List V} {ds : List D} (h : DA K F xs ds) {i : Int} {d : D} (e : L2.atI ds i = some d) : ∃ v, L2.atI xs i = some v ∧ Dr K F v d := by
  unfold L2.atI at e ⊢
  rw [h.1]
  cases q : ixN ds.length i with
  | none => rw [q] at e; cases e
  | some j =>
    rw [q] at e
    obtain ⟨v, h1, h2⟩ := h.get (show ds[j]? = some d from e)
    exact ⟨v, h1, h2⟩
theorem DA.take {xs : List V} {ds : List D} (h : DA K F xs ds) (n : Nat) : DA K F (xs.take n) (ds.take n) := by
  refine ⟨by rw [List.length_take, List.length_take, h.1], fun i u e a b => ?_⟩
  rw [List.getElem?_take] at a b
  split at a
  · rename_i hi
    rw [if_pos hi] at b
    exact h.2 i u e a b
  · cases a
theorem DA.drop {xs : List V} {ds : List D} (h : DA K F xs ds) (n : Nat) : DA K F (xs.drop n) (ds.drop n) := by
  refine ⟨by rw [List.length_drop, List.length_drop, h.1], fun i u e a b => ?_⟩
  rw [List.getElem?_drop] at a b
  exact h.2 _ u e a b
theorem DA.set {xs : List V} {ds : List D} (h : DA K F xs ds) {n : Nat} {v : V} {d : D} (hd : Dr K F v d) : DA K F (xs.set n v) (ds.set n d) := by
  refine ⟨by rw [List.length_set, List.length_set, h.1], fun i u e a b => ?_⟩
  by_cases hi : n = i
  · subst hi
    have hl : n < xs.length := by
      rcases Nat.lt_or_ge n xs.length with z | z
      · exact z
      · rw [List.getElem?_eq_none (by rw [List.length_set]; exact z)] at a
        cases a
    rw [List.getElem?_set_self hl] at a
    rw [List.getElem?_set_self (by rw [← h.1]; exact hl)] at b
    cases a
    cases b
    exact hd
  · rw [List.getElem?_set_ne hi] at a b
    exact h.2 i u e a b
theorem DA.rev {xs : List V} {ds : List D} (h : DA K F xs ds) : DA K F xs.reverse ds.reverse := by
  refine ⟨by rw [List.length_reverse, List.length_reverse, h.1], fun i u e a b => ?_⟩
  have hi : i < xs.length := by
    have := (List.getElem?_eq_some_iff.mp a).1
    rwa [List.length_reverse] at this
  rw [List.getElem?_reverse hi] at a
  rw [List.getElem?_reverse (by rw [← h.1]; exact hi), ← h.1] at b
  exact h.2 _ u e a b
theorem DA.dropLast {xs : List V} {ds : List D} (h : DA K F xs ds) : DA K F xs.dropLast ds.dropLast := by
  rw [List.dropLast_eq_take, List.dropLast_eq_take, h.1]
  exact h.take _
theorem Dr.inv_tup {v : V} {ds : List D} (h : Dr K F v (.tup ds)) : ∃ a xs, v = .ref a ∧ SqT K F a xs ∧ DA K F xs ds := by
  cases h with | tup e hl h => exact ⟨_, _, rfl, e, hl, h⟩
theorem Dr.inv_lst {v : V} {ds : List D} (h : Dr K F v (.lst ds)) : ∃ a xs, v = .ref a ∧ F a = some (.lst xs) ∧ DA K F xs ds := by
  cases h with | lst e hl h => exact ⟨_, _, rfl, e, hl, h⟩
theorem Dr.inv_dct {v : V} {ds : List (Key × D)} (h : Dr K F v (.dct ds)) : ∃ a xs, v = .ref a ∧ F a = some (.dK xs) ∧ DM K F xs ds := by
  cases h with | dct e hk h => exact ⟨_, _, rfl, e, hk, h⟩
theorem Dr.inv_obj {v : V} {C : Addr} {ds : List (Str × D)} (h : Dr K F v (.obj C ds)) : ∃ a dx xs, v = .ref a ∧ F a = some (.ins C dx xs) ∧ DM K F xs ds := by
  cases h with | obj e hk h => exact ⟨_, _, _, rfl, e, hk, h⟩
theorem Dr.inv_scr {v : V} {ns : List Int} (h : Dr K F v (.scr ns)) : ∃ a, v = .ref a ∧ SqL K F a (ns.map V.int) := by
  cases h with | scr e => exact ⟨_, rfl, e⟩
theorem Dr.inv_int {v : V} {i : Int} (h : Dr K F v (.int i)) : v = .int i := by cases h; rfl
theorem Dr.inv_bl {v : V} {i : Bool} (h : Dr K F v (.bl i)) : v = .bl i := by cases h; rfl
theorem Dr.inv_str {v : V} {i : Str} (h : Dr K F v (.str i)) : v = .str i := by cases h; rfl
theorem Dr.inv_non {v : V} (h : Dr K F v .non) : v = .non := by cases h; rfl
theorem Dr.inv_ty {v : V} {n : String} (h : Dr K F v (.ty n)) : v = .ty n := by cases h; rfl
theorem Dr.inv_fn {v : V} {a : Addr} (h : Dr K F v (.fn a)) : v = .ref a := by cases h; rfl
/-! ### dicts -/
def valD {κ : Type} [DecidableEq κ] (kvs : List (κ × D)) (k : κ) : Option D := (kvs.find? fun kv => decide (kv.1 = k)).map (·.2)
def putD {κ : Type} [DecidableEq κ] (kvs : List (κ × D)) (k : κ) (v : D) : List (κ × D) :=
  if (kvs.any fun kv => decide (kv.1 = k)) = true then kvs.map (fun kv => if kv.1 = k then (kv.1, v) else kv) else kvs ++ [(k, v)]
theorem DM.nil {κ : Type} : DM K F ([] : List (κ × V)) [] := ⟨rfl, fun i v d h => (nomatch h)⟩
theorem DM.cons {κ : Type} {k : κ} {v : V} {d : D} {xs : List (κ × V)} {ds : List (κ × D)} (h : Dr K F v d) (t : DM K F xs ds) : DM K F ((k, v) :: xs) ((k, d) :: ds) :=
  ⟨by rw [List.map_cons, List.map_cons, t.1], fun i u e a b => match i, a, b with
    | 0, a, b => by cases a; cases b; exact h
    | i + 1, a, b => t.2 i u e a b⟩
theorem DM.len {κ : Type} {xs : List (κ × V)} {ds : List (κ × D)} (h : DM K F xs ds) : xs.length = ds.length := by
  have := congrArg List.length h.1
  rwa [List.length_map, List.length_map] at this
theorem DM.inv {κ : Type} {p : κ × D} {xs : List (κ × V)} {ds : List (κ × D)} (h : DM K F xs (p :: ds)) : ∃ v r, xs = (p.1, v) :: r ∧ Dr K F v p.2 ∧ DM K F r ds := by
  cases xs with
  | nil => have := h.1; cases this
  | cons v r =>
    obtain ⟨k, v⟩ := v
    have h1 := h.1
    rw [List.map_cons, List.map_cons] at h1
    injection h1 with h1 h2
    have h1' : k = p.1 := h1
    subst h1'
    exact ⟨v, r, rfl, h.2 0 _ p rfl rfl, h2, fun i u e a b => h.2 (i + 1) u e a b⟩
theorem DM.val {κ : Type} [DecidableEq κ] {k : κ} : ∀ {xs : List (κ × V)} {ds : List (κ × D)}, DM K F xs ds → match valD ds k with
    | none => valV xs k = none
    | some d => ∃ v, valV xs k = some v ∧ Dr K F v d
  | xs, [], h => by
    have e : xs = [] := by have := h.len; exact List.length_eq_zero_iff.mp this
    rw [e]
    rfl
  | xs, p :: ds, h => by
    obtain ⟨v, r, rfl, hd, t⟩ := h.inv
    by_cases e : p.1 = k
    · have e1 : valD (p :: ds) k = some p.2 := by simp [valD, List.find?_cons, e]
      rw [e1]
      exact ⟨v, valV_pos e, hd⟩
    · have e1 : valD (p :: ds) k = valD ds k := by simp [valD, List.find?_cons, e]
      rw [e1, valV_neg (p := (p.1, v)) e]
      exact DM.val t
theorem DM.app {κ : Type} {xs ys : List (κ × V)} {ds es : List (κ × D)} (h : DM K F xs ds) (t : DM K F ys es) : DM K F (xs ++ ys) (ds ++ es) := by
  refine ⟨by rw [List.map_append, List.map_append, h.1, t.1], fun i u e a b => ?_⟩
  have hl := h.len
  by_cases hi : i < xs.length
  · rw [List.getElem?_append_left hi] at a
    rw [List.getElem?_append_left (by omega)] at b
    exact h.2 i u e a b
  · rw [List.getElem?_append_right (by omega)] at a
    rw [List.getElem?_append_right (by omega), ← hl] at b
    exact t.2 _ u e a b
theorem any_key {κ : Type} [DecidableEq κ] {α β : Type} {k : κ} : ∀ {xs : List (κ × α)} {ds : List (κ × β)}, xs.map (·.1) = ds.map (·.1) → (xs.any fun kv => decide (kv.1 = k)) = (ds.any fun kv => decide (kv.1 = k))
  | [], [], _ => rfl
  | [], _ :: _, h => by cases h
  | _ :: _, [], h => by cases h
  | x :: xs, d :: ds, h => by
    rw [List.map_cons, List.map_cons] at h
    injection h with h1 h2
    have h1' : x.1 = d.1 := h1
    rw [List.any_cons, List.any_cons, any_key h2, h1']
theorem DM.put {κ : Type} [DecidableEq κ] {k : κ} {v : V} {d : D} {xs : List (κ × V)} {ds : List (κ × D)} (h : DM K F xs ds) (hd : Dr K F v d) : DM K F (putK xs k v) (putD ds k d) := by
  unfold putK putD
  rw [any_key h.1]
  split
  · refine ⟨?_, fun i u e a b => ?_⟩
    · rw [List.map_map, List.map_map]
      have e1 : ((fun x : κ × V => x.1) ∘ fun kv : κ × V => if kv.1 = k then (kv.1, v) else kv) = fun x => x.1 := by
        funext x
        show (if x.1 = k then (x.1, v) else x).1 = x.1
        split <;> rfl
      have e2 : ((fun x : κ × D => x.1) ∘ fun kv : κ × D => if kv.1 = k then (kv.1, d) else kv) = fun x => x.1 := by
        funext x
        show (if x.1 = k then (x.1, d) else x).1 = x.1
        split <;> rfl
      rw [e1, e2]
      exact h.1
    · rw [List.getElem?_map] at a b
      obtain ⟨x, hx, rfl⟩ := Option.map_eq_some_iff.mp a
      obtain ⟨y, hy, rfl⟩ := Option.map_eq_some_iff.mp b
      have hk : x.1 = y.1 := by
        have := congrArg (fun l => l[i]?) h.1
        simp only [List.getElem?_map, hx, hy, Option.map_some] at this
        exact Option.some.inj this
      by_cases e : y.1 = k
      · rw [if_pos (hk.trans e), if_pos e]
        exact hd
      · rw [if_neg (by rw [hk]; exact e), if_neg e]
        exact h.2 i x y hx hy
  · exact h.app (.cons hd .nil)
theorem putD_len {κ : Type} [DecidableEq κ] (ds : List (κ × D)) (k : κ) (d : D) : (putD ds k d).length ≤ ds.length + 1 := by
  unfold putD
  split
  · rw [List.length_map]; omega
  · rw [List.length_append]; exact Nat.le_refl _
end
end DL
/-! Part 2: the slots' contents, what a reading comes to over them. -/
namespace DL
open PySem PySem.Spec PyProof.Rows L2
/-- what a slot holds: data, or a thing of one's own that may change: a list, a dict, a draw -/
inductive OV where
  | d (x : D) | l (ds : List D) | m (ks : List (Key × D)) | draw
def OV.own : OV → Bool
  | .d _ => false
  | _ => true
abbrev Env := List (Option OV)
/-- the def's entry: the heap, its kept part, the arguments, which addresses are handed in to be changed -/
structure Bs where
  H0 : Hp
  F0 : Hp
  vs : List V
  O : Addr → Prop
def DrawIn (F H : Hp) (p : Addr) : Prop := ∃ (sc : Addr) (ns : List Int) (i : Nat) (b s : Int), H p = some (.lst [.ref sc, .int (i : Nat), .int b, .int s]) ∧ F sc = some (.lst (ns.map V.int)) ∧ ns.length ≤ 63 ∧ 0 ≤ b ∧ 0 ≤ s ∧ s < 2147483648
/-- the own thing o stands at p -/
def At (K : PySem.W.Frag) (F H : Hp) (p : Addr) : OV → Prop
  | .d _ => False
  | .l ds => ∃ xs, H p = some (.lst xs) ∧ DA K F xs ds
  | .m ks => ∃ xs, H p = some (.dK xs) ∧ DM K F xs ks
  | .draw => DrawIn F H p
def Ok (K : PySem.W.Frag) (b : Bs) (F H : Hp) (v : V) (o : OV) : Prop :=
  match o with
  | .d x => Dr K F v x
  | o => ∃ p, v = .ref p ∧ F p = none ∧ (b.H0 p = none ∨ b.O p) ∧ At K F H p o
/-- no table of code objects -/
def NT (o : HO) : Prop := ∀ t, o ≠ .tbl t
/-- the tables of code objects that may grow -/
class Tbs where
  T : List (Addr × Str)
  /-- what stays for good -/
  B : Hp
/-- the kept part has grown from these two -/
structure Gr [Tbs] (A F : Hp) : Prop where
  a : Same A F
  b : Same Tbs.B F
theorem Gr.trans [Tbs] {A F F' : Hp} (g : Gr A F) (s : Same F F') : Gr A F' := ⟨g.a.trans s, g.b.trans s⟩
theorem tabs_but {T : List (Addr × Str)} {H H' : Hp} {p : Addr} {u : HO} (t : LamX.Tabs T H) (e : H p = some u) (n1 : NT u) (n2 : ∀ c q, u ≠ LamX.CodeO c q) (hs : ∀ a u, a ≠ p → H a = some u → H' a = some u) : LamX.Tabs T H' := by
  intro x hx
  obtain ⟨ps, h1, h2, h3⟩ := t x hx
  refine ⟨ps, hs _ _ (fun z => ?_) h1, h2, fun pos cv hc => ?_⟩
  · rw [z, e] at h1
    exact n1 _ (Option.some.inj h1)
  · obtain ⟨c, e1, e2⟩ := h3 pos cv hc
    refine ⟨c, e1, hs _ _ (fun z => ?_) e2⟩
    rw [z, e] at e2
    exact n2 _ _ (Option.some.inj e2)
theorem lst_nc (xs : List V) (c : Addr) (q : Str) : (HO.lst xs) ≠ LamX.CodeO c q := fun z => by
  unfold LamX.CodeO at z
  cases z
theorem dK_nc (xs : List (Key × V)) (c : Addr) (q : Str) : (HO.dK xs) ≠ LamX.CodeO c q := fun z => by
  unfold LamX.CodeO at z
  cases z
structure Rep [Tbs] (K : PySem.W.Frag) (ps : List Nat) (b : Bs) (σ : St) (H F : Hp) (ρ : Env) : Prop where
  sub : ∀ a o, F a = some o → H a = some o
  grow : Gr b.F0 F
  keep : ∀ a o, b.H0 a = some o → ¬ b.O a → NT o → H a = some o
  there : ∀ a, b.O a → ∃ o, H a = some o
  new : ∀ a o, F a = some o → b.F0 a = some o ∨ b.H0 a = none ∨ b.O a
  slot : ∀ (i : Nat) o, ρ[i]? = some (some o) → ∃ v, σ[i]? = some (some v) ∧ Ok K b F H v o
  apart : ∀ (i j : Nat) o u v, i ≠ j → ρ[i]? = some (some o) → o.own = true → ρ[j]? = some (some u) → u.own = true → σ[i]? = some (some v) → σ[j]? ≠ some (some v)
  len : ρ.length = σ.length
  pin : ∀ i ∈ ps, ∃ v, σ[i]? = some (some v) ∧ b.vs[i]? = some v
  nt : ∀ a o, F a = some o → NT o
  dom : ∀ a o, b.H0 a = some o → ∃ o', H a = some o'
  tabs : LamX.Tabs Tbs.T H
section
variable [Tbs] {K : PySem.W.Frag} {ps : List Nat} {b : Bs} {σ : St} {H F : Hp} {ρ : Env}
theorem At.kind {p : Addr} {o : OV} (h : At K F H p o) : ∃ u, H p = some u ∧ NT u ∧ ∀ c q, u ≠ LamX.CodeO c q := by
  cases o with
  | d _ => exact h.elim
  | l ds => obtain ⟨xs, e, _⟩ := h; exact ⟨_, e, (fun t z => by cases z), lst_nc _⟩
  | m ks => obtain ⟨xs, e, _⟩ := h; exact ⟨_, e, (fun t z => by cases z), dK_nc _⟩
  | draw => obtain ⟨_, _, _, _, _, e, _⟩ := h; exact ⟨_, e, (fun t z => by cases z), lst_nc _⟩
theorem At.ex {p : Addr} {o : OV} (h : At K F H p o) : ∃ u, H p = some u := by
  cases o with
  | d _ => exact h.elim
  | l ds => obtain ⟨xs, e, _⟩ := h; exact ⟨_, e⟩
  | m ks => obtain ⟨xs, e, _⟩ := h; exact ⟨_, e⟩
  | draw => obtain ⟨_, _, _, _, _, e, _⟩ := h; exact ⟨_, e⟩
theorem At.up {F' H' : Hp} {p : Addr} {o : OV} (h : At K F H p o) (s : Same F F') (e : H' p = H p) : At K F' H' p o := by
  cases o with
  | d _ => exact h.elim
  | l ds => obtain ⟨xs, h1, h2⟩ := h; exact ⟨xs, e.trans h1, h2.up s⟩
  | m ks => obtain ⟨xs, h1, h2⟩ := h; exact ⟨xs, e.trans h1, h2.up s⟩
  | draw => obtain ⟨sc, ns, i, x, y, h1, h2, h3⟩ := h; exact ⟨sc, ns, i, x, y, e.trans h1, s _ _ h2, h3⟩
theorem Ok.mk {v : V} {o : OV} {p : Addr} (hv : v = .ref p) (ho : o.own = true) (hF : F p = none) (hb : b.H0 p = none ∨ b.O p) (h : At K F H p o) : Ok K b F H v o := by
  cases o with
  | d _ => cases ho
  | l ds => exact ⟨p, hv, hF, hb, h⟩
  | m ks => exact ⟨p, hv, hF, hb, h⟩
  | draw => exact ⟨p, hv, hF, hb, h⟩
theorem Ok.inv {v : V} {o : OV} (h : Ok K b F H v o) (ho : o.own = true) : ∃ p, v = .ref p ∧ F p = none ∧ (b.H0 p = none ∨ b.O p) ∧ At K F H p o := by
  cases o with
  | d _ => cases ho
  | l ds => exact h
  | m ks => exact h
  | draw => exact h
/-- the heap has grown, also in its kept part; the own things are as they were -/
theorem Ok.up {F' H' : Hp} {v : V} {o : OV} (h : Ok K b F H v o) (s : Same F F') (e : ∀ p, v = .ref p → o.own = true → F' p = none ∧ H' p = H p) : Ok K b F' H' v o := by
  by_cases ho : o.own = true
  · obtain ⟨p, hv, hF, hb, ha⟩ := h.inv ho
    obtain ⟨e1, e2⟩ := e p hv ho
    exact .mk hv ho e1 hb (ha.up s e2)
  · cases o with
    | d x => exact Dr.up s h
    | _ => exact absurd rfl ho
theorem nt_upd {F : Hp} {p : Addr} {u : HO} (h : ∀ a o, F a = some o → NT o) (hu : NT u) : ∀ a o, upd F p u a = some o → NT o := fun a o e => by
  by_cases ha : a = p
  · subst ha
    rw [upd_same] at e
    cases e
    exact hu
  · rw [upd_ne ha] at e
    exact h a o e
theorem Rep.fresh (R : Rep K ps b σ H F ρ) {p : Addr} (h : H p = none) : F p = none ∧ b.H0 p = none ∧ ¬ b.O p := by
  have n1 : ¬ b.O p := fun z => by
    obtain ⟨o, e⟩ := R.there p z
    rw [h] at e
    cases e
  refine ⟨?_, ?_, n1⟩
  · cases e : F p with
    | none => rfl
    | some o => rw [R.sub _ _ e] at h; cases h
  · cases e : b.H0 p with
    | none => rfl
    | some o =>
      obtain ⟨o', e'⟩ := R.dom _ _ e
      rw [e'] at h
      cases h
/-- the heap has grown; the kept part may have grown by new things -/
theorem Rep.grown {H' F' : Hp} (R : Rep K ps b σ H F ρ) (hs : Same H H') (fs : Same F F') (sub : ∀ a o, F' a = some o → H' a = some o) (new : ∀ a o, F' a = some o → F a = some o ∨ H a = none) (nn : ∀ a o, F' a = some o → F a = some o ∨ NT o) : Rep K ps b σ H' F' ρ where
  nt := fun a o e => (nn a o e).elim (R.nt a o) id
  dom := fun a o e => by
    obtain ⟨o', e'⟩ := R.dom a o e
    exact ⟨o', hs _ _ e'⟩
  tabs := R.tabs.ext hs
  sub := sub
  grow := R.grow.trans fs
  keep := fun a o e n z => hs _ _ (R.keep a o e n z)
  there := fun a h => by
    obtain ⟨o, e⟩ := R.there a h
    exact ⟨o, hs _ _ e⟩
  new := fun a o e => by
    rcases new a o e with h | h
    · exact R.new a o h
    · exact .inr (.inl (R.fresh h).2.1)
  slot := fun i o e => by
    obtain ⟨v, h1, h2⟩ := R.slot i o e
    refine ⟨v, h1, h2.up fs fun p hv ho => ?_⟩
    obtain ⟨q, hq, hF, _, ha⟩ := h2.inv ho
    rw [hv] at hq
    cases hq
    obtain ⟨u, eu⟩ := ha.ex
    refine ⟨?_, (hs _ _ eu).trans eu.symm⟩
    cases e' : F' p with
    | none => rfl
    | some o' =>
      rcases new p o' e' with h | h
      · rw [hF] at h; cases h
      · rw [eu] at h; cases h
  apart := R.apart
  len := R.len
  pin := R.pin
/-- .. also the tables -/
theorem Rep.grownT {H' F' : Hp} (R : Rep K ps b σ H F ρ) (hs : ∀ a o, H a = some o → NT o → H' a = some o) (th : ∀ a o, H a = some o → ∃ o', H' a = some o') (fs : Same F F') (sub : ∀ a o, F' a = some o → H' a = some o) (new : ∀ a o, F' a = some o → F a = some o ∨ H a = none) (nn : ∀ a o, F' a = some o → NT o) (tb : LamX.Tabs Tbs.T H') : Rep K ps b σ H' F' ρ where
  nt := nn
  dom := fun a o e => by
    obtain ⟨o', e'⟩ := R.dom a o e
    exact th _ _ e'
  tabs := tb
  sub := sub
  grow := R.grow.trans fs
  keep := fun a o e n z => hs _ _ (R.keep a o e n z) z
  there := fun a h => by
    obtain ⟨o, e⟩ := R.there a h
    exact th _ _ e
  new := fun a o e => by
    rcases new a o e with h | h
    · exact R.new a o h
    · exact .inr (.inl (R.fresh h).2.1)
  slot := fun i o e => by
    obtain ⟨v, h1, h2⟩ := R.slot i o e
    refine ⟨v, h1, h2.up fs fun p hv ho => ?_⟩
    obtain ⟨q, hq, hF, _, ha⟩ := h2.inv ho
    rw [hv] at hq
    cases hq
    obtain ⟨u, eu, nu, _⟩ := ha.kind
    refine ⟨?_, (hs _ _ eu nu).trans eu.symm⟩
    cases e' : F' p with
    | none => rfl
    | some o' =>
      rcases new p o' e' with h | h
      · rw [hF] at h; cases h
      · rw [eu] at h; cases h
  apart := R.apart
  len := R.len
  pin := R.pin
/-- a new kept thing -/
theorem Rep.alloc (R : Rep K ps b σ H F ρ) {p : Addr} {o : HO} (h : H p = none) (hn : NT o := by intro t z; cases z) : Rep K ps b σ (upd H p o) (upd F p o) ρ := by
  obtain ⟨hF, _, _⟩ := R.fresh h
  refine R.grown (SX.same_upd h) (SX.same_upd hF) (fun a u e => ?_) (fun a u e => ?_) fun a u e => ?_
  · by_cases ha : a = p
    · subst ha
      rw [upd_same] at e ⊢
      exact e
    · rw [upd_ne ha] at e ⊢
      exact R.sub _ _ e
  · by_cases ha : a = p
    · subst ha
      exact .inr h
    · rw [upd_ne ha] at e
      exact .inl e
  · by_cases ha : a = p
    · subst ha
      rw [upd_same] at e
      cases e
      exact .inr hn
    · rw [upd_ne ha] at e
      exact .inl e
/-- a new thing that may change -/
theorem Rep.put (R : Rep K ps b σ H F ρ) {p : Addr} {o : HO} (h : H p = none) : Rep K ps b σ (upd H p o) F ρ := by
  obtain ⟨hF, _, _⟩ := R.fresh h
  refine R.grown (SX.same_upd h) (Same.refl F) (fun a u e => ?_) (fun a u e => .inl e) fun a u e => .inl e
  have ha : a ≠ p := fun z => by rw [z, hF] at e; cases e
  rw [upd_ne ha]
  exact R.sub _ _ e
/-- fewer slots told -/
theorem Rep.weak {ρ' : Env} (R : Rep K ps b σ H F ρ) (hl : ρ'.length = ρ.length) (h : ∀ (i : Nat) o, ρ'[i]? = some (some o) → ρ[i]? = some (some o)) : Rep K ps b σ H F ρ' :=
  ⟨R.sub, R.grow, R.keep, R.there, R.new, fun i o e => R.slot i o (h i o e), fun i j o u v n e1 o1 e2 o2 => R.apart i j o u v n (h i o e1) o1 (h j u e2) o2, hl.trans R.len, R.pin, R.nt, R.dom, R.tabs⟩
/-- p is none of the own things of the slots -/
def Loose (b : Bs) (σ : St) (F : Hp) (ρ : Env) (p : Addr) : Prop := F p = none ∧ b.H0 p = none ∧ ∀ (i : Nat) o, ρ[i]? = some (some o) → o.own = true → σ[i]? ≠ some (some (.ref p))
theorem Rep.loose (R : Rep K ps b σ H F ρ) {p : Addr} (h : H p = none) : Loose b σ F ρ p := by
  obtain ⟨hF, h0, _⟩ := R.fresh h
  refine ⟨hF, h0, fun i o e ho z => ?_⟩
  obtain ⟨v, h1, h2⟩ := R.slot i o e
  obtain ⟨q, hq, _, _, ha⟩ := h2.inv ho
  rw [h1] at z
  cases z
  cases hq
  obtain ⟨u, eu⟩ := ha.ex
  rw [h] at eu
  cases eu
theorem set_some {α : Type} {l : List (Option α)} {i j : Nat} {x : Option α} {y : α} (h : (l.set i x)[j]? = some (some y)) : (j = i ∧ x = some y) ∨ (j ≠ i ∧ l[j]? = some (some y)) := by
  by_cases hj : i = j
  · subst hj
    have hl : i < l.length := by
      rcases Nat.lt_or_ge i l.length with z | z
      · exact z
      · rw [List.getElem?_eq_none (by rw [List.length_set]; exact z)] at h
        cases h
    rw [List.getElem?_set_self hl] at h
    exact .inl ⟨rfl, Option.some.inj h⟩
  · rw [List.getElem?_set_ne hj] at h
    exact .inr ⟨fun z => hj z.symm, h⟩
/-- data into a slot -/
theorem Rep.setD (R : Rep K ps b σ H F ρ) {i : Nat} {v : V} {d : D} (hi : i ∉ ps) (h : Dr K F v d) : Rep K ps b (σ.set i (some v)) H F (ρ.set i (some (.d d))) where
  sub := R.sub
  grow := R.grow
  nt := R.nt
  dom := R.dom
  tabs := R.tabs
  keep := R.keep
  there := R.there
  new := R.new
  slot := fun j o e => by
    rcases set_some e with ⟨rfl, q1⟩ | ⟨n, q1⟩
    · cases q1
      have hl : j < σ.length := by
        have := (List.getElem?_eq_some_iff.mp e).1
        rw [List.length_set, R.len] at this
        exact this
      exact ⟨v, List.getElem?_set_self hl, h⟩
    · rw [List.getElem?_set_ne (Ne.symm n)]
      exact R.slot j o q1
  apart := fun j k o u w n e1 o1 e2 o2 s1 => by
    rcases set_some e1 with ⟨rfl, q1⟩ | ⟨n1, q1⟩
    · cases q1; cases o1
    · rcases set_some e2 with ⟨rfl, q2⟩ | ⟨n2, q2⟩
      · cases q2; cases o2
      · rw [List.getElem?_set_ne (Ne.symm n1)] at s1
        rw [List.getElem?_set_ne (Ne.symm n2)]
        exact R.apart j k o u w n q1 o1 q2 o2 s1
  len := by rw [List.length_set, List.length_set, R.len]
  pin := fun j hj => by
    rw [List.getElem?_set_ne (fun z => hi (by rw [z]; exact hj))]
    exact R.pin j hj
/-- a loose thing into a slot -/
theorem Rep.setO (R : Rep K ps b σ H F ρ) {i : Nat} {p : Addr} {o : OV} (hi : i ∉ ps) (ho : o.own = true) (hp : Loose b σ F ρ p) (h : At K F H p o) : Rep K ps b (σ.set i (some (.ref p))) H F (ρ.set i (some o)) where
  sub := R.sub
  grow := R.grow
  nt := R.nt
  dom := R.dom
  tabs := R.tabs
  keep := R.keep
  there := R.there
  new := R.new
  slot := fun j u e => by
    rcases set_some e with ⟨rfl, q1⟩ | ⟨n, q1⟩
    · cases q1
      have hl : j < σ.length := by
        have := (List.getElem?_eq_some_iff.mp e).1
        rw [List.length_set, R.len] at this
        exact this
      exact ⟨_, List.getElem?_set_self hl, .mk rfl ho hp.1 (.inl hp.2.1) h⟩
    · rw [List.getElem?_set_ne (Ne.symm n)]
      exact R.slot j u q1
  apart := fun j k u w z n e1 o1 e2 o2 s1 => by
    rcases set_some e1 with ⟨rfl, q1⟩ | ⟨n1, q1⟩
    · rcases set_some e2 with ⟨rfl, q2⟩ | ⟨n2, q2⟩
      · exact absurd rfl n
      · have hl : j < σ.length := by
          rcases Nat.lt_or_ge j σ.length with q | q
          · exact q
          · rw [List.getElem?_eq_none (by rw [List.length_set]; exact q)] at s1
            cases s1
        rw [List.getElem?_set_self hl] at s1
        cases s1
        rw [List.getElem?_set_ne (Ne.symm n2)]
        exact hp.2.2 k w q2 o2
    · rcases set_some e2 with ⟨rfl, q2⟩ | ⟨n2, q2⟩
      · rw [List.getElem?_set_ne (Ne.symm n1)] at s1
        intro q
        have hl : k < σ.length := by
          rcases Nat.lt_or_ge k σ.length with q' | q'
          · exact q'
          · rw [List.getElem?_eq_none (by rw [List.length_set]; exact q')] at q
            cases q
        rw [List.getElem?_set_self hl] at q
        cases q
        exact hp.2.2 j u q1 o1 s1
      · rw [List.getElem?_set_ne (Ne.symm n1)] at s1
        rw [List.getElem?_set_ne (Ne.symm n2)]
        exact R.apart j k u w z n q1 o1 q2 o2 s1
  len := by rw [List.length_set, List.length_set, R.len]
  pin := fun j hj => by
    rw [List.getElem?_set_ne (fun z => hi (by rw [z]; exact hj))]
    exact R.pin j hj
/-- an own thing, found -/
theorem Rep.own (R : Rep K ps b σ H F ρ) {i : Nat} {o : OV} (e : ρ[i]? = some (some o)) (ho : o.own = true) : ∃ p, σ[i]? = some (some (.ref p)) ∧ F p = none ∧ (b.H0 p = none ∨ b.O p) ∧ At K F H p o := by
  obtain ⟨v, h1, h2⟩ := R.slot i o e
  obtain ⟨p, rfl, h3⟩ := h2.inv ho
  exact ⟨p, h1, h3⟩
/-- .. changed; the heap elsewhere as it was or grown -/
theorem Rep.write {H' F' : Hp} (R : Rep K ps b σ H F ρ) {i : Nat} {p : Addr} {o o' : OV} (e : ρ[i]? = some (some o)) (ho : o.own = true) (ho' : o'.own = true) (hp : σ[i]? = some (some (.ref p)))
    (hs : ∀ a u, a ≠ p → H a = some u → H' a = some u) (fs : Same F F') (sub : ∀ a o, F' a = some o → H' a = some o) (new : ∀ a o, F' a = some o → F a = some o ∨ H a = none) (nn : ∀ a o, F' a = some o → F a = some o ∨ NT o) (h : At K F' H' p o') : Rep K ps b σ H' F' (ρ.set i (some o')) := by
  obtain ⟨q, h1, hF, hb, ha⟩ := R.own e ho
  rw [hp] at h1
  cases h1
  obtain ⟨u0, eu0⟩ := ha.ex
  obtain ⟨u1, eu1⟩ := h.ex
  have hFp : F' p = none := by
    cases e' : F' p with
    | none => rfl
    | some o'' =>
      rcases new p o'' e' with z | z
      · rw [hF] at z; cases z
      · rw [eu0] at z; cases z
  refine ⟨sub, R.grow.trans fs, fun a u e1 n tz => ?_, fun a z => ?_, fun a u e1 => ?_, fun j u e1 => ?_, fun j k u w z n e1 o1 e2 o2 s1 => ?_, by rw [List.length_set, R.len], R.pin, fun a o e => (nn a o e).elim (R.nt a o) id, fun a o0 e0 => ?_, ?_⟩
  · have na : a ≠ p := fun z => by
      rcases hb with z' | z'
      · rw [z, z'] at e1; cases e1
      · exact n (by rw [z]; exact z')
    exact hs _ _ na (R.keep a u e1 n tz)
  · by_cases ha' : a = p
    · subst ha'
      exact ⟨_, eu1⟩
    · obtain ⟨u, eu⟩ := R.there a z
      exact ⟨u, hs _ _ ha' eu⟩
  · rcases new a u e1 with z | z
    · exact R.new a u z
    · exact .inr (.inl (R.fresh z).2.1)
  · rcases set_some e1 with ⟨rfl, q1⟩ | ⟨n, q1⟩
    · cases q1
      exact ⟨_, hp, .mk rfl ho' hFp hb h⟩
    · obtain ⟨v, g1, g2⟩ := R.slot j u q1
      refine ⟨v, g1, g2.up fs fun q hv hu => ?_⟩
      obtain ⟨q', hq', hFq, _, haq⟩ := g2.inv hu
      rw [hv] at hq'
      cases hq'
      obtain ⟨uq, euq⟩ := haq.ex
      have nq : q ≠ p := fun z => by
        subst z
        rw [hv] at g1
        exact R.apart j i u o _ n q1 hu e ho g1 hp
      refine ⟨?_, (hs _ _ nq euq).trans euq.symm⟩
      cases e' : F' q with
      | none => rfl
      | some o'' =>
        rcases new q o'' e' with z | z
        · rw [hFq] at z; cases z
        · rw [euq] at z; cases z
  · have z1 : ∃ u', ρ[j]? = some (some u') ∧ u'.own = true := by
      rcases set_some e1 with ⟨rfl, _⟩ | ⟨_, q1⟩
      · exact ⟨o, e, ho⟩
      · exact ⟨u, q1, o1⟩
    have z2 : ∃ u', ρ[k]? = some (some u') ∧ u'.own = true := by
      rcases set_some e2 with ⟨rfl, _⟩ | ⟨_, q2⟩
      · exact ⟨o, e, ho⟩
      · exact ⟨w, q2, o2⟩
    obtain ⟨u1, a1, a2⟩ := z1
    obtain ⟨u2, c1, c2⟩ := z2
    exact R.apart j k u1 u2 z n a1 a2 c1 c2 s1
  · by_cases ha' : a = p
    · subst ha'
      exact ⟨_, eu1⟩
    · obtain ⟨u, eu⟩ := R.dom a o0 e0
      exact ⟨u, hs _ _ ha' eu⟩
  · obtain ⟨u, g1, g2, g3⟩ := ha.kind
    exact tabs_but R.tabs g1 g2 g3 hs
/-- a list of one's own is kept for good from now on -/
theorem Rep.frzL (R : Rep K ps b σ H F ρ) {i : Nat} {ds : List D} (e : ρ[i]? = some (some (.l ds))) : ∃ p xs, σ[i]? = some (some (.ref p)) ∧ H p = some (.lst xs) ∧ F p = none ∧ Same F (upd F p (.lst xs)) ∧ Dr K (upd F p (.lst xs)) (.ref p) (.lst ds) ∧ Rep K ps b σ H (upd F p (.lst xs)) (ρ.set i (some (.d (.lst ds)))) := by
  obtain ⟨p, h1, hF, hb, xs, hx, hda⟩ := R.own e rfl
  have sF : Same F (upd F p (.lst xs)) := SX.same_upd hF
  have hd : Dr K (upd F p (.lst xs)) (.ref p) (.lst ds) := .lst upd_same hda.1 fun j v d a c => (hda.2 j v d a c).up sF
  refine ⟨p, xs, h1, hx, hF, sF, hd, ⟨fun a u e1 => ?_, R.grow.trans sF, R.keep, R.there, fun a u e1 => ?_, fun j u e1 => ?_, fun j k u w z n e1 o1 e2 o2 s1 => ?_, by rw [List.length_set, R.len], R.pin, nt_upd R.nt (fun t z => by cases z), R.dom, R.tabs⟩⟩
  · by_cases ha : a = p
    · subst ha
      rw [upd_same] at e1
      cases e1
      exact hx
    · rw [upd_ne ha] at e1
      exact R.sub _ _ e1
  · by_cases ha : a = p
    · subst ha
      rcases hb with z | z
      · exact .inr (.inl z)
      · exact .inr (.inr z)
    · rw [upd_ne ha] at e1
      exact R.new _ _ e1
  · rcases set_some e1 with ⟨rfl, q1⟩ | ⟨n, q1⟩
    · cases q1
      exact ⟨_, h1, hd⟩
    · obtain ⟨v, g1, g2⟩ := R.slot j u q1
      refine ⟨v, g1, g2.up sF fun q hv hu => ⟨?_, rfl⟩⟩
      obtain ⟨q', hq', hFq, _, haq⟩ := g2.inv hu
      rw [hv] at hq'
      cases hq'
      have nq : q ≠ p := fun z => by
        subst z
        rw [hv] at g1
        exact R.apart j i u _ _ n q1 hu e rfl g1 h1
      rw [upd_ne nq]
      exact hFq
  · rcases set_some e1 with ⟨rfl, q1⟩ | ⟨n1, q1⟩
    · cases q1; cases o1
    · rcases set_some e2 with ⟨rfl, q2⟩ | ⟨n2, q2⟩
      · cases q2; cases o2
      · exact R.apart j k u w z n q1 o1 q2 o2 s1
theorem Rep.frzM (R : Rep K ps b σ H F ρ) {i : Nat} {ds : List (Key × D)} (e : ρ[i]? = some (some (.m ds))) : ∃ p xs, σ[i]? = some (some (.ref p)) ∧ H p = some (.dK xs) ∧ F p = none ∧ Same F (upd F p (.dK xs)) ∧ Dr K (upd F p (.dK xs)) (.ref p) (.dct ds) ∧ Rep K ps b σ H (upd F p (.dK xs)) (ρ.set i (some (.d (.dct ds)))) := by
  obtain ⟨p, h1, hF, hb, xs, hx, hda⟩ := R.own e rfl
  have sF : Same F (upd F p (.dK xs)) := SX.same_upd hF
  have hd : Dr K (upd F p (.dK xs)) (.ref p) (.dct ds) := .dct upd_same hda.1 fun j v d a c => (hda.2 j v d a c).up sF
  refine ⟨p, xs, h1, hx, hF, sF, hd, ⟨fun a u e1 => ?_, R.grow.trans sF, R.keep, R.there, fun a u e1 => ?_, fun j u e1 => ?_, fun j k u w z n e1 o1 e2 o2 s1 => ?_, by rw [List.length_set, R.len], R.pin, nt_upd R.nt (fun t z => by cases z), R.dom, R.tabs⟩⟩
  · by_cases ha : a = p
    · subst ha
      rw [upd_same] at e1
      cases e1
      exact hx
    · rw [upd_ne ha] at e1
      exact R.sub _ _ e1
  · by_cases ha : a = p
    · subst ha
      rcases hb with z | z
      · exact .inr (.inl z)
      · exact .inr (.inr z)
    · rw [upd_ne ha] at e1
      exact R.new _ _ e1
  · rcases set_some e1 with ⟨rfl, q1⟩ | ⟨n, q1⟩
    · cases q1
      exact ⟨_, h1, hd⟩
    · obtain ⟨v, g1, g2⟩ := R.slot j u q1
      refine ⟨v, g1, g2.up sF fun q hv hu => ⟨?_, rfl⟩⟩
      obtain ⟨q', hq', hFq, _, haq⟩ := g2.inv hu
      rw [hv] at hq'
      cases hq'
      have nq : q ≠ p := fun z => by
        subst z
        rw [hv] at g1
        exact R.apart j i u _ _ n q1 hu e rfl g1 h1
      rw [upd_ne nq]
      exact hFq
  · rcases set_some e1 with ⟨rfl, q1⟩ | ⟨n1, q1⟩
    · cases q1; cases o1
    · rcases set_some e2 with ⟨rfl, q2⟩ | ⟨n2, q2⟩
      · cases q2; cases o2
      · exact R.apart j k u w z n q1 o1 q2 o2 s1
/-- a loose list is kept for good -/
theorem Rep.frzLoose (R : Rep K ps b σ H F ρ) {p : Addr} {u : HO} (hp : Loose b σ F ρ p) (hx : H p = some u) (hn : NT u := by intro t z; cases z) : Same F (upd F p u) ∧ Rep K ps b σ H (upd F p u) ρ := by
  have sF : Same F (upd F p u) := SX.same_upd hp.1
  refine ⟨sF, ⟨fun a w e1 => ?_, R.grow.trans sF, R.keep, R.there, fun a w e1 => ?_, fun j w e1 => ?_, R.apart, R.len, R.pin, nt_upd R.nt hn, R.dom, R.tabs⟩⟩
  · by_cases ha : a = p
    · subst ha
      rw [upd_same] at e1
      cases e1
      exact hx
    · rw [upd_ne ha] at e1
      exact R.sub _ _ e1
  · by_cases ha : a = p
    · subst ha
      exact .inr (.inl hp.2.1)
    · rw [upd_ne ha] at e1
      exact R.new _ _ e1
  · obtain ⟨v, g1, g2⟩ := R.slot j w e1
    refine ⟨v, g1, g2.up sF fun q hv hu => ⟨?_, rfl⟩⟩
    obtain ⟨q', hq', hFq, _, haq⟩ := g2.inv hu
    rw [hv] at hq'
    cases hq'
    have nq : q ≠ p := fun z => by
      subst z
      rw [hv] at g1
      exact hp.2.2 j w e1 hu g1
    rw [upd_ne nq]
    exact hFq
end
end DL
/-! Part 3: what expressions come to. -/
namespace DL
variable [Tbs]
open PySem PySem.Spec PyProof.Rows L2
abbrev DE := Env → (D → Env → Prop) → Prop
abbrev DLs := Env → (List D → Env → Prop) → Prop
abbrev DDs := Env → (List (Key × D) → Env → Prop) → Prop
abbrev DT := Env → (Bool → Env → Prop) → Prop
/-- an argument: data, or the own thing in a slot -/
inductive AV where
  | v (d : D) | s (i : Nat)
abbrev DAs := Env → (List AV → Env → Prop) → Prop
def RE (K : PySem.W.Frag) (ps : List Nat) (t : TE) (T : DE) : Prop := ∀ (b : Bs) (σ : St) (H F : Hp) (ρ : Env) (Φ : D → Env → Prop) (Q : VK), Rep K ps b σ H F ρ → T ρ Φ →
  (∀ v H' F' ρ' d, Same F F' → Rep K ps b σ H' F' ρ' → Dr K F' v d → Φ d ρ' → Q v H') → t σ H Q
/-- a new list -/
def RL (K : PySem.W.Frag) (ps : List Nat) (t : TE) (T : DLs) : Prop := ∀ (b : Bs) (σ : St) (H F : Hp) (ρ : Env) (Φ : List D → Env → Prop) (Q : VK), Rep K ps b σ H F ρ → T ρ Φ →
  (∀ p xs H' F' ρ' ds, Same F F' → Rep K ps b σ H' F' ρ' → Loose b σ F' ρ' p → H' p = some (.lst xs) → DA K F' xs ds → Φ ds ρ' → Q (.ref p) H') → t σ H Q
/-- a new dict -/
def RD (K : PySem.W.Frag) (ps : List Nat) (t : TE) (T : DDs) : Prop := ∀ (b : Bs) (σ : St) (H F : Hp) (ρ : Env) (Φ : List (Key × D) → Env → Prop) (Q : VK), Rep K ps b σ H F ρ → T ρ Φ →
  (∀ p xs H' F' ρ' ds, Same F F' → Rep K ps b σ H' F' ρ' → Loose b σ F' ρ' p → H' p = some (.dK xs) → DM K F' xs ds → Φ ds ρ' → Q (.ref p) H') → t σ H Q
def RT (K : PySem.W.Frag) (ps : List Nat) (t : TT) (T : DT) : Prop := ∀ (b : Bs) (σ : St) (H F : Hp) (ρ : Env) (Φ : Bool → Env → Prop) (Q : Bool → Hp → Prop), Rep K ps b σ H F ρ → T ρ Φ →
  (∀ c H' F' ρ', Same F F' → Rep K ps b σ H' F' ρ' → Φ c ρ' → Q c H') → t σ H Q
inductive ArgRel (K : PySem.W.Frag) (σ : St) (F : Hp) : List V → List AV → Prop
  | nil : ArgRel K σ F [] []
  | v {x : V} {d : D} {xs : List V} {as : List AV} (h : Dr K F x d) (t : ArgRel K σ F xs as) : ArgRel K σ F (x :: xs) (.v d :: as)
  | s {x : V} {i : Nat} {xs : List V} {as : List AV} (h : σ[i]? = some (some x)) (t : ArgRel K σ F xs as) : ArgRel K σ F (x :: xs) (.s i :: as)
def RA (K : PySem.W.Frag) (ps : List Nat) (t : TA) (T : DAs) : Prop := ∀ (b : Bs) (σ : St) (H F : Hp) (ρ : Env) (Φ : List AV → Env → Prop) (Q : List V → Hp → Prop), Rep K ps b σ H F ρ → T ρ Φ →
  (∀ vs H' F' ρ' as, Same F F' → Rep K ps b σ H' F' ρ' → ArgRel K σ F' vs as → Φ as ρ' → Q vs H') → t σ H Q
/-- arguments that are all data -/
def RV (K : PySem.W.Frag) (ps : List Nat) (t : TA) (T : DLs) : Prop := ∀ (b : Bs) (σ : St) (H F : Hp) (ρ : Env) (Φ : List D → Env → Prop) (Q : List V → Hp → Prop), Rep K ps b σ H F ρ → T ρ Φ →
  (∀ vs H' F' ρ' ds, Same F F' → Rep K ps b σ H' F' ρ' → DA K F' vs ds → Φ ds ρ' → Q vs H') → t σ H Q
section
variable {K : PySem.W.Frag} {ps : List Nat}
/-! ### names, constants -/
def dVarG (o : Option (Option OV)) (i : Nat) (ρ : Env) (Φ : D → Env → Prop) : Prop := match o with
  | some (some (.d d)) => Φ d ρ
  | some (some (.l ds)) => Φ (.lst ds) (ρ.set i (some (.d (.lst ds))))
  | some (some (.m ks)) => Φ (.dct ks) (ρ.set i (some (.d (.dct ks))))
  | _ => False
def dVar (i : Nat) : DE := fun ρ Φ => dVarG ρ[i]? i ρ Φ
theorem re_var (i : Nat) : RE K ps (tVar i) (dVar i) := by
  intro b σ H F ρ Φ Q R h k
  unfold dVar dVarG at h
  split at h
  · rename_i d e
    obtain ⟨v, h1, h2⟩ := R.slot i _ e
    exact ⟨v, h1, k v H F ρ d (Same.refl F) R h2 h⟩
  · rename_i ds e
    obtain ⟨p, xs, h1, hx, hF, sF, hd, R'⟩ := R.frzL e
    exact ⟨_, h1, k _ H _ _ _ sF R' hd h⟩
  · rename_i ks e
    obtain ⟨p, xs, h1, hx, hF, sF, hd, R'⟩ := R.frzM e
    exact ⟨_, h1, k _ H _ _ _ sF R' hd h⟩
  · exact h.elim
def dC (d : D) : DE := fun ρ Φ => Φ d ρ
theorem re_c {v : V} {d : D} (h : ∀ F, Dr K F v d) : RE K ps (tC v) (dC d) := fun b σ H F ρ Φ Q R hT k => k v H F ρ d (Same.refl F) R (h F) hT
theorem re_int {i : Int} : RE K ps (tC (.int i)) (dC (.int i)) := re_c fun _ => .int i
theorem re_str {x : Str} : RE K ps (tC (.str x)) (dC (.str x)) := re_c fun _ => .str x
theorem re_bl {x : Bool} : RE K ps (tC (.bl x)) (dC (.bl x)) := re_c fun _ => .bl x
theorem re_non : RE K ps (tC .non) (dC .non) := re_c fun _ => .non
theorem re_fn {a : Addr} : RE K ps (tC (.ref a)) (dC (.fn a)) := re_c fun _ => .fn a
theorem re_ty {n : String} : RE K ps (tC (.ty n)) (dC (.ty n)) := re_c fun _ => .ty n
/-- a new list is kept -/
def dK (T : DLs) : DE := fun ρ Φ => T ρ fun ds ρ' => Φ (.lst ds) ρ'
theorem RL.re {t : TE} {T : DLs} (h : RL K ps t T) : RE K ps t (dK T) := by
  intro b σ H F ρ Φ Q R hT k
  refine h b σ H F ρ _ Q R hT fun p xs H' F' ρ' ds s R' lo hx hd hΦ => ?_
  obtain ⟨sF, R2⟩ := R'.frzLoose lo hx
  exact k _ H' _ ρ' (.lst ds) (s.trans sF) R2 (.lst upd_same hd.1 fun j v d a c => (hd.2 j v d a c).up sF) hΦ
def dKd (T : DDs) : DE := fun ρ Φ => T ρ fun ds ρ' => Φ (.dct ds) ρ'
theorem RD.re {t : TE} {T : DDs} (h : RD K ps t T) : RE K ps t (dKd T) := by
  intro b σ H F ρ Φ Q R hT k
  refine h b σ H F ρ _ Q R hT fun p xs H' F' ρ' ds s R' lo hx hd hΦ => ?_
  obtain ⟨sF, R2⟩ := R'.frzLoose lo hx
  exact k _ H' _ ρ' (.dct ds) (s.trans sF) R2 (.dct upd_same hd.1 fun j v d a c => (hd.2 j v d a c).up sF) hΦ
/-! ### operators -/
abbrev DO := D → D → (D → Prop) → Prop
/-- an operation on two values, by data -/
def RO (K : PySem.W.Frag) (ps : List Nat) (r : R2) (R : DO) : Prop := ∀ (b : Bs) (σ : St) (H F : Hp) (ρ : Env) (x y : V) (d e : D) (Φ : D → Prop) (Q : VK), Rep K ps b σ H F ρ → Dr K F x d → Dr K F y e → R d e Φ →
  (∀ v H' F' z, Same F F' → Rep K ps b σ H' F' ρ → Dr K F' v z → Φ z → Q v H') → r x y H Q
def dOp (R : DO) (Ta Tb : DE) : DE := fun ρ Φ => Ta ρ fun x ρ1 => Tb ρ1 fun y ρ2 => R x y fun z => Φ z ρ2
theorem re_op {r : R2} {R : DO} {ta tb : TE} {Ta Tb : DE} (ho : RO K ps r R) (ha : RE K ps ta Ta) (hb : RE K ps tb Tb) : RE K ps (tOp r ta tb) (dOp R Ta Tb) := by
  intro b σ H F ρ Φ Q R0 hT k
  refine ha b σ H F ρ _ _ R0 hT fun x H1 F1 ρ1 d s1 R1 h1 hT => ?_
  refine hb b σ H1 F1 ρ1 _ _ R1 hT fun y H2 F2 ρ2 e s2 R2 h2 hT => ?_
  exact ho b σ H2 F2 ρ2 x y d e _ Q R2 (h1.up s2) h2 hT fun v H3 F3 z s3 R3 h3 hz => k v H3 F3 ρ2 z ((s1.trans s2).trans s3) R3 h3 hz
/-- .. that makes a list -/
def ROL (K : PySem.W.Frag) (ps : List Nat) (r : R2) (R : D → D → (List D → Prop) → Prop) : Prop := ∀ (b : Bs) (σ : St) (H F : Hp) (ρ : Env) (x y : V) (d e : D) (Φ : List D → Prop) (Q : VK), Rep K ps b σ H F ρ → Dr K F x d → Dr K F y e → R d e Φ →
  (∀ p xs H' F' ds, Same F F' → Rep K ps b σ H' F' ρ → Loose b σ F' ρ p → H' p = some (.lst xs) → DA K F' xs ds → Φ ds → Q (.ref p) H') → r x y H Q
def dOpL (R : D → D → (List D → Prop) → Prop) (Ta Tb : DE) : DLs := fun ρ Φ => Ta ρ fun x ρ1 => Tb ρ1 fun y ρ2 => R x y fun z => Φ z ρ2
theorem rl_op {r : R2} {R : D → D → (List D → Prop) → Prop} {ta tb : TE} {Ta Tb : DE} (ho : ROL K ps r R) (ha : RE K ps ta Ta) (hb : RE K ps tb Tb) : RL K ps (tOp r ta tb) (dOpL R Ta Tb) := by
  intro b σ H F ρ Φ Q R0 hT k
  refine ha b σ H F ρ _ _ R0 hT fun x H1 F1 ρ1 d s1 R1 h1 hT => ?_
  refine hb b σ H1 F1 ρ1 _ _ R1 hT fun y H2 F2 ρ2 e s2 R2 h2 hT => ?_
  exact ho b σ H2 F2 ρ2 x y d e _ Q R2 (h1.up s2) h2 hT fun p xs H3 F3 ds s3 R3 lo hx hd hz => k p xs H3 F3 ρ2 ds ((s1.trans s2).trans s3) R3 lo hx hd hz
def oI (C : Int → Int → Prop) (g : Int → Int → D) : DO := fun d e Φ => match d, e with
  | .int i, .int j => C i j ∧ Φ (g i j)
  | _, _ => False
theorem ro_I {C : Int → Int → Prop} {g : Int → Int → Int} : RO K ps (rI C fun i j => .int (g i j)) (oI C fun i j => .int (g i j)) := by
  intro b σ H F ρ x y d e Φ Q R h1 h2 hT k
  cases d <;> try exact hT.elim
  cases e <;> try exact hT.elim
  exact ⟨_, _, h1.inv_int, h2.inv_int, hT.1, k _ H F _ (Same.refl F) R (.int _) hT.2⟩
def oI0 (g : Int → Int → D) : DO := fun d e Φ => match d, e with
  | .int i, .int j => Φ (g i j)
  | _, _ => False
theorem ro_I0 {g : Int → Int → Int} : RO K ps (rI0 fun i j => .int (g i j)) (oI0 fun i j => .int (g i j)) := by
  intro b σ H F ρ x y d e Φ Q R h1 h2 hT k
  cases d <;> try exact hT.elim
  cases e <;> try exact hT.elim
  exact ⟨_, _, h1.inv_int, h2.inv_int, k _ H F _ (Same.refl F) R (.int _) hT⟩
theorem ro_B0 {g : Int → Int → Bool} : RO K ps (rI0 fun i j => .bl (g i j)) (oI0 fun i j => .bl (g i j)) := by
  intro b σ H F ρ x y d e Φ Q R h1 h2 hT k
  cases d <;> try exact hT.elim
  cases e <;> try exact hT.elim
  exact ⟨_, _, h1.inv_int, h2.inv_int, k _ H F _ (Same.refl F) R (.bl _) hT⟩
/-- == of small data -/
def eqS : D → D → Option Bool
  | .non, .non => some true | .non, .int _ => some false | .int _, .non => some false | .non, .bl _ => some false | .bl _, .non => some false | .non, .str _ => some false | .str _, .non => some false
  | .int i, .int j => some (decide (i = j)) | .bl i, .bl j => some (decide (i = j)) | .str i, .str j => some (decide (i = j))
  | .int _, .str _ => some false | .str _, .int _ => some false | .bl _, .str _ => some false | .str _, .bl _ => some false
  | _, _ => none
def oEqG (o : Option Bool) (Φ : D → Prop) : Prop := match o with
  | some c => Φ (.bl c)
  | none => False
def oNeG (o : Option Bool) (Φ : D → Prop) : Prop := match o with
  | some c => Φ (.bl (!c))
  | none => False
def oEq : DO := fun d e Φ => oEqG (eqS d e) Φ
def oNe : DO := fun d e Φ => oNeG (eqS d e) Φ
theorem eqS_ok {F : Hp} {x y : V} {d e : D} {c : Bool} (h1 : Dr K F x d) (h2 : Dr K F y e) (h : eqS d e = some c) : scal x y = true ∧ decide (x = y) = c := by
  cases d <;> cases e <;> first
    | (cases h; done)
    | (first | cases h1.inv_non | cases h1.inv_int | cases h1.inv_bl | cases h1.inv_str
       first | cases h2.inv_non | cases h2.inv_int | cases h2.inv_bl | cases h2.inv_str
       first
         | exact ⟨rfl, Option.some.inj h⟩
         | (refine ⟨rfl, ?_⟩
            have h3 := Option.some.inj h
            rw [← h3]
            simp))
theorem ro_eq : RO K ps rEq oEq := by
  intro b σ H F ρ x y d e Φ Q R h1 h2 hT k
  unfold oEq oEqG at hT
  split at hT
  · rename_i c hc
    obtain ⟨a1, a2⟩ := eqS_ok h1 h2 hc
    refine ⟨a1, ?_⟩
    rw [a2]
    exact k _ H F _ (Same.refl F) R (.bl c) hT
  · exact hT.elim
theorem ro_ne : RO K ps rNe oNe := by
  intro b σ H F ρ x y d e Φ Q R h1 h2 hT k
  unfold oNe oNeG at hT
  split at hT
  · rename_i c hc
    obtain ⟨a1, a2⟩ := eqS_ok h1 h2 hc
    refine ⟨a1, ?_⟩
    rw [a2]
    exact k _ H F _ (Same.refl F) R (.bl (!c)) hT
  · exact hT.elim
def isNon : D → Bool
  | .non => true
  | _ => false
theorem isNon_ok {F : Hp} {x : V} {d : D} (h : Dr K F x d) : decide (x = .non) = isNon d := by
  cases h <;> rfl
def oIsN : DO := fun d e Φ => isNon e = true ∧ Φ (.bl (isNon d))
def oNotN : DO := fun d e Φ => isNon e = true ∧ Φ (.bl (!isNon d))
theorem ro_isN : RO K ps (fun x y H Q => y = .non ∧ Q (.bl (decide (x = .non))) H) oIsN := by
  intro b σ H F ρ x y d e Φ Q R h1 h2 hT k
  obtain ⟨he, hT⟩ := hT
  have h3 := isNon_ok h2
  rw [he] at h3
  refine ⟨of_decide_eq_true h3, ?_⟩
  rw [isNon_ok h1]
  exact k _ H F _ (Same.refl F) R (.bl _) hT
theorem ro_notN : RO K ps (fun x y H Q => y = .non ∧ Q (.bl (!decide (x = .non))) H) oNotN := by
  intro b σ H F ρ x y d e Φ Q R h1 h2 hT k
  obtain ⟨he, hT⟩ := hT
  have h3 := isNon_ok h2
  rw [he] at h3
  refine ⟨of_decide_eq_true h3, ?_⟩
  rw [isNon_ok h1]
  exact k _ H F _ (Same.refl F) R (.bl _) hT
/-- texts put together -/
def oCatS : DO := fun d e Φ => match d, e with
  | .str i, .str j => i.length + j.length ≤ sizeLine ∧ Φ (.str (i ++ j))
  | _, _ => False
theorem ro_catS : RO K ps (fun x y H Q => ∃ i j, x = .str i ∧ y = .str j ∧ i.length + j.length ≤ sizeLine ∧ Q (.str (i ++ j)) H) oCatS := by
  intro b σ H F ρ x y d e Φ Q R h1 h2 hT k
  cases d <;> try exact hT.elim
  cases e <;> try exact hT.elim
  exact ⟨_, _, h1.inv_str, h2.inv_str, hT.1, k _ H F _ (Same.refl F) R (.str _) hT.2⟩
/-- lists put together -/
def oCat : D → D → (List D → Prop) → Prop := fun d e Φ => match d, e with
  | .lst i, .lst j => i.length + j.length ≤ sizeLine ∧ Φ (i ++ j)
  | _, _ => False
theorem rol_cat : ROL K ps rCat oCat := by
  intro b σ H F ρ x y d e Φ Q R h1 h2 hT k
  cases d <;> try exact hT.elim
  cases e <;> try exact hT.elim
  obtain ⟨a, xs, rfl, ea, ha⟩ := h1.inv_lst
  obtain ⟨c, ys, rfl, ec, hc⟩ := h2.inv_lst
  refine ⟨a, c, xs, ys, rfl, rfl, R.sub _ _ ea, R.sub _ _ ec, by rw [ha.1, hc.1]; exact hT.1, fun p hp => ?_⟩
  exact k p _ _ F _ (Same.refl F) (R.put hp) (R.loose hp) upd_same (ha.app hc) hT.2
end
end DL
/-! Part 4: more of what expressions come to. -/
namespace DL
variable [Tbs]
open PySem PySem.Spec PyProof.Rows L2
section
variable {X : Cx}
/-- k in d, any key -/
def rInDK : R2 := fun x y H Q => ∃ a o, y = .ref a ∧ DGet H a x o ∧ Q (.bl o.isSome) H
def rNotInDK : R2 := fun x y H Q => ∃ a o, y = .ref a ∧ DGet H a x o ∧ Q (.bl (!o.isSome)) H
theorem op_inDK (hu : X.A.units + 1 < cLine) : OpR X (compareOp .In) rInDK := by
  intro pins s σ H x y v u Q I rx ry h
  obtain ⟨a, o, rfl, e, q⟩ := h
  cases ry
  exact d_in hu I e rx fun s' I' => ⟨.bl _, H, I', rfl, q⟩
theorem op_notInDK (hu : X.A.units + 1 < cLine) : OpR X (compareOp .NotIn) rNotInDK := by
  intro pins s σ H x y v u Q I rx ry h
  obtain ⟨a, o, rfl, e, q⟩ := h
  cases ry
  exact d_notIn hu I e rx fun s' I' => ⟨.bl _, H, I', rfl, q⟩
end
section
variable {K : PySem.W.Frag} {ps : List Nat}
/-! ### tuples put together -/
def oCatT : DO := fun d e Φ => match d, e with
  | .tup i, .tup j => i.length + j.length ≤ sizeLine ∧ Φ (.tup (i ++ j))
  | _, _ => False
theorem ro_catT : RO K ps (rCatA K) oCatT := by
  intro b σ H F ρ x y d e Φ Q R h1 h2 hT k
  cases d <;> try exact hT.elim
  cases e <;> try exact hT.elim
  rename_i i j
  obtain ⟨a, xs, rfl, ea, ha⟩ := h1.inv_tup
  obtain ⟨c, ys, rfl, ec, hc⟩ := h2.inv_tup
  have up : ∀ {q : Addr} {zs : List V}, SqT K F q zs → SqT K H q zs := fun h => sqT_same R.sub h
  refine ⟨a, c, xs, ys, rfl, rfl, up ea, up ec, by rw [ha.1, hc.1]; exact hT.1, fun hx => ?_, fun _ hy => ?_, fun _ _ p hp => ?_⟩
  · subst hx
    have hi : i = [] := List.length_eq_zero_iff.mp ha.1.symm
    subst hi
    exact k _ H F _ (Same.refl F) R h2 hT.2
  · subst hy
    have hj : j = [] := List.length_eq_zero_iff.mp hc.1.symm
    subst hj
    refine k _ H F (.tup i) (Same.refl F) R h1 ?_
    have := hT.2
    rwa [List.append_nil] at this
  · obtain ⟨hF, _⟩ := R.fresh hp
    have sF : Same F (upd F p (.tup (xs ++ ys))) := SX.same_upd hF
    exact k _ _ _ _ sF (R.alloc hp) (.tup (SqT.of upd_same) (ha.app hc).1 fun j v d a c' => ((ha.app hc).2 j v d a c').up sF) hT.2
/-! ### arguments -/
def dNil : DLs := fun ρ Φ => Φ [] ρ
theorem rv_nil : RV K ps tNil dNil := fun b σ H F ρ Φ Q R hT k => k [] H F ρ [] (Same.refl F) R .nil hT
def dCons (Ta : DE) (Tr : DLs) : DLs := fun ρ Φ => Ta ρ fun x ρ1 => Tr ρ1 fun xs ρ2 => Φ (x :: xs) ρ2
theorem rv_cons {ta : TE} {tr : TA} {Ta : DE} {Tr : DLs} (ha : RE K ps ta Ta) (hr : RV K ps tr Tr) : RV K ps (tCons ta tr) (dCons Ta Tr) := by
  intro b σ H F ρ Φ Q R0 hT k
  refine ha b σ H F ρ _ _ R0 hT fun x H1 F1 ρ1 d s1 R1 h1 hT => ?_
  exact hr b σ H1 F1 ρ1 _ _ R1 hT fun xs H2 F2 ρ2 ds s2 R2 h2 hT => k _ H2 F2 ρ2 _ (s1.trans s2) R2 (.cons (h1.up s2) h2) hT
def dANil : DAs := fun ρ Φ => Φ [] ρ
theorem ra_nil : RA K ps tNil dANil := fun b σ H F ρ Φ Q R hT k => k [] H F ρ [] (Same.refl F) R .nil hT
theorem ArgRel.up {σ : St} {F F' : Hp} (s : Same F F') {vs : List V} {as : List AV} (h : ArgRel K σ F vs as) : ArgRel K σ F' vs as := by
  induction h with
  | nil => exact .nil
  | v h _ ih => exact .v (h.up s) ih
  | s h _ ih => exact .s h ih
def dACons (Ta : DE) (Tr : DAs) : DAs := fun ρ Φ => Ta ρ fun x ρ1 => Tr ρ1 fun xs ρ2 => Φ (.v x :: xs) ρ2
theorem ra_cons {ta : TE} {tr : TA} {Ta : DE} {Tr : DAs} (ha : RE K ps ta Ta) (hr : RA K ps tr Tr) : RA K ps (tCons ta tr) (dACons Ta Tr) := by
  intro b σ H F ρ Φ Q R0 hT k
  refine ha b σ H F ρ _ _ R0 hT fun x H1 F1 ρ1 d s1 R1 h1 hT => ?_
  exact hr b σ H1 F1 ρ1 _ _ R1 hT fun xs H2 F2 ρ2 ds s2 R2 h2 hT => k _ H2 F2 ρ2 _ (s1.trans s2) R2 (.v (h1.up s2) h2) hT
/-- the own thing in slot i -/
def dASlot (i : Nat) (Tr : DAs) : DAs := fun ρ Φ => (ρ[i]?.join).isSome = true ∧ Tr ρ fun xs ρ2 => Φ (.s i :: xs) ρ2
theorem slot_some {b : Bs} {σ : St} {H F : Hp} {ρ : Env} (R : Rep K ps b σ H F ρ) {i : Nat} (h : (ρ[i]?.join).isSome = true) : ∃ v, σ[i]? = some (some v) := by
  cases e : ρ[i]? with
  | none => rw [e] at h; cases h
  | some o =>
    cases o with
    | none => rw [e] at h; cases h
    | some o =>
      obtain ⟨v, h1, _⟩ := R.slot i o e
      exact ⟨v, h1⟩
theorem ra_slot {i : Nat} {tr : TA} {Tr : DAs} (hr : RA K ps tr Tr) : RA K ps (tCons (tVar i) tr) (dASlot i Tr) := by
  intro b σ H F ρ Φ Q R0 hT k
  obtain ⟨v, hv⟩ := slot_some R0 hT.1
  exact ⟨v, hv, hr b σ H F ρ _ _ R0 hT.2 fun xs H2 F2 ρ2 as s2 R2 h2 hT => k _ H2 F2 ρ2 _ s2 R2 (.s hv h2) hT⟩
/-! ### displays -/
def dTup (T : DLs) : DE := fun ρ Φ => T ρ fun ds ρ' => ds.length ≤ sizeLine ∧ Φ (.tup ds) ρ'
theorem re_tup {t : TA} {T : DLs} (h : RV K ps t T) : RE K ps (tTup t) (dTup T) := by
  intro b σ H F ρ Φ Q R0 hT k
  refine h b σ H F ρ _ _ R0 hT fun xs H1 F1 ρ1 ds s1 R1 h1 hT => ⟨by rw [h1.1]; exact hT.1, fun p hp => ?_⟩
  obtain ⟨hF, _⟩ := R1.fresh hp
  have sF : Same F1 (upd F1 p (.tup xs)) := SX.same_upd hF
  exact k _ _ _ ρ1 _ (s1.trans sF) (R1.alloc hp) (.tup (SqT.of upd_same) h1.1 fun j v d a c => (h1.2 j v d a c).up sF) hT.2
def dLst (T : DLs) : DLs := fun ρ Φ => T ρ fun ds ρ' => ds.length ≤ sizeLine ∧ Φ ds ρ'
theorem rl_lst {t : TA} {T : DLs} (h : RV K ps t T) : RL K ps (tLst t) (dLst T) := by
  intro b σ H F ρ Φ Q R0 hT k
  refine h b σ H F ρ _ _ R0 hT fun xs H1 F1 ρ1 ds s1 R1 h1 hT => ⟨by rw [h1.1]; exact hT.1, fun p hp => ?_⟩
  exact k p xs _ F1 ρ1 ds s1 (R1.put hp) (R1.loose hp) upd_same h1 hT.2
def dNewD : DDs := fun ρ Φ => Φ [] ρ
theorem rd_new : RD K ps tDNewK dNewD := by
  intro b σ H F ρ Φ Q R0 hT k
  exact fun p hp => k p [] _ F ρ [] (Same.refl F) (R0.put hp) (R0.loose hp) upd_same .nil hT
/-! ### places -/
def oIx : DO := fun d e Φ => match d, e with
  | .tup ds, .int i => ∃ x, atI ds i = some x ∧ Φ x
  | .lst ds, .int i => ∃ x, atI ds i = some x ∧ Φ x
  | _, _ => False
def oIxT : DO := fun d e Φ => match d, e with
  | .tup ds, .int i => ∃ x, atI ds i = some x ∧ Φ x
  | _, _ => False
theorem ro_ixT : RO K ps (rIxT K) oIxT := by
  intro b σ H F ρ x y d e Φ Q R h1 h2 hT k
  cases d <;> try exact hT.elim
  cases e <;> try exact hT.elim
  obtain ⟨z, hz, hT⟩ := hT
  obtain ⟨a, xs, rfl, ea, ha⟩ := h1.inv_tup
  obtain ⟨v, hv, hd⟩ := ha.atI hz
  exact ⟨a, xs, _, v, rfl, h2.inv_int, sqT_same R.sub ea, hv, k v H F z (Same.refl F) R hd hT⟩
def oIxL : DO := fun d e Φ => match d, e with
  | .lst ds, .int i => ∃ x, atI ds i = some x ∧ Φ x
  | _, _ => False
theorem ro_ixL : RO K ps (rIxL K) oIxL := by
  intro b σ H F ρ x y d e Φ Q R h1 h2 hT k
  cases d <;> try exact hT.elim
  cases e <;> try exact hT.elim
  obtain ⟨z, hz, hT⟩ := hT
  obtain ⟨a, xs, rfl, ea, ha⟩ := h1.inv_lst
  obtain ⟨v, hv, hd⟩ := ha.atI hz
  exact ⟨a, xs, _, v, rfl, h2.inv_int, SqL.of (R.sub _ _ ea), hv, k v H F z (Same.refl F) R hd hT⟩
theorem ro_ix : RO K ps (rIx K) oIx := by
  intro b σ H F ρ x y d e Φ Q R h1 h2 hT k
  cases d <;> try exact hT.elim
  · cases e <;> try exact hT.elim
    exact .inr (.inl (ro_ixT b σ H F ρ x y _ _ Φ Q R h1 h2 hT k))
  · cases e <;> try exact hT.elim
    exact .inl (ro_ixL b σ H F ρ x y _ _ Φ Q R h1 h2 hT k)
/-- what stands in slot i, as it is now -/
def peekG (o : Option (Option OV)) : Option D := match o with
  | some (some (.d d)) => some d
  | some (some (.l ds)) => some (.lst ds)
  | some (some (.m ks)) => some (.dct ks)
  | _ => none
def peek (ρ : Env) (i : Nat) : Option D := peekG ρ[i]?
/-- the list in slot i, not kept -/
theorem peek_lst {b : Bs} {σ : St} {H F : Hp} {ρ : Env} (R : Rep K ps b σ H F ρ) {i : Nat} {ds : List D} (h : peek ρ i = some (.lst ds)) {v : V} (hv : σ[i]? = some (some v)) : ∃ a xs, v = .ref a ∧ H a = some (.lst xs) ∧ DA K F xs ds := by
  unfold peek peekG at h
  split at h
  · rename_i d e
    cases h
    obtain ⟨w, h1, h2⟩ := R.slot i _ e
    rw [hv] at h1
    cases h1
    obtain ⟨a, xs, rfl, e1, e2⟩ := Dr.inv_lst h2
    exact ⟨a, xs, rfl, R.sub _ _ e1, e2⟩
  · rename_i ds' e
    cases h
    obtain ⟨p, h1, _, _, xs, e1, e2⟩ := R.own e rfl
    rw [hv] at h1
    cases h1
    exact ⟨p, xs, rfl, e1, e2⟩
  · cases h
  · cases h
theorem peek_dct {b : Bs} {σ : St} {H F : Hp} {ρ : Env} (R : Rep K ps b σ H F ρ) {i : Nat} {ds : List (Key × D)} (h : peek ρ i = some (.dct ds)) {v : V} (hv : σ[i]? = some (some v)) : ∃ a xs, v = .ref a ∧ H a = some (.dK xs) ∧ DM K F xs ds := by
  unfold peek peekG at h
  split at h
  · rename_i d e
    cases h
    obtain ⟨w, h1, h2⟩ := R.slot i _ e
    rw [hv] at h1
    cases h1
    obtain ⟨a, xs, rfl, e1, e2⟩ := Dr.inv_dct h2
    exact ⟨a, xs, rfl, R.sub _ _ e1, e2⟩
  · cases h
  · rename_i ds' e
    cases h
    obtain ⟨p, h1, _, _, xs, e1, e2⟩ := R.own e rfl
    rw [hv] at h1
    cases h1
    exact ⟨p, xs, rfl, e1, e2⟩
  · cases h
/-- x[e], x the slot's list -/
def dIxS (i : Nat) (Tb : DE) : DE := fun ρ Φ => (ρ[i]?.join).isSome = true ∧ Tb ρ fun y ρ2 => ∃ ds j x, peek ρ2 i = some (.lst ds) ∧ y = .int j ∧ atI ds j = some x ∧ Φ x ρ2
theorem re_ixS {i : Nat} {tb : TE} {Tb : DE} (hb : RE K ps tb Tb) : RE K ps (tOp (rIxL K) (tVar i) tb) (dIxS i Tb) := by
  intro b σ H F ρ Φ Q R0 hT k
  obtain ⟨v, hv⟩ := slot_some R0 hT.1
  refine ⟨v, hv, hb b σ H F ρ _ _ R0 hT.2 fun y H2 F2 ρ2 e s2 R2 h2 hT => ?_⟩
  obtain ⟨ds, j, x, hp, rfl, hx, hT⟩ := hT
  obtain ⟨a, xs, rfl, ea, ha⟩ := peek_lst R2 hp hv
  obtain ⟨w, hw, hd⟩ := ha.atI hx
  exact ⟨a, xs, j, w, rfl, h2.inv_int, SqL.of ea, hw, k w H2 F2 ρ2 x s2 R2 hd hT⟩
theorem re_ixS' {i : Nat} {tb : TE} {Tb : DE} (hb : RE K ps tb Tb) : RE K ps (tOp (rIx K) (tVar i) tb) (dIxS i Tb) := by
  intro b σ H F ρ Φ Q R0 hT k
  obtain ⟨v, hv⟩ := slot_some R0 hT.1
  refine ⟨v, hv, hb b σ H F ρ _ _ R0 hT.2 fun y H2 F2 ρ2 e s2 R2 h2 hT => ?_⟩
  obtain ⟨ds, j, x, hp, rfl, hx, hT⟩ := hT
  obtain ⟨a, xs, rfl, ea, ha⟩ := peek_lst R2 hp hv
  obtain ⟨w, hw, hd⟩ := ha.atI hx
  exact .inl ⟨a, xs, j, w, rfl, h2.inv_int, SqL.of ea, hw, k w H2 F2 ρ2 x s2 R2 hd hT⟩
/-! ### in -/
def flatD : D → Bool
  | .non | .bl _ | .int _ | .str _ => true
  | _ => false
def eqD : D → D → Bool
  | .non, .non => true
  | .bl a, .bl b => a == b
  | .bl a, .int b => (if a then 1 else 0) == b
  | .int a, .bl b => a == (if b then 1 else 0)
  | .int a, .int b => a == b
  | .str a, .str b => a == b
  | _, _ => false
def inD (x : D) (xs : List D) : Bool := xs.any fun y => eqD y x
theorem flat_ok {F : Hp} {v : V} {d : D} (h : Dr K F v d) (f : flatD d = true) : flatV v = true := by
  cases h <;> first | rfl | cases f
theorem eqD_ok {F : Hp} {v w : V} {d e : D} (h : Dr K F v d) (h2 : Dr K F w e) (f : flatD d = true) (f2 : flatD e = true) : eqV v w = eqD d e := by
  cases h <;> first | (cases f; done) | (cases h2 <;> first | rfl | cases f2)
theorem inD_ok {F : Hp} {v : V} {d : D} (h : Dr K F v d) (f : flatD d = true) : ∀ {ds : List D} {xs : List V}, DA K F xs ds → ds.all flatD = true → xs.all flatV = true ∧ inV v xs = inD d ds
  | [], xs, hd, _ => by
    rw [hd.inv_nil]
    exact ⟨rfl, rfl⟩
  | e :: ds, xs, hd, ha => by
    obtain ⟨w, r, rfl, h1, h2⟩ := hd.inv
    rw [List.all_cons, Bool.and_eq_true] at ha
    obtain ⟨i1, i2⟩ := inD_ok h f h2 ha.2
    refine ⟨by rw [List.all_cons, flat_ok h1 ha.1, i1]; rfl, ?_⟩
    show (eqV w v || inV v r) = (eqD e d || inD d ds)
    rw [eqD_ok h1 h ha.1 f, i2]
def seqD : D → Option (List D)
  | .tup ds => some ds
  | .lst ds => some ds
  | _ => none
def oIn (neg : Bool) : DO := fun d e Φ => ∃ ds, seqD e = some ds ∧ flatD d = true ∧ ds.all flatD = true ∧ Φ (.bl (if neg then !inD d ds else inD d ds))
theorem ro_in {neg : Bool} : RO K ps (rIn K neg) (oIn neg) := by
  intro b σ H F ρ x y d e Φ Q R h1 h2 hT k
  obtain ⟨ds, hs, fd, fs, hT⟩ := hT
  cases e <;> try (cases hs; done)
  · cases hs
    obtain ⟨a, xs, rfl, ea, ha⟩ := h2.inv_tup
    obtain ⟨i1, i2⟩ := inD_ok h1 fd ha fs
    refine ⟨a, xs, rfl, .inr (sqT_same R.sub ea), flat_ok h1 fd, i1, ?_⟩
    rw [i2]
    exact k _ H F _ (Same.refl F) R (.bl _) hT
  · cases hs
    obtain ⟨a, xs, rfl, ea, ha⟩ := h2.inv_lst
    obtain ⟨i1, i2⟩ := inD_ok h1 fd ha fs
    refine ⟨a, xs, rfl, .inl (SqL.of (R.sub _ _ ea)), flat_ok h1 fd, i1, ?_⟩
    rw [i2]
    exact k _ H F _ (Same.refl F) R (.bl _) hT
/-! ### dicts -/
def keyD : D → Option Key
  | .int i => some (.inl i)
  | .str x => some (.inr x)
  | _ => none
theorem keyD_ok {F : Hp} {v : V} {d : D} {k : Key} (h : Dr K F v d) (e : keyD d = some k) : v = kV k := by
  cases h <;> first | (cases e; done) | (cases e; rfl)
theorem dget_ok {F H : Hp} {a : Addr} {v : V} {d : D} {k : Key} {xs : List (Key × V)} {ds : List (Key × D)} (h : Dr K F v d) (e : keyD d = some k) (hd : DM K F xs ds) (ha : H a = some (.dK xs)) : match valD ds k with
    | none => DGet H a v none
    | some z => ∃ w, DGet H a v (some w) ∧ Dr K F w z := by
  have m := hd.val (k := k)
  rw [keyD_ok h e]
  have g := DGet.k (k := k) ha
  cases e1 : valD ds k with
  | none =>
    rw [e1] at m
    rw [show valV xs k = none from m] at g
    exact g
  | some z =>
    rw [e1] at m
    obtain ⟨w, h1, h2⟩ := (show ∃ v, valV xs k = some v ∧ Dr K F v z from m)
    rw [h1] at g
    exact ⟨w, g, h2⟩
/-- k in x, x the slot's dict -/
def dInS (neg : Bool) (Ta : DE) (i : Nat) : DE := fun ρ Φ => Ta ρ fun x ρ1 => ∃ ds k, peek ρ1 i = some (.dct ds) ∧ keyD x = some k ∧ Φ (.bl (if neg then !(valD ds k).isSome else (valD ds k).isSome)) ρ1
theorem peek_some {ρ : Env} {i : Nat} {d : D} (h : peek ρ i = some d) : (ρ[i]?.join).isSome = true := by
  unfold peek peekG at h
  split at h <;> first | (rename_i e; rw [e]; rfl) | cases h
theorem re_inS {i : Nat} {ta : TE} {Ta : DE} (ha : RE K ps ta Ta) : RE K ps (tOp rInDK ta (tVar i)) (dInS false Ta i) := by
  intro b σ H F ρ Φ Q R0 hT k
  refine ha b σ H F ρ _ _ R0 hT fun x H1 F1 ρ1 d s1 R1 h1 hT => ?_
  obtain ⟨ds, key, hp, hk, hT⟩ := hT
  obtain ⟨v, hv⟩ := slot_some R1 (peek_some hp)
  obtain ⟨a, xs, rfl, ea, hm⟩ := peek_dct R1 hp hv
  have g := dget_ok h1 hk hm ea
  cases e : valD ds key with
  | none =>
    rw [e] at g hT
    exact ⟨_, hv, a, none, rfl, g, k _ H1 F1 ρ1 _ s1 R1 (.bl _) hT⟩
  | some z =>
    rw [e] at g hT
    obtain ⟨w, g, _⟩ := g
    exact ⟨_, hv, a, some w, rfl, g, k _ H1 F1 ρ1 _ s1 R1 (.bl _) hT⟩
theorem re_notInS {i : Nat} {ta : TE} {Ta : DE} (ha : RE K ps ta Ta) : RE K ps (tOp rNotInDK ta (tVar i)) (dInS true Ta i) := by
  intro b σ H F ρ Φ Q R0 hT k
  refine ha b σ H F ρ _ _ R0 hT fun x H1 F1 ρ1 d s1 R1 h1 hT => ?_
  obtain ⟨ds, key, hp, hk, hT⟩ := hT
  obtain ⟨v, hv⟩ := slot_some R1 (peek_some hp)
  obtain ⟨a, xs, rfl, ea, hm⟩ := peek_dct R1 hp hv
  have g := dget_ok h1 hk hm ea
  cases e : valD ds key with
  | none =>
    rw [e] at g hT
    exact ⟨_, hv, a, none, rfl, g, k _ H1 F1 ρ1 _ s1 R1 (.bl _) hT⟩
  | some z =>
    rw [e] at g hT
    obtain ⟨w, g, _⟩ := g
    exact ⟨_, hv, a, some w, rfl, g, k _ H1 F1 ρ1 _ s1 R1 (.bl _) hT⟩
def oInD (neg : Bool) : DO := fun d e Φ => match e with
  | .dct ds => ∃ k, keyD d = some k ∧ Φ (.bl (if neg then !(valD ds k).isSome else (valD ds k).isSome))
  | _ => False
theorem ro_inD : RO K ps rInDK (oInD false) := by
  intro b σ H F ρ x y d e Φ Q R h1 h2 hT k
  cases e <;> try exact hT.elim
  obtain ⟨key, hk, hT⟩ := hT
  obtain ⟨a, xs, rfl, ea, hm⟩ := h2.inv_dct
  have g := dget_ok h1 hk hm (R.sub _ _ ea)
  rename_i ds
  cases e : valD ds key with
  | none =>
    rw [e] at g hT
    exact ⟨a, none, rfl, g, k _ H F _ (Same.refl F) R (.bl _) hT⟩
  | some z =>
    rw [e] at g hT
    obtain ⟨w, g, _⟩ := g
    exact ⟨a, some w, rfl, g, k _ H F _ (Same.refl F) R (.bl _) hT⟩
theorem ro_notInD : RO K ps rNotInDK (oInD true) := by
  intro b σ H F ρ x y d e Φ Q R h1 h2 hT k
  cases e <;> try exact hT.elim
  obtain ⟨key, hk, hT⟩ := hT
  obtain ⟨a, xs, rfl, ea, hm⟩ := h2.inv_dct
  have g := dget_ok h1 hk hm (R.sub _ _ ea)
  rename_i ds
  cases e : valD ds key with
  | none =>
    rw [e] at g hT
    exact ⟨a, none, rfl, g, k _ H F _ (Same.refl F) R (.bl _) hT⟩
  | some z =>
    rw [e] at g hT
    obtain ⟨w, g, _⟩ := g
    exact ⟨a, some w, rfl, g, k _ H F _ (Same.refl F) R (.bl _) hT⟩
/-- x[k], a dict -/
def dDGet (Td Ty : DE) : DE := fun ρ Φ => Td ρ fun x ρ1 => Ty ρ1 fun y ρ2 => ∃ ds k z, x = .dct ds ∧ keyD y = some k ∧ valD ds k = some z ∧ Φ z ρ2
theorem re_dget {td ty : TE} {Td Ty : DE} (hd : RE K ps td Td) (hy : RE K ps ty Ty) : RE K ps (tDGet td ty) (dDGet Td Ty) := by
  intro b σ H F ρ Φ Q R0 hT k
  refine hd b σ H F ρ _ _ R0 hT fun x H1 F1 ρ1 d s1 R1 h1 hT => ?_
  refine hy b σ H1 F1 ρ1 _ _ R1 hT fun y H2 F2 ρ2 e s2 R2 h2 hT => ?_
  obtain ⟨ds, key, z, rfl, hk, hz, hT⟩ := hT
  obtain ⟨a, xs, rfl, ea, hm⟩ := (h1.up s2).inv_dct
  have g := dget_ok h2 hk hm (R2.sub _ _ ea)
  rw [hz] at g
  obtain ⟨w, g, hw⟩ := g
  exact ⟨a, w, rfl, g, k w H2 F2 ρ2 z (s1.trans s2) R2 hw hT⟩
def dDGetS (i : Nat) (Ty : DE) : DE := fun ρ Φ => (ρ[i]?.join).isSome = true ∧ Ty ρ fun y ρ2 => ∃ ds k z, peek ρ2 i = some (.dct ds) ∧ keyD y = some k ∧ valD ds k = some z ∧ Φ z ρ2
theorem re_dgetS {i : Nat} {ty : TE} {Ty : DE} (hy : RE K ps ty Ty) : RE K ps (tDGet (tVar i) ty) (dDGetS i Ty) := by
  intro b σ H F ρ Φ Q R0 hT k
  obtain ⟨v, hv⟩ := slot_some R0 hT.1
  refine ⟨v, hv, hy b σ H F ρ _ _ R0 hT.2 fun y H2 F2 ρ2 e s2 R2 h2 hT => ?_⟩
  obtain ⟨ds, key, z, hp, hk, hz, hT⟩ := hT
  obtain ⟨a, xs, rfl, ea, hm⟩ := peek_dct R2 hp hv
  have g := dget_ok h2 hk hm ea
  rw [hz] at g
  obtain ⟨w, g, hw⟩ := g
  exact ⟨a, w, rfl, g, k w H2 F2 ρ2 z s2 R2 hw hT⟩
/-- x.get(k), x.get(k, z): the slot's dict -/
def dGet1S (i : Nat) (Ty : DE) : DE := fun ρ Φ => (∃ ds, peek ρ i = some (.dct ds)) ∧ Ty ρ fun y ρ2 => ∃ ds k, peek ρ2 i = some (.dct ds) ∧ keyD y = some k ∧ Φ ((valD ds k).getD .non) ρ2
theorem re_get1S {i : Nat} {ty : TE} {Ty : DE} (hy : RE K ps ty Ty) : RE K ps (tDGet1 (tVar i) ty) (dGet1S i Ty) := by
  intro b σ H F ρ Φ Q R0 hT k
  obtain ⟨⟨ds0, hp0⟩, hT⟩ := hT
  obtain ⟨v, hv⟩ := slot_some R0 (peek_some hp0)
  obtain ⟨a, xs0, rfl, ea0, _⟩ := peek_dct R0 hp0 hv
  refine ⟨_, hv, a, rfl, .inl ⟨xs0, .inl ea0⟩, hy b σ H F ρ _ _ R0 hT fun y H2 F2 ρ2 e s2 R2 h2 hT => ?_⟩
  obtain ⟨ds, key, hp, hk, hT⟩ := hT
  obtain ⟨a', xs, ea', ea, hm⟩ := peek_dct R2 hp hv
  cases ea'
  have g := dget_ok h2 hk hm ea
  cases e : valD ds key with
  | none =>
    rw [e] at g hT
    exact ⟨none, g, k _ H2 F2 ρ2 _ s2 R2 .non hT⟩
  | some z =>
    rw [e] at g hT
    obtain ⟨w, g, hw⟩ := g
    exact ⟨some w, g, k _ H2 F2 ρ2 _ s2 R2 hw hT⟩
def dGet2S (i : Nat) (Ty Tz : DE) : DE := fun ρ Φ => (∃ ds, peek ρ i = some (.dct ds)) ∧ Ty ρ fun y ρ1 => Tz ρ1 fun z ρ2 => ∃ ds k, peek ρ2 i = some (.dct ds) ∧ keyD y = some k ∧ Φ ((valD ds k).getD z) ρ2
theorem re_get2S {i : Nat} {ty tz : TE} {Ty Tz : DE} (hy : RE K ps ty Ty) (hz : RE K ps tz Tz) : RE K ps (tDGet2 (tVar i) ty tz) (dGet2S i Ty Tz) := by
  intro b σ H F ρ Φ Q R0 hT k
  obtain ⟨⟨ds0, hp0⟩, hT⟩ := hT
  obtain ⟨v, hv⟩ := slot_some R0 (peek_some hp0)
  obtain ⟨a, xs0, rfl, ea0, _⟩ := peek_dct R0 hp0 hv
  refine ⟨_, hv, a, rfl, .inl ⟨xs0, .inl ea0⟩, hy b σ H F ρ _ _ R0 hT fun y H1 F1 ρ1 e s1 R1 h1 hT => ?_⟩
  refine hz b σ H1 F1 ρ1 _ _ R1 hT fun z H2 F2 ρ2 f s2 R2 h2 hT => ?_
  obtain ⟨ds, key, hp, hk, hT⟩ := hT
  obtain ⟨a', xs, ea', ea, hm⟩ := peek_dct R2 hp hv
  cases ea'
  have g := dget_ok (h1.up s2) hk hm ea
  cases e : valD ds key with
  | none =>
    rw [e] at g hT
    exact ⟨none, g, k _ H2 F2 ρ2 _ (s1.trans s2) R2 h2 hT⟩
  | some z =>
    rw [e] at g hT
    obtain ⟨w, g, hw⟩ := g
    exact ⟨some w, g, k _ H2 F2 ρ2 _ (s1.trans s2) R2 hw hT⟩
def dGet1 (Td Ty : DE) : DE := fun ρ Φ => Td ρ fun x ρ1 => ∃ ds, x = .dct ds ∧ Ty ρ1 fun y ρ2 => ∃ k, keyD y = some k ∧ Φ ((valD ds k).getD .non) ρ2
theorem re_get1 {td ty : TE} {Td Ty : DE} (hd : RE K ps td Td) (hy : RE K ps ty Ty) : RE K ps (tDGet1 td ty) (dGet1 Td Ty) := by
  intro b σ H F ρ Φ Q R0 hT k
  refine hd b σ H F ρ _ _ R0 hT fun x H1 F1 ρ1 d s1 R1 h1 hT => ?_
  obtain ⟨ds, rfl, hT⟩ := hT
  obtain ⟨a, xs, rfl, ea, hm⟩ := h1.inv_dct
  refine ⟨a, rfl, .inl ⟨xs, .inl (R1.sub _ _ ea)⟩, hy b σ H1 F1 ρ1 _ _ R1 hT fun y H2 F2 ρ2 e s2 R2 h2 hT => ?_⟩
  obtain ⟨key, hk, hT⟩ := hT
  have g := dget_ok h2 hk (hm.up s2) (R2.sub _ _ (s2 _ _ ea))
  cases e : valD ds key with
  | none =>
    rw [e] at g hT
    exact ⟨none, g, k _ H2 F2 ρ2 _ (s1.trans s2) R2 .non hT⟩
  | some z =>
    rw [e] at g hT
    obtain ⟨w, g, hw⟩ := g
    exact ⟨some w, g, k _ H2 F2 ρ2 _ (s1.trans s2) R2 hw hT⟩
def dGet2 (Td Ty Tz : DE) : DE := fun ρ Φ => Td ρ fun x ρ1 => ∃ ds, x = .dct ds ∧ Ty ρ1 fun y ρ2 => Tz ρ2 fun z ρ3 => ∃ k, keyD y = some k ∧ Φ ((valD ds k).getD z) ρ3
theorem re_get2 {td ty tz : TE} {Td Ty Tz : DE} (hd : RE K ps td Td) (hy : RE K ps ty Ty) (hz : RE K ps tz Tz) : RE K ps (tDGet2 td ty tz) (dGet2 Td Ty Tz) := by
  intro b σ H F ρ Φ Q R0 hT k
  refine hd b σ H F ρ _ _ R0 hT fun x H1 F1 ρ1 d s1 R1 h1 hT => ?_
  obtain ⟨ds, rfl, hT⟩ := hT
  obtain ⟨a, xs, rfl, ea, hm⟩ := h1.inv_dct
  refine ⟨a, rfl, .inl ⟨xs, .inl (R1.sub _ _ ea)⟩, hy b σ H1 F1 ρ1 _ _ R1 hT fun y H2 F2 ρ2 e s2 R2 h2 hT => ?_⟩
  refine hz b σ H2 F2 ρ2 _ _ R2 hT fun z H3 F3 ρ3 f s3 R3 h3 hT => ?_
  obtain ⟨key, hk, hT⟩ := hT
  have s23 := s2.trans s3
  have g := dget_ok (h2.up s3) hk (hm.up s23) (R3.sub _ _ (s23 _ _ ea))
  cases e : valD ds key with
  | none =>
    rw [e] at g hT
    exact ⟨none, g, k _ H3 F3 ρ3 _ (s1.trans s23) R3 h3 hT⟩
  | some z =>
    rw [e] at g hT
    obtain ⟨w, g, hw⟩ := g
    exact ⟨some w, g, k _ H3 F3 ρ3 _ (s1.trans s23) R3 hw hT⟩
/-! ### tests, and, or, not, if -/
def blG (d : D) (Φ : Bool → Prop) : Prop := match d with
  | .bl c => Φ c
  | _ => False
theorem blG_ok {d : D} {Φ : Bool → Prop} (h : blG d Φ) : ∃ c, d = .bl c ∧ Φ c := by
  cases d <;> first | exact ⟨_, rfl, h⟩ | exact h.elim
def obG (o : Option Bool) (Φ : Bool → Prop) : Prop := match o with
  | some c => Φ c
  | none => False
theorem obG_ok {o : Option Bool} {Φ : Bool → Prop} (h : obG o Φ) : ∃ c, o = some c ∧ Φ c := by
  cases o <;> first | exact ⟨_, rfl, h⟩ | exact h.elim
def dTest (T : DE) : DT := fun ρ Φ => T ρ fun x ρ' => blG x fun c => Φ c ρ'
theorem rt_test {t : TE} {T : DE} (h : RE K ps t T) : RT K ps (tTest t) (dTest T) := by
  intro b σ H F ρ Φ Q R0 hT k
  refine h b σ H F ρ _ _ R0 hT fun x H1 F1 ρ1 d s1 R1 h1 hT => ?_
  obtain ⟨c, rfl, hT⟩ := blG_ok hT
  exact ⟨c, h1.inv_bl, k c H1 F1 ρ1 s1 R1 hT⟩
theorem rt_B {t : TE} {T : DE} (h : RE K ps t T) : RT K ps (tB t) (dTest T) := rt_test h
def truD : D → Option Bool
  | .non => some false
  | .bl b => some b
  | .int i => some (i != 0)
  | .tup l => some !l.isEmpty
  | .lst l => some !l.isEmpty
  | .dct l => some !l.isEmpty
  | _ => none
theorem isEmpty_len {α β : Type} {xs : List α} {ds : List β} (h : xs.length = ds.length) : xs.isEmpty = ds.isEmpty := by
  cases xs <;> cases ds <;> first | rfl | cases h
theorem truD_ok {F H : Hp} (s : ∀ a o, F a = some o → H a = some o) {x : V} {d : D} {c : Bool} (h : Dr K F x d) (e : truD d = some c) : TruV K x H c := by
  cases h with
  | non => cases e; rfl
  | bl b => cases e; rfl
  | int i => cases e; rfl
  | tup h1 hl _ => cases e; exact .inr (.inl ⟨_, sqT_same s h1, by rw [isEmpty_len hl]⟩)
  | lst h1 hl _ => cases e; exact .inl ⟨_, SqL.of (s _ _ h1), by rw [isEmpty_len hl]⟩
  | dct h1 hk _ =>
    cases e
    refine .inr (.inr ⟨_, s _ _ h1, ?_⟩)
    have := congrArg List.length hk
    rw [List.length_map, List.length_map] at this
    rw [isEmpty_len this]
  | _ => cases e
def dTruth (T : DE) : DT := fun ρ Φ => T ρ fun x ρ' => obG (truD x) fun c => Φ c ρ'
theorem rt_truth {t : TE} {T : DE} (h : RE K ps t T) : RT K ps (fun σ H Q => t σ H fun x H' => ∃ k, TruV K x H' k ∧ Q k H') (dTruth T) := by
  intro b σ H F ρ Φ Q R0 hT k
  refine h b σ H F ρ _ _ R0 hT fun x H1 F1 ρ1 d s1 R1 h1 hT => ?_
  obtain ⟨c, hc, hT⟩ := obG_ok hT
  exact ⟨c, truD_ok R1.sub h1 hc, k c H1 F1 ρ1 s1 R1 hT⟩
/-- the truth of the slot's list -/
def dTruthS (i : Nat) : DT := fun ρ Φ => ∃ d, peek ρ i = some d ∧ obG (truD d) fun c => Φ c ρ
theorem rt_truthS {i : Nat} : RT K ps (fun σ H Q => tVar i σ H fun x H' => ∃ k, TruV K x H' k ∧ Q k H') (dTruthS i) := by
  intro b σ H F ρ Φ Q R0 hT k
  obtain ⟨d, hp, hT⟩ := hT
  obtain ⟨c, hc, hT⟩ := obG_ok hT
  obtain ⟨v, hv⟩ := slot_some R0 (peek_some hp)
  have fin : TruV K v H c → tVar i σ H fun x H' => ∃ k, TruV K x H' k ∧ Q k H' := fun h => ⟨v, hv, c, h, k c H F ρ (Same.refl F) R0 hT⟩
  have hp' := hp
  unfold peek peekG at hp'
  split at hp'
  · rename_i d' e
    cases hp'
    obtain ⟨w, h1, h2⟩ := R0.slot i _ e
    rw [hv] at h1
    cases h1
    exact fin (truD_ok R0.sub h2 hc)
  · cases hp'
    cases hc
    obtain ⟨a, xs, rfl, ea, ha⟩ := peek_lst R0 hp hv
    exact fin (.inl ⟨_, SqL.of ea, by rw [isEmpty_len ha.1]⟩)
  · cases hp'
    cases hc
    obtain ⟨a, xs, rfl, ea, ha⟩ := peek_dct R0 hp hv
    exact fin (.inr (.inr ⟨_, ea, by rw [isEmpty_len ha.len]⟩))
  · cases hp'
def dAnd (T U : DT) : DT := fun ρ Φ => T ρ fun c ρ1 => if c = true then U ρ1 Φ else Φ false ρ1
theorem rt_and {t u : TT} {T U : DT} (h : RT K ps t T) (h2 : RT K ps u U) : RT K ps (tAnd t u) (dAnd T U) := by
  intro b σ H F ρ Φ Q R0 hT k
  refine h b σ H F ρ _ _ R0 hT fun c H1 F1 ρ1 s1 R1 hT => ?_
  cases c with
  | true => exact h2 b σ H1 F1 ρ1 _ _ R1 hT fun c H2 F2 ρ2 s2 R2 hT => k c H2 F2 ρ2 (s1.trans s2) R2 hT
  | false => exact k false H1 F1 ρ1 s1 R1 hT
def dOr (T U : DT) : DT := fun ρ Φ => T ρ fun c ρ1 => if c = true then Φ true ρ1 else U ρ1 Φ
theorem rt_or {t u : TT} {T U : DT} (h : RT K ps t T) (h2 : RT K ps u U) : RT K ps (tOr t u) (dOr T U) := by
  intro b σ H F ρ Φ Q R0 hT k
  refine h b σ H F ρ _ _ R0 hT fun c H1 F1 ρ1 s1 R1 hT => ?_
  cases c with
  | false => exact h2 b σ H1 F1 ρ1 _ _ R1 hT fun c H2 F2 ρ2 s2 R2 hT => k c H2 F2 ρ2 (s1.trans s2) R2 hT
  | true => exact k true H1 F1 ρ1 s1 R1 hT
def dNot (T : DT) : DT := fun ρ Φ => T ρ fun c ρ1 => Φ (!c) ρ1
theorem rt_not {t : TT} {T : DT} (h : RT K ps t T) : RT K ps (tNot t) (dNot T) := by
  intro b σ H F ρ Φ Q R0 hT k
  exact h b σ H F ρ _ _ R0 hT fun c H1 F1 ρ1 s1 R1 hT => k _ H1 F1 ρ1 s1 R1 hT
def dAndV (T U : DE) : DE := fun ρ Φ => T ρ fun x ρ1 => blG x fun c => if c = true then U ρ1 Φ else Φ (.bl false) ρ1
theorem re_and {t u : TE} {T U : DE} (h : RE K ps t T) (h2 : RE K ps u U) : RE K ps (tAndV t u) (dAndV T U) := by
  intro b σ H F ρ Φ Q R0 hT k
  refine h b σ H F ρ _ _ R0 hT fun x H1 F1 ρ1 d s1 R1 h1 hT => ?_
  obtain ⟨c, rfl, hT⟩ := blG_ok hT
  refine ⟨c, h1.inv_bl, ?_⟩
  cases c with
  | true => exact h2 b σ H1 F1 ρ1 _ _ R1 hT fun c H2 F2 ρ2 d s2 R2 hd hT => k c H2 F2 ρ2 d (s1.trans s2) R2 hd hT
  | false => exact k _ H1 F1 ρ1 _ s1 R1 (.bl false) hT
def dOrV (T U : DE) : DE := fun ρ Φ => T ρ fun x ρ1 => blG x fun c => if c = true then Φ (.bl true) ρ1 else U ρ1 Φ
theorem re_or {t u : TE} {T U : DE} (h : RE K ps t T) (h2 : RE K ps u U) : RE K ps (tOrV t u) (dOrV T U) := by
  intro b σ H F ρ Φ Q R0 hT k
  refine h b σ H F ρ _ _ R0 hT fun x H1 F1 ρ1 d s1 R1 h1 hT => ?_
  obtain ⟨c, rfl, hT⟩ := blG_ok hT
  refine ⟨c, h1.inv_bl, ?_⟩
  cases c with
  | false => exact h2 b σ H1 F1 ρ1 _ _ R1 hT fun c H2 F2 ρ2 d s2 R2 hd hT => k c H2 F2 ρ2 d (s1.trans s2) R2 hd hT
  | true => exact k _ H1 F1 ρ1 _ s1 R1 (.bl true) hT
def dNotV (T : DE) : DE := fun ρ Φ => T ρ fun x ρ1 => blG x fun c => Φ (.bl (!c)) ρ1
theorem re_not {t : TE} {T : DE} (h : RE K ps t T) : RE K ps (tNotV t) (dNotV T) := by
  intro b σ H F ρ Φ Q R0 hT k
  refine h b σ H F ρ _ _ R0 hT fun x H1 F1 ρ1 d s1 R1 h1 hT => ?_
  obtain ⟨c, rfl, hT⟩ := blG_ok hT
  exact ⟨c, h1.inv_bl, k _ H1 F1 ρ1 _ s1 R1 (.bl _) hT⟩
def dIf (T : DT) (U W : DE) : DE := fun ρ Φ => T ρ fun c ρ1 => if c = true then U ρ1 Φ else W ρ1 Φ
theorem re_if {t : TT} {u w : TE} {T : DT} {U W : DE} (h : RT K ps t T) (h2 : RE K ps u U) (h3 : RE K ps w W) : RE K ps (tIf t u w) (dIf T U W) := by
  intro b σ H F ρ Φ Q R0 hT k
  refine h b σ H F ρ _ _ R0 hT fun c H1 F1 ρ1 s1 R1 hT => ?_
  cases c with
  | true => exact h2 b σ H1 F1 ρ1 _ _ R1 hT fun c H2 F2 ρ2 d s2 R2 hd hT => k c H2 F2 ρ2 d (s1.trans s2) R2 hd hT
  | false => exact h3 b σ H1 F1 ρ1 _ _ R1 hT fun c H2 F2 ρ2 d s2 R2 hd hT => k c H2 F2 ρ2 d (s1.trans s2) R2 hd hT
/-- .. where both give a new list -/
def dIfL (T : DT) (U W : DLs) : DLs := fun ρ Φ => T ρ fun c ρ1 => if c = true then U ρ1 Φ else W ρ1 Φ
theorem rl_if {t : TT} {u w : TE} {T : DT} {U W : DLs} (h : RT K ps t T) (h2 : RL K ps u U) (h3 : RL K ps w W) : RL K ps (tIf t u w) (dIfL T U W) := by
  intro b σ H F ρ Φ Q R0 hT k
  refine h b σ H F ρ _ _ R0 hT fun c H1 F1 ρ1 s1 R1 hT => ?_
  cases c with
  | true => exact h2 b σ H1 F1 ρ1 _ _ R1 hT fun p xs H2 F2 ρ2 ds s2 R2 lo hx hd hT => k p xs H2 F2 ρ2 ds (s1.trans s2) R2 lo hx hd hT
  | false => exact h3 b σ H1 F1 ρ1 _ _ R1 hT fun p xs H2 F2 ρ2 ds s2 R2 lo hx hd hT => k p xs H2 F2 ρ2 ds (s1.trans s2) R2 lo hx hd hT
/-- -x -/
def dNeg (T : DE) : DE := fun ρ Φ => T ρ fun x ρ1 => ∃ i, x = .int i ∧ Φ (.int (-i)) ρ1
theorem re_neg {t : TE} {T : DE} (h : RE K ps t T) : RE K ps (tUn (rU fun i => .int (-i)) t) (dNeg T) := by
  intro b σ H F ρ Φ Q R0 hT k
  refine h b σ H F ρ _ _ R0 hT fun x H1 F1 ρ1 d s1 R1 h1 hT => ?_
  obtain ⟨i, rfl, hT⟩ := hT
  exact ⟨i, h1.inv_int, k _ H1 F1 ρ1 _ s1 R1 (.int _) hT⟩
end
end DL
/-! Part 5: frames, built-ins, what is walked, comprehensions. -/
namespace DL
variable [Tbs]
open PySem PySem.Spec PyProof.Rows L2
def Owned (σ : St) (ρ : Env) (a : Addr) : Prop := ∃ (i : Nat) (o : OV), ρ[i]? = some (some o) ∧ o.own = true ∧ σ[i]? = some (some (.ref a))
/-- what a piece of code leaves alone -/
structure Fr (σ : St) (ρ : Env) (H F H' F' : Hp) : Prop where
  keep : ∀ a o, H a = some o → ¬ Owned σ ρ a → NT o → H' a = some o
  there : ∀ a o, H a = some o → ∃ o', H' a = some o'
  new : ∀ a o, F' a = some o → F a = some o ∨ H a = none ∨ Owned σ ρ a
section
variable {K : PySem.W.Frag} {ps : List Nat} {b : Bs} {σ : St} {H F : Hp} {ρ : Env}
def here (b : Bs) (σ : St) (H F : Hp) (ρ : Env) : Bs := ⟨H, F, b.vs, Owned σ ρ⟩
theorem Rep.here (R : Rep K ps b σ H F ρ) : Rep K ps (here b σ H F ρ) σ H F ρ where
  sub := R.sub
  grow := ⟨Same.refl F, R.grow.b⟩
  nt := R.nt
  dom := fun a o e => ⟨o, e⟩
  tabs := R.tabs
  keep := fun a o e _ _ => e
  there := fun a ⟨i, o, e1, e2, e3⟩ => by
    obtain ⟨p, h1, _, _, h2⟩ := R.own e1 e2
    rw [e3] at h1
    cases h1
    exact h2.ex
  new := fun a o e => .inl e
  slot := fun i o e => by
    obtain ⟨v, h1, h2⟩ := R.slot i o e
    refine ⟨v, h1, ?_⟩
    by_cases ho : o.own = true
    · obtain ⟨p, rfl, h3, _, h4⟩ := h2.inv ho
      exact .mk rfl ho h3 (.inr ⟨i, o, e, ho, h1⟩) h4
    · cases o with
      | d x => exact h2
      | _ => exact absurd rfl ho
  apart := R.apart
  len := R.len
  pin := R.pin
theorem Rep.owned (R : Rep K ps b σ H F ρ) {a : Addr} (h : Owned σ ρ a) : F a = none ∧ (b.H0 a = none ∨ b.O a) ∧ ∃ o, H a = some o := by
  obtain ⟨i, o, e1, e2, e3⟩ := h
  obtain ⟨p, h1, h2, h3, h4⟩ := R.own e1 e2
  rw [e3] at h1
  cases h1
  exact ⟨h2, h3, h4.ex⟩
/-- from the words about what has happened since here -/
theorem Rep.back {σ' : St} {H' F' : Hp} {ρ' : Env} (R : Rep K ps b σ H F ρ) (R' : Rep K ps (DL.here b σ H F ρ) σ' H' F' ρ') : Rep K ps b σ' H' F' ρ' where
  sub := R'.sub
  grow := R.grow.trans R'.grow.a
  nt := R'.nt
  dom := fun a o e => by
    obtain ⟨o1, e1⟩ := R.dom a o e
    exact R'.dom a o1 e1
  tabs := R'.tabs
  keep := fun a o e n nz => by
    refine R'.keep a o (R.keep a o e n nz) (fun z => ?_) nz
    rcases (R.owned z).2.1 with h | h
    · rw [h] at e; cases e
    · exact n h
  there := fun a h => by
    obtain ⟨o, e⟩ := R.there a h
    by_cases z : Owned σ ρ a
    · exact R'.there a z
    · exact R'.dom a o e
  new := fun a o e => by
    rcases R'.new a o e with h | h | h
    · exact R.new a o h
    · exact .inr (.inl (R.fresh h).2.1)
    · rcases (R.owned h).2.1 with h | h
      · exact .inr (.inl h)
      · exact .inr (.inr h)
  slot := fun i o e => by
    obtain ⟨v, h1, h2⟩ := R'.slot i o e
    refine ⟨v, h1, ?_⟩
    by_cases ho : o.own = true
    · obtain ⟨p, rfl, h3, h4, h5⟩ := h2.inv ho
      refine .mk rfl ho h3 ?_ h5
      rcases h4 with h | h
      · exact .inl (R.fresh h).2.1
      · exact (R.owned h).2.1
    · cases o with
      | d x => exact h2
      | _ => exact absurd rfl ho
  apart := R'.apart
  len := R'.len
  pin := R'.pin
theorem Rep.fr {σ' : St} {H' F' : Hp} {ρ' : Env} (R : Rep K ps b σ H F ρ) (R' : Rep K ps (DL.here b σ H F ρ) σ' H' F' ρ') : Fr σ ρ H F H' F' where
  keep := R'.keep
  there := fun a o e => by
    by_cases z : Owned σ ρ a
    · exact R'.there a z
    · exact R'.dom a o e
  new := R'.new
theorem loose_back {p : Addr} {σ' : St} {F' : Hp} {ρ' : Env} (R : Rep K ps b σ H F ρ) (h : Loose (DL.here b σ H F ρ) σ' F' ρ' p) : Loose b σ' F' ρ' p := ⟨h.1, (R.fresh h.2.1).2.1, h.2.2⟩
theorem Fr.refl (R : Rep K ps b σ H F ρ) : Fr σ ρ H F H F := ⟨fun _ _ e _ _ => e, fun _ o e => ⟨o, e⟩, fun _ _ e => .inl e⟩
/-- a loose thing stays as it was -/
theorem Fr.loose {H' F' : Hp} (f : Fr σ ρ H F H' F') (R : Rep K ps b σ H F ρ) {p : Addr} {o : HO} (e : H p = some o) (hF : F p = none) (hn : ¬ Owned σ ρ p) (hz : NT o := by intro t z; cases z) : H' p = some o ∧ F' p = none := by
  refine ⟨f.keep p o e hn hz, ?_⟩
  cases q : F' p with
  | none => rfl
  | some u =>
    rcases f.new p u q with h | h | h
    · rw [hF] at h; cases h
    · rw [e] at h; cases h
    · exact absurd h hn
theorem RE.fr {t : TE} {T : DE} (h : RE K ps t T) (R : Rep K ps b σ H F ρ) {Φ : D → Env → Prop} {Q : VK} (hT : T ρ Φ)
    (k : ∀ v H' F' ρ' d, Same F F' → Fr σ ρ H F H' F' → Rep K ps b σ H' F' ρ' → (∀ a, Owned σ ρ' a → Owned σ ρ a ∨ H a = none) → Dr K F' v d → Φ d ρ' → Q v H') : t σ H Q :=
  h (DL.here b σ H F ρ) σ H F ρ Φ Q R.here hT fun v H' F' ρ' d s R' hd hΦ => k v H' F' ρ' d s (R.fr R') (R.back R') (fun a z => (R'.owned z).2.1.symm) hd hΦ
theorem RT.fr {t : TT} {T : DT} (h : RT K ps t T) (R : Rep K ps b σ H F ρ) {Φ : Bool → Env → Prop} {Q : Bool → Hp → Prop} (hT : T ρ Φ)
    (k : ∀ c H' F' ρ', Same F F' → Fr σ ρ H F H' F' → Rep K ps b σ H' F' ρ' → (∀ a, Owned σ ρ' a → Owned σ ρ a ∨ H a = none) → Φ c ρ' → Q c H') : t σ H Q :=
  h (DL.here b σ H F ρ) σ H F ρ Φ Q R.here hT fun c H' F' ρ' s R' hΦ => k c H' F' ρ' s (R.fr R') (R.back R') (fun a z => (R'.owned z).2.1.symm) hΦ
/-! ### built-ins -/
def RC (K : PySem.W.Frag) (ps : List Nat) (r : List V → Hp → VK → Prop) (R : List D → (D → Prop) → Prop) : Prop := ∀ (b : Bs) (σ : St) (H F : Hp) (ρ : Env) (xs : List V) (ds : List D) (Φ : D → Prop) (Q : VK), Rep K ps b σ H F ρ → DA K F xs ds → R ds Φ →
  (∀ v H' F' z, Same F F' → Rep K ps b σ H' F' ρ → Dr K F' v z → Φ z → Q v H') → r xs H Q
def dCB (R : List D → (D → Prop) → Prop) (T : DLs) : DE := fun ρ Φ => T ρ fun ds ρ' => R ds fun z => Φ z ρ'
theorem re_cb {r : List V → Hp → VK → Prop} {R : List D → (D → Prop) → Prop} {t : TA} {T : DLs} (hr : RC K ps r R) (h : RV K ps t T) : RE K ps (tCB r t) (dCB R T) := by
  intro b σ H F ρ Φ Q R0 hT k
  refine h b σ H F ρ _ _ R0 hT fun xs H1 F1 ρ1 ds s1 R1 h1 hT => ?_
  exact hr b σ H1 F1 ρ1 xs ds _ Q R1 h1 hT fun v H2 F2 z s2 R2 hd hΦ => k v H2 F2 ρ1 z (s1.trans s2) R2 hd hΦ
def RCL (K : PySem.W.Frag) (ps : List Nat) (r : List V → Hp → VK → Prop) (R : List D → (List D → Prop) → Prop) : Prop := ∀ (b : Bs) (σ : St) (H F : Hp) (ρ : Env) (xs : List V) (ds : List D) (Φ : List D → Prop) (Q : VK), Rep K ps b σ H F ρ → DA K F xs ds → R ds Φ →
  (∀ p ys H' F' zs, Same F F' → Rep K ps b σ H' F' ρ → Loose b σ F' ρ p → H' p = some (.lst ys) → DA K F' ys zs → Φ zs → Q (.ref p) H') → r xs H Q
def dCBL (R : List D → (List D → Prop) → Prop) (T : DLs) : DLs := fun ρ Φ => T ρ fun ds ρ' => R ds fun z => Φ z ρ'
theorem rl_cb {r : List V → Hp → VK → Prop} {R : List D → (List D → Prop) → Prop} {t : TA} {T : DLs} (hr : RCL K ps r R) (h : RV K ps t T) : RL K ps (tCB r t) (dCBL R T) := by
  intro b σ H F ρ Φ Q R0 hT k
  refine h b σ H F ρ _ _ R0 hT fun xs H1 F1 ρ1 ds s1 R1 h1 hT => ?_
  exact hr b σ H1 F1 ρ1 xs ds _ Q R1 h1 hT fun p ys H2 F2 z s2 R2 lo hx hd hΦ => k p ys H2 F2 ρ1 z (s1.trans s2) R2 lo hx hd hΦ
def oLen (ds : List D) (Φ : D → Prop) : Prop := match ds with
  | [.str x] => x.length ≤ sizeLine ∧ Φ (.int x.length)
  | [.tup l] => Φ (.int l.length)
  | [.lst l] => Φ (.int l.length)
  | _ => False
theorem rc_len : RC K ps (fun xs H Q => ∃ x n, xs = [x] ∧ LenV K x H n ∧ Q (.int n) H) oLen := by
  intro b σ H F ρ xs ds Φ Q R h hT k
  match ds, hT with
  | [.str x], hT =>
    obtain ⟨v, r, rfl, h1, h2⟩ := h.inv
    rw [h2.inv_nil, h1.inv_str]
    exact ⟨_, x.length, rfl, ⟨hT.1, rfl⟩, k _ H F _ (Same.refl F) R (.int _) hT.2⟩
  | [.tup l], hT =>
    obtain ⟨v, r, rfl, h1, h2⟩ := h.inv
    rw [h2.inv_nil]
    obtain ⟨a, ys, rfl, ea, ha⟩ := h1.inv_tup
    exact ⟨_, l.length, rfl, .inr ⟨ys, sqT_same R.sub ea, ha.1.symm⟩, k _ H F _ (Same.refl F) R (.int _) hT⟩
  | [.lst l], hT =>
    obtain ⟨v, r, rfl, h1, h2⟩ := h.inv
    rw [h2.inv_nil]
    obtain ⟨a, ys, rfl, ea, ha⟩ := h1.inv_lst
    exact ⟨_, l.length, rfl, .inl ⟨ys, SqL.of (R.sub _ _ ea), ha.1.symm⟩, k _ H F _ (Same.refl F) R (.int _) hT⟩
/-- len of the slot's list -/
def dLenS (i : Nat) : DE := fun ρ Φ => ∃ l, peek ρ i = some (.lst l) ∧ Φ (.int l.length) ρ
theorem re_lenS {i : Nat} : RE K ps (tCB (fun xs H Q => ∃ x n, xs = [x] ∧ LenV K x H n ∧ Q (.int n) H) (tCons (tVar i) tNil)) (dLenS i) := by
  intro b σ H F ρ Φ Q R0 hT k
  obtain ⟨l, hp, hT⟩ := hT
  obtain ⟨v, hv⟩ := slot_some R0 (peek_some hp)
  obtain ⟨a, xs, rfl, ea, ha⟩ := peek_lst R0 hp hv
  exact ⟨_, hv, _, l.length, rfl, .inl ⟨xs, SqL.of ea, ha.1.symm⟩, k _ H F ρ _ (Same.refl F) R0 (.int _) hT⟩
def oListOf (ds : List D) (Φ : List D → Prop) : Prop := match ds with
  | [.tup l] => Φ l
  | [.lst l] => Φ l
  | _ => False
theorem rcl_list : RCL K ps (fun xs H Q => ∃ p ys, xs = [.ref p] ∧ (SqL K H p ys ∨ SqT K H p ys) ∧ ∀ l, H l = none → Q (.ref l) (upd H l (.lst ys))) oListOf := by
  intro b σ H F ρ xs ds Φ Q R h hT k
  match ds, hT with
  | [.tup l], hT =>
    obtain ⟨v, r, rfl, h1, h2⟩ := h.inv
    rw [h2.inv_nil]
    obtain ⟨a, ys, rfl, ea, ha⟩ := h1.inv_tup
    exact ⟨a, ys, rfl, .inr (sqT_same R.sub ea), fun q hq => k q ys _ F l (Same.refl F) (R.put hq) (R.loose hq) upd_same ha hT⟩
  | [.lst l], hT =>
    obtain ⟨v, r, rfl, h1, h2⟩ := h.inv
    rw [h2.inv_nil]
    obtain ⟨a, ys, rfl, ea, ha⟩ := h1.inv_lst
    exact ⟨a, ys, rfl, .inl (SqL.of (R.sub _ _ ea)), fun q hq => k q ys _ F l (Same.refl F) (R.put hq) (R.loose hq) upd_same ha hT⟩
def oTupOf (ds : List D) (Φ : D → Prop) : Prop := match ds with
  | [.tup l] => Φ (.tup l)
  | [.lst l] => Φ (.tup l)
  | _ => False
theorem rc_tuple : RC K ps (fun xs H Q => ∃ p ys, xs = [.ref p] ∧ ((SqL K H p ys ∧ ∀ l, H l = none → Q (.ref l) (upd H l (.tup ys))) ∨ (SqT K H p ys ∧ Q (.ref p) H))) oTupOf := by
  intro b σ H F ρ xs ds Φ Q R h hT k
  match ds, hT with
  | [.tup l], hT =>
    obtain ⟨v, r, rfl, h1, h2⟩ := h.inv
    rw [h2.inv_nil]
    obtain ⟨a, ys, rfl, ea, ha⟩ := h1.inv_tup
    exact ⟨a, ys, rfl, .inr ⟨sqT_same R.sub ea, k _ H F _ (Same.refl F) R h1 hT⟩⟩
  | [.lst l], hT =>
    obtain ⟨v, r, rfl, h1, h2⟩ := h.inv
    rw [h2.inv_nil]
    obtain ⟨a, ys, rfl, ea, ha⟩ := h1.inv_lst
    refine ⟨a, ys, rfl, .inl ⟨SqL.of (R.sub _ _ ea), fun q hq => ?_⟩⟩
    obtain ⟨hF, _⟩ := R.fresh hq
    have sF : Same F (upd F q (.tup ys)) := SX.same_upd hF
    exact k _ _ _ _ sF (R.alloc hq) (.tup (SqT.of upd_same) ha.1 fun j v d a c => (ha.2 j v d a c).up sF) hT
/-- ints out of data -/
def intsD : List D → Option (List Int)
  | [] => some []
  | .int i :: r => (intsD r).map (i :: ·)
  | _ => none
theorem intsD_ok {F : Hp} : ∀ {ds : List D} {xs : List V} {ns : List Int}, DA K F xs ds → intsD ds = some ns → xs = ns.map V.int
  | [], xs, ns, h, e => by
    cases e
    rw [h.inv_nil]
    rfl
  | .int i :: r, xs, ns, h, e => by
    obtain ⟨v, t, rfl, h1, h2⟩ := h.inv
    unfold intsD at e
    obtain ⟨ms, hm, rfl⟩ := Option.map_eq_some_iff.mp e
    rw [h1.inv_int, intsD_ok h2 hm]
    rfl
  | .non :: r, xs, ns, h, e => by cases e
  | .bl _ :: r, xs, ns, h, e => by cases e
  | .str _ :: r, xs, ns, h, e => by cases e
  | .ty _ :: r, xs, ns, h, e => by cases e
  | .fn _ :: r, xs, ns, h, e => by cases e
  | .scr _ :: r, xs, ns, h, e => by cases e
  | .tup _ :: r, xs, ns, h, e => by cases e
  | .lst _ :: r, xs, ns, h, e => by cases e
  | .dct _ :: r, xs, ns, h, e => by cases e
  | .obj _ _ :: r, xs, ns, h, e => by cases e
theorem intsD_map (ns : List Int) : intsD (ns.map .int) = some ns := by
  induction ns with
  | nil => rfl
  | cons n ns ih =>
    show (intsD (ns.map .int)).map (n :: ·) = _
    rw [ih]
    rfl
def oAbs (ds : List D) (Φ : D → Prop) : Prop := match ds with
  | [.int i] => Φ (.int (if i < 0 then -i else i))
  | _ => False
theorem rc_abs : RC K ps (fun xs H Q => ∃ i, xs = [.int i] ∧ Q (.int (if i < 0 then -i else i)) H) oAbs := by
  intro b σ H F ρ xs ds Φ Q R h hT k
  match ds, hT with
  | [.int i], hT =>
    obtain ⟨v, r, rfl, h1, h2⟩ := h.inv
    rw [h2.inv_nil, h1.inv_int]
    exact ⟨i, rfl, k _ H F _ (Same.refl F) R (.int _) hT⟩
def oInt (ds : List D) (Φ : D → Prop) : Prop := match ds with
  | [.int i] => Φ (.int i)
  | _ => False
theorem rc_int : RC K ps (fun xs H Q => (∃ i, xs = [.int i] ∧ Q (.int i) H) ∨ ∃ k, xs = [.bl k] ∧ Q (.int (if k then 1 else 0)) H) oInt := by
  intro b σ H F ρ xs ds Φ Q R h hT k
  match ds, hT with
  | [.int i], hT =>
    obtain ⟨v, r, rfl, h1, h2⟩ := h.inv
    rw [h2.inv_nil, h1.inv_int]
    exact .inl ⟨i, rfl, k _ H F _ (Same.refl F) R (.int _) hT⟩
def oSum (ds : List D) (Φ : D → Prop) : Prop := ∃ l ns, ds = [.lst l] ∧ intsD l = some ns ∧ Φ (.int ns.sum)
theorem rc_sum : RC K ps (rSum K) oSum := by
  intro b σ H F ρ xs ds Φ Q R h hT k
  obtain ⟨l, ns, rfl, hn, hT⟩ := hT
  obtain ⟨v, r, rfl, h1, h2⟩ := h.inv
  rw [h2.inv_nil]
  obtain ⟨a, ys, rfl, ea, ha⟩ := h1.inv_lst
  rw [intsD_ok ha hn] at ea
  exact ⟨a, ns, rfl, SqL.of (R.sub _ _ ea), k _ H F _ (Same.refl F) R (.int _) hT⟩
def oMin (ds : List D) (Φ : D → Prop) : Prop := ∃ l ns, ds = [.lst l] ∧ intsD l = some ns ∧ 0 < ns.length ∧ ∀ m, m ∈ ns → (∀ y, y ∈ ns → m ≤ y) → Φ (.int m)
theorem rc_min : RC K ps (rMin K) oMin := by
  intro b σ H F ρ xs ds Φ Q R h hT k
  obtain ⟨l, ns, rfl, hn, h0, hT⟩ := hT
  obtain ⟨v, r, rfl, h1, h2⟩ := h.inv
  rw [h2.inv_nil]
  obtain ⟨a, ys, rfl, ea, ha⟩ := h1.inv_lst
  rw [intsD_ok ha hn] at ea
  exact ⟨a, ns, rfl, SqL.of (R.sub _ _ ea), h0, fun m h3 h4 => k _ H F _ (Same.refl F) R (.int _) (hT m h3 h4)⟩
def blsD : List D → Option (List Bool)
  | [] => some []
  | .bl i :: r => (blsD r).map (i :: ·)
  | _ => none
theorem blsD_ok {F : Hp} : ∀ {ds : List D} {xs : List V} {ns : List Bool}, DA K F xs ds → blsD ds = some ns → xs = ns.map V.bl
  | [], xs, ns, h, e => by
    cases e
    rw [h.inv_nil]
    rfl
  | .bl i :: r, xs, ns, h, e => by
    obtain ⟨v, t, rfl, h1, h2⟩ := h.inv
    unfold blsD at e
    obtain ⟨ms, hm, rfl⟩ := Option.map_eq_some_iff.mp e
    rw [h1.inv_bl, blsD_ok h2 hm]
    rfl
  | .non :: r, xs, ns, h, e => by cases e
  | .int _ :: r, xs, ns, h, e => by cases e
  | .str _ :: r, xs, ns, h, e => by cases e
  | .ty _ :: r, xs, ns, h, e => by cases e
  | .fn _ :: r, xs, ns, h, e => by cases e
  | .scr _ :: r, xs, ns, h, e => by cases e
  | .tup _ :: r, xs, ns, h, e => by cases e
  | .lst _ :: r, xs, ns, h, e => by cases e
  | .dct _ :: r, xs, ns, h, e => by cases e
  | .obj _ _ :: r, xs, ns, h, e => by cases e
theorem blsD_map (ns : List Bool) : blsD (ns.map .bl) = some ns := by
  induction ns with
  | nil => rfl
  | cons n ns ih =>
    show (blsD (ns.map .bl)).map (n :: ·) = _
    rw [ih]
    rfl
def oAll (ds : List D) (Φ : D → Prop) : Prop := ∃ l ns, ds = [.lst l] ∧ blsD l = some ns ∧ Φ (.bl (ns.all id))
theorem rc_all : RC K ps (rAll K) oAll := by
  intro b σ H F ρ xs ds Φ Q R h hT k
  obtain ⟨l, ns, rfl, hn, hT⟩ := hT
  obtain ⟨v, r, rfl, h1, h2⟩ := h.inv
  rw [h2.inv_nil]
  obtain ⟨a, ys, rfl, ea, ha⟩ := h1.inv_lst
  rw [blsD_ok ha hn] at ea
  exact ⟨a, ns, rfl, SqL.of (R.sub _ _ ea), k _ H F _ (Same.refl F) R (.bl _) hT⟩
def oAny (ds : List D) (Φ : D → Prop) : Prop := ∃ l ns, ds = [.lst l] ∧ blsD l = some ns ∧ Φ (.bl (ns.any id))
theorem rc_any : RC K ps (rAny K) oAny := by
  intro b σ H F ρ xs ds Φ Q R h hT k
  obtain ⟨l, ns, rfl, hn, hT⟩ := hT
  obtain ⟨v, r, rfl, h1, h2⟩ := h.inv
  rw [h2.inv_nil]
  obtain ⟨a, ys, rfl, ea, ha⟩ := h1.inv_lst
  rw [blsD_ok ha hn] at ea
  exact ⟨a, ns, rfl, SqL.of (R.sub _ _ ea), k _ H F _ (Same.refl F) R (.bl _) hT⟩
/-- isinstance -/
def tyN : D → Option String
  | .non => some "NoneType"
  | .bl _ => some "bool"
  | .int _ => some "int"
  | .str _ => some "str"
  | .lst _ => some "list"
  | .tup _ => some "tuple"
  | .dct _ => some "dict"
  | _ => none
theorem tyN_ok {x : V} {d : D} {n : String} (hs : ∀ a o, F a = some o → H a = some o) (h : Dr K F x d) (e : tyN d = some n) : TyX K H x (.type n) := by
  cases h with
  | non => cases e; exact .base .non
  | bl b => cases e; exact .base (.bl b)
  | int i => cases e; exact .base (.int i)
  | str x => cases e; exact .base (.str x)
  | tup h1 _ _ =>
    cases e
    rcases h1 with (h1 | ⟨o, h1⟩) | ⟨o, its, m, h1, h2, _⟩
    · exact .base (.tup (hs _ _ h1))
    · exact .fTuple (hs _ _ h1)
    · exact .kTuple h1 h2
  | lst h1 _ _ => cases e; exact .base (.lst (hs _ _ h1))
  | dct h1 _ _ => cases e; exact .base (.dK (hs _ _ h1))
  | _ => cases e
def isT : List (String × String × Bool) :=
  (["NoneType", "bool", "int", "str", "list", "tuple", "dict"].flatMap fun m => ["list", "tuple", "bool", "str", "int"].map fun n => (m, n, m == n || (m == "bool" && n == "int")))
def isN (m n : String) : Option Bool := (isT.find? fun p => p.1 == m && p.2.1 == n).map fun p => p.2.2
theorem isT_ok : (isT.all fun p => decide (kitB p.1 p.2.1 = some p.2.2)) = true := by decide +kernel
theorem isN_ok {m n : String} {c : Bool} (h : isN m n = some c) : PySem.W.kitOne K (.type m) (.type n) = some c := by
  unfold isN at h
  obtain ⟨p, hp, rfl⟩ := Option.map_eq_some_iff.mp h
  have h1 := List.find?_some hp
  have h2 := List.all_eq_true.mp isT_ok p (List.mem_of_find?_eq_some hp)
  rw [Bool.and_eq_true, beq_iff_eq, beq_iff_eq] at h1
  have h3 : kitB p.1 p.2.1 = some p.2.2 := of_decide_eq_true h2
  rw [h1.1, h1.2] at h3
  exact kit_ty h3
/-- which of these a thing is, by data -/
def isD (d : D) (n : String) : Option Bool := (tyN d).bind fun m => isN m n
def oIsi (ds : List D) (Φ : D → Prop) : Prop := match ds with
  | [x, .ty n] => obG (isD x n) fun c => Φ (.bl c)
  | _ => False
theorem rc_isi : RC K ps (rIsi K) oIsi := by
  intro b σ H F ρ xs ds Φ Q R h hT k
  match ds, hT with
  | [x, .ty n], hT =>
  obtain ⟨c, hc, hT⟩ := obG_ok hT
  obtain ⟨v, r, rfl, h1, h2⟩ := h.inv
  obtain ⟨w, r2, rfl, h3, h4⟩ := h2.inv
  rw [h4.inv_nil, h3.inv_ty]
  unfold isD at hc
  obtain ⟨m, hm, hc⟩ := Option.bind_eq_some_iff.mp hc
  exact ⟨v, _, _, _, c, rfl, .ty n, tyN_ok R.sub h1 hm, isN_ok hc, k _ H F _ (Same.refl F) R (.bl c) hT⟩
def dIsi2 (Ta : DE) (m n : String) : DE := fun ρ Φ => Ta ρ fun x ρ1 => obG (isD x m) fun c => obG (isD x n) fun e => Φ (.bl (c || e)) ρ1
theorem re_isi2 {ta : TE} {Ta : DE} {m n : String} (h : RE K ps ta Ta) : RE K ps (tCB (rIsiT K) (tCons ta (tCons (tTup (tCons (tC (.ty m)) (tCons (tC (.ty n)) tNil))) tNil))) (dIsi2 Ta m n) := by
  intro b σ H F ρ Φ Q R0 hT k
  refine h b σ H F ρ _ _ R0 hT fun x H1 F1 ρ1 d s1 R1 h1 hT => ?_
  obtain ⟨c, hc, hT⟩ := obG_ok hT
  obtain ⟨e, he, hT⟩ := obG_ok hT
  refine ⟨by show 2 ≤ sizeLine; decide, fun p hp => ?_⟩
  unfold isD at hc he
  obtain ⟨q, hm, hc⟩ := Option.bind_eq_some_iff.mp hc
  rw [hm] at he
  have R2 := R1.put (o := .tup [V.ty m, V.ty n]) hp
  have ka : PySem.W.kitAny K (.type q) [.type m, .type n] = some (c || e) := by
    refine kitAny_cons (isN_ok hc) (fun hcf => ?_) (fun hct => by rw [hct]; rfl)
    refine kitAny_cons (isN_ok he) (fun hef => ?_) (fun het => by rw [het, Bool.or_true])
    rw [hcf, hef]
    rfl
  exact ⟨x, p, _, _, _, c || e, rfl, upd_same, .cons (.ty m) (.cons (.ty n) .nil), tyN_ok R2.sub h1 hm, ka, k _ _ F1 ρ1 _ s1 R2 (.bl _) hT⟩
end
end DL
/-! Part 6: what is walked, comprehensions, statements. -/
namespace DL
variable [Tbs]
open PySem PySem.Spec PyProof.Rows L2
abbrev Sub (F H : Hp) : Prop := ∀ a o, F a = some o → H a = some o
/-- walking gives these data in a row -/
def Wk (K : PySem.W.Frag) (F : Hp) (J : It) (ds : List D) : Prop := ∃ (G : Hp → Prop) (Y : Nat → Hp → V → Hp → Prop), Walk J ds.length G Y ∧ (∀ H F', Same F F' → Sub F' H → G H) ∧
  ∀ i H x H', Y i H x H' → i < ds.length → ∀ F', Same F F' → Sub F' H → ∃ d F2, ds[i]? = some d ∧ Dr K F2 x d ∧ ((F2 = F' ∧ H' = H) ∨ ∃ p o, H p = none ∧ NT o ∧ F2 = upd F' p o ∧ H' = upd H p o)
def RI (K : PySem.W.Frag) (ps : List Nat) (wi : TI) (T : DLs) : Prop := ∀ (b : Bs) (σ : St) (H F : Hp) (ρ : Env) (Φ : List D → Env → Prop) (R : It → Hp → Prop), Rep K ps b σ H F ρ → T ρ Φ →
  (∀ J H' F' ρ' ds, Same F F' → Rep K ps b σ H' F' ρ' → Wk K F' J ds → Φ ds ρ' → R J H') → wi σ H R
abbrev DG := D → Env → (Env → Prop) → Prop
/-- a target; js: the slots that it stores into -/
def RG (K : PySem.W.Frag) (ps js : List Nat) (g : TG) (G : DG) : Prop := ∀ (b : Bs) (σ : St) (H F : Hp) (ρ : Env) (v : V) (d : D) (Φ : Env → Prop) (Q : St → Hp → Prop), Rep K ps b σ H F ρ → Dr K F v d → G d ρ Φ →
  (∀ σ' H' F' ρ', Same F F' → Rep K ps b σ' H' F' ρ' → (∀ ws, (∀ j ∈ js, j ∈ ws) → wipe σ' ws = wipe σ ws) → Φ ρ' → Q σ' H') → g v σ H Q
section
variable {K : PySem.W.Frag} {ps : List Nat}
theorem wk_list {F : Hp} {a : Addr} {xs : List V} {ds : List D} (e : F a = some (.lst xs)) (h : DA K F xs ds) : Wk K F (Itl K a) ds := by
  refine ⟨fun H => SqL K H a xs, YAt xs, by rw [← h.1]; exact walk_list, fun H F' s sub => SqL.of (sub _ _ (s _ _ e)), ?_⟩
  rintro i H x H' ⟨rfl, hx⟩ hi F' s sub
  obtain ⟨d, h1, h2⟩ := h.getV hx
  exact ⟨d, F', h1, h2.up s, .inl ⟨rfl, rfl⟩⟩
theorem wk_tup {F : Hp} {a : Addr} {xs : List V} {ds : List D} (e : SqT K F a xs) (h : DA K F xs ds) : Wk K F (Itt K a) ds := by
  refine ⟨fun H => SqT K H a xs, YAt xs, by rw [← h.1]; exact walk_tup, fun H F' s sub => sqT_same sub (sqT_same s e), ?_⟩
  rintro i H x H' ⟨rfl, hx⟩ hi F' s sub
  obtain ⟨d, h1, h2⟩ := h.getV hx
  exact ⟨d, F', h1, h2.up s, .inl ⟨rfl, rfl⟩⟩
def rngD (lo : Int) (n : Nat) : List D := (List.range n).map fun i => .int (lo + (i : Nat))
theorem rngD_len (lo : Int) (n : Nat) : (rngD lo n).length = n := by simp [rngD]
theorem rngD_get {lo : Int} {n i : Nat} (h : i < n) : (rngD lo n)[i]? = some (.int (lo + (i : Nat))) := by
  unfold rngD
  rw [List.getElem?_map, List.getElem?_range h]
  rfl
theorem wk_range {F : Hp} {lo : Int} {n : Nat} : Wk K F (Itr lo n) (rngD lo n) := by
  refine ⟨fun _ => True, YFn fun i => .int (lo + i), by rw [rngD_len]; exact walk_range, fun H F' s sub => trivial, ?_⟩
  rintro i H x H' ⟨rfl, rfl⟩ hi F' s sub
  rw [rngD_len] at hi
  exact ⟨_, F', rngD_get hi, .int _, .inl ⟨rfl, rfl⟩⟩
def dIL (T : DE) : DLs := fun ρ Φ => T ρ fun x ρ' => ∃ ds, x = .lst ds ∧ Φ ds ρ'
theorem ri_list {t : TE} {T : DE} (h : RE K ps t T) : RI K ps (iList K t) (dIL T) := by
  intro b σ H F ρ Φ R R0 hT k
  refine h b σ H F ρ _ _ R0 hT fun x H1 F1 ρ1 d s1 R1 h1 hT => ?_
  obtain ⟨ds, rfl, hT⟩ := hT
  obtain ⟨a, xs, rfl, ea, ha⟩ := h1.inv_lst
  exact ⟨a, rfl, ⟨xs, SqL.of (R1.sub _ _ ea)⟩, k _ H1 F1 ρ1 ds s1 R1 (wk_list ea ha) hT⟩
def dIT (T : DE) : DLs := fun ρ Φ => T ρ fun x ρ' => ∃ ds, x = .tup ds ∧ Φ ds ρ'
theorem ri_tup {t : TE} {T : DE} (h : RE K ps t T) : RI K ps (iTup K t) (dIT T) := by
  intro b σ H F ρ Φ R R0 hT k
  refine h b σ H F ρ _ _ R0 hT fun x H1 F1 ρ1 d s1 R1 h1 hT => ?_
  obtain ⟨ds, rfl, hT⟩ := hT
  obtain ⟨a, xs, rfl, ea, ha⟩ := h1.inv_tup
  exact ⟨a, rfl, ⟨xs, sqT_same R1.sub ea⟩, k _ H1 F1 ρ1 ds s1 R1 (wk_tup ea ha) hT⟩
def dIR1 (T : DLs) : DLs := fun ρ Φ => T ρ fun xs ρ' => ∃ j : Int, xs = [.int j] ∧ -(2 ^ 62) ≤ j ∧ j < 2 ^ 62 ∧ Φ (rngD 0 j.toNat) ρ'
theorem ri_range1 {t : TA} {T : DLs} (h : RV K ps t T) : RI K ps (iRng1 t) (dIR1 T) := by
  intro b σ H F ρ Φ R R0 hT k
  refine h b σ H F ρ _ _ R0 hT fun xs H1 F1 ρ1 ds s1 R1 h1 hT => ?_
  obtain ⟨j, rfl, b1, b2, hT⟩ := hT
  obtain ⟨v, r, rfl, h2, h3⟩ := h1.inv
  rw [h3.inv_nil, h2.inv_int]
  exact ⟨j, rfl, b1, b2, k _ H1 F1 ρ1 _ s1 R1 wk_range hT⟩
def dIR2 (T : DLs) : DLs := fun ρ Φ => T ρ fun xs ρ' => ∃ i j : Int, xs = [.int i, .int j] ∧ (-(2 ^ 62) ≤ i ∧ i < 2 ^ 62 ∧ -(2 ^ 62) ≤ j ∧ j < 2 ^ 62) ∧ Φ (rngD i (j - i).toNat) ρ'
theorem ri_range2 {t : TA} {T : DLs} (h : RV K ps t T) : RI K ps (iRng2 t) (dIR2 T) := by
  intro b σ H F ρ Φ R R0 hT k
  refine h b σ H F ρ _ _ R0 hT fun xs H1 F1 ρ1 ds s1 R1 h1 hT => ?_
  obtain ⟨i, j, rfl, bb, hT⟩ := hT
  obtain ⟨v, r, rfl, h2, h3⟩ := h1.inv
  obtain ⟨w, r2, rfl, h4, h5⟩ := h3.inv
  rw [h5.inv_nil, h2.inv_int, h4.inv_int]
  exact ⟨i, j, rfl, bb, k _ H1 F1 ρ1 _ s1 R1 wk_range hT⟩
/-! ### targets -/
theorem wipe_set {x : Option V} {j : Nat} : ∀ {ws : List Nat} {σ : St}, j ∈ ws → wipe (σ.set j x) ws = wipe σ ws
  | [], _, h => nomatch h
  | w :: ws, σ, h => by
    have key : ∀ (σ : St), (wipe (σ.set j x) ws).set j none = (wipe σ ws).set j none := by
      clear h
      induction ws with
      | nil => intro σ; show (σ.set j x).set j none = σ.set j none; rw [List.set_set]
      | cons u us ih =>
        intro σ
        show ((wipe (σ.set j x) us).set u none).set j none = ((wipe σ us).set u none).set j none
        by_cases hu : u = j
        · subst hu
          rw [List.set_set, List.set_set, ih]
        · rw [List.set_comm _ _ hu, ih, ← List.set_comm _ _ hu]
    show (wipe (σ.set j x) ws).set w none = (wipe σ ws).set w none
    rcases List.mem_cons.mp h with rfl | h
    · exact key σ
    · rw [wipe_set h]
def dName (j : Nat) : DG := fun d ρ Φ => Φ (ρ.set j (some (.d d)))
theorem rg_name {j : Nat} (hj : j ∉ ps := by decide) : RG K ps [j] (gName j) (dName j) := by
  intro b σ H F ρ v d Φ Q R hd hT k
  exact k _ H F _ (Same.refl F) (R.setD hj hd) (fun ws hw => wipe_set (hw j (List.mem_singleton.mpr rfl))) hT
abbrev DGs := List D → Env → (Env → Prop) → Prop
def RGs (K : PySem.W.Frag) (ps js : List Nat) (g : TGs) (G : DGs) : Prop := ∀ (b : Bs) (σ : St) (H F : Hp) (ρ : Env) (vs : List V) (ds : List D) (Φ : Env → Prop) (Q : St → Hp → Prop), Rep K ps b σ H F ρ → DA K F vs ds → G ds ρ Φ →
  (∀ σ' H' F' ρ', Same F F' → Rep K ps b σ' H' F' ρ' → (∀ ws, (∀ j ∈ js, j ∈ ws) → wipe σ' ws = wipe σ ws) → Φ ρ' → Q σ' H') → g vs σ H Q
def dGNil : DGs := fun ds ρ Φ => ds = [] ∧ Φ ρ
theorem rgs_nil : RGs K ps [] gNil dGNil := by
  intro b σ H F ρ vs ds Φ Q R hd hT k
  obtain ⟨rfl, hT⟩ := hT
  exact ⟨hd.inv_nil, k σ H F ρ (Same.refl F) R (fun _ _ => rfl) hT⟩
def dGCons (G : DG) (Gs : DGs) : DGs := fun ds ρ Φ => ∃ d r, ds = d :: r ∧ G d ρ fun ρ1 => Gs r ρ1 Φ
theorem rgs_cons {js js' : List Nat} {g : TG} {gs : TGs} {G : DG} {Gs : DGs} (h : RG K ps js g G) (hs : RGs K ps js' gs Gs) : RGs K ps (js ++ js') (gCons g gs) (dGCons G Gs) := by
  intro b σ H F ρ vs ds Φ Q R hd hT k
  obtain ⟨d, r, rfl, hT⟩ := hT
  obtain ⟨v, t, rfl, h1, h2⟩ := hd.inv
  refine ⟨v, t, rfl, h b σ H F ρ v d _ _ R h1 hT fun σ1 H1 F1 ρ1 s1 R1 w1 hT => ?_⟩
  refine hs b σ1 H1 F1 ρ1 t r _ _ R1 (h2.up s1) hT fun σ2 H2 F2 ρ2 s2 R2 w2 hT => k σ2 H2 F2 ρ2 (s1.trans s2) R2 (fun ws hw => ?_) hT
  rw [w2 ws fun j hj => hw j (List.mem_append_right _ hj), w1 ws fun j hj => hw j (List.mem_append_left _ hj)]
def dGTup (n : Nat) (Gs : DGs) : DG := fun d ρ Φ => ∃ ds, d = .tup ds ∧ ds.length = n ∧ Gs ds ρ Φ
theorem rg_tup {n : Nat} {js : List Nat} {gs : TGs} {Gs : DGs} (hs : RGs K ps js gs Gs) : RG K ps js (gTup K n gs) (dGTup n Gs) := by
  intro b σ H F ρ v d Φ Q R hd hT k
  obtain ⟨ds, rfl, hn, hT⟩ := hT
  obtain ⟨a, xs, rfl, ea, ha⟩ := hd.inv_tup
  exact ⟨a, xs, rfl, sqT_same R.sub ea, by rw [ha.1, hn], hs b σ H F ρ xs ds Φ Q R ha hT k⟩
/-! ### comprehensions -/
def wipeD (ρ : Env) : List Nat → Env
  | [] => ρ
  | v :: vs => (wipeD ρ vs).set v none
theorem wipeD_len (ρ : Env) : ∀ vs, (wipeD ρ vs).length = ρ.length
  | [] => rfl
  | v :: vs => by unfold wipeD; rw [List.length_set, wipeD_len ρ vs]
theorem wipeD_some {ρ : Env} {i : Nat} {o : OV} : ∀ {vs : List Nat}, (wipeD ρ vs)[i]? = some (some o) → ρ[i]? = some (some o) ∧ i ∉ vs
  | [], h => ⟨h, by simp⟩
  | v :: vs, h => by
    rcases set_some (show ((wipeD ρ vs).set v none)[i]? = some (some o) from h) with ⟨_, q⟩ | ⟨n, q⟩
    · cases q
    · obtain ⟨h1, h2⟩ := wipeD_some q
      exact ⟨h1, fun hm => (List.mem_cons.mp hm).elim n h2⟩
theorem wipe_get {σ : St} {i : Nat} : ∀ {vs : List Nat}, i ∉ vs → (wipe σ vs)[i]? = σ[i]?
  | [], _ => rfl
  | v :: vs, h => by
    show ((wipe σ vs).set v none)[i]? = _
    rw [List.getElem?_set_ne (fun z => h (by rw [z]; exact List.mem_cons_self))]
    exact wipe_get fun z => h (List.mem_cons_of_mem _ z)
theorem wipe_wipe {σ : St} {vs : List Nat} : wipe (wipe σ vs) vs = wipe σ vs := by
  have key : ∀ (us : List Nat) (σ : St), (∀ u ∈ us, u ∈ vs) → wipe (wipe σ us) vs = wipe σ vs := by
    intro us
    induction us with
    | nil => intro σ _; rfl
    | cons u us ih =>
      intro σ h
      show wipe ((wipe σ us).set u none) vs = _
      rw [wipe_set (h u List.mem_cons_self)]
      exact ih σ fun x hx => h x (List.mem_cons_of_mem _ hx)
  exact key vs σ fun _ h => h
/-- the block's slots -/
theorem Rep.block {b : Bs} {σ : St} {H F : Hp} {ρ : Env} (R : Rep K ps b σ H F ρ) {vs : List Nat} (hv : ∀ v ∈ vs, v ∉ ps) : Rep K ps b (wipe σ vs) H F (wipeD ρ vs) where
  sub := R.sub
  grow := R.grow
  nt := R.nt
  dom := R.dom
  tabs := R.tabs
  keep := R.keep
  there := R.there
  new := R.new
  slot := fun i o e => by
    obtain ⟨h1, h2⟩ := wipeD_some e
    rw [wipe_get h2]
    exact R.slot i o h1
  apart := fun i j o u v n e1 o1 e2 o2 s1 => by
    obtain ⟨h1, h2⟩ := wipeD_some e1
    obtain ⟨h3, h4⟩ := wipeD_some e2
    rw [wipe_get h2] at s1
    rw [wipe_get h4]
    exact R.apart i j o u v n h1 o1 h3 o2 s1
  len := by rw [wipeD_len, wipe_length]; exact R.len
  pin := fun i hi => by
    rw [wipe_get fun z => hv i z hi]
    exact R.pin i hi
/-- a slot of ρ0 that holds data -/
def keepD (o : Option (Option OV)) : Option OV := match o with
  | some (some (.d d)) => some (.d d)
  | _ => none
def restore (ρ ρ0 : Env) : List Nat → Env
  | [] => ρ
  | v :: vs => (restore ρ ρ0 vs).set v (keepD ρ0[v]?)
theorem restore_len (ρ ρ0 : Env) : ∀ vs, (restore ρ ρ0 vs).length = ρ.length
  | [] => rfl
  | v :: vs => by unfold restore; rw [List.length_set, restore_len ρ ρ0 vs]
theorem restore_some {ρ ρ0 : Env} {i : Nat} {o : OV} : ∀ {vs : List Nat}, (restore ρ ρ0 vs)[i]? = some (some o) → (i ∈ vs ∧ ∃ d, o = .d d ∧ ρ0[i]? = some (some (.d d))) ∨ (i ∉ vs ∧ ρ[i]? = some (some o))
  | [], h => .inr ⟨by simp, h⟩
  | v :: vs, h => by
    rcases set_some (show ((restore ρ ρ0 vs).set v (keepD ρ0[v]?))[i]? = some (some o) from h) with ⟨rfl, q⟩ | ⟨n, q⟩
    · refine .inl ⟨List.mem_cons_self, ?_⟩
      unfold keepD at q
      split at q
      · rename_i d e
        exact ⟨d, (Option.some.inj q).symm, e⟩
      · cases q
    · rcases restore_some q with ⟨h1, h2⟩ | ⟨h1, h2⟩
      · exact .inl ⟨List.mem_cons_of_mem _ h1, h2⟩
      · exact .inr ⟨fun hm => (List.mem_cons.mp hm).elim n h1, h2⟩
theorem Rep.unblock {b : Bs} {σ : St} {H F H0 F0 : Hp} {ρ ρ0 : Env} {vs : List Nat} (R0 : Rep K ps b σ H0 F0 ρ0) (s : Same F0 F) (R : Rep K ps b (wipe σ vs) H F ρ) (hv : ∀ v ∈ vs, v ∉ ps) : Rep K ps b σ H F (restore ρ ρ0 vs) where
  sub := R.sub
  grow := R.grow
  nt := R.nt
  dom := R.dom
  tabs := R.tabs
  keep := R.keep
  there := R.there
  new := R.new
  slot := fun i o e => by
    rcases restore_some e with ⟨_, d, rfl, h⟩ | ⟨h1, h2⟩
    · obtain ⟨v, g1, g2⟩ := R0.slot i _ h
      exact ⟨v, g1, Dr.up s g2⟩
    · obtain ⟨v, g1, g2⟩ := R.slot i o h2
      rw [wipe_get h1] at g1
      exact ⟨v, g1, g2⟩
  apart := fun i j o u v n e1 o1 e2 o2 s1 => by
    rcases restore_some e1 with ⟨_, d, rfl, h⟩ | ⟨h1, h2⟩
    · cases o1
    · rcases restore_some e2 with ⟨_, d, rfl, h⟩ | ⟨h3, h4⟩
      · cases o2
      · have := R.apart i j o u v n h2 o1 h4 o2 (by rw [wipe_get h1]; exact s1)
        rwa [wipe_get h3] at this
  len := by rw [restore_len, R.len, wipe_length]
  pin := fun i hi => by
    obtain ⟨v, g1, g2⟩ := R.pin i hi
    rw [wipe_get fun z => hv i z hi] at g1
    exact ⟨v, g1, g2⟩
def dYes : DT := fun ρ Φ => Φ true ρ
theorem rt_yes : RT K ps tYes dYes := fun b σ H F ρ Φ Q R hT k => k true H F ρ (Same.refl F) R hT
def dLc (Ti : DLs) (G : DG) (Tt : DT) (Te : DE) (vs : List Nat) : DLs := fun ρ Φ => Ti ρ fun ds ρ1 => ∃ W : Nat → List D → Env → Prop, W 0 [] (wipeD ρ1 vs) ∧
  (∀ k x acc ρ, ds[k]? = some x → W k acc ρ → G x ρ fun ρ2 => Tt ρ2 fun c ρ3 => if c = true then Te ρ3 fun e ρ4 => acc.length < sizeLine ∧ W (k + 1) (acc ++ [e]) (wipeD ρ4 vs) else W (k + 1) acc (wipeD ρ3 vs)) ∧
  ∀ acc ρ, W ds.length acc ρ → Φ acc (restore ρ ρ1 vs)
theorem RG.fr {js : List Nat} {g : TG} {G : DG} (h : RG K ps js g G) {b : Bs} {σ : St} {H F : Hp} {ρ : Env} {v : V} {d : D} {Φ : Env → Prop} {Q : St → Hp → Prop} (R : Rep K ps b σ H F ρ) (hd : Dr K F v d) (hT : G d ρ Φ)
    (k : ∀ σ' H' F' ρ', Same F F' → Fr σ ρ H F H' F' → Rep K ps b σ' H' F' ρ' → (∀ a, Owned σ' ρ' a → Owned σ ρ a ∨ H a = none) → (∀ ws, (∀ j ∈ js, j ∈ ws) → wipe σ' ws = wipe σ ws) → Φ ρ' → Q σ' H') : g v σ H Q :=
  h (here b σ H F ρ) σ H F ρ v d Φ Q R.here hd hT fun σ' H' F' ρ' s R' w hΦ => k σ' H' F' ρ' s (R.fr R') (R.back R') (fun a z => (R'.owned z).2.1.symm) w hΦ
/-- a loose thing is changed -/
theorem Rep.poke {b : Bs} {σ : St} {H F : Hp} {ρ : Env} (R : Rep K ps b σ H F ρ) {p : Addr} {o u : HO} (hF : F p = none) (h0 : b.H0 p = none) (hn : ¬ Owned σ ρ p) (e : H p = some u) (hz : NT u := by intro t z; cases z) (hc : ∀ c q, u ≠ LamX.CodeO c q := by first | exact lst_nc _ | exact dK_nc _) : Rep K ps b σ (upd H p o) F ρ where
  sub := fun a w e1 => by
    rw [upd_ne (fun z => by rw [z, hF] at e1; cases e1)]
    exact R.sub a w e1
  grow := R.grow
  nt := R.nt
  dom := fun a w e1 => by
    rw [upd_ne (fun z => by rw [z, h0] at e1; cases e1)]
    exact R.dom a w e1
  tabs := tabs_but R.tabs e hz hc fun a w na e1 => by rw [upd_ne na]; exact e1
  keep := fun a w e1 n nz => by
    rw [upd_ne (fun z => by rw [z, h0] at e1; cases e1)]
    exact R.keep a w e1 n nz
  there := fun a h => by
    by_cases ha : a = p
    · subst ha
      exact ⟨o, upd_same⟩
    · rw [upd_ne ha]
      exact R.there a h
  new := R.new
  slot := fun i w e1 => by
    obtain ⟨v, h1, h2⟩ := R.slot i w e1
    refine ⟨v, h1, h2.up (Same.refl F) fun q hv ho => ?_⟩
    obtain ⟨q', hq, hFq, _, _⟩ := h2.inv ho
    rw [hv] at hq
    cases hq
    exact ⟨hFq, upd_ne (fun z => hn ⟨i, w, e1, ho, by rw [← z, ← hv]; exact h1⟩)⟩
  apart := R.apart
  len := R.len
  pin := R.pin
theorem owned_block {σ : St} {ρ : Env} {vs : List Nat} {a : Addr} (h : Owned (wipe σ vs) (wipeD ρ vs) a) : Owned σ ρ a := by
  obtain ⟨i, o, e1, e2, e3⟩ := h
  obtain ⟨h1, h2⟩ := wipeD_some e1
  rw [wipe_get h2] at e3
  exact ⟨i, o, h1, e2, e3⟩
theorem rl_lc {js : List Nat} {wi : TI} {g : TG} {tt : TT} {te : TE} {vs : List Nat} {Ti : DLs} {G : DG} {Tt : DT} {Te : DE} (hi : RI K ps wi Ti) (hg : RG K ps js g G) (ht : RT K ps tt Tt) (he : RE K ps te Te) (hv : ∀ v ∈ vs, v ∉ ps := by decide) (hj : ∀ j ∈ js, j ∈ vs := by decide) :
    RL K ps (tLc wi g tt te vs) (dLc Ti G Tt Te vs) := by
  intro b σ H F ρ Φ Q R0 hT k
  refine hi b σ H F ρ _ _ R0 hT fun J H1 F1 ρ1 ds s1 R1 hw hT => fun p hp => ?_
  obtain ⟨Gd, Y, hwk, hG, hY⟩ := hw
  obtain ⟨W, w0, wt, wd⟩ := hT
  obtain ⟨hF1, h01, _⟩ := R1.fresh hp
  have n1 : ¬ Owned σ ρ1 p := fun z => by
    obtain ⟨_, _, o, e⟩ := R1.owned z
    rw [hp] at e
    cases e
  refine lc_it hwk (fun i H' => ∃ F' ρ' acc xs, Same F1 F' ∧ Rep K ps b (wipe σ vs) H' F' ρ' ∧ H' p = some (.lst xs) ∧ DA K F' xs acc ∧ F' p = none ∧ ¬ Owned (wipe σ vs) ρ' p ∧ W i acc ρ')
    ⟨F1, _, [], [], Same.refl F1, (R1.block hv).put hp, upd_same, .nil, hF1, fun z => n1 (owned_block z), w0⟩ ?_ ?_ ?_
  · rintro i H' _ ⟨F', ρ', acc, xs, s, R, _⟩
    exact hG H' F' s R.sub
  · rintro i x H2 H3 hin ⟨F2, ρ2, acc, xs, s, R2, ex, hx, hF2, n2, hW⟩ y
    obtain ⟨d, F3, hd, hdr, hy⟩ := hY i H2 x H3 y hin F2 s R2.sub
    -- the item is there
    have st : Rep K ps b (wipe σ vs) H3 F3 ρ2 ∧ H3 p = some (.lst xs) ∧ F3 p = none ∧ Same F2 F3 := by
      rcases hy with ⟨rfl, rfl⟩ | ⟨q, o, hq, hqn, rfl, rfl⟩
      · exact ⟨R2, ex, hF2, Same.refl _⟩
      · have nq : p ≠ q := ne_of_none ex hq
        exact ⟨R2.alloc hq hqn, (upd_ne nq).trans ex, (upd_ne nq).trans hF2, SX.same_upd (R2.fresh hq).1⟩
    obtain ⟨R3, ex3, hF3, s3⟩ := st
    refine hg.fr R3 hdr (wt i d acc ρ2 hd hW) fun σ4 H4 F4 ρ4 s4 f4 R4 o4 w4 hT => ?_
    have hwp : wipe σ4 vs = wipe σ vs := by rw [w4 vs hj, wipe_wipe]
    obtain ⟨ex4, hF4⟩ := f4.loose R3 ex3 hF3 n2
    have n4 : ¬ Owned σ4 ρ4 p := fun z => (o4 p z).elim n2 fun h => by rw [ex3] at h; cases h
    refine ⟨hwp, ht.fr R4 hT fun c H5 F5 ρ5 s5 f5 R5 o5 hT => ?_⟩
    obtain ⟨ex5, hF5⟩ := f5.loose R4 ex4 hF4 n4
    have n5 : ¬ Owned σ4 ρ5 p := fun z => (o5 p z).elim n4 fun h => by rw [ex4] at h; cases h
    have s15 : Same F1 F5 := (((s.trans s3).trans s4).trans s5)
    have hx5 := (((hx.up s3).up s4).up s5)
    cases c with
    | false =>
      refine ⟨F5, wipeD ρ5 vs, acc, xs, s15, ?_, ex5, hx5, hF5, ?_, hT⟩
      · have := R5.block hv
        rwa [hwp] at this
      · intro z
        rw [← hwp] at z
        exact n5 (owned_block z)
    | true =>
      refine he.fr R5 hT fun u H6 F6 ρ6 e s6 f6 R6 o6 hd6 hT => ?_
      obtain ⟨ex6, hF6⟩ := f6.loose R5 ex5 hF5 n5
      have n6 : ¬ Owned σ4 ρ6 p := fun z => (o6 p z).elim n5 fun h => by rw [ex5] at h; cases h
      have hx6 := hx5.up s6
      refine ⟨xs, ex6, by rw [hx6.1]; exact hT.1, F6, wipeD ρ6 vs, acc ++ [e], xs ++ [u], s15.trans s6, ?_, upd_same, hx6.app (.one hd6), hF6, ?_, hT.2⟩
      · have := (R6.poke (o := .lst (xs ++ [u])) hF6 h01 n6 ex6).block hv
        rwa [hwp] at this
      · intro z
        rw [← hwp] at z
        exact n6 (owned_block z)
  · rintro H' ⟨F', ρ', acc, xs, s, R, ex, hx, hF', n', hW⟩
    have Ru := R1.unblock s R hv
    refine k p xs H' F' _ acc (s1.trans s) Ru ⟨hF', h01, fun i o e ho z => ?_⟩ ex hx (wd acc ρ' hW)
    rcases restore_some e with ⟨_, d, rfl, _⟩ | ⟨h1, h2⟩
    · cases ho
    · exact n' ⟨i, o, h2, ho, by rw [wipe_get h1]; exact z⟩
/-! ### slices -/
def DOo := Env → (Option Int → Env → Prop) → Prop
def RP (K : PySem.W.Frag) (ps : List Nat) (t : TO) (T : DOo) : Prop := ∀ (b : Bs) (σ : St) (H F : Hp) (ρ : Env) (Φ : Option Int → Env → Prop) (Q : Option Int → Hp → Prop), Rep K ps b σ H F ρ → T ρ Φ →
  (∀ o H' F' ρ', Same F F' → Rep K ps b σ H' F' ρ' → Φ o ρ' → Q o H') → t σ H Q
def dNoPart : DOo := fun ρ Φ => Φ none ρ
theorem rp_none : RP K ps tNoPart dNoPart := fun b σ H F ρ Φ Q R hT k => k none H F ρ (Same.refl F) R hT
def dPart (T : DE) : DOo := fun ρ Φ => T ρ fun x ρ' => ∃ i, x = .int i ∧ Φ (some i) ρ'
theorem rp_some {t : TE} {T : DE} (h : RE K ps t T) : RP K ps (tPart t) (dPart T) := by
  intro b σ H F ρ Φ Q R0 hT k
  refine h b σ H F ρ _ _ R0 hT fun x H1 F1 ρ1 d s1 R1 h1 hT => ?_
  obtain ⟨i, rfl, hT⟩ := hT
  exact ⟨i, h1.inv_int, k _ H1 F1 ρ1 s1 R1 hT⟩
def cutD (xs : List D) (lo hi : Option Int) : List D := (xs.drop (HT.sIx xs.length 0 lo)).take (HT.sIx xs.length xs.length hi - HT.sIx xs.length 0 lo)
theorem DA.cut {F : Hp} {xs : List V} {ds : List D} (h : DA K F xs ds) (lo hi : Option Int) : DA K F (cutV xs lo hi) (cutD ds lo hi) := by
  unfold cutV cutD
  rw [h.1]
  exact (h.drop _).take _
def dSlL (Te : DE) (Tl Th : DOo) : DLs := fun ρ Φ => Te ρ fun x ρ1 => Tl ρ1 fun l ρ2 => Th ρ2 fun u ρ3 => ∃ ds, x = .lst ds ∧ Φ (cutD ds l u) ρ3
theorem rl_slice {te : TE} {tl th : TO} {Te : DE} {Tl Th : DOo} (he : RE K ps te Te) (hl : RP K ps tl Tl) (hh : RP K ps th Th) : RL K ps (tSl (rSlL K) te tl th) (dSlL Te Tl Th) := by
  intro b σ H F ρ Φ Q R0 hT k
  refine he b σ H F ρ _ _ R0 hT fun x H1 F1 ρ1 d s1 R1 h1 hA => ?_
  refine hl b σ H1 F1 ρ1 _ _ R1 hA fun l H2 F2 ρ2 s2 R2 hB => ?_
  refine hh b σ H2 F2 ρ2 _ _ R2 hB fun u H3 F3 ρ3 s3 R3 hC => ?_
  obtain ⟨ds, rfl, hD⟩ := hC
  obtain ⟨a, xs, rfl, ea, ha⟩ := h1.inv_lst
  have s13 := s2.trans s3
  exact ⟨a, xs, rfl, SqL.of (R3.sub _ _ (s13 _ _ ea)), fun p hp => k p _ _ F3 ρ3 _ (s1.trans s13) (R3.put hp) (R3.loose hp) upd_same ((ha.up s13).cut l u) hD⟩
def dSlT (Te : DE) (Tl Th : DOo) : DE := fun ρ Φ => Te ρ fun x ρ1 => Tl ρ1 fun l ρ2 => Th ρ2 fun u ρ3 => ∃ ds, x = .tup ds ∧ Φ (.tup (cutD ds l u)) ρ3
theorem re_sliceT {te : TE} {tl th : TO} {Te : DE} {Tl Th : DOo} (he : RE K ps te Te) (hl : RP K ps tl Tl) (hh : RP K ps th Th) : RE K ps (tSl (rSlA K) te tl th) (dSlT Te Tl Th) := by
  intro b σ H F ρ Φ Q R0 hT k
  refine he b σ H F ρ _ _ R0 hT fun x H1 F1 ρ1 d s1 R1 h1 hA => ?_
  refine hl b σ H1 F1 ρ1 _ _ R1 hA fun l H2 F2 ρ2 s2 R2 hB => ?_
  refine hh b σ H2 F2 ρ2 _ _ R2 hB fun u H3 F3 ρ3 s3 R3 hC => ?_
  obtain ⟨ds, rfl, hD⟩ := hC
  have s13 := s2.trans s3
  obtain ⟨a, xs, rfl, ea, ha⟩ := (h1.up s13).inv_tup
  refine ⟨a, xs, rfl, sqT_same R3.sub ea, fun hw => ?_, fun _ p hp => ?_⟩
  · have e : cutD ds l u = ds := by
      unfold cutD
      rw [← ha.1, hw.1, hw.2, Nat.sub_zero, List.drop_zero, ha.1, List.take_length]
    rw [e] at hD
    exact k _ H3 F3 ρ3 _ (s1.trans s13) R3 (h1.up s13) hD
  · obtain ⟨hF, _⟩ := R3.fresh hp
    have sF : Same F3 (upd F3 p (.tup (cutV xs l u))) := SX.same_upd hF
    have hc := ha.cut l u
    exact k _ _ _ ρ3 _ ((s1.trans s13).trans sF) (R3.alloc hp) (.tup (SqT.of upd_same) hc.1 fun j v d a c => (hc.2 j v d a c).up sF) hD
def dRevL (T : DE) : DLs := fun ρ Φ => T ρ fun x ρ1 => ∃ ds, x = .lst ds ∧ Φ ds.reverse ρ1
theorem rl_rev {t : TE} {T : DE} (h : RE K ps t T) : RL K ps (tRevL K t) (dRevL T) := by
  intro b σ H F ρ Φ Q R0 hT k
  refine h b σ H F ρ _ _ R0 hT fun x H1 F1 ρ1 d s1 R1 h1 hT => ?_
  obtain ⟨ds, rfl, hT⟩ := hT
  obtain ⟨a, xs, rfl, ea, ha⟩ := h1.inv_lst
  exact ⟨a, xs, rfl, SqL.of (R1.sub _ _ ea), fun p hp => k p _ _ F1 ρ1 _ s1 (R1.put hp) (R1.loose hp) upd_same ha.rev hT⟩
def dRevT (T : DE) : DE := fun ρ Φ => T ρ fun x ρ1 => ∃ ds, x = .tup ds ∧ Φ (.tup ds.reverse) ρ1
theorem re_revT {t : TE} {T : DE} (h : RE K ps t T) : RE K ps (SX.tRevT K t) (dRevT T) := by
  intro b σ H F ρ Φ Q R0 hT k
  refine h b σ H F ρ _ _ R0 hT fun x H1 F1 ρ1 d s1 R1 h1 hT => ?_
  obtain ⟨ds, rfl, hT⟩ := hT
  obtain ⟨a, xs, rfl, ea, ha⟩ := h1.inv_tup
  refine ⟨a, xs, rfl, sqT_same R1.sub ea, fun p hp => ?_⟩
  obtain ⟨hF, _⟩ := R1.fresh hp
  have sF : Same F1 (upd F1 p (.tup xs.reverse)) := SX.same_upd hF
  exact k _ _ _ ρ1 _ (s1.trans sF) (R1.alloc hp) (.tup (SqT.of upd_same) ha.rev.1 fun j v d a c => (ha.rev.2 j v d a c).up sF) hT
/-! ### fields of what is kept -/
def dFld (C : Addr) (T : DE) (f : Str) : DE := fun ρ Φ => T ρ fun x ρ1 => ∃ fs d, x = .obj C fs ∧ valD fs f = some d ∧ Φ d ρ1
theorem lookup_valV {f : Str} : ∀ fs : List (Str × V), fs.lookup f = valV fs f
  | [] => rfl
  | p :: r => by
    by_cases e : p.1 = f
    · rw [valV_pos e, List.lookup_cons, beq_iff_eq.mpr e.symm]
    · rw [valV_neg e, List.lookup_cons, beq_eq_false_iff_ne.mpr (fun z => e z.symm)]
      exact lookup_valV r
theorem re_fld {C : Addr} {t : TE} {T : DE} {f : Str} (hc : Cls K C) (hn : NoAttr K C f) (h : RE K ps t T) : RE K ps (tFld K t f) (dFld C T f) := by
  intro b σ H F ρ Φ Q R0 hT k
  refine h b σ H F ρ _ _ R0 hT fun x H1 F1 ρ1 d s1 R1 h1 hT => ?_
  obtain ⟨fs, e, rfl, he, hT⟩ := hT
  obtain ⟨a, dx, xs, rfl, ea, hm⟩ := h1.inv_obj
  have m := hm.val (k := f)
  rw [he] at m
  obtain ⟨v, hv, hd⟩ := m
  exact ⟨a, C, dx, xs, v, rfl, R1.sub _ _ ea, hc, hn, by rw [lookup_valV]; exact hv, k v H1 F1 ρ1 e s1 R1 hd hT⟩
end
end DL
/-! Part 7: statements; what a def promises, by data. -/
namespace DL
variable [Tbs]
open PySem PySem.Spec PyProof.Rows L2
structure DEn where
  nx : Env → Prop
  rt : D → Env → Prop
  bk : Env → Prop
  ct : Env → Prop
abbrev DS := DEn → Env → Prop
def RS (K : PySem.W.Frag) (ps : List Nat) (t : TS) (T : DS) : Prop := ∀ (b : Bs) (σ : St) (H F : Hp) (ρ : Env) (E : DEn) (D' : Ends), Rep K ps b σ H F ρ → T E ρ →
  (∀ σ' H' F' ρ', Same F F' → Rep K ps b σ' H' F' ρ' → E.nx ρ' → D'.nx σ' H') → (∀ v σ' H' F' ρ' d, Same F F' → Rep K ps b σ' H' F' ρ' → Dr K F' v d → E.rt d ρ' → D'.rt v H') →
  (∀ σ' H' F' ρ', Same F F' → Rep K ps b σ' H' F' ρ' → E.bk ρ' → D'.bk σ' H') → (∀ σ' H' F' ρ', Same F F' → Rep K ps b σ' H' F' ρ' → E.ct ρ' → D'.ct σ' H') → t D' σ H
section
variable {K : PySem.W.Frag} {ps : List Nat}
theorem at_l {F H : Hp} {p : Addr} {xs : List V} {ds : List D} (h : H p = some (.lst xs)) (hd : DA K F xs ds) : At K F H p (.l ds) := ⟨xs, h, hd⟩
theorem at_m {F H : Hp} {p : Addr} {xs : List (Key × V)} {ds : List (Key × D)} (h : H p = some (.dK xs)) (hd : DM K F xs ds) : At K F H p (.m ds) := ⟨xs, h, hd⟩
def dNext : DS := fun E ρ => E.nx ρ
theorem rs_next : RS K ps tNext dNext := fun b σ H F ρ E D' R hT n r bk ct => n σ H F ρ (Same.refl F) R hT
def dSeq (T U : DS) : DS := fun E ρ => T { E with nx := U E } ρ
theorem rs_seq {t u : TS} {T U : DS} (h : RS K ps t T) (h2 : RS K ps u U) : RS K ps (tSeq t u) (dSeq T U) := by
  intro b σ H F ρ E D' R hT n r bk ct
  refine h b σ H F ρ _ _ R hT (fun σ1 H1 F1 ρ1 s1 R1 hT => ?_) r bk ct
  exact h2 b σ1 H1 F1 ρ1 E D' R1 hT (fun σ2 H2 F2 ρ2 s2 => n σ2 H2 F2 ρ2 (s1.trans s2)) (fun v σ2 H2 F2 ρ2 d s2 => r v σ2 H2 F2 ρ2 d (s1.trans s2)) (fun σ2 H2 F2 ρ2 s2 => bk σ2 H2 F2 ρ2 (s1.trans s2)) (fun σ2 H2 F2 ρ2 s2 => ct σ2 H2 F2 ρ2 (s1.trans s2))
def dBreak : DS := fun E ρ => E.bk ρ
theorem rs_break : RS K ps tBreak dBreak := fun b σ H F ρ E D' R hT n r bk ct => bk σ H F ρ (Same.refl F) R hT
def dCont : DS := fun E ρ => E.ct ρ
theorem rs_cont : RS K ps tCont dCont := fun b σ H F ρ E D' R hT n r bk ct => ct σ H F ρ (Same.refl F) R hT
def dRet (T : DE) : DS := fun E ρ => T ρ fun d ρ' => E.rt d ρ'
theorem rs_ret {t : TE} {T : DE} (h : RE K ps t T) : RS K ps (tRet t) (dRet T) := by
  intro b σ H F ρ E D' R hT n r bk ct
  exact h b σ H F ρ _ _ R hT fun v H1 F1 ρ1 d s1 R1 hd hΦ => r v σ H1 F1 ρ1 d s1 R1 hd hΦ
def dRetN : DS := fun E ρ => E.rt .non ρ
theorem rs_retN : RS K ps tRetN dRetN := fun b σ H F ρ E D' R hT n r bk ct => r .non σ H F ρ .non (Same.refl F) R .non hT
def dDrop (T : DE) : DS := fun E ρ => T ρ fun _ ρ' => E.nx ρ'
theorem rs_drop {t : TE} {T : DE} (h : RE K ps t T) : RS K ps (tDrop t) (dDrop T) := by
  intro b σ H F ρ E D' R hT n r bk ct
  exact h b σ H F ρ _ _ R hT fun v H1 F1 ρ1 d s1 R1 hd hΦ => n σ H1 F1 ρ1 s1 R1 hΦ
def dIfS (C : DT) (T U : DS) : DS := fun E ρ => C ρ fun c ρ1 => if c = true then T E ρ1 else U E ρ1
theorem rs_if {c : TT} {t u : TS} {C : DT} {T U : DS} (hc : RT K ps c C) (h : RS K ps t T) (h2 : RS K ps u U) : RS K ps (tIfS c t u) (dIfS C T U) := by
  intro b σ H F ρ E D' R hT n r bk ct
  refine hc b σ H F ρ _ _ R hT fun c H1 F1 ρ1 s1 R1 hT => ?_
  have n' := fun σ2 H2 F2 ρ2 (s2 : Same F1 F2) => n σ2 H2 F2 ρ2 (s1.trans s2)
  have r' := fun v σ2 H2 F2 ρ2 d (s2 : Same F1 F2) => r v σ2 H2 F2 ρ2 d (s1.trans s2)
  have b' := fun σ2 H2 F2 ρ2 (s2 : Same F1 F2) => bk σ2 H2 F2 ρ2 (s1.trans s2)
  have c' := fun σ2 H2 F2 ρ2 (s2 : Same F1 F2) => ct σ2 H2 F2 ρ2 (s1.trans s2)
  cases c with
  | true => exact h b σ H1 F1 ρ1 E D' R1 hT n' r' b' c'
  | false => exact h2 b σ H1 F1 ρ1 E D' R1 hT n' r' b' c'
/-- a target, data -/
def dAsg (T : DE) (G : DG) : DS := fun E ρ => T ρ fun d ρ1 => G d ρ1 E.nx
theorem rs_asg {js : List Nat} {t : TE} {g : TG} {T : DE} {G : DG} (h : RE K ps t T) (hg : RG K ps js g G) : RS K ps (tAsg t g) (dAsg T G) := by
  intro b σ H F ρ E D' R hT n r bk ct
  refine h b σ H F ρ _ _ R hT fun v H1 F1 ρ1 d s1 R1 hd hΦ => ?_
  exact hg b σ H1 F1 ρ1 v d _ _ R1 hd hΦ fun σ2 H2 F2 ρ2 s2 R2 _ hn => n σ2 H2 F2 ρ2 (s1.trans s2) R2 hn
/-- a new list into a slot -/
def dSetL (j : Nat) (T : DLs) : DS := fun E ρ => T ρ fun ds ρ1 => E.nx (ρ1.set j (some (.l ds)))
theorem rs_setL {j : Nat} {t : TE} {T : DLs} (h : RL K ps t T) (hj : j ∉ ps := by decide) : RS K ps (tAsg t (gName j)) (dSetL j T) := by
  intro b σ H F ρ E D' R hT n r bk ct
  exact h b σ H F ρ _ _ R hT fun p xs H1 F1 ρ1 ds s1 R1 lo hx hd hΦ => n _ H1 F1 _ s1 (R1.setO hj rfl lo (at_l hx hd)) hΦ
def dSetM (j : Nat) (T : DDs) : DS := fun E ρ => T ρ fun ds ρ1 => E.nx (ρ1.set j (some (.m ds)))
theorem rs_setM {j : Nat} {t : TE} {T : DDs} (h : RD K ps t T) (hj : j ∉ ps := by decide) : RS K ps (tAsg t (gName j)) (dSetM j T) := by
  intro b σ H F ρ E D' R hT n r bk ct
  exact h b σ H F ρ _ _ R hT fun p xs H1 F1 ρ1 ds s1 R1 lo hx hd hΦ => n _ H1 F1 _ s1 (R1.setO hj rfl lo (at_m hx hd)) hΦ
/-- x op= e on ints, texts, a name -/
def dAug (i : Nat) (T : DE) (R : DO) : DS := fun E ρ => ∃ x, ρ[i]? = some (some (.d x)) ∧ T ρ fun y ρ1 => R x y fun z => E.nx (ρ1.set i (some (.d z)))
theorem rs_augI {i : Nat} {t : TE} {T : DE} {f : Int → Int → Int} (h : RE K ps t T) (hj : i ∉ ps := by decide) : RS K ps (tAug i t (ipI f)) (dAug i T (oI0 fun a c => .int (f a c))) := by
  intro b σ H F ρ E D' R hT n r bk ct
  obtain ⟨x, hx, hT⟩ := hT
  obtain ⟨v, h1, h2⟩ := R.slot i _ hx
  refine ⟨v, h1, h b σ H F ρ _ _ R hT fun y H1 F1 ρ1 d s1 R1 hd hΦ => ?_⟩
  cases x <;> try exact hΦ.elim
  cases d <;> try exact hΦ.elim
  exact ⟨_, _, Dr.inv_int h2, hd.inv_int, n _ H1 F1 _ s1 (R1.setD hj (.int _)) hΦ⟩
/-- append to the slot's list -/
def dApp (i : Nat) (T : DE) : DS := fun E ρ => (∃ ds0, ρ[i]? = some (some (.l ds0))) ∧ T ρ fun d ρ1 => ∃ ds, ρ1[i]? = some (some (.l ds)) ∧ ds.length < sizeLine ∧ E.nx (ρ1.set i (some (.l (ds ++ [d]))))
theorem rs_app {i : Nat} {t : TE} {T : DE} (h : RE K ps t T) : RS K ps (tDrop (tBM K "list" rAppend (tVar i) (tCons t tNil))) (dApp i T) := by
  intro b σ H F ρ E D' R hT n r bk ct
  obtain ⟨⟨ds0, e0⟩, hT⟩ := hT
  obtain ⟨p, hp, _, _, xs0, ex0, _⟩ := R.own e0 rfl
  refine ⟨_, hp, .inl ⟨rfl, xs0, SqL.of ex0⟩, h b σ H F ρ _ _ R hT fun y H1 F1 ρ1 d s1 R1 hd hΦ => ?_⟩
  obtain ⟨ds, e1, hz, hΦ⟩ := hΦ
  obtain ⟨p', hp', hF1, _, xs, ex, hx⟩ := R1.own e1 rfl
  rw [hp] at hp'
  cases hp'
  refine ⟨p, xs, y, rfl, rfl, ex, by rw [hx.1]; exact hz, n σ _ F1 _ s1 (R1.write e1 rfl rfl hp (fun a u na e => (upd_ne na).trans e) (Same.refl F1) (fun a o e => ?_) (fun a o e => .inl e) (fun a o e => .inl e) (at_l upd_same (hx.app (.one hd)))) hΦ⟩
  rw [upd_ne (fun z => by rw [z, hF1] at e; cases e)]
  exact R1.sub a o e
/-- pop from the slot's list -/
def dPop (i : Nat) : DE := fun ρ Φ => ∃ ds d, ρ[i]? = some (some (.l ds)) ∧ ds[ds.length - 1]? = some d ∧ Φ d (ρ.set i (some (.l ds.dropLast)))
theorem re_pop {i : Nat} : RE K ps (tBM0 K "list" rPop (tVar i)) (dPop i) := by
  intro b σ H F ρ Φ Q R hT k
  obtain ⟨ds, d, e0, hd, hT⟩ := hT
  obtain ⟨p, hp, hF, _, xs, ex, hx⟩ := R.own e0 rfl
  obtain ⟨v, hv, hdr⟩ := hx.get hd
  refine ⟨_, hp, .inl ⟨rfl, xs, SqL.of ex⟩, p, xs, v, rfl, rfl, ex, by rw [hx.1]; exact hv, k v _ F _ d (Same.refl F) (R.write e0 rfl rfl hp (fun a u na e => (upd_ne na).trans e) (Same.refl F) (fun a o e => ?_) (fun a o e => .inl e) (fun a o e => .inl e) (at_l upd_same hx.dropLast)) hdr hT⟩
  rw [upd_ne (fun z => by rw [z, hF] at e; cases e)]
  exact R.sub a o e
/-- x[e] = y in the slot's list -/
def dPutL (i : Nat) (Tv Ti : DE) : DS := fun E ρ => Tv ρ fun d ρ1 => (ρ1[i]?.join).isSome = true ∧ Ti ρ1 fun y ρ2 => ∃ ds k j, ρ2[i]? = some (some (.l ds)) ∧ y = .int k ∧ ixN ds.length k = some j ∧ E.nx (ρ2.set i (some (.l (ds.set j d))))
theorem rs_putL {i : Nat} {tv ti : TE} {Tv Ti : DE} (hv : RE K ps tv Tv) (hi : RE K ps ti Ti) : RS K ps (tAsg tv (gSub (tVar i) ti rSetL)) (dPutL i Tv Ti) := by
  intro b σ H F ρ E D' R hT n r bk ct
  refine hv b σ H F ρ _ _ R hT fun v H1 F1 ρ1 d s1 R1 hd hT => ?_
  obtain ⟨w, hw⟩ := slot_some R1 hT.1
  refine ⟨w, hw, hi b σ H1 F1 ρ1 _ _ R1 hT.2 fun y H2 F2 ρ2 e s2 R2 he hT => ?_⟩
  obtain ⟨ds, k, j, e1, rfl, hj, hΦ⟩ := hT
  obtain ⟨p, hp, hF2, _, xs, ex, hx⟩ := R2.own e1 rfl
  rw [hw] at hp
  cases hp
  refine ⟨p, xs, k, j, rfl, he.inv_int, ex, by rw [hx.1]; exact hj, n σ _ F2 _ (s1.trans s2) (R2.write e1 rfl rfl hw (fun a u na e => (upd_ne na).trans e) (Same.refl F2) (fun a o e => ?_) (fun a o e => .inl e) (fun a o e => .inl e) (at_l upd_same (hx.set (hd.up s2)))) hΦ⟩
  rw [upd_ne (fun z => by rw [z, hF2] at e; cases e)]
  exact R2.sub a o e
/-- x[e] = y in the slot's dict -/
def dPutM (i : Nat) (Tv Ti : DE) : DS := fun E ρ => Tv ρ fun d ρ1 => (ρ1[i]?.join).isSome = true ∧ Ti ρ1 fun y ρ2 => ∃ ks k, ρ2[i]? = some (some (.m ks)) ∧ keyD y = some k ∧ ks.length < sizeLine ∧ E.nx (ρ2.set i (some (.m (putD ks k d))))
theorem rs_putM {i : Nat} {tv ti : TE} {Tv Ti : DE} (hv : RE K ps tv Tv) (hi : RE K ps ti Ti) : RS K ps (tAsg tv (gSub (tVar i) ti rSetD)) (dPutM i Tv Ti) := by
  intro b σ H F ρ E D' R hT n r bk ct
  refine hv b σ H F ρ _ _ R hT fun v H1 F1 ρ1 d s1 R1 hd hT => ?_
  obtain ⟨w, hw⟩ := slot_some R1 hT.1
  refine ⟨w, hw, hi b σ H1 F1 ρ1 _ _ R1 hT.2 fun y H2 F2 ρ2 e s2 R2 he hT => ?_⟩
  obtain ⟨ks, key, e1, hk, hz, hΦ⟩ := hT
  obtain ⟨p, hp, hF2, _, xs, ex, hx⟩ := R2.own e1 rfl
  rw [hw] at hp
  cases hp
  rw [keyD_ok he hk]
  refine ⟨p, _, rfl, DPut.k ex (by rw [hx.len]; exact hz), n σ _ F2 _ (s1.trans s2) (R2.write e1 rfl rfl hw (fun a u na e => (upd_ne na).trans e) (Same.refl F2) (fun a o e => ?_) (fun a o e => .inl e) (fun a o e => .inl e) (at_m upd_same (hx.put (hd.up s2)))) hΦ⟩
  rw [upd_ne (fun z => by rw [z, hF2] at e; cases e)]
  exact R2.sub a o e
/-! ### loops -/
def dFor (Ti : DLs) (G : DG) (Tb : DS) : DS := fun E ρ => Ti ρ fun ds ρ1 => ∃ W : Nat → Env → Prop, W 0 ρ1 ∧ (∀ k x ρ, ds[k]? = some x → W k ρ → G x ρ fun ρ2 => Tb ⟨W (k + 1), E.rt, E.nx, W (k + 1)⟩ ρ2) ∧ ∀ ρ, W ds.length ρ → E.nx ρ
theorem rs_for {js : List Nat} {wi : TI} {g : TG} {tb : TS} {Ti : DLs} {G : DG} {Tb : DS} (hi : RI K ps wi Ti) (hg : RG K ps js g G) (hb : RS K ps tb Tb) : RS K ps (tFor wi g tb) (dFor Ti G Tb) := by
  intro b σ H F ρ E D' R0 hT n r bk ct
  refine hi b σ H F ρ _ _ R0 hT fun J H1 F1 ρ1 ds s1 R1 hw hT => ?_
  obtain ⟨Gd, Y, hwk, hG, hY⟩ := hw
  obtain ⟨W, w0, wt, wd⟩ := hT
  refine for_it hwk (fun i σ' H' => ∃ F' ρ', Same F1 F' ∧ Rep K ps b σ' H' F' ρ' ∧ W i ρ') ⟨F1, ρ1, Same.refl F1, R1, w0⟩ ?_ ?_ ?_
  · rintro i σ' H' _ ⟨F', ρ', s, R, _⟩
    exact hG H' F' s R.sub
  · rintro i x σ2 H2 H3 hin ⟨F2, ρ2, s, R2, hW⟩ y
    obtain ⟨d, F3, hd, hdr, hy⟩ := hY i H2 x H3 y hin F2 s R2.sub
    have st : Rep K ps b σ2 H3 F3 ρ2 ∧ Same F2 F3 := by
      rcases hy with ⟨rfl, rfl⟩ | ⟨q, o, hq, hqn, rfl, rfl⟩
      · exact ⟨R2, Same.refl _⟩
      · exact ⟨R2.alloc hq hqn, SX.same_upd (R2.fresh hq).1⟩
    obtain ⟨R3, s3⟩ := st
    refine hg b σ2 H3 F3 ρ2 x d _ _ R3 hdr (wt i d ρ2 hd hW) fun σ4 H4 F4 ρ4 s4 R4 _ hT => ?_
    have s14 := ((s.trans s3).trans s4)
    exact hb b σ4 H4 F4 ρ4 _ _ R4 hT (fun σ5 H5 F5 ρ5 s5 R5 h => ⟨F5, ρ5, s14.trans s5, R5, h⟩) (fun v σ5 H5 F5 ρ5 d s5 R5 hd h => r v σ5 H5 F5 ρ5 d (s1.trans (s14.trans s5)) R5 hd h) (fun σ5 H5 F5 ρ5 s5 R5 h => n σ5 H5 F5 ρ5 (s1.trans (s14.trans s5)) R5 h)
      (fun σ5 H5 F5 ρ5 s5 R5 h => ⟨F5, ρ5, s14.trans s5, R5, h⟩)
  · rintro σ' H' ⟨F', ρ', s, R, hW⟩
    exact n σ' H' F' ρ' (s1.trans s) R (wd ρ' hW)
def dWhile (C : DT) (Tb : DS) : DS := fun E ρ => ∃ W : Nat → Env → Prop, (∃ m, W m ρ) ∧ ∀ m ρ, W m ρ → C ρ fun c ρ1 => if c = true then Tb ⟨fun ρ2 => ∃ m', m' < m ∧ W m' ρ2, E.rt, E.nx, fun ρ2 => ∃ m', m' < m ∧ W m' ρ2⟩ ρ1 else E.nx ρ1
theorem rs_while {c : TT} {tb : TS} {C : DT} {Tb : DS} (hc : RT K ps c C) (hb : RS K ps tb Tb) : RS K ps (tWhile c tb) (dWhile C Tb) := by
  intro b σ H F ρ E D' R0 hT n r bk ct
  obtain ⟨W, ⟨m0, w0⟩, wt⟩ := hT
  refine ⟨fun m σ' H' => ∃ F' ρ', Same F F' ∧ Rep K ps b σ' H' F' ρ' ∧ W m ρ', ⟨m0, F, ρ, Same.refl F, R0, w0⟩, ?_⟩
  rintro m σ1 H1 ⟨F1, ρ1, s1, R1, hW⟩
  refine hc b σ1 H1 F1 ρ1 _ _ R1 (wt m ρ1 hW) fun c H2 F2 ρ2 s2 R2 hT => ?_
  cases c with
  | false => exact n σ1 H2 F2 ρ2 (s1.trans s2) R2 hT
  | true =>
    refine ⟨fun σ' H' => ∃ m', m' < m ∧ ∃ F' ρ', Same F F' ∧ Rep K ps b σ' H' F' ρ' ∧ W m' ρ', fun σ' H' h => h, ?_⟩
    exact hb b σ1 H2 F2 ρ2 _ _ R2 hT (fun σ5 H5 F5 ρ5 s5 R5 ⟨m', h1, h2⟩ => ⟨m', h1, F5, ρ5, (s1.trans s2).trans s5, R5, h2⟩) (fun v σ5 H5 F5 ρ5 d s5 R5 hd h => r v σ5 H5 F5 ρ5 d ((s1.trans s2).trans s5) R5 hd h)
      (fun σ5 H5 F5 ρ5 s5 R5 h => n σ5 H5 F5 ρ5 ((s1.trans s2).trans s5) R5 h) (fun σ5 H5 F5 ρ5 s5 R5 ⟨m', h1, h2⟩ => ⟨m', h1, F5, ρ5, (s1.trans s2).trans s5, R5, h2⟩)
/-! ### what a def promises -/
def Ok0 (K : PySem.W.Frag) (F H : Hp) (v : V) (o : OV) : Prop := match o with
  | .d x => Dr K F v x
  | o => ∃ p, v = .ref p ∧ F p = none ∧ At K F H p o
theorem Ok0.mk {F H : Hp} {v : V} {o : OV} {p : Addr} (hv : v = .ref p) (ho : o.own = true) (hF : F p = none) (h : At K F H p o) : Ok0 K F H v o := by
  cases o with
  | d _ => cases ho
  | l ds => exact ⟨p, hv, hF, h⟩
  | m ks => exact ⟨p, hv, hF, h⟩
  | draw => exact ⟨p, hv, hF, h⟩
theorem Ok0.inv {F H : Hp} {v : V} {o : OV} (h : Ok0 K F H v o) (ho : o.own = true) : ∃ p, v = .ref p ∧ F p = none ∧ At K F H p o := by
  cases o with
  | d _ => cases ho
  | l ds => exact h
  | m ks => exact h
  | draw => exact h
def OwnA (vs : List V) (os : List OV) (a : Addr) : Prop := ∃ (i : Nat) (o : OV), os[i]? = some o ∧ o.own = true ∧ vs[i]? = some (.ref a)
structure ArgsAt (K : PySem.W.Frag) (F H : Hp) (vs : List V) (os : List OV) : Prop where
  len : vs.length = os.length
  ok : ∀ (i : Nat) v o, vs[i]? = some v → os[i]? = some o → Ok0 K F H v o
  apart : ∀ (i j : Nat) o u v, i ≠ j → os[i]? = some o → o.own = true → os[j]? = some u → u.own = true → vs[i]? = some v → vs[j]? ≠ some v
abbrev SD := List OV → (D → List OV → Prop) → Prop
/-- the promise S, over the heap -/
def spOf (K : PySem.W.Frag) (S : SD) : Sp := fun vs H Q _ => ∃ (F : Hp) (os : List OV) (Φ : D → List OV → Prop), (Sub F H ∧ (∀ a o, F a = some o → NT o) ∧ LamX.Tabs Tbs.T H ∧ Same Tbs.B F) ∧ ArgsAt K F H vs os ∧ S os Φ ∧
  ∀ F' H' v d os', Same F F' → (Sub F' H' ∧ (∀ a o, F' a = some o → NT o) ∧ LamX.Tabs Tbs.T H') → (∀ a o, H a = some o → ¬ OwnA vs os a → NT o → H' a = some o) → (∀ a o, H a = some o → ∃ o', H' a = some o') → (∀ a o, F' a = some o → F a = some o ∨ H a = none ∨ OwnA vs os a) →
    os'.length = os.length → (∀ (i : Nat) o o' v, os[i]? = some o → o.own = true → os'[i]? = some o' → vs[i]? = some v → Ok0 K F' H' v o') → Dr K F' v d → Φ d os' → Q v H'
def slotO (o : Option (Option OV)) : OV := match o with
  | some (some o) => o
  | _ => .d .non
def outs (n : Nat) (ρ : Env) : List OV := (List.range n).map fun i => slotO ρ[i]?
def startD (n : Nat) (os : List OV) : Env := os.map some ++ List.replicate (n - os.length) none
theorem fn_go {N pr : List Str} {S : SD} {ps : List Nat} {T : DS} {t : TS} {vs : List V} {H : Hp} {Q : VK} {E : XK} (hN : pr.length ≤ N.length) (h2 : RS K ps t T)
    (len : ∀ os Φ, S os Φ → os.length = pr.length ∧ (∀ (i : Nat) o, os[i]? = some o → o.own = true → i ∈ ps) ∧ ∀ i ∈ ps, i < os.length)
    (go : ∀ os Φ, S os Φ → T ⟨fun ρ => (∀ i ∈ ps, (ρ[i]?.join).isSome = true) ∧ Φ .non (outs os.length ρ), fun d ρ => (∀ i ∈ ps, (ρ[i]?.join).isSome = true) ∧ Φ d (outs os.length ρ), fun _ => False, fun _ => False⟩ (startD N.length os))
    (h : spOf K S vs H Q E) : t { nx := fun _ H' => Q .non H', rt := Q } (L2.start N vs) H := by
  obtain ⟨F, os, Φ, ⟨hsub, hnt, htb, hB⟩, ha, hS, q⟩ := h
  obtain ⟨l1, l2, l3⟩ := len os Φ hS
  have sg : ∀ {i : Nat} {v : V}, vs[i]? = some v → (L2.start N vs)[i]? = some (some v) := fun {i v} e => by
    have hi := (List.getElem?_eq_some_iff.mp e).1
    unfold L2.start
    rw [List.getElem?_append_left (by rw [List.length_map]; exact hi), List.getElem?_map, e]
    rfl
  have dg : ∀ {i : Nat} {o : OV}, (startD N.length os)[i]? = some (some o) → os[i]? = some o := fun {i o} e => by
    unfold startD at e
    by_cases hi : i < os.length
    · rw [List.getElem?_append_left (by rw [List.length_map]; exact hi), List.getElem?_map] at e
      cases e2 : os[i]? with
      | none => rw [e2] at e; cases e
      | some o' => rw [e2] at e; cases e; rfl
    · rw [List.getElem?_append_right (by rw [List.length_map]; omega)] at e
      have := List.mem_of_getElem? e
      rw [List.mem_replicate] at this
      cases this.2
  have vget : ∀ {i : Nat} {o : OV}, os[i]? = some o → ∃ v, vs[i]? = some v := fun {i o} e => by
    have hi := (List.getElem?_eq_some_iff.mp e).1
    exact ⟨_, List.getElem?_eq_getElem (by rw [ha.len]; exact hi)⟩
  have R : Rep K ps ⟨H, F, vs, OwnA vs os⟩ (L2.start N vs) H F (startD N.length os) := by
    refine ⟨hsub, ⟨Same.refl F, hB⟩, fun a o e _ _ => e, fun a ⟨i, o, e1, e2, e3⟩ => ?_, fun a o e => .inl e, fun i o e => ?_, fun i j o u v n e1 o1 e2 o2 s1 s2 => ?_, ?_, fun i hi => ?_, hnt, fun a o e => ⟨o, e⟩, htb⟩
    · obtain ⟨p, h3, _, h4⟩ := (ha.ok i _ o e3 e1).inv e2
      cases h3
      exact h4.ex
    · have e' := dg e
      obtain ⟨v, hv⟩ := vget e'
      refine ⟨v, sg hv, ?_⟩
      have hok := ha.ok i v o hv e'
      by_cases ho : o.own = true
      · obtain ⟨p, rfl, h3, h4⟩ := hok.inv ho
        exact .mk rfl ho h3 (.inr ⟨i, o, e', ho, hv⟩) h4
      · cases o with
        | d x => exact hok
        | _ => exact absurd rfl ho
    · have e1' := dg e1
      have e2' := dg e2
      obtain ⟨v1, hv1⟩ := vget e1'
      obtain ⟨v2, hv2⟩ := vget e2'
      have := sg hv1
      rw [s1] at this
      cases this
      have := sg hv2
      rw [s2] at this
      cases this
      exact ha.apart i j o u v n e1' o1 e2' o2 hv1 hv2
    · unfold startD L2.start
      rw [List.length_append, List.length_append, List.length_map, List.length_map, List.length_replicate, List.length_replicate, ha.len]
    · have hi' := l3 i hi
      obtain ⟨v, hv⟩ := vget (List.getElem?_eq_getElem hi')
      exact ⟨v, sg hv, hv⟩
  have fin : ∀ v σ' H' F' ρ' d, Same F F' → Rep K ps ⟨H, F, vs, OwnA vs os⟩ σ' H' F' ρ' → Dr K F' v d → ((∀ i ∈ ps, (ρ'[i]?.join).isSome = true) ∧ Φ d (outs os.length ρ')) → Q v H' := by
    intro v σ' H' F' ρ' d s1 R1 hd hΦ
    refine q F' H' v d (outs os.length ρ') s1 ⟨R1.sub, R1.nt, R1.tabs⟩ R1.keep (fun a o e => ?_) R1.new (by simp [outs]) (fun i o o' u e1 e2 e3 e4 => ?_) hd hΦ.2
    · by_cases z : OwnA vs os a
      · exact R1.there a z
      · exact R1.dom a o e
    · have hi := l2 i o e1 e2
      have hs := hΦ.1 i hi
      obtain ⟨u', g1, g2⟩ := R1.pin i hi
      rw [e4] at g2
      cases g2
      cases e5 : ρ'[i]? with
      | none => rw [e5] at hs; cases hs
      | some o5 =>
        cases o5 with
        | none => rw [e5] at hs; cases hs
        | some o5 =>
          have hil : i < os.length := (List.getElem?_eq_some_iff.mp e1).1
          have e6 : (outs os.length ρ')[i]? = some o5 := by
            unfold outs
            rw [List.getElem?_map, List.getElem?_range hil, Option.map_some, e5]
            rfl
          rw [e6] at e3
          obtain rfl : o5 = o' := Option.some.inj e3
          obtain ⟨u2, g3, g4⟩ := R1.slot i o5 e5
          rw [g1] at g3
          cases g3
          by_cases ho : o5.own = true
          · obtain ⟨p, rfl, z1, _, z2⟩ := g4.inv ho
            exact .mk rfl ho z1 z2
          · cases o5 with
            | d x => exact g4
            | _ => exact absurd rfl ho
  exact h2 _ _ H F _ _ _ R (go os Φ hS) (fun σ' H' F' ρ' s1 R1 hn => fin .non σ' H' F' ρ' .non s1 R1 .non hn) fin (fun _ _ _ _ _ _ z => z.elim) (fun _ _ _ _ _ _ z => z.elim)
theorem fnD {P : Program} {w : World} {mg : Str → Option Value} {base : Heap} {x qual : Str} {st : Stmt} {f : Addr} {fd : FuncData} {N pr : List Str} {k : Nat} {S : SD} (Fn : Fun K x qual st f fd) (Sc : FnScope N pr (defScope st)) (ps : List Nat) {T : DS}
    (body : ∀ (cdv : Value) (A : Around) (outer : List PySem.Env) (s : Shared) (H : Hp) (E : XK), Room k (A.deeper (envOfC qual (defScope st) s.heap.objs.size f cdv)) →
      ∃ t, PSs (cxOf CX0 P w K mg base N qual (defScope st) f cdv A outer s H E).nox (defBody st) t ∧ RS K ps t T)
    (len : ∀ os Φ, S os Φ → os.length = pr.length ∧ (∀ (i : Nat) o, os[i]? = some o → o.own = true → i ∈ ps) ∧ ∀ i ∈ ps, i < os.length)
    (go : ∀ os Φ, S os Φ → T ⟨fun ρ => (∀ i ∈ ps, (ρ[i]?.join).isSome = true) ∧ Φ .non (outs os.length ρ), fun d ρ => (∀ i ∈ ps, (ρ[i]?.join).isSome = true) ∧ Φ d (outs os.length ρ), fun _ => False, fun _ => False⟩ (startD N.length os)) :
    FnOk P w K mg base CX0 (k + 1) f fd pr (spOf K S) := by
  refine Fn.ok Sc (fun vs H Q E h => ?_) (fun cdv A outer s H vs Q E hr h => ?_)
  · obtain ⟨F, os, Φ, _, ha, hS, _⟩ := h
    rw [ha.len]
    exact (len os Φ hS).1
  · obtain ⟨t, h1, h2⟩ := body cdv A outer s H E hr
    have hN : pr.length ≤ N.length := by
      have := congrArg List.length Sc.pre
      rw [List.length_take] at this
      omega
    exact ⟨t, h1, fn_go hN h2 len go h⟩
/-- the def's code object stands at c -/
theorem okC {P : Program} {w : World} {mg : Str → Option Value} {base : Heap} {x qual : Str} {st : Stmt} {f c : Addr} {fd : FuncData} {N ps : List Str} {k : Nat} {sp : Sp} (F : Fun K x qual st f fd) (hc : fd.code = .ref c) (S : FnScope N ps (defScope st)) (len : ∀ vs H Q E, sp vs H Q E → vs.length = ps.length)
    (body : ∀ (A : Around) (outer : List PySem.Env) (s : Shared) (H : Hp) (vs : List V) (Q : VK) (E : XK), Room k (A.deeper (envOfC qual (defScope st) s.heap.objs.size f (.ref c))) → sp vs H Q E →
      ∃ t, PSs (cxOf CX0 P w K mg base N qual (defScope st) f (.ref c) A outer s H E).nox (defBody st) t ∧ t { nx := fun _ H' => Q .non H', rt := Q } (L2.start N vs) H) : FnOk P w K mg base CX0 (k + 1) f fd ps sp := by
  obtain ⟨oc, od, kV, doc, pm, an, cdv, ct, osl, e, lk, hcd⟩ := F.ex
  subst e
  obtain rfl : cdv = .ref c := hc
  refine fn_of lk hcd S len fun A outer s H vs Q E hr hsp => ?_
  obtain ⟨t, h, q⟩ := body A outer s H vs Q E hr hsp
  exact ⟨t, h.nox, q⟩
theorem fnDC {P : Program} {w : World} {mg : Str → Option Value} {base : Heap} {x qual : Str} {st : Stmt} {f c : Addr} {fd : FuncData} {N pr : List Str} {k : Nat} {S : SD} (Fn : Fun K x qual st f fd) (hc : fd.code = .ref c) (Sc : FnScope N pr (defScope st)) (ps : List Nat) {T : DS}
    (body : ∀ (A : Around) (outer : List PySem.Env) (s : Shared) (H : Hp) (E : XK), Room k (A.deeper (envOfC qual (defScope st) s.heap.objs.size f (.ref c))) →
      ∃ t, PSs (cxOf CX0 P w K mg base N qual (defScope st) f (.ref c) A outer s H E).nox (defBody st) t ∧ RS K ps t T)
    (len : ∀ os Φ, S os Φ → os.length = pr.length ∧ (∀ (i : Nat) o, os[i]? = some o → o.own = true → i ∈ ps) ∧ ∀ i ∈ ps, i < os.length)
    (go : ∀ os Φ, S os Φ → T ⟨fun ρ => (∀ i ∈ ps, (ρ[i]?.join).isSome = true) ∧ Φ .non (outs os.length ρ), fun d ρ => (∀ i ∈ ps, (ρ[i]?.join).isSome = true) ∧ Φ d (outs os.length ρ), fun _ => False, fun _ => False⟩ (startD N.length os)) :
    FnOk P w K mg base CX0 (k + 1) f fd pr (spOf K S) := by
  refine okC Fn hc Sc (fun vs H Q E h => ?_) (fun A outer s H vs Q E hr h => ?_)
  · obtain ⟨F, os, Φ, _, ha, hS, _⟩ := h
    rw [ha.len]
    exact (len os Φ hS).1
  · obtain ⟨t, h1, h2⟩ := body A outer s H E hr
    have hN : pr.length ≤ N.length := by
      have := congrArg List.length Sc.pre
      rw [List.length_take] at this
      omega
    exact ⟨t, h1, fn_go hN h2 len go h⟩
end
end DL
/-! Part 8: calls. -/
namespace DL
variable [Tbs]
open PySem PySem.Spec PyProof.Rows L2
section
variable {K : PySem.W.Frag} {ps : List Nat}
/-- a promise by data alone -/
def pureS (s : List D → (D → Prop) → Prop) : SD := fun os Φ => ∃ ds, os = ds.map .d ∧ s ds fun d => Φ d os
def ovOf (ρ : Env) : AV → OV
  | .v d => .d d
  | .s i => slotO ρ[i]?
def putBack : List AV → List OV → Env → Env
  | .s i :: as, o :: os, ρ => putBack as os (ρ.set i (some o))
  | .v _ :: as, _ :: os, ρ => putBack as os ρ
  | _, _, ρ => ρ
theorem putBack_len : ∀ (as : List AV) (os : List OV) (ρ : Env), (putBack as os ρ).length = ρ.length
  | .s i :: as, o :: os, ρ => by unfold putBack; rw [putBack_len as os, List.length_set]
  | .v _ :: as, _ :: os, ρ => by unfold putBack; exact putBack_len as os ρ
  | [], _, ρ => by cases ‹List OV› <;> rfl
  | .s _ :: _, [], ρ => rfl
  | .v _ :: _, [], ρ => rfl
theorem putBack_some {j : Nat} {o : OV} : ∀ {as : List AV} {os : List OV} {ρ : Env}, as.length ≤ os.length → (putBack as os ρ)[j]? = some (some o) → (∃ k : Nat, as[k]? = some (AV.s j) ∧ os[k]? = some o) ∨ ((∀ k : Nat, as[k]? ≠ some (AV.s j)) ∧ ρ[j]? = some (some o))
  | [], os, ρ, _, h => by
    have e : putBack [] os ρ = ρ := by cases os <;> rfl
    rw [e] at h
    exact .inr ⟨fun k z => (by cases z), h⟩
  | .v d :: as, [], ρ, hl, _ => by cases hl
  | .s i :: as, [], ρ, hl, _ => by cases hl
  | .v d :: as, u :: os, ρ, hl, h => by
    rcases putBack_some (Nat.le_of_succ_le_succ hl) (show (putBack as os ρ)[j]? = _ from h) with ⟨k, h1, h2⟩ | ⟨h1, h2⟩
    · exact .inl ⟨k + 1, h1, h2⟩
    · exact .inr ⟨fun k z => match k, z with
        | 0, z => by cases z
        | k + 1, z => h1 k z, h2⟩
  | .s i :: as, u :: os, ρ, hl, h => by
    rcases putBack_some (Nat.le_of_succ_le_succ hl) (show (putBack as os (ρ.set i (some u)))[j]? = _ from h) with ⟨k, h1, h2⟩ | ⟨h1, h2⟩
    · exact .inl ⟨k + 1, h1, h2⟩
    · rcases set_some h2 with ⟨rfl, q⟩ | ⟨n, q⟩
      · cases q
        exact .inl ⟨0, rfl, rfl⟩
      · exact .inr ⟨fun k z => match k, z with
          | 0, z => by cases z; exact n rfl
          | k + 1, z => h1 k z, q⟩
/-- the slots that are handed in -/
def slotsOf : List AV → List Nat
  | [] => []
  | .s i :: as => i :: slotsOf as
  | .v _ :: as => slotsOf as
theorem mem_slotsOf {i : Nat} : ∀ {as : List AV} {k : Nat}, as[k]? = some (AV.s i) → i ∈ slotsOf as
  | .s j :: as, 0, h => by cases h; exact List.mem_cons_self
  | .v d :: as, 0, h => by cases h
  | .s j :: as, k + 1, h => List.mem_cons_of_mem _ (mem_slotsOf (as := as) (k := k) h)
  | .v d :: as, k + 1, h => mem_slotsOf (as := as) (k := k) h
theorem slot_once {i : Nat} : ∀ {as : List AV} {k l : Nat}, (slotsOf as).Nodup → as[k]? = some (AV.s i) → as[l]? = some (AV.s i) → k = l
  | .s j :: as, 0, 0, _, _, _ => rfl
  | .s j :: as, 0, l + 1, n, h1, h2 => by
    cases h1
    exact absurd (mem_slotsOf (as := as) (k := l) h2) (List.nodup_cons.mp n).1
  | .s j :: as, k + 1, 0, n, h1, h2 => by
    cases h2
    exact absurd (mem_slotsOf (as := as) (k := k) h1) (List.nodup_cons.mp n).1
  | .s j :: as, k + 1, l + 1, n, h1, h2 => congrArg Nat.succ (slot_once (as := as) (List.nodup_cons.mp n).2 h1 h2)
  | .v d :: as, 0, _, _, h1, _ => by cases h1
  | .v d :: as, _ + 1, 0, _, _, h2 => by cases h2
  | .v d :: as, k + 1, l + 1, n, h1, h2 => congrArg Nat.succ (slot_once (as := as) n h1 h2)
theorem ArgRel.len {σ : St} {F : Hp} {vs : List V} {as : List AV} (h : ArgRel K σ F vs as) : vs.length = as.length := by
  induction h with
  | nil => rfl
  | v _ _ ih => exact congrArg Nat.succ ih
  | s _ _ ih => exact congrArg Nat.succ ih
theorem ArgRel.get {σ : St} {F : Hp} {vs : List V} {as : List AV} (h : ArgRel K σ F vs as) : ∀ {k : Nat} {v : V} {a : AV}, vs[k]? = some v → as[k]? = some a → match a with
    | .v d => Dr K F v d
    | .s i => σ[i]? = some (some v) := by
  induction h with
  | nil => intro k v a h; cases h
  | v h _ ih =>
    intro k v a h1 h2
    cases k with
    | zero => cases h1; cases h2; exact h
    | succ k => exact ih h1 h2
  | s h _ ih =>
    intro k v a h1 h2
    cases k with
    | zero => cases h1; cases h2; exact h
    | succ k => exact ih h1 h2
def ownB (ρ : Env) : AV → Bool
  | .v _ => true
  | .s i => (slotO ρ[i]?).own
/-- f(..), arguments of any kind -/
def dCall (S : SD) (Ta : DAs) : DE := fun ρ Φ => Ta ρ fun as ρ1 => (as.all (ownB ρ1) = true ∧ (slotsOf as).Nodup) ∧ S (as.map (ovOf ρ1)) fun d os => Φ d (putBack as os ρ1)
theorem slotO_own {o : Option (Option OV)} (h : (slotO o).own = true) : ∃ u, o = some (some u) ∧ slotO o = u ∧ u.own = true := by
  cases o with
  | none => cases h
  | some o =>
    cases o with
    | none => cases h
    | some u => exact ⟨u, rfl, rfl, h⟩
theorem re_call {S : SD} {t : TA} {Ta : DAs} {E : XK} (h : RA K ps t Ta) : RE K ps (tCall (spOf K S) [] E t) (dCall S Ta) := by
  intro b σ H F ρ Φ Q R0 hT k
  refine h b σ H F ρ _ _ R0 hT fun vs H1 F1 ρ1 as s1 R1 hr hT => ?_
  obtain ⟨⟨hown, hnd⟩, hS⟩ := hT
  have hl := hr.len
  have hO : ∀ {k : Nat} {i : Nat}, as[k]? = some (AV.s i) → ∃ u, ρ1[i]? = some (some u) ∧ ovOf ρ1 (.s i) = u ∧ u.own = true := fun {k i} e => slotO_own (List.all_eq_true.mp hown _ (List.mem_of_getElem? e))
  have og : ∀ {k : Nat} {o : OV}, (as.map (ovOf ρ1))[k]? = some o → ∃ a, as[k]? = some a ∧ ovOf ρ1 a = o := fun {k o} e => by
    rw [List.getElem?_map] at e
    exact Option.map_eq_some_iff.mp e
  have ow : ∀ {a : Addr}, OwnA vs (as.map (ovOf ρ1)) a → Owned σ ρ1 a := fun {a} ⟨k, o, e1, e2, e3⟩ => by
    obtain ⟨av, g1, g2⟩ := og e1
    cases av with
    | v d => subst g2; cases e2
    | s i =>
      obtain ⟨u, z1, z2, z3⟩ := hO g1
      exact ⟨i, u, z1, z3, hr.get e3 g1⟩
  refine ⟨F1, as.map (ovOf ρ1), _, ⟨R1.sub, R1.nt, R1.tabs, R1.grow.b⟩, ⟨by rw [List.length_map]; simpa using hl, fun k v o e1 e2 => ?_, fun k l o u v n e1 o1 e2 o2 e3 e4 => ?_⟩, hS, fun F' H' v d os' s2 ⟨sub2, nt2, tb2⟩ kp th nw len2 hout hd hΦ => ?_⟩
  · rw [List.append_nil] at e1
    obtain ⟨av, g1, g2⟩ := og e2
    have hg := hr.get e1 g1
    cases av with
    | v d => subst g2; exact hg
    | s i =>
      obtain ⟨u, z1, z2, z3⟩ := hO g1
      rw [z2] at g2
      subst g2
      obtain ⟨p, y1, y2, _, y3⟩ := R1.own z1 z3
      have hg' : σ[i]? = some (some v) := hg
      rw [y1] at hg'
      cases hg'
      exact .mk rfl z3 y2 y3
  · rw [List.append_nil] at e3 e4
    obtain ⟨a1, g1, g2⟩ := og e1
    obtain ⟨a2, g3, g4⟩ := og e2
    cases a1 with
    | v d => subst g2; cases o1
    | s i =>
      cases a2 with
      | v d => subst g4; cases o2
      | s j =>
        obtain ⟨u1, z1, z2, z3⟩ := hO g1
        obtain ⟨u2, z4, z5, z6⟩ := hO g3
        have hij : i ≠ j := fun z => by
          subst z
          exact n (slot_once hnd g1 g3)
        exact R1.apart i j u1 u2 v hij z1 z3 z4 z6 (hr.get e3 g1) (hr.get e4 g3)
  · rw [List.append_nil] at kp nw hout
    rw [List.length_map] at len2
    refine k v H' F' _ d (s1.trans s2) ⟨sub2, R1.grow.trans s2, fun a o e nn nz => ?_, fun a z => ?_, fun a o e => ?_, fun j o e => ?_, fun i j o u w n e1 o1 e2 o2 w1 => ?_, by rw [putBack_len, R1.len], R1.pin, nt2, fun a o e => (R1.dom a o e).elim fun o1 e1 => th a o1 e1, tb2⟩ hd hΦ
    · refine kp a o (R1.keep a o e nn nz) (fun z => ?_) nz
      rcases (R1.owned (ow z)).2.1 with h | h
      · rw [h] at e; cases e
      · exact nn h
    · obtain ⟨o, e⟩ := R1.there a z
      exact th a o e
    · rcases nw a o e with z | z | z
      · exact R1.new a o z
      · exact .inr (.inl (R1.fresh z).2.1)
      · rcases (R1.owned (ow z)).2.1 with h | h
        · exact .inr (.inl h)
        · exact .inr (.inr h)
    · rcases putBack_some (by rw [len2]; exact Nat.le_refl _) e with ⟨k', g1, g2⟩ | ⟨g1, g2⟩
      · obtain ⟨u, z1, z2, z3⟩ := hO g1
        obtain ⟨p, y1, y2, y3, y4⟩ := R1.own z1 z3
        have hk : k' < vs.length := by rw [hl]; exact (List.getElem?_eq_some_iff.mp g1).1
        have hv := List.getElem?_eq_getElem hk
        have hg : σ[j]? = some (some vs[k']) := hr.get hv g1
        have e7 : (as.map (ovOf ρ1))[k']? = some u := by
          rw [List.getElem?_map, g1]
          exact congrArg some z2
        have ho := hout k' u o _ e7 z3 g2 hv
        refine ⟨_, hg, ?_⟩
        by_cases hoo : o.own = true
        · obtain ⟨p', q1, q2, q3⟩ := ho.inv hoo
          rw [hg] at y1
          have q4 : vs[k'] = .ref p := Option.some.inj (Option.some.inj y1)
          rw [q4] at q1
          cases q1
          exact .mk q4 hoo q2 y3 q3
        · cases o with
          | d x => exact ho
          | _ => exact absurd rfl hoo
      · obtain ⟨w, h1, h2⟩ := R1.slot j o g2
        refine ⟨w, h1, ?_⟩
        by_cases hoo : o.own = true
        · obtain ⟨p, rfl, q1, q2, q3⟩ := h2.inv hoo
          have nO : ¬ OwnA vs (as.map (ovOf ρ1)) p := fun ⟨k', u, e1, e2, e3⟩ => by
            obtain ⟨av, z1, z2⟩ := og e1
            cases av with
            | v d => subst z2; cases e2
            | s i =>
              obtain ⟨u', z3, z4, z5⟩ := hO z1
              have hij : j ≠ i := fun z => by
                subst z
                exact g1 k' z1
              exact R1.apart j i o u' _ hij g2 hoo z3 z5 h1 (hr.get e3 z1)
          obtain ⟨w', ew, nw', _⟩ := q3.kind
          refine .mk rfl hoo ?_ q2 (q3.up s2 ((kp p w' ew nO nw').trans ew.symm))
          cases e8 : F' p with
          | none => rfl
          | some u' =>
            rcases nw p u' e8 with z | z | z
            · rw [q1] at z; cases z
            · rw [ew] at z; cases z
            · exact absurd z nO
        · cases o with
          | d x => exact Dr.up s2 h2
          | _ => exact absurd rfl hoo
    · have up : ∀ {j : Nat} {o : OV}, (putBack as os' ρ1)[j]? = some (some o) → o.own = true → ∃ u, ρ1[j]? = some (some u) ∧ u.own = true := fun {j o} e ho => by
        rcases putBack_some (by rw [len2]; exact Nat.le_refl _) e with ⟨k', g1, g2⟩ | ⟨g1, g2⟩
        · obtain ⟨u, z1, _, z3⟩ := hO g1
          exact ⟨u, z1, z3⟩
        · exact ⟨o, g2, ho⟩
      obtain ⟨u1, a1, a2⟩ := up e1 o1
      obtain ⟨u2, c1, c2⟩ := up e2 o2
      exact R1.apart i j u1 u2 w n a1 a2 c1 c2 w1
/-- f(..), data in -/
def dCallV (s : List D → (D → Prop) → Prop) (Ta : DLs) : DE := fun ρ Φ => Ta ρ fun ds ρ1 => s ds fun d => Φ d ρ1
theorem re_callV {s : List D → (D → Prop) → Prop} {t : TA} {Ta : DLs} {E : XK} (h : RV K ps t Ta) : RE K ps (tCall (spOf K (pureS s)) [] E t) (dCallV s Ta) := by
  intro b σ H F ρ Φ Q R0 hT k
  refine h b σ H F ρ _ _ R0 hT fun vs H1 F1 ρ1 ds s1 R1 hr hS => ?_
  have nO : ∀ a, ¬ OwnA vs (ds.map .d) a := fun a ⟨i, o, e1, e2, _⟩ => by
    rw [List.getElem?_map] at e1
    obtain ⟨d, _, rfl⟩ := Option.map_eq_some_iff.mp e1
    cases e2
  have eq : vs ++ ([] : List V) = vs := List.append_nil vs
  refine ⟨F1, ds.map .d, fun d _ => Φ d ρ1, ⟨R1.sub, R1.nt, R1.tabs, R1.grow.b⟩, ⟨by rw [List.length_map, eq]; exact hr.1, fun k v o e1 e2 => ?_, fun k l o u v n e1 o1 e2 o2 e3 e4 => ?_⟩, ⟨ds, rfl, hS⟩, fun F' H' v d os' s2 ⟨sub2, nt2, tb2⟩ kp th nw len2 hout hd hΦ => ?_⟩
  · rw [eq] at e1
    rw [List.getElem?_map] at e2
    obtain ⟨d, hd, rfl⟩ := Option.map_eq_some_iff.mp e2
    exact hr.2 k v d e1 hd
  · rw [List.getElem?_map] at e1
    obtain ⟨d, _, rfl⟩ := Option.map_eq_some_iff.mp e1
    cases o1
  · rw [eq] at kp nw
    exact k v H' F' ρ1 d (s1.trans s2) (R1.grownT (fun a o e nz => kp a o e (nO a) nz) th s2 sub2 (fun a o e => (nw a o e).elim .inl fun h => h.elim .inr fun z => absurd z (nO a)) nt2 tb2) hd hΦ
end
end DL
/-! Part 9: what simp knows. -/
namespace DL

open PySem PySem.Spec PyProof.Rows L2
@[simp] theorem isN_1 : isN "NoneType" "list" = some false := by decide +kernel
@[simp] theorem isN_2 : isN "NoneType" "tuple" = some false := by decide +kernel
@[simp] theorem isN_3 : isN "NoneType" "bool" = some false := by decide +kernel
@[simp] theorem isN_4 : isN "NoneType" "str" = some false := by decide +kernel
@[simp] theorem isN_5 : isN "NoneType" "int" = some false := by decide +kernel
@[simp] theorem isN_6 : isN "bool" "list" = some false := by decide +kernel
@[simp] theorem isN_7 : isN "bool" "tuple" = some false := by decide +kernel
@[simp] theorem isN_8 : isN "bool" "bool" = some true := by decide +kernel
@[simp] theorem isN_9 : isN "bool" "str" = some false := by decide +kernel
@[simp] theorem isN_10 : isN "bool" "int" = some true := by decide +kernel
@[simp] theorem isN_11 : isN "int" "list" = some false := by decide +kernel
@[simp] theorem isN_12 : isN "int" "tuple" = some false := by decide +kernel
@[simp] theorem isN_13 : isN "int" "bool" = some false := by decide +kernel
@[simp] theorem isN_14 : isN "int" "str" = some false := by decide +kernel
@[simp] theorem isN_15 : isN "int" "int" = some true := by decide +kernel
@[simp] theorem isN_16 : isN "str" "list" = some false := by decide +kernel
@[simp] theorem isN_17 : isN "str" "tuple" = some false := by decide +kernel
@[simp] theorem isN_18 : isN "str" "bool" = some false := by decide +kernel
@[simp] theorem isN_19 : isN "str" "str" = some true := by decide +kernel
@[simp] theorem isN_20 : isN "str" "int" = some false := by decide +kernel
@[simp] theorem isN_21 : isN "list" "list" = some true := by decide +kernel
@[simp] theorem isN_22 : isN "list" "tuple" = some false := by decide +kernel
@[simp] theorem isN_23 : isN "list" "bool" = some false := by decide +kernel
@[simp] theorem isN_24 : isN "list" "str" = some false := by decide +kernel
@[simp] theorem isN_25 : isN "list" "int" = some false := by decide +kernel
@[simp] theorem isN_26 : isN "tuple" "list" = some false := by decide +kernel
@[simp] theorem isN_27 : isN "tuple" "tuple" = some true := by decide +kernel
@[simp] theorem isN_28 : isN "tuple" "bool" = some false := by decide +kernel
@[simp] theorem isN_29 : isN "tuple" "str" = some false := by decide +kernel
@[simp] theorem isN_30 : isN "tuple" "int" = some false := by decide +kernel
@[simp] theorem isN_31 : isN "dict" "list" = some false := by decide +kernel
@[simp] theorem isN_32 : isN "dict" "tuple" = some false := by decide +kernel
@[simp] theorem isN_33 : isN "dict" "bool" = some false := by decide +kernel
@[simp] theorem isN_34 : isN "dict" "str" = some false := by decide +kernel
@[simp] theorem isN_35 : isN "dict" "int" = some false := by decide +kernel
section
variable {α : Type}
@[simp] theorem isD_non (n : String) : isD .non n = isN "NoneType" n := Eq.trans rfl rfl
@[simp] theorem isD_bl (b : Bool) (n : String) : isD (.bl b) n = isN "bool" n := Eq.trans rfl rfl
@[simp] theorem isD_int (i : Int) (n : String) : isD (.int i) n = isN "int" n := Eq.trans rfl rfl
@[simp] theorem isD_str (x : Str) (n : String) : isD (.str x) n = isN "str" n := Eq.trans rfl rfl
@[simp] theorem isD_lst (l : List D) (n : String) : isD (.lst l) n = isN "list" n := Eq.trans rfl rfl
@[simp] theorem isD_tup (l : List D) (n : String) : isD (.tup l) n = isN "tuple" n := Eq.trans rfl rfl
@[simp] theorem isD_dct (l : List (Key × D)) (n : String) : isD (.dct l) n = isN "dict" n := Eq.trans rfl rfl
@[simp] theorem atI_0 (a : α) (l : List α) : atI (a :: l) 0 = some a := by simp [atI, ixN]
@[simp] theorem atI_1 (a b : α) (l : List α) : atI (a :: b :: l) 1 = some b := by
  have h : ixN (a :: b :: l).length 1 = some 1 := by
    unfold ixN
    rw [if_pos (by decide), if_pos (by simp only [List.length_cons]; omega)]
    rfl
  unfold atI
  rw [h]
  rfl
@[simp] theorem atI_2 (a b c : α) (l : List α) : atI (a :: b :: c :: l) 2 = some c := by
  have h : ixN (a :: b :: c :: l).length 2 = some 2 := by
    unfold ixN
    rw [if_pos (by decide), if_pos (by simp only [List.length_cons]; omega)]
    rfl
  unfold atI
  rw [h]
  rfl
@[simp] theorem atI_nat' (l : List α) (i : Nat) : atI l (i : Int) = l[i]? := by
  unfold atI ixN
  rw [if_pos (by omega)]
  by_cases h : i < l.length
  · rw [if_pos (by omega)]
    rfl
  · rw [if_neg (by omega), List.getElem?_eq_none (by omega)]
    rfl
@[simp] theorem sizeLine_lit : sizeLine = 16777216 := Eq.trans rfl rfl
end
@[simp] theorem dSeq_ (T U : DS) (E : DEn) (ρ : Env) : dSeq T U E ρ = T { E with nx := U E } ρ := Eq.trans rfl rfl
@[simp] theorem dNext_ (E : DEn) (ρ : Env) : dNext E ρ = E.nx ρ := Eq.trans rfl rfl
@[simp] theorem dBreak_ (E : DEn) (ρ : Env) : dBreak E ρ = E.bk ρ := Eq.trans rfl rfl
@[simp] theorem dCont_ (E : DEn) (ρ : Env) : dCont E ρ = E.ct ρ := Eq.trans rfl rfl
@[simp] theorem dRetN_ (E : DEn) (ρ : Env) : dRetN E ρ = E.rt .non ρ := Eq.trans rfl rfl
@[simp] theorem dRet_ (T : DE) (E : DEn) (ρ : Env) : dRet T E ρ = T ρ fun d ρ' => E.rt d ρ' := Eq.trans rfl rfl
@[simp] theorem dDrop_ (T : DE) (E : DEn) (ρ : Env) : dDrop T E ρ = T ρ fun _ ρ' => E.nx ρ' := Eq.trans rfl rfl
@[simp] theorem dIfS_ (C : DT) (T U : DS) (E : DEn) (ρ : Env) : dIfS C T U E ρ = C ρ fun c ρ1 => if c = true then T E ρ1 else U E ρ1 := Eq.trans rfl rfl
@[simp] theorem dAsg_ (T : DE) (G : DG) (E : DEn) (ρ : Env) : dAsg T G E ρ = T ρ fun d ρ1 => G d ρ1 E.nx := Eq.trans rfl rfl
@[simp] theorem dSetL_ (j : Nat) (T : DLs) (E : DEn) (ρ : Env) : dSetL j T E ρ = T ρ fun ds ρ1 => E.nx (ρ1.set j (some (.l ds))) := Eq.trans rfl rfl
@[simp] theorem dSetM_ (j : Nat) (T : DDs) (E : DEn) (ρ : Env) : dSetM j T E ρ = T ρ fun ds ρ1 => E.nx (ρ1.set j (some (.m ds))) := Eq.trans rfl rfl
@[simp] theorem dAug_ (i : Nat) (T : DE) (R : DO) (E : DEn) (ρ : Env) : dAug i T R E ρ = ∃ x, ρ[i]? = some (some (.d x)) ∧ T ρ fun y ρ1 => R x y fun z => E.nx (ρ1.set i (some (.d z))) := Eq.trans rfl rfl
@[simp] theorem dApp_ (i : Nat) (T : DE) (E : DEn) (ρ : Env) : dApp i T E ρ = ((∃ ds0, ρ[i]? = some (some (.l ds0))) ∧ T ρ fun d ρ1 => ∃ ds, ρ1[i]? = some (some (.l ds)) ∧ ds.length < sizeLine ∧ E.nx (ρ1.set i (some (.l (ds ++ [d]))))) := Eq.trans rfl rfl
@[simp] theorem dPop_ (i : Nat) (ρ : Env) (Φ : D → Env → Prop) : dPop i ρ Φ = ∃ ds d, ρ[i]? = some (some (.l ds)) ∧ ds[ds.length - 1]? = some d ∧ Φ d (ρ.set i (some (.l ds.dropLast))) := Eq.trans rfl rfl
@[simp] theorem dPutL_ (i : Nat) (Tv Ti : DE) (E : DEn) (ρ : Env) : dPutL i Tv Ti E ρ = Tv ρ fun d ρ1 => (ρ1[i]?.join).isSome = true ∧ Ti ρ1 fun y ρ2 => ∃ ds k j, ρ2[i]? = some (some (.l ds)) ∧ y = .int k ∧ ixN ds.length k = some j ∧ E.nx (ρ2.set i (some (.l (ds.set j d)))) := Eq.trans rfl rfl
@[simp] theorem dPutM_ (i : Nat) (Tv Ti : DE) (E : DEn) (ρ : Env) : dPutM i Tv Ti E ρ = Tv ρ fun d ρ1 => (ρ1[i]?.join).isSome = true ∧ Ti ρ1 fun y ρ2 => ∃ ks k, ρ2[i]? = some (some (.m ks)) ∧ keyD y = some k ∧ ks.length < sizeLine ∧ E.nx (ρ2.set i (some (.m (putD ks k d)))) := Eq.trans rfl rfl
@[simp] theorem dVar_ (i : Nat) (ρ : Env) (Φ : D → Env → Prop) : dVar i ρ Φ = dVarG ρ[i]? i ρ Φ := Eq.trans rfl rfl
@[simp] theorem dVarG_d (d : D) (i : Nat) (ρ : Env) (Φ : D → Env → Prop) : dVarG (some (some (.d d))) i ρ Φ = Φ d ρ := Eq.trans rfl rfl
@[simp] theorem dVarG_l (ds : List D) (i : Nat) (ρ : Env) (Φ : D → Env → Prop) : dVarG (some (some (.l ds))) i ρ Φ = Φ (.lst ds) (ρ.set i (some (.d (.lst ds)))) := Eq.trans rfl rfl
@[simp] theorem dVarG_m (ks : List (Key × D)) (i : Nat) (ρ : Env) (Φ : D → Env → Prop) : dVarG (some (some (.m ks))) i ρ Φ = Φ (.dct ks) (ρ.set i (some (.d (.dct ks)))) := Eq.trans rfl rfl
@[simp] theorem dC_ (d : D) (ρ : Env) (Φ : D → Env → Prop) : dC d ρ Φ = Φ d ρ := Eq.trans rfl rfl
@[simp] theorem dK_ (T : DLs) (ρ : Env) (Φ : D → Env → Prop) : dK T ρ Φ = T ρ fun ds ρ' => Φ (.lst ds) ρ' := Eq.trans rfl rfl
@[simp] theorem dKd_ (T : DDs) (ρ : Env) (Φ : D → Env → Prop) : dKd T ρ Φ = T ρ fun ds ρ' => Φ (.dct ds) ρ' := Eq.trans rfl rfl
@[simp] theorem dOp_ (R : DO) (Ta Tb : DE) (ρ : Env) (Φ : D → Env → Prop) : dOp R Ta Tb ρ Φ = Ta ρ fun x ρ1 => Tb ρ1 fun y ρ2 => R x y fun z => Φ z ρ2 := Eq.trans rfl rfl
@[simp] theorem dOpL_ (R : D → D → (List D → Prop) → Prop) (Ta Tb : DE) (ρ : Env) (Φ : List D → Env → Prop) : dOpL R Ta Tb ρ Φ = Ta ρ fun x ρ1 => Tb ρ1 fun y ρ2 => R x y fun z => Φ z ρ2 := Eq.trans rfl rfl
@[simp] theorem oI_ (C : Int → Int → Prop) (g : Int → Int → D) (i j : Int) (Φ : D → Prop) : oI C g (.int i) (.int j) Φ = (C i j ∧ Φ (g i j)) := Eq.trans rfl rfl
@[simp] theorem oI0_ (g : Int → Int → D) (i j : Int) (Φ : D → Prop) : oI0 g (.int i) (.int j) Φ = Φ (g i j) := Eq.trans rfl rfl
@[simp] theorem oEq_ (d e : D) (Φ : D → Prop) : oEq d e Φ = oEqG (eqS d e) Φ := Eq.trans rfl rfl
@[simp] theorem oNe_ (d e : D) (Φ : D → Prop) : oNe d e Φ = oNeG (eqS d e) Φ := Eq.trans rfl rfl
@[simp] theorem oEqG_s (c : Bool) (Φ : D → Prop) : oEqG (some c) Φ = Φ (.bl c) := Eq.trans rfl rfl
@[simp] theorem oNeG_s (c : Bool) (Φ : D → Prop) : oNeG (some c) Φ = Φ (.bl (!c)) := Eq.trans rfl rfl
@[simp] theorem oIsN_ (d e : D) (Φ : D → Prop) : oIsN d e Φ = (isNon e = true ∧ Φ (.bl (isNon d))) := Eq.trans rfl rfl
@[simp] theorem oNotN_ (d e : D) (Φ : D → Prop) : oNotN d e Φ = (isNon e = true ∧ Φ (.bl (!isNon d))) := Eq.trans rfl rfl
@[simp] theorem eqS_int (i j : Int) : eqS (.int i) (.int j) = some (decide (i = j)) := Eq.trans rfl rfl
@[simp] theorem eqS_str (i j : Str) : eqS (.str i) (.str j) = some (decide (i = j)) := Eq.trans rfl rfl
@[simp] theorem eqS_bl (i j : Bool) : eqS (.bl i) (.bl j) = some (decide (i = j)) := Eq.trans rfl rfl
@[simp] theorem eqS_nn : eqS .non .non = some true := Eq.trans rfl rfl
@[simp] theorem eqS_ni (i : Int) : eqS .non (.int i) = some false := Eq.trans rfl rfl
@[simp] theorem eqS_in (i : Int) : eqS (.int i) .non = some false := Eq.trans rfl rfl
@[simp] theorem oCatS_ (i j : Str) (Φ : D → Prop) : oCatS (.str i) (.str j) Φ = (i.length + j.length ≤ sizeLine ∧ Φ (.str (i ++ j))) := Eq.trans rfl rfl
@[simp] theorem oCat_ (i j : List D) (Φ : List D → Prop) : oCat (.lst i) (.lst j) Φ = (i.length + j.length ≤ sizeLine ∧ Φ (i ++ j)) := Eq.trans rfl rfl
@[simp] theorem isNon_n : isNon .non = true := Eq.trans rfl rfl
@[simp] theorem isNon_i (i : Int) : isNon (.int i) = false := Eq.trans rfl rfl
@[simp] theorem isNon_b (i : Bool) : isNon (.bl i) = false := Eq.trans rfl rfl
@[simp] theorem isNon_s (i : Str) : isNon (.str i) = false := Eq.trans rfl rfl
@[simp] theorem isNon_l (i : List D) : isNon (.lst i) = false := Eq.trans rfl rfl
@[simp] theorem isNon_t (i : List D) : isNon (.tup i) = false := Eq.trans rfl rfl
@[simp] theorem isNon_d (i : List (Key × D)) : isNon (.dct i) = false := Eq.trans rfl rfl
@[simp] theorem isNon_o (C : Addr) (i : List (Str × D)) : isNon (.obj C i) = false := Eq.trans rfl rfl
@[simp] theorem dNil_ (ρ : Env) (Φ : List D → Env → Prop) : dNil ρ Φ = Φ [] ρ := Eq.trans rfl rfl
@[simp] theorem dCons_ (Ta : DE) (Tr : DLs) (ρ : Env) (Φ : List D → Env → Prop) : dCons Ta Tr ρ Φ = Ta ρ fun x ρ1 => Tr ρ1 fun xs ρ2 => Φ (x :: xs) ρ2 := Eq.trans rfl rfl
@[simp] theorem dANil_ (ρ : Env) (Φ : List AV → Env → Prop) : dANil ρ Φ = Φ [] ρ := Eq.trans rfl rfl
@[simp] theorem dACons_ (Ta : DE) (Tr : DAs) (ρ : Env) (Φ : List AV → Env → Prop) : dACons Ta Tr ρ Φ = Ta ρ fun x ρ1 => Tr ρ1 fun xs ρ2 => Φ (.v x :: xs) ρ2 := Eq.trans rfl rfl
@[simp] theorem dASlot_ (i : Nat) (Tr : DAs) (ρ : Env) (Φ : List AV → Env → Prop) : dASlot i Tr ρ Φ = ((ρ[i]?.join).isSome = true ∧ Tr ρ fun xs ρ2 => Φ (.s i :: xs) ρ2) := Eq.trans rfl rfl
@[simp] theorem dTup_ (T : DLs) (ρ : Env) (Φ : D → Env → Prop) : dTup T ρ Φ = T ρ fun ds ρ' => ds.length ≤ sizeLine ∧ Φ (.tup ds) ρ' := Eq.trans rfl rfl
@[simp] theorem dLst_ (T : DLs) (ρ : Env) (Φ : List D → Env → Prop) : dLst T ρ Φ = T ρ fun ds ρ' => ds.length ≤ sizeLine ∧ Φ ds ρ' := Eq.trans rfl rfl
@[simp] theorem dNewD_ (ρ : Env) (Φ : List (Key × D) → Env → Prop) : dNewD ρ Φ = Φ [] ρ := Eq.trans rfl rfl
@[simp] theorem oIxT_ (ds : List D) (i : Int) (Φ : D → Prop) : oIxT (.tup ds) (.int i) Φ = ∃ x, atI ds i = some x ∧ Φ x := Eq.trans rfl rfl
@[simp] theorem oIxL_ (ds : List D) (i : Int) (Φ : D → Prop) : oIxL (.lst ds) (.int i) Φ = ∃ x, atI ds i = some x ∧ Φ x := Eq.trans rfl rfl
@[simp] theorem oCatT_ (i j : List D) (Φ : D → Prop) : oCatT (.tup i) (.tup j) Φ = (i.length + j.length ≤ sizeLine ∧ Φ (.tup (i ++ j))) := Eq.trans rfl rfl
@[simp] theorem oIx_t (ds : List D) (i : Int) (Φ : D → Prop) : oIx (.tup ds) (.int i) Φ = ∃ x, atI ds i = some x ∧ Φ x := Eq.trans rfl rfl
@[simp] theorem oIx_l (ds : List D) (i : Int) (Φ : D → Prop) : oIx (.lst ds) (.int i) Φ = ∃ x, atI ds i = some x ∧ Φ x := Eq.trans rfl rfl
@[simp] theorem peek_ (ρ : Env) (i : Nat) : peek ρ i = peekG ρ[i]? := Eq.trans rfl rfl
@[simp] theorem peekG_d (d : D) : peekG (some (some (.d d))) = some d := Eq.trans rfl rfl
@[simp] theorem peekG_l (ds : List D) : peekG (some (some (.l ds))) = some (.lst ds) := Eq.trans rfl rfl
@[simp] theorem peekG_m (ks : List (Key × D)) : peekG (some (some (.m ks))) = some (.dct ks) := Eq.trans rfl rfl
@[simp] theorem dIxS_ (i : Nat) (Tb : DE) (ρ : Env) (Φ : D → Env → Prop) : dIxS i Tb ρ Φ = ((ρ[i]?.join).isSome = true ∧ Tb ρ fun y ρ2 => ∃ ds j x, peek ρ2 i = some (.lst ds) ∧ y = .int j ∧ atI ds j = some x ∧ Φ x ρ2) := Eq.trans rfl rfl
@[simp] theorem oIn_ (neg : Bool) (d e : D) (Φ : D → Prop) : oIn neg d e Φ = ∃ ds, seqD e = some ds ∧ flatD d = true ∧ ds.all flatD = true ∧ Φ (.bl (if neg then !inD d ds else inD d ds)) := Eq.trans rfl rfl
@[simp] theorem seqD_t (l : List D) : seqD (.tup l) = some l := Eq.trans rfl rfl
@[simp] theorem seqD_l (l : List D) : seqD (.lst l) = some l := Eq.trans rfl rfl
@[simp] theorem flatD_s (x : Str) : flatD (.str x) = true := Eq.trans rfl rfl
@[simp] theorem flatD_i (x : Int) : flatD (.int x) = true := Eq.trans rfl rfl
@[simp] theorem inD_nil (d : D) : inD d [] = false := Eq.trans rfl rfl
@[simp] theorem inD_cons (d e : D) (l : List D) : inD d (e :: l) = (eqD e d || inD d l) := Eq.trans rfl rfl
@[simp] theorem eqD_s (x y : Str) : eqD (.str x) (.str y) = (x == y) := Eq.trans rfl rfl
@[simp] theorem eqD_i (x y : Int) : eqD (.int x) (.int y) = (x == y) := Eq.trans rfl rfl
@[simp] theorem keyD_i (i : Int) : keyD (.int i) = some (.inl i) := Eq.trans rfl rfl
@[simp] theorem keyD_s (i : Str) : keyD (.str i) = some (.inr i) := Eq.trans rfl rfl
@[simp] theorem dInS_ (neg : Bool) (Ta : DE) (i : Nat) (ρ : Env) (Φ : D → Env → Prop) : dInS neg Ta i ρ Φ = Ta ρ fun x ρ1 => ∃ ds k, peek ρ1 i = some (.dct ds) ∧ keyD x = some k ∧ Φ (.bl (if neg then !(valD ds k).isSome else (valD ds k).isSome)) ρ1 := Eq.trans rfl rfl
@[simp] theorem oInD_ (neg : Bool) (d : D) (ds : List (Key × D)) (Φ : D → Prop) : oInD neg d (.dct ds) Φ = ∃ k, keyD d = some k ∧ Φ (.bl (if neg then !(valD ds k).isSome else (valD ds k).isSome)) := Eq.trans rfl rfl
@[simp] theorem dDGet_ (Td Ty : DE) (ρ : Env) (Φ : D → Env → Prop) : dDGet Td Ty ρ Φ = Td ρ fun x ρ1 => Ty ρ1 fun y ρ2 => ∃ ds k z, x = .dct ds ∧ keyD y = some k ∧ valD ds k = some z ∧ Φ z ρ2 := Eq.trans rfl rfl
@[simp] theorem dDGetS_ (i : Nat) (Ty : DE) (ρ : Env) (Φ : D → Env → Prop) : dDGetS i Ty ρ Φ = ((ρ[i]?.join).isSome = true ∧ Ty ρ fun y ρ2 => ∃ ds k z, peek ρ2 i = some (.dct ds) ∧ keyD y = some k ∧ valD ds k = some z ∧ Φ z ρ2) := Eq.trans rfl rfl
@[simp] theorem dGet1S_ (i : Nat) (Ty : DE) (ρ : Env) (Φ : D → Env → Prop) : dGet1S i Ty ρ Φ = ((∃ ds, peek ρ i = some (.dct ds)) ∧ Ty ρ fun y ρ2 => ∃ ds k, peek ρ2 i = some (.dct ds) ∧ keyD y = some k ∧ Φ ((valD ds k).getD .non) ρ2) := Eq.trans rfl rfl
@[simp] theorem dGet2S_ (i : Nat) (Ty Tz : DE) (ρ : Env) (Φ : D → Env → Prop) : dGet2S i Ty Tz ρ Φ = ((∃ ds, peek ρ i = some (.dct ds)) ∧ Ty ρ fun y ρ1 => Tz ρ1 fun z ρ2 => ∃ ds k, peek ρ2 i = some (.dct ds) ∧ keyD y = some k ∧ Φ ((valD ds k).getD z) ρ2) := Eq.trans rfl rfl
@[simp] theorem dGet1_ (Td Ty : DE) (ρ : Env) (Φ : D → Env → Prop) : dGet1 Td Ty ρ Φ = Td ρ fun x ρ1 => ∃ ds, x = .dct ds ∧ Ty ρ1 fun y ρ2 => ∃ k, keyD y = some k ∧ Φ ((valD ds k).getD .non) ρ2 := Eq.trans rfl rfl
@[simp] theorem dGet2_ (Td Ty Tz : DE) (ρ : Env) (Φ : D → Env → Prop) : dGet2 Td Ty Tz ρ Φ = Td ρ fun x ρ1 => ∃ ds, x = .dct ds ∧ Ty ρ1 fun y ρ2 => Tz ρ2 fun z ρ3 => ∃ k, keyD y = some k ∧ Φ ((valD ds k).getD z) ρ3 := Eq.trans rfl rfl
@[simp] theorem dTest_ (T : DE) (ρ : Env) (Φ : Bool → Env → Prop) : dTest T ρ Φ = T ρ fun x ρ' => blG x fun c => Φ c ρ' := Eq.trans rfl rfl
@[simp] theorem blG_ (c : Bool) (Φ : Bool → Prop) : blG (.bl c) Φ = Φ c := Eq.trans rfl rfl
@[simp] theorem obG_ (c : Bool) (Φ : Bool → Prop) : obG (some c) Φ = Φ c := Eq.trans rfl rfl
@[simp] theorem dTruth_ (T : DE) (ρ : Env) (Φ : Bool → Env → Prop) : dTruth T ρ Φ = T ρ fun x ρ' => obG (truD x) fun c => Φ c ρ' := Eq.trans rfl rfl
@[simp] theorem dTruthS_ (i : Nat) (ρ : Env) (Φ : Bool → Env → Prop) : dTruthS i ρ Φ = ∃ d, peek ρ i = some d ∧ obG (truD d) fun c => Φ c ρ := Eq.trans rfl rfl
@[simp] theorem truD_n : truD .non = some false := Eq.trans rfl rfl
@[simp] theorem truD_b (b : Bool) : truD (.bl b) = some b := Eq.trans rfl rfl
@[simp] theorem truD_i (i : Int) : truD (.int i) = some (i != 0) := Eq.trans rfl rfl
@[simp] theorem truD_l (l : List D) : truD (.lst l) = some !l.isEmpty := Eq.trans rfl rfl
@[simp] theorem truD_t (l : List D) : truD (.tup l) = some !l.isEmpty := Eq.trans rfl rfl
@[simp] theorem dAnd_ (T U : DT) (ρ : Env) (Φ : Bool → Env → Prop) : dAnd T U ρ Φ = T ρ fun c ρ1 => if c = true then U ρ1 Φ else Φ false ρ1 := Eq.trans rfl rfl
@[simp] theorem dOr_ (T U : DT) (ρ : Env) (Φ : Bool → Env → Prop) : dOr T U ρ Φ = T ρ fun c ρ1 => if c = true then Φ true ρ1 else U ρ1 Φ := Eq.trans rfl rfl
@[simp] theorem dNot_ (T : DT) (ρ : Env) (Φ : Bool → Env → Prop) : dNot T ρ Φ = T ρ fun c ρ1 => Φ (!c) ρ1 := Eq.trans rfl rfl
@[simp] theorem dAndV_ (T U : DE) (ρ : Env) (Φ : D → Env → Prop) : dAndV T U ρ Φ = T ρ fun x ρ1 => blG x fun c => if c = true then U ρ1 Φ else Φ (.bl false) ρ1 := Eq.trans rfl rfl
@[simp] theorem dOrV_ (T U : DE) (ρ : Env) (Φ : D → Env → Prop) : dOrV T U ρ Φ = T ρ fun x ρ1 => blG x fun c => if c = true then Φ (.bl true) ρ1 else U ρ1 Φ := Eq.trans rfl rfl
@[simp] theorem dNotV_ (T : DE) (ρ : Env) (Φ : D → Env → Prop) : dNotV T ρ Φ = T ρ fun x ρ1 => blG x fun c => Φ (.bl (!c)) ρ1 := Eq.trans rfl rfl
@[simp] theorem dIf_ (T : DT) (U W : DE) (ρ : Env) (Φ : D → Env → Prop) : dIf T U W ρ Φ = T ρ fun c ρ1 => if c = true then U ρ1 Φ else W ρ1 Φ := Eq.trans rfl rfl
@[simp] theorem dIfL_ (T : DT) (U W : DLs) (ρ : Env) (Φ : List D → Env → Prop) : dIfL T U W ρ Φ = T ρ fun c ρ1 => if c = true then U ρ1 Φ else W ρ1 Φ := Eq.trans rfl rfl
@[simp] theorem dNeg_ (T : DE) (ρ : Env) (Φ : D → Env → Prop) : dNeg T ρ Φ = T ρ fun x ρ1 => ∃ i, x = .int i ∧ Φ (.int (-i)) ρ1 := Eq.trans rfl rfl
@[simp] theorem dCB_ (R : List D → (D → Prop) → Prop) (T : DLs) (ρ : Env) (Φ : D → Env → Prop) : dCB R T ρ Φ = T ρ fun ds ρ' => R ds fun z => Φ z ρ' := Eq.trans rfl rfl
@[simp] theorem dCBL_ (R : List D → (List D → Prop) → Prop) (T : DLs) (ρ : Env) (Φ : List D → Env → Prop) : dCBL R T ρ Φ = T ρ fun ds ρ' => R ds fun z => Φ z ρ' := Eq.trans rfl rfl
@[simp] theorem oLen_s (x : Str) (Φ : D → Prop) : oLen [.str x] Φ = (x.length ≤ sizeLine ∧ Φ (.int x.length)) := Eq.trans rfl rfl
@[simp] theorem oLen_t (l : List D) (Φ : D → Prop) : oLen [.tup l] Φ = Φ (.int l.length) := Eq.trans rfl rfl
@[simp] theorem oLen_l (l : List D) (Φ : D → Prop) : oLen [.lst l] Φ = Φ (.int l.length) := Eq.trans rfl rfl
@[simp] theorem dLenS_ (i : Nat) (ρ : Env) (Φ : D → Env → Prop) : dLenS i ρ Φ = ∃ l, peek ρ i = some (.lst l) ∧ Φ (.int l.length) ρ := Eq.trans rfl rfl
@[simp] theorem oListOf_t (l : List D) (Φ : List D → Prop) : oListOf [.tup l] Φ = Φ l := Eq.trans rfl rfl
@[simp] theorem oListOf_l (l : List D) (Φ : List D → Prop) : oListOf [.lst l] Φ = Φ l := Eq.trans rfl rfl
@[simp] theorem oTupOf_t (l : List D) (Φ : D → Prop) : oTupOf [.tup l] Φ = Φ (.tup l) := Eq.trans rfl rfl
@[simp] theorem oTupOf_l (l : List D) (Φ : D → Prop) : oTupOf [.lst l] Φ = Φ (.tup l) := Eq.trans rfl rfl
@[simp] theorem oAbs_ (i : Int) (Φ : D → Prop) : oAbs [.int i] Φ = Φ (.int (if i < 0 then -i else i)) := Eq.trans rfl rfl
@[simp] theorem oInt_ (i : Int) (Φ : D → Prop) : oInt [.int i] Φ = Φ (.int i) := Eq.trans rfl rfl
@[simp] theorem oSum_ (l : List D) (Φ : D → Prop) : oSum [.lst l] Φ = ∃ ns, intsD l = some ns ∧ Φ (.int ns.sum) := by simp [oSum]
@[simp] theorem oMin_ (l : List D) (Φ : D → Prop) : oMin [.lst l] Φ = ∃ ns, intsD l = some ns ∧ 0 < ns.length ∧ ∀ m, m ∈ ns → (∀ y, y ∈ ns → m ≤ y) → Φ (.int m) := by simp [oMin]
@[simp] theorem oAll_ (l : List D) (Φ : D → Prop) : oAll [.lst l] Φ = ∃ ns, blsD l = some ns ∧ Φ (.bl (ns.all id)) := by simp [oAll]
@[simp] theorem oAny_ (l : List D) (Φ : D → Prop) : oAny [.lst l] Φ = ∃ ns, blsD l = some ns ∧ Φ (.bl (ns.any id)) := by simp [oAny]
@[simp] theorem oIsi_ (x : D) (n : String) (Φ : D → Prop) : oIsi [x, .ty n] Φ = obG (isD x n) fun c => Φ (.bl c) := Eq.trans rfl rfl
@[simp] theorem dIsi2_ (Ta : DE) (m n : String) (ρ : Env) (Φ : D → Env → Prop) : dIsi2 Ta m n ρ Φ = Ta ρ fun x ρ1 => obG (isD x m) fun c => obG (isD x n) fun e => Φ (.bl (c || e)) ρ1 := Eq.trans rfl rfl
@[simp] theorem dName_ (j : Nat) (d : D) (ρ : Env) (Φ : Env → Prop) : dName j d ρ Φ = Φ (ρ.set j (some (.d d))) := Eq.trans rfl rfl
@[simp] theorem dGNil_ (ρ : Env) (Φ : Env → Prop) : dGNil [] ρ Φ = Φ ρ := by unfold dGNil; simp
@[simp] theorem dGCons_ (G : DG) (Gs : DGs) (d : D) (r : List D) (ρ : Env) (Φ : Env → Prop) : dGCons G Gs (d :: r) ρ Φ = G d ρ fun ρ1 => Gs r ρ1 Φ := by
  unfold dGCons
  refine propext ⟨?_, fun h => ⟨_, _, rfl, h⟩⟩
  rintro ⟨d', r', h, g⟩
  cases h
  exact g
@[simp] theorem dGTup_ (n : Nat) (Gs : DGs) (ds : List D) (ρ : Env) (Φ : Env → Prop) : dGTup n Gs (.tup ds) ρ Φ = (ds.length = n ∧ Gs ds ρ Φ) := by
  unfold dGTup
  refine propext ⟨?_, fun h => ⟨_, rfl, h⟩⟩
  rintro ⟨d', h, g⟩
  cases h
  exact g
@[simp] theorem dIL_ (T : DE) (ρ : Env) (Φ : List D → Env → Prop) : dIL T ρ Φ = T ρ fun x ρ' => ∃ ds, x = .lst ds ∧ Φ ds ρ' := Eq.trans rfl rfl
@[simp] theorem dIT_ (T : DE) (ρ : Env) (Φ : List D → Env → Prop) : dIT T ρ Φ = T ρ fun x ρ' => ∃ ds, x = .tup ds ∧ Φ ds ρ' := Eq.trans rfl rfl
@[simp] theorem dIR1_ (T : DLs) (ρ : Env) (Φ : List D → Env → Prop) : dIR1 T ρ Φ = T ρ fun xs ρ' => ∃ j : Int, xs = [.int j] ∧ -(2 ^ 62) ≤ j ∧ j < 2 ^ 62 ∧ Φ (rngD 0 j.toNat) ρ' := Eq.trans rfl rfl
@[simp] theorem dIR2_ (T : DLs) (ρ : Env) (Φ : List D → Env → Prop) : dIR2 T ρ Φ = T ρ fun xs ρ' => ∃ i j : Int, xs = [.int i, .int j] ∧ (-(2 ^ 62) ≤ i ∧ i < 2 ^ 62 ∧ -(2 ^ 62) ≤ j ∧ j < 2 ^ 62) ∧ Φ (rngD i (j - i).toNat) ρ' := Eq.trans rfl rfl
@[simp] theorem wipeD_0 (ρ : Env) : wipeD ρ [] = ρ := Eq.trans rfl rfl
@[simp] theorem wipeD_1 (ρ : Env) (v : Nat) (vs : List Nat) : wipeD ρ (v :: vs) = (wipeD ρ vs).set v none := Eq.trans rfl rfl
@[simp] theorem restore_0 (ρ ρ0 : Env) : restore ρ ρ0 [] = ρ := Eq.trans rfl rfl
@[simp] theorem restore_1 (ρ ρ0 : Env) (v : Nat) (vs : List Nat) : restore ρ ρ0 (v :: vs) = (restore ρ ρ0 vs).set v (keepD ρ0[v]?) := Eq.trans rfl rfl
@[simp] theorem keepD_d (d : D) : keepD (some (some (.d d))) = some (.d d) := Eq.trans rfl rfl
@[simp] theorem keepD_n : keepD (some none) = none := Eq.trans rfl rfl
@[simp] theorem keepD_l (l : List D) : keepD (some (some (.l l))) = none := Eq.trans rfl rfl
@[simp] theorem keepD_m (l : List (Key × D)) : keepD (some (some (.m l))) = none := Eq.trans rfl rfl
@[simp] theorem dYes_ (ρ : Env) (Φ : Bool → Env → Prop) : dYes ρ Φ = Φ true ρ := Eq.trans rfl rfl
@[simp] theorem dNoPart_ (ρ : Env) (Φ : Option Int → Env → Prop) : dNoPart ρ Φ = Φ none ρ := Eq.trans rfl rfl
@[simp] theorem dPart_ (T : DE) (ρ : Env) (Φ : Option Int → Env → Prop) : dPart T ρ Φ = T ρ fun x ρ' => ∃ i, x = .int i ∧ Φ (some i) ρ' := Eq.trans rfl rfl
@[simp] theorem dSlL_ (Te : DE) (Tl Th : DOo) (ρ : Env) (Φ : List D → Env → Prop) : dSlL Te Tl Th ρ Φ = Te ρ fun x ρ1 => Tl ρ1 fun l ρ2 => Th ρ2 fun u ρ3 => ∃ ds, x = .lst ds ∧ Φ (cutD ds l u) ρ3 := Eq.trans rfl rfl
@[simp] theorem dSlT_ (Te : DE) (Tl Th : DOo) (ρ : Env) (Φ : D → Env → Prop) : dSlT Te Tl Th ρ Φ = Te ρ fun x ρ1 => Tl ρ1 fun l ρ2 => Th ρ2 fun u ρ3 => ∃ ds, x = .tup ds ∧ Φ (.tup (cutD ds l u)) ρ3 := Eq.trans rfl rfl
@[simp] theorem dRevL_ (T : DE) (ρ : Env) (Φ : List D → Env → Prop) : dRevL T ρ Φ = T ρ fun x ρ1 => ∃ ds, x = .lst ds ∧ Φ ds.reverse ρ1 := Eq.trans rfl rfl
@[simp] theorem dRevT_ (T : DE) (ρ : Env) (Φ : D → Env → Prop) : dRevT T ρ Φ = T ρ fun x ρ1 => ∃ ds, x = .tup ds ∧ Φ (.tup ds.reverse) ρ1 := Eq.trans rfl rfl
@[simp] theorem dFld_ (C : Addr) (T : DE) (f : Str) (ρ : Env) (Φ : D → Env → Prop) : dFld C T f ρ Φ = T ρ fun x ρ1 => ∃ fs d, x = .obj C fs ∧ valD fs f = some d ∧ Φ d ρ1 := Eq.trans rfl rfl
@[simp] theorem dCall_ (S : SD) (Ta : DAs) (ρ : Env) (Φ : D → Env → Prop) : dCall S Ta ρ Φ = Ta ρ fun as ρ1 => (as.all (ownB ρ1) = true ∧ (slotsOf as).Nodup) ∧ S (as.map (ovOf ρ1)) fun d os => Φ d (putBack as os ρ1) := Eq.trans rfl rfl
@[simp] theorem dCallV_ (s : List D → (D → Prop) → Prop) (Ta : DLs) (ρ : Env) (Φ : D → Env → Prop) : dCallV s Ta ρ Φ = Ta ρ fun ds ρ1 => s ds fun d => Φ d ρ1 := Eq.trans rfl rfl
@[simp] theorem ownB_v (ρ : Env) (d : D) : ownB ρ (.v d) = true := Eq.trans rfl rfl
@[simp] theorem ownB_s (ρ : Env) (i : Nat) : ownB ρ (.s i) = (slotO ρ[i]?).own := Eq.trans rfl rfl
@[simp] theorem ovOf_v (ρ : Env) (d : D) : ovOf ρ (.v d) = .d d := Eq.trans rfl rfl
@[simp] theorem ovOf_s (ρ : Env) (i : Nat) : ovOf ρ (.s i) = slotO ρ[i]? := Eq.trans rfl rfl
@[simp] theorem slotO_s (o : OV) : slotO (some (some o)) = o := Eq.trans rfl rfl
@[simp] theorem own_d (d : D) : OV.own (.d d) = false := Eq.trans rfl rfl
@[simp] theorem own_l (d : List D) : OV.own (.l d) = true := Eq.trans rfl rfl
@[simp] theorem own_m (d : List (Key × D)) : OV.own (.m d) = true := Eq.trans rfl rfl
@[simp] theorem own_w : OV.own .draw = true := Eq.trans rfl rfl
@[simp] theorem slotsOf_n : slotsOf [] = [] := Eq.trans rfl rfl
@[simp] theorem slotsOf_v (d : D) (as : List AV) : slotsOf (.v d :: as) = slotsOf as := Eq.trans rfl rfl
@[simp] theorem slotsOf_s (i : Nat) (as : List AV) : slotsOf (.s i :: as) = i :: slotsOf as := Eq.trans rfl rfl
@[simp] theorem putBack_n (os : List OV) (ρ : Env) : putBack [] os ρ = ρ := by cases os <;> rfl
@[simp] theorem putBack_v (d : D) (as : List AV) (o : OV) (os : List OV) (ρ : Env) : putBack (.v d :: as) (o :: os) ρ = putBack as os ρ := Eq.trans rfl rfl
@[simp] theorem putBack_s (i : Nat) (as : List AV) (o : OV) (os : List OV) (ρ : Env) : putBack (.s i :: as) (o :: os) ρ = putBack as os (ρ.set i (some o)) := Eq.trans rfl rfl
@[simp] theorem outs_0 (ρ : Env) : outs 0 ρ = [] := Eq.trans rfl rfl
@[simp] theorem outs_1 (a : Option OV) (ρ : Env) : outs 1 (a :: ρ) = [slotO (some a)] := Eq.trans rfl rfl
@[simp] theorem outs_2 (a b : Option OV) (ρ : Env) : outs 2 (a :: b :: ρ) = [slotO (some a), slotO (some b)] := Eq.trans rfl rfl
@[simp] theorem outs_3 (a b c : Option OV) (ρ : Env) : outs 3 (a :: b :: c :: ρ) = [slotO (some a), slotO (some b), slotO (some c)] := Eq.trans rfl rfl
@[simp] theorem outs_4 (a b c d : Option OV) (ρ : Env) : outs 4 (a :: b :: c :: d :: ρ) = [slotO (some a), slotO (some b), slotO (some c), slotO (some d)] := Eq.trans rfl rfl
@[simp] theorem outs_5 (a b c d e : Option OV) (ρ : Env) : outs 5 (a :: b :: c :: d :: e :: ρ) = [slotO (some a), slotO (some b), slotO (some c), slotO (some d), slotO (some e)] := Eq.trans rfl rfl
@[simp] theorem startD_ (n : Nat) (os : List OV) : startD n os = os.map some ++ List.replicate (n - os.length) none := Eq.trans rfl rfl
/-- a test whose answer is told -/
theorem pure_len {n : Nat} {s : List D → (D → Prop) → Prop} (h : ∀ ds Φ, s ds Φ → ds.length = n) : ∀ os Φ, pureS s os Φ → os.length = n ∧ (∀ (i : Nat) o, os[i]? = some o → o.own = true → i ∈ ([] : List Nat)) ∧ ∀ i ∈ ([] : List Nat), i < os.length := by
  rintro os Φ ⟨ds, rfl, hs⟩
  refine ⟨by rw [List.length_map]; exact h ds _ hs, fun i o e ho => ?_, fun i hi => by cases hi⟩
  rw [List.getElem?_map] at e
  obtain ⟨d, _, rfl⟩ := Option.map_eq_some_iff.mp e
  cases ho
theorem for_inv {Ti : DLs} {G : DG} {Tb : DS} {E : DEn} {ρ : Env} (ds : List D) (ρ1 : Env) (W : Nat → Env → Prop) (hI : ∀ Ψ : List D → Env → Prop, Ψ ds ρ1 → Ti ρ Ψ) (h0 : W 0 ρ1)
    (hs : ∀ k x ρ, ds[k]? = some x → W k ρ → G x ρ fun ρ2 => Tb ⟨W (k + 1), E.rt, E.nx, W (k + 1)⟩ ρ2) (hd : ∀ ρ, W ds.length ρ → E.nx ρ) : dFor Ti G Tb E ρ := hI _ ⟨W, h0, hs, hd⟩
theorem while_inv {C : DT} {Tb : DS} {E : DEn} {ρ : Env} (W : Nat → Env → Prop) (h0 : ∃ m, W m ρ)
    (hs : ∀ m ρ, W m ρ → C ρ fun c ρ1 => if c = true then Tb ⟨fun ρ2 => ∃ m', m' < m ∧ W m' ρ2, E.rt, E.nx, fun ρ2 => ∃ m', m' < m ∧ W m' ρ2⟩ ρ1 else E.nx ρ1) : dWhile C Tb E ρ := ⟨W, h0, hs⟩
theorem lc_inv {Ti : DLs} {G : DG} {Tt : DT} {Te : DE} {vs : List Nat} {ρ : Env} {Φ : List D → Env → Prop} (ds : List D) (ρ1 : Env) (W : Nat → List D → Env → Prop) (hI : ∀ Ψ : List D → Env → Prop, Ψ ds ρ1 → Ti ρ Ψ) (h0 : W 0 [] (wipeD ρ1 vs))
    (hs : ∀ k x acc ρ, ds[k]? = some x → W k acc ρ → G x ρ fun ρ2 => Tt ρ2 fun c ρ3 => if c = true then Te ρ3 fun e ρ4 => acc.length < sizeLine ∧ W (k + 1) (acc ++ [e]) (wipeD ρ4 vs) else W (k + 1) acc (wipeD ρ3 vs))
    (hd : ∀ acc ρ, W ds.length acc ρ → Φ acc (restore ρ ρ1 vs)) : dLc Ti G Tt Te vs ρ Φ := hI _ ⟨W, h0, hs, hd⟩
/-- a comprehension whose items and tests are told by functions -/
theorem lc_fp {Ti : DLs} {G : DG} {Tt : DT} {Te : DE} {vs : List Nat} {ρ : Env} {Φ : List D → Env → Prop} (ds : List D) (ρ1 ρw : Env) (p : D → Bool) (f : D → D) (hI : ∀ Ψ : List D → Env → Prop, Ψ ds ρ1 → Ti ρ Ψ) (hw : wipeD ρ1 vs = ρw) (hz : ds.length ≤ 16000000)
    (hs : ∀ x, x ∈ ds → ∀ (A : D → Env → Prop) (B : Env → Prop), (p x = true → ∀ ρ4, wipeD ρ4 vs = ρw → A (f x) ρ4) → (p x = false → ∀ ρ3, wipeD ρ3 vs = ρw → B ρ3) → G x ρw fun ρ2 => Tt ρ2 fun c ρ3 => if c = true then Te ρ3 A else B ρ3)
    (hd : Φ ((ds.filter p).map f) (restore ρw ρ1 vs)) : dLc Ti G Tt Te vs ρ Φ := by
  refine lc_inv ds ρ1 (fun k acc ρ => acc = ((ds.take k).filter p).map f ∧ ρ = ρw) hI ⟨rfl, hw⟩ ?_ ?_
  · rintro k x acc ρ hx ⟨rfl, rfl⟩
    have hk := (List.getElem?_eq_some_iff.mp hx).1
    have ht : ds.take (k + 1) = ds.take k ++ [x] := by rw [List.take_add_one, hx]; rfl
    refine hs x (List.mem_of_getElem? hx) _ _ (fun hp ρ4 h4 => ⟨?_, ?_, h4⟩) (fun hp ρ3 h3 => ⟨?_, h3⟩)
    · have h1 : (((ds.take k).filter p).map f).length ≤ k := by
        rw [List.length_map]
        exact Nat.le_trans (List.length_filter_le _ _) (by rw [List.length_take]; omega)
      show _ < 16777216
      omega
    · rw [ht, List.filter_append, List.filter_cons, hp]
      simp
    · rw [ht, List.filter_append, List.filter_cons, hp]
      simp
  · rintro acc ρ ⟨rfl, rfl⟩
    rw [List.take_length]
    exact hd
theorem lc_f {Ti : DLs} {G : DG} {Te : DE} {vs : List Nat} {ρ : Env} {Φ : List D → Env → Prop} (ds : List D) (ρ1 ρw : Env) (f : D → D) (hI : ∀ Ψ : List D → Env → Prop, Ψ ds ρ1 → Ti ρ Ψ) (hw : wipeD ρ1 vs = ρw) (hz : ds.length ≤ 16000000)
    (hs : ∀ x, x ∈ ds → ∀ (A : D → Env → Prop), (∀ ρ4, wipeD ρ4 vs = ρw → A (f x) ρ4) → G x ρw fun ρ2 => Te ρ2 A)
    (hd : Φ (ds.map f) (restore ρw ρ1 vs)) : dLc Ti G dYes Te vs ρ Φ := by
  refine lc_fp ds ρ1 ρw (fun _ => true) f hI hw hz (fun x hx A B h1 h2 => ?_) ?_
  · exact hs x hx A (h1 rfl)
  · have e : ds.filter (fun _ => true) = ds := List.filter_eq_self.mpr fun _ _ => rfl
    rw [e]
    exact hd
/-- .. whose items are told in a row -/
theorem lc_z {Ti : DLs} {G : DG} {Te : DE} {vs : List Nat} {ρ : Env} {Φ : List D → Env → Prop} (ds es : List D) (ρ1 ρw : Env) (hI : ∀ Ψ : List D → Env → Prop, Ψ ds ρ1 → Ti ρ Ψ) (hw : wipeD ρ1 vs = ρw) (hz : ds.length ≤ 16000000) (hl : es.length = ds.length)
    (hs : ∀ (k : Nat) x e, ds[k]? = some x → es[k]? = some e → ∀ (A : D → Env → Prop), (∀ ρ4, wipeD ρ4 vs = ρw → A e ρ4) → G x ρw fun ρ2 => Te ρ2 A)
    (hd : Φ es (restore ρw ρ1 vs)) : dLc Ti G dYes Te vs ρ Φ := by
  refine lc_inv ds ρ1 (fun k acc ρ => acc = es.take k ∧ ρ = ρw) hI ⟨rfl, hw⟩ ?_ ?_
  · rintro k x acc ρ hx ⟨rfl, rfl⟩
    have hk := (List.getElem?_eq_some_iff.mp hx).1
    have ge := List.getElem?_eq_getElem (show k < es.length by omega)
    refine hs k x _ hx ge _ fun ρ4 h4 => ⟨?_, ?_, h4⟩
    · show _ < 16777216
      rw [List.length_take]
      omega
    · rw [List.take_add_one, ge]
      rfl
  · rintro acc ρ ⟨rfl, rfl⟩
    rw [← hl, List.take_length]
    exact hd
theorem mem_rng {x : D} {lo : Int} {n : Nat} (h : x ∈ rngD lo n) : ∃ i : Nat, i < n ∧ x = .int (lo + (i : Nat)) := by
  unfold rngD at h
  obtain ⟨i, hi, rfl⟩ := List.mem_map.mp h
  exact ⟨i, List.mem_range.mp hi, rfl⟩
def ownAt : Nat → List OV → List Nat
  | _, [] => []
  | k, o :: os => if o.own = true then k :: ownAt (k + 1) os else ownAt (k + 1) os
theorem ownAt_mem {i : Nat} {o : OV} : ∀ {os : List OV} {k : Nat}, os[i]? = some o → o.own = true → k + i ∈ ownAt k os
  | [], k, h, _ => by cases h
  | u :: os, k, h, ho => by
    cases i with
    | zero =>
      cases h
      unfold ownAt
      rw [if_pos ho]
      exact List.mem_cons_self
    | succ i =>
      have := ownAt_mem (i := i) (os := os) (k := k + 1) h ho
      rw [show k + (i + 1) = k + 1 + i by omega]
      unfold ownAt
      split
      · exact List.mem_cons_of_mem _ this
      · exact this
theorem ownAt_lt {i : Nat} : ∀ {os : List OV} {k : Nat}, i ∈ ownAt k os → i < k + os.length
  | [], k, h => by cases h
  | u :: os, k, h => by
    unfold ownAt at h
    rw [List.length_cons]
    split at h
    · rcases List.mem_cons.mp h with rfl | h
      · omega
      · have := ownAt_lt h
        omega
    · have := ownAt_lt h
      omega
theorem own_len {n : Nat} {ps : List Nat} {S : SD} (h : ∀ os Φ, S os Φ → os.length = n ∧ ownAt 0 os = ps) : ∀ os Φ, S os Φ → os.length = n ∧ (∀ (i : Nat) o, os[i]? = some o → o.own = true → i ∈ ps) ∧ ∀ i ∈ ps, i < os.length := by
  intro os Φ hS
  obtain ⟨h1, h2⟩ := h os Φ hS
  refine ⟨h1, fun i o e ho => ?_, fun i hi => ?_⟩
  · have := ownAt_mem (k := 0) e ho
    rw [h2, Nat.zero_add] at this
    exact this
  · rw [← h2] at hi
    have := ownAt_lt hi
    omega
end DL
/-! min(xs, default=None) over ints. -/
namespace DX
open PySem PySem.Spec PyProof.Rows L2 DL
section
variable {X : Cx}
def rMinD (K : PySem.W.Frag) : List V → List V → Hp → VK → Prop := fun vs zs H Q => ∃ (a : Addr) (ns : List Int), vs = [V.ref a] ∧ zs = [V.non] ∧ SqL K H a (ns.map V.int) ∧ (ns = [] → Q .non H) ∧ ∀ m, m ∈ ns → (∀ y, y ∈ ns → m ≤ y) → Q (.int m) H
theorem cr_minD (hc : X.calm = true) : CallRK X (.builtin "min") [Str.ofString "default"] (rMinD X.K) := by
  intro pins s σ H vs zs us ws Q I r rz h
  obtain ⟨a, ns, rfl, rfl, hs, q0, q⟩ := h
  obtain rfl := Vals.ref1 r
  obtain ⟨w1, rfl, e1⟩ := vals1 rz
  obtain rfl : w1 = Value.none := e1
  obtain ⟨its, rv, hl, _⟩ := I.list hs
  have hl := hl.isList
  have hi := rv.ints
  obtain ⟨xs, e⟩ := hi.allInts.items
  have hn : numsOf (intItems xs).toList = ns := by rw [← e]; exact hi.numsOf
  rw [nums_intItems] at hn
  subst hn
  rw [e] at hl
  have hh := I.ok.hd hc
  show wpAny _ _ (call (.builtin "min") [.ref a] [(Str.ofString "default", Value.none)]) _ _ s
  refine call_min_walkD (PySem.W.iter_listW (A := X.A.in1) hh hl fun s₂ e2 W st hfp hw hk => ?_)
  refine ⟨_, _, _, _, _, _, _, s.heap, (fun i j => decide (numAt xs i < numAt xs j)), rfl, W, st, hfp, hw, hk, fun hz s' m => ?_, fun hp => ⟨?_, fun v s' hP m => ?_⟩⟩
  · obtain ⟨h', tk, rfl, hk'⟩ := PySem.W.moved_old e2 rfl m
    refine ⟨.non, H, I.kept hk', rfl, q0 ?_⟩
    have : xs.size = 0 := by simpa [intItems] using hz
    rw [Array.eq_empty_of_size_eq_zero this]
    rfl
  · intro i j vi vj s9 Q9 E9 _ h1 h2 h3
    exact CmpOf.ints_lt (numAt xs) (fun _ _ => intItems_at) i j vi vj s9 Q9 E9 h1 h2 h3
  · obtain ⟨h', tk, rfl, hk'⟩ := PySem.W.moved_old e2 rfl m
    obtain ⟨t, rfl⟩ := intItems_at hP
    have hsz : 0 < xs.size := by simpa [intItems] using hp
    have e3 : (intItems xs).size - 1 = xs.size - 1 := by simp [intItems]
    obtain ⟨h1, h2⟩ := argBest_lt (numAt xs) (xs.size - 1)
    rw [e3] at hP ⊢
    refine ⟨.int _, H, I.kept hk', ⟨_, rfl⟩, q _ ?_ fun a ha => ?_⟩
    · rw [numAt_eq]; exact PySem.getD_mem (by rw [List.length_map, Array.length_toList]; omega)
    · obtain ⟨j, hj, rfl⟩ := mem_getD ha
      rw [List.length_map, Array.length_toList] at hj
      rw [← numAt_eq]; exact h2 j (by omega)
end
section
variable [Tbs] {K : PySem.W.Frag} {ps : List Nat}
def oMinD (ds : List D) (Φ : D → Prop) : Prop := ∃ l ns, ds = [.lst l] ∧ intsD l = some ns ∧ (ns = [] → Φ .non) ∧ ∀ m, m ∈ ns → (∀ y, y ∈ ns → m ≤ y) → Φ (.int m)
@[simp] theorem oMinD_ (l : List D) (Φ : D → Prop) : oMinD [.lst l] Φ = ∃ ns, intsD l = some ns ∧ (ns = [] → Φ .non) ∧ ∀ m, m ∈ ns → (∀ y, y ∈ ns → m ≤ y) → Φ (.int m) := by
  unfold oMinD
  refine propext ⟨?_, fun ⟨ns, h⟩ => ⟨l, ns, rfl, h⟩⟩
  rintro ⟨l', ns, e, h⟩
  cases e
  exact ⟨ns, h⟩
theorem re_minD {t : TA} {T : DLs} (h : RV K ps t T) : RE K ps (tCKw (rMinD K) t (tCons (tC .non) tNil)) (dCB oMinD T) := by
  intro b σ H F ρ Φ Q R0 hT k
  refine h b σ H F ρ _ _ R0 hT fun xs H1 F1 ρ1 ds s1 R1 h1 hT => ?_
  obtain ⟨l, ns, rfl, hn, q0, q⟩ := hT
  obtain ⟨v, r, rfl, h1, h2⟩ := h1.inv
  rw [h2.inv_nil]
  obtain ⟨a, ys, rfl, ea, ha⟩ := h1.inv_lst
  rw [intsD_ok ha hn] at ea
  exact ⟨a, ns, rfl, rfl, SqL.of (R1.sub _ _ ea), fun z => k _ H1 F1 ρ1 _ s1 R1 .non (q0 z), fun m h3 h4 => k _ H1 F1 ρ1 _ s1 R1 (.int _) (q m h3 h4)⟩
end
end DX
/-! A list or a dict of one's own lent to a callee as data: the callee's result is flat, so it stays one's own. -/
namespace DL
open PySem PySem.Spec PyProof.Rows L2
def lentO : OV → D
  | .d d => d
  | .l ds => .lst ds
  | .m ks => .dct ks
  | .draw => .non
def lentD (ρ : Env) : AV → D
  | .v d => d
  | .s i => lentO (slotO ρ[i]?)
def lendO : OV → Bool
  | .l _ => true
  | .m _ => true
  | _ => false
def lendS : Option (Option OV) → Bool
  | some (some (.l _)) => true
  | some (some (.m _)) => true
  | some (some (.d _)) => true
  | _ => false
def lendB (ρ : Env) : AV → Bool
  | .v _ => true
  | .s i => lendS ρ[i]?
theorem Dr.flat {K : PySem.W.Frag} {F F' : Hp} {v : V} {d : D} (h : Dr K F v d) (hf : flatD d = true) : Dr K F' v d := by
  cases h with
  | non => exact .non
  | bl b => exact .bl b
  | int i => exact .int i
  | str x => exact .str x
  | _ => cases hf
section
variable [Tbs] {K : PySem.W.Frag} {ps : List Nat} {b : Bs} {σ : St} {H : Hp}
theorem argUp {F F' : Hp} (s : Same F F') {vs : List V} {as : List AV} (h : ArgRel K σ F vs as) : ArgRel K σ F' vs as := by
  induction h with
  | nil => exact .nil
  | v h _ ih => exact .v (h.up s) ih
  | s h _ ih => exact .s h ih
theorem lend {vs : List V} {as : List AV} : ∀ {F : Hp} {ρ : Env}, ArgRel K σ F vs as → Rep K ps b σ H F ρ → as.all (lendB ρ) = true → ∃ F2 ρ2, Same F F2 ∧ Rep K ps b σ H F2 ρ2 ∧ DA K F2 vs (as.map (lentD ρ)) := by
  induction as generalizing vs with
  | nil =>
    intro F ρ hr R _
    cases hr
    exact ⟨F, ρ, Same.refl F, R, ⟨rfl, fun k v d e => by cases e⟩⟩
  | cons a as ih =>
    intro F ρ hr R hl
    rw [List.all_cons, Bool.and_eq_true] at hl
    have up : ∀ {F2 : Hp} {ρ2 : Env} {v : V} {d : D} {vs' : List V}, Same F F2 → Dr K F2 v d → ArgRel K σ F vs' as → Rep K ps b σ H F2 ρ2 → as.all (lendB ρ2) = true → (as.map (lentD ρ2)) = as.map (lentD ρ) →
        ∃ F3 ρ3, Same F F3 ∧ Rep K ps b σ H F3 ρ3 ∧ DA K F3 (v :: vs') (d :: as.map (lentD ρ)) := fun {F2 ρ2 v d vs'} s hd hr R2 hl2 e => by
      obtain ⟨F3, ρ3, s3, R3, h3⟩ := ih (argUp s hr) R2 hl2
      rw [e] at h3
      exact ⟨F3, ρ3, s.trans s3, R3, .cons (hd.up s3) h3⟩
    have stay : ∀ {i : Nat} {o : OV}, ρ[i]? = some (some o) → lendO o = true → (∀ a : AV, lentD (ρ.set i (some (.d (lentO o)))) a = lentD ρ a) ∧ ∀ a : AV, lendB ρ a = true → lendB (ρ.set i (some (.d (lentO o)))) a = true := fun {i o} e ho => by
      have hi := (List.getElem?_eq_some_iff.mp e).1
      refine ⟨fun a => ?_, fun a h => ?_⟩
      · cases a with
        | v d => rfl
        | s j =>
          show lentO (slotO _) = lentO (slotO _)
          by_cases hj : i = j
          · subst hj
            rw [List.getElem?_set_self hi, e]
            rfl
          · rw [List.getElem?_set_ne hj]
      · cases a with
        | v d => rfl
        | s j =>
          show lendS _ = true
          by_cases hj : i = j
          · subst hj
            rw [List.getElem?_set_self hi]
            rfl
          · rw [List.getElem?_set_ne hj]
            exact h
    have all2 : ∀ {ρ2 : Env}, (∀ a : AV, lendB ρ a = true → lendB ρ2 a = true) → as.all (lendB ρ2) = true := fun h => List.all_eq_true.mpr fun a ha => h a (List.all_eq_true.mp hl.2 a ha)
    cases hr with
    | v h1 h2 => exact up (Same.refl F) h1 h2 R hl.2 rfl
    | s h1 h2 =>
      rename_i v i vs'
      have h0 : lendS ρ[i]? = true := hl.1
      show ∃ F2 ρ2, Same F F2 ∧ Rep K ps b σ H F2 ρ2 ∧ DA K F2 (v :: vs') (lentO (slotO ρ[i]?) :: as.map (lentD ρ))
      cases e : ρ[i]? with
      | none => rw [e] at h0; cases h0
      | some o =>
        cases o with
        | none => rw [e] at h0; cases h0
        | some o =>
          cases o with
          | d x =>
            obtain ⟨v', g1, g2⟩ := R.slot i _ e
            rw [h1] at g1
            cases g1
            exact up (Same.refl F) g2 h2 R hl.2 rfl
          | draw => rw [e] at h0; cases h0
          | l ds =>
            obtain ⟨p, xs, g1, _, _, g4, g5, g6⟩ := R.frzL e
            rw [h1] at g1
            cases g1
            obtain ⟨t1, t2⟩ := stay e rfl
            exact up g4 g5 h2 g6 (all2 t2) (List.map_congr_left fun a _ => t1 a)
          | m ds =>
            obtain ⟨p, xs, g1, _, _, g4, g5, g6⟩ := R.frzM e
            rw [h1] at g1
            cases g1
            obtain ⟨t1, t2⟩ := stay e rfl
            exact up g4 g5 h2 g6 (all2 t2) (List.map_congr_left fun a _ => t1 a)
def dCallB (s : List D → (D → Prop) → Prop) (Ta : DAs) : DE := fun ρ Φ => Ta ρ fun as ρ1 => as.all (lendB ρ1) = true ∧ s (as.map (lentD ρ1)) fun d => flatD d = true ∧ Φ d ρ1
theorem re_callB {s : List D → (D → Prop) → Prop} {t : TA} {Ta : DAs} {E : XK} (h : RA K ps t Ta) : RE K ps (tCall (spOf K (pureS s)) [] E t) (dCallB s Ta) := by
  intro b σ H F ρ Φ Q R0 hT k
  refine h b σ H F ρ _ _ R0 hT fun vs H1 F1 ρ1 as s1 R1 hr hT => ?_
  obtain ⟨hb, hS⟩ := hT
  obtain ⟨F2, ρ2, s2, R2, hda⟩ := lend hr R1 hb
  generalize as.map (lentD ρ1) = ds at hda hS
  have nO : ∀ a, ¬ OwnA vs (ds.map .d) a := fun a ⟨i, o, e1, e2, _⟩ => by
    rw [List.getElem?_map] at e1
    obtain ⟨d, _, rfl⟩ := Option.map_eq_some_iff.mp e1
    cases e2
  have eq : vs ++ ([] : List V) = vs := List.append_nil vs
  refine ⟨F2, ds.map .d, fun d _ => flatD d = true ∧ Φ d ρ1, ⟨R2.sub, R2.nt, R2.tabs, R2.grow.b⟩, ⟨by rw [List.length_map, eq]; exact hda.1, fun k v o e1 e2 => ?_, fun k l o u v n e1 o1 e2 o2 e3 e4 => ?_⟩, ⟨ds, rfl, hS⟩, fun F' H' v d os' s3 ⟨sub2, nt2, tb2⟩ kp th nw len2 hout hd hΦ => ?_⟩
  · rw [eq] at e1
    rw [List.getElem?_map] at e2
    obtain ⟨d, hd, rfl⟩ := Option.map_eq_some_iff.mp e2
    exact hda.2 k v d e1 hd
  · rw [List.getElem?_map] at e1
    obtain ⟨d, _, rfl⟩ := Option.map_eq_some_iff.mp e1
    cases o1
  · rw [eq] at kp nw
    exact k v H' F1 ρ1 d s1 (R1.grownT (fun a o e nz => kp a o e (nO a) nz) th (Same.refl F1) (fun a o e => sub2 a o (s3 _ _ (s2 _ _ e))) (fun a o e => .inl e) R1.nt tb2) (hd.flat hΦ.1) hΦ.2
@[simp] theorem dCallB_ (s : List D → (D → Prop) → Prop) (Ta : DAs) (ρ : Env) (Φ : D → Env → Prop) : dCallB s Ta ρ Φ = Ta ρ fun as ρ1 => as.all (lendB ρ1) = true ∧ s (as.map (lentD ρ1)) fun d => flatD d = true ∧ Φ d ρ1 := Eq.trans rfl rfl
@[simp] theorem lentD_v (ρ : Env) (d : D) : lentD ρ (.v d) = d := Eq.trans rfl rfl
@[simp] theorem lentD_s (ρ : Env) (i : Nat) : lentD ρ (.s i) = lentO (slotO ρ[i]?) := Eq.trans rfl rfl
@[simp] theorem lentO_d (d : D) : lentO (.d d) = d := Eq.trans rfl rfl
@[simp] theorem lentO_l (d : List D) : lentO (.l d) = .lst d := Eq.trans rfl rfl
@[simp] theorem lentO_m (d : List (Key × D)) : lentO (.m d) = .dct d := Eq.trans rfl rfl
@[simp] theorem lendB_v (ρ : Env) (d : D) : lendB ρ (.v d) = true := Eq.trans rfl rfl
@[simp] theorem lendB_s (ρ : Env) (i : Nat) : lendB ρ (.s i) = lendS ρ[i]? := Eq.trans rfl rfl
@[simp] theorem lendS_d (d : D) : lendS (some (some (.d d))) = true := Eq.trans rfl rfl
@[simp] theorem lendS_l (d : List D) : lendS (some (some (.l d))) = true := Eq.trans rfl rfl
@[simp] theorem lendS_m (d : List (Key × D)) : lendS (some (some (.m d))) = true := Eq.trans rfl rfl
end
end DL
/-! Trees, and their nodes in order. -/
namespace TR
inductive Tr (α : Type) where
  | nd (d : α) (ks : List (Tr α))
variable {α : Type}
def Tr.d : Tr α → α
  | .nd d _ => d
def Tr.ks : Tr α → List (Tr α)
  | .nd _ ks => ks
@[simp] theorem d_nd (d : α) (ks : List (Tr α)) : (Tr.nd d ks).d = d := rfl
@[simp] theorem ks_nd (d : α) (ks : List (Tr α)) : (Tr.nd d ks).ks = ks := rfl
mutual
def pre : Tr α → List (Tr α)
  | .nd d ks => .nd d ks :: pres ks
def pres : List (Tr α) → List (Tr α)
  | [] => []
  | k :: ks => pre k ++ pres ks
end
mutual
def sz : Tr α → Nat
  | .nd _ ks => 1 + szs ks
def szs : List (Tr α) → Nat
  | [] => 0
  | k :: ks => sz k + szs ks
end
/-- the numbers of trees one behind the other, the first one having this number -/
def starts : List (Tr α) → Nat → List Nat
  | [], _ => []
  | k :: ks, n => n :: starts ks (n + sz k)
mutual
def num : Tr α → Nat → List (α × List Nat)
  | .nd d ks, n => (d, starts ks (n + 1)) :: nums ks (n + 1)
def nums : List (Tr α) → Nat → List (α × List Nat)
  | [], _ => []
  | k :: ks, n => num k n ++ nums ks (n + sz k)
end
mutual
theorem pre_len : ∀ t : Tr α, (pre t).length = sz t
  | .nd d ks => by rw [pre, sz, List.length_cons, pres_len ks]; omega
theorem pres_len : ∀ ks : List (Tr α), (pres ks).length = szs ks
  | [] => by rw [pres, szs]; rfl
  | k :: ks => by rw [pres, szs, List.length_append, pre_len k, pres_len ks]
end
mutual
theorem num_len : ∀ (t : Tr α) (n : Nat), (num t n).length = sz t
  | .nd d ks, n => by rw [num, sz, List.length_cons, nums_len ks]; omega
theorem nums_len : ∀ (ks : List (Tr α)) (n : Nat), (nums ks n).length = szs ks
  | [], n => by rw [nums, szs]; rfl
  | k :: ks, n => by rw [nums, szs, List.length_append, num_len k, nums_len ks]
end
theorem sz_pos (t : Tr α) : 0 < sz t := by cases t; rw [sz]; omega
theorem pre_zero (t : Tr α) : (pre t)[0]? = some t := by cases t; rw [pre]; rfl
theorem starts_len : ∀ (ks : List (Tr α)) (n : Nat), (starts ks n).length = ks.length
  | [], n => rfl
  | k :: ks, n => by rw [starts, List.length_cons, List.length_cons, starts_len ks]
/-- G has these nodes from n on -/
def Has (G : List (Tr α)) (n : Nat) (l : List (Tr α)) : Prop := ∀ i s, l[i]? = some s → G[n + i]? = some s
theorem Has.app {G : List (Tr α)} {n : Nat} {a b : List (Tr α)} (h : Has G n (a ++ b)) : Has G n a ∧ Has G (n + a.length) b := by
  refine ⟨fun i s e => h i s ?_, fun i s e => ?_⟩
  · rw [List.getElem?_append_left (List.getElem?_eq_some_iff.mp e).1]
    exact e
  · have := h (a.length + i) s (by rw [List.getElem?_append_right (by omega), Nat.add_sub_cancel_left]; exact e)
    rwa [← Nat.add_assoc] at this
theorem Has.tail {G : List (Tr α)} {n : Nat} {a : Tr α} {b : List (Tr α)} (h : Has G n (a :: b)) : G[n]? = some a ∧ Has G (n + 1) b := by
  refine ⟨h 0 a rfl, fun i s e => ?_⟩
  have := h (i + 1) s e
  rwa [Nat.add_comm i 1, ← Nat.add_assoc] at this
theorem starts_has {G : List (Tr α)} : ∀ (ks : List (Tr α)) (n : Nat), Has G n (pres ks) → ∀ (j k : Nat), (starts ks n)[j]? = some k → n ≤ k ∧ G[k]? = ks[j]?
  | [], n, _, j, k, e => by cases e
  | t :: ks, n, h, j, k, e => by
    rw [pres] at h
    obtain ⟨h1, h2⟩ := h.app
    rw [pre_len] at h2
    cases j with
    | zero =>
      rw [starts] at e
      cases e
      have := h1 0 t (pre_zero t)
      exact ⟨Nat.le_refl _, this⟩
    | succ j =>
      rw [starts] at e
      obtain ⟨g1, g2⟩ := starts_has ks (n + sz t) h2 j k e
      exact ⟨by omega, g2⟩
/-- a row tells a node and the numbers of those in it -/
def RowOk (G : List (Tr α)) (i : Nat) (r : α × List Nat) : Prop := ∃ s, G[i]? = some s ∧ s.d = r.1 ∧ r.2.length = s.ks.length ∧ ∀ (j k : Nat), r.2[j]? = some k → i < k ∧ G[k]? = s.ks[j]?
mutual
theorem num_ok {G : List (Tr α)} : ∀ (t : Tr α) (n : Nat), Has G n (pre t) → ∀ i r, (num t n)[i]? = some r → RowOk G (n + i) r
  | .nd d ks, n, h, i, r, e => by
    rw [pre] at h
    obtain ⟨h1, h2⟩ := h.tail
    rw [num] at e
    cases i with
    | zero =>
      cases e
      refine ⟨_, h1, rfl, starts_len _ _, fun j k ek => ?_⟩
      obtain ⟨g1, g2⟩ := starts_has ks (n + 1) h2 j k ek
      exact ⟨by omega, g2⟩
    | succ i =>
      have := nums_ok ks (n + 1) h2 i r e
      rwa [Nat.add_assoc, Nat.add_comm 1 i] at this
theorem nums_ok {G : List (Tr α)} : ∀ (ks : List (Tr α)) (n : Nat), Has G n (pres ks) → ∀ i r, (nums ks n)[i]? = some r → RowOk G (n + i) r
  | [], n, _, i, r, e => by rw [nums] at e; cases e
  | k :: ks, n, h, i, r, e => by
    rw [pres] at h
    obtain ⟨h1, h2⟩ := h.app
    rw [pre_len] at h2
    rw [nums] at e
    by_cases hi : i < (num k n).length
    · rw [List.getElem?_append_left hi] at e
      exact num_ok k n h1 i r e
    · rw [List.getElem?_append_right (by omega), num_len] at e
      rw [num_len] at hi
      have := nums_ok ks (n + sz k) h2 _ r e
      rwa [show n + sz k + (i - sz k) = n + i by omega] at this
end
theorem rows_ok (t : Tr α) {i : Nat} {r : α × List Nat} (e : (num t 0)[i]? = some r) : RowOk (pre t) i r := by
  have := num_ok (G := pre t) t 0 (fun i s e => by rwa [Nat.zero_add]) i r e
  rwa [Nat.zero_add] at this
/-! ### as a walk with a stack finds them -/
theorem modif_get {β : Type} (f : β → β) (k i : Nat) (l : List β) : (l.modify k f)[i]? = if k = i then l[i]?.map f else l[i]? := by
  rw [List.getElem?_modify]
  split
  · cases l[i]? <;> simp_all
  · cases l[i]? <;> simp_all
def addTo (o : Option Nat) (n : Nat) (rows : List (α × List Nat)) : List (α × List Nat) := match o with
  | none => rows
  | some k => rows.modify k fun r => (r.1, r.2 ++ [n])
theorem addTo_len (o : Option Nat) (n : Nat) (rows : List (α × List Nat)) : (addTo o n rows).length = rows.length := by
  cases o with
  | none => rfl
  | some k => exact List.length_modify ..
/-- what comes of these rows with this stack, the next one first -/
def proc : List (α × List Nat) → List (Tr α × Option Nat) → List (α × List Nat)
  | rows, [] => rows
  | rows, (t, o) :: ws => proc (addTo o rows.length rows ++ num t rows.length) ws
def step1 (d : α) (o : Option Nat) (rows : List (α × List Nat)) : List (α × List Nat) := addTo o rows.length (rows ++ [(d, [])])
/-- o is a row -/
def InR (rows : List (α × List Nat)) (o : Option Nat) : Prop := ∀ k, o = some k → k < rows.length
theorem addTo_app (o : Option Nat) (n : Nat) {rows : List (α × List Nat)} (more : List (α × List Nat)) (h : InR rows o) : addTo o n (rows ++ more) = addTo o n rows ++ more := by
  cases o with
  | none => rfl
  | some k =>
    have hk := h k rfl
    apply List.ext_getElem?
    intro i
    show ((rows ++ more).modify k _)[i]? = (rows.modify k _ ++ more)[i]?
    rw [modif_get]
    by_cases hi : i < rows.length
    · rw [List.getElem?_append_left hi, List.getElem?_append_left (by rw [List.length_modify]; exact hi), modif_get]
    · rw [List.getElem?_append_right (by omega), List.getElem?_append_right (by rw [List.length_modify]; omega), List.length_modify, if_neg (by omega)]
def addAll (k : Nat) (ns : List Nat) (rows : List (α × List Nat)) : List (α × List Nat) := rows.modify k fun r => (r.1, r.2 ++ ns)
theorem proc_kids (k : Nat) : ∀ (ks : List (Tr α)) (rows : List (α × List Nat)) (ws : List (Tr α × Option Nat)), k < rows.length →
    proc rows (ks.map (fun t => (t, some k)) ++ ws) = proc (addAll k (starts ks rows.length) rows ++ nums ks rows.length) ws
  | [], rows, ws, hk => by
    rw [starts, nums, List.append_nil]
    show proc rows ws = _
    congr 1
    apply List.ext_getElem?
    intro i
    unfold addAll
    rw [modif_get]
    cases rows[i]? with
    | none => simp
    | some r => simp
  | t :: ks, rows, ws, hk => by
    show proc (addTo (some k) rows.length rows ++ num t rows.length) (ks.map (fun t => (t, some k)) ++ ws) = _
    have hl : (addTo (some k) rows.length rows ++ num t rows.length).length = rows.length + sz t := by rw [List.length_append, addTo_len, num_len]
    rw [proc_kids k ks _ ws (by rw [hl]; omega), hl, starts, nums]
    congr 1
    rw [← List.append_assoc]
    congr 1
    apply List.ext_getElem?
    intro i
    unfold addAll
    show ((rows.modify k _ ++ num t rows.length).modify k _)[i]? = (rows.modify k _ ++ num t rows.length)[i]?
    rw [modif_get]
    by_cases hi : i < rows.length
    · rw [List.getElem?_append_left (by rw [List.length_modify]; exact hi), List.getElem?_append_left (by rw [List.length_modify]; exact hi), modif_get, modif_get]
      cases rows[i]? with
      | none => simp
      | some r =>
        by_cases hki : k = i
        · simp [hki]
        · simp [hki]
    · rw [List.getElem?_append_right (by rw [List.length_modify]; omega), List.getElem?_append_right (by rw [List.length_modify]; omega), List.length_modify, List.length_modify, if_neg (by omega)]
theorem proc_step (d : α) (ks : List (Tr α)) (o : Option Nat) (rows : List (α × List Nat)) (ws : List (Tr α × Option Nat)) (h : InR rows o) :
    proc rows ((.nd d ks, o) :: ws) = proc (step1 d o rows) (ks.map (fun t => (t, some rows.length)) ++ ws) := by
  have hl : (step1 d o rows).length = rows.length + 1 := by unfold step1; rw [addTo_len, List.length_append]; rfl
  rw [proc_kids rows.length ks _ ws (by rw [hl]; omega), hl]
  show proc (addTo o rows.length rows ++ num (.nd d ks) rows.length) ws = _
  rw [num]
  congr 1
  have e : addAll rows.length (starts ks (rows.length + 1)) (step1 d o rows) = addTo o rows.length rows ++ [(d, starts ks (rows.length + 1))] := by
    unfold step1
    rw [addTo_app o _ _ h]
    unfold addAll
    have hl2 := addTo_len o rows.length rows
    apply List.ext_getElem?
    intro i
    rw [modif_get]
    by_cases hi : i < rows.length
    · rw [List.getElem?_append_left (by omega), List.getElem?_append_left (by omega), if_neg (by omega)]
    · rw [List.getElem?_append_right (by omega), List.getElem?_append_right (by omega), hl2]
      by_cases h2 : i = rows.length
      · subst h2
        simp
      · rw [if_neg (fun z => h2 z.symm)]
        have : ∀ x : α × List Nat, [x][i - rows.length]? = none := fun x => List.getElem?_eq_none (by simp; omega)
        rw [this, this]
  rw [e, List.append_assoc]
  rfl
def szw : List (Tr α × Option Nat) → Nat
  | [] => 0
  | w :: ws => sz w.1 + szw ws
theorem szw_app (a b : List (Tr α × Option Nat)) : szw (a ++ b) = szw a + szw b := by
  induction a with
  | nil => simp [szw]
  | cons w a ih => rw [List.cons_append, szw, szw, ih]; omega
theorem szw_kids (o : Option Nat) (ks : List (Tr α)) : szw (ks.map fun t => (t, o)) = szs ks := by
  induction ks with
  | nil => rw [szs]; rfl
  | cons k ks ih => rw [List.map_cons, szw, ih, szs]
theorem proc_len : ∀ (ws : List (Tr α × Option Nat)) (rows : List (α × List Nat)), (proc rows ws).length = rows.length + szw ws
  | [], rows => rfl
  | (t, o) :: ws, rows => by
    show (proc (addTo o rows.length rows ++ num t rows.length) ws).length = _
    rw [proc_len ws, List.length_append, addTo_len, num_len]
    show _ = rows.length + (sz t + szw ws)
    omega
theorem proc_all (t : Tr α) : proc [] [(t, none)] = num t 0 := by
  show proc (([] : List (α × List Nat)) ++ num t 0) [] = _
  rw [List.nil_append]
  rfl
theorem ks_szs (ks : List (Tr α)) : ks.length ≤ szs ks := by
  induction ks with
  | nil => exact Nat.zero_le _
  | cons k ks ih => have := sz_pos k; rw [szs, List.length_cons]; omega
mutual
theorem pre_sz : ∀ (t s : Tr α), s ∈ pre t → sz s ≤ sz t
  | .nd d ks, s, h => by
    rw [pre] at h
    rcases List.mem_cons.mp h with rfl | h
    · exact Nat.le_refl _
    · have := pres_sz ks s h
      rw [sz]
      omega
theorem pres_sz : ∀ (ks : List (Tr α)) (s : Tr α), s ∈ pres ks → sz s ≤ szs ks
  | [], s, h => by rw [pres] at h; cases h
  | k :: ks, s, h => by
    rw [pres] at h
    rw [szs]
    rcases List.mem_append.mp h with h | h
    · have := pre_sz k s h; omega
    · have := pres_sz ks s h; omega
end
theorem kids_le {t s : Tr α} (h : s ∈ pre t) : s.ks.length < sz t := by
  have h1 := pre_sz t s h
  cases s with
  | nd d ks =>
    have h2 := ks_szs ks
    rw [sz] at h1
    show ks.length < _
    omega
/-! ### other labels -/
mutual
def mapT {β : Type} (δ : α → β) : Tr α → Tr β
  | .nd d ks => .nd (δ d) (mapTs δ ks)
def mapTs {β : Type} (δ : α → β) : List (Tr α) → List (Tr β)
  | [] => []
  | k :: ks => mapT δ k :: mapTs δ ks
end
theorem mapTs_map {α : Type} {β : Type} (δ : α → β) (ks : List (Tr α)) : mapTs δ ks = ks.map (mapT δ) := by
  induction ks with
  | nil => rw [mapTs]; rfl
  | cons k ks ih => rw [mapTs, ih]; rfl
theorem mapT_d {α : Type} {β : Type} (δ : α → β) (t : Tr α) : (mapT δ t).d = δ t.d := by
  cases t
  rw [mapT]
  rfl
mutual
theorem sz_map {α : Type} {β : Type} (δ : α → β) : ∀ t : Tr α, sz (mapT δ t) = sz t
  | .nd d ks => by rw [mapT, sz, sz, szs_map δ ks]
theorem szs_map {α : Type} {β : Type} (δ : α → β) : ∀ ks : List (Tr α), szs (mapTs δ ks) = szs ks
  | [] => by rw [mapTs, szs, szs]
  | k :: ks => by rw [mapTs, szs, szs, sz_map δ k, szs_map δ ks]
end
theorem starts_map {α : Type} {β : Type} (δ : α → β) : ∀ (ks : List (Tr α)) (n : Nat), starts (mapTs δ ks) n = starts ks n
  | [], n => by rw [mapTs]; rfl
  | k :: ks, n => by rw [mapTs, starts, starts, sz_map, starts_map δ ks]
mutual
theorem num_map {α : Type} {β : Type} (δ : α → β) : ∀ (t : Tr α) (n : Nat), num (mapT δ t) n = (num t n).map fun r => (δ r.1, r.2)
  | .nd d ks, n => by rw [mapT, num, num, starts_map, nums_map δ ks, List.map_cons]
theorem nums_map {α : Type} {β : Type} (δ : α → β) : ∀ (ks : List (Tr α)) (n : Nat), nums (mapTs δ ks) n = (nums ks n).map fun r => (δ r.1, r.2)
  | [], n => by rw [mapTs, nums, nums]; rfl
  | k :: ks, n => by rw [mapTs, nums, nums, num_map δ k, nums_map δ ks, sz_map, List.map_append]
end
end TR
/-! numbered, folded: over trees of data. -/
namespace NB
open PySem PySem.Spec PyProof.Rows L2 DL TR
section
variable [Tbs] {K : PySem.W.Frag} {ps : List Nat}
/-! ### a call of a local name; extend -/
abbrev SV := List D → (D → Prop) → Prop
def dCallA (i : Nat) (SS : Addr → Option SV) (Ta : DLs) : DE := fun ρ Φ => ∃ f s, ρ[i]? = some (some (.d (.fn f))) ∧ SS f = some s ∧ Ta ρ fun ds ρ1 => s ds fun d => Φ d ρ1
def spA (K : PySem.W.Frag) (SS : Addr → Option SV) : Addr → Option Sp := fun f => (SS f).map fun s => spOf K (pureS s)
theorem re_callA {i : Nat} {SS : Addr → Option SV} {t : TA} {Ta : DLs} (h : RV K ps t Ta) : RE K ps (tCallA i (spA K SS) t) (dCallA i SS Ta) := by
  intro b σ H F ρ Φ Q R hT k
  obtain ⟨f, s, e, hs, hT⟩ := hT
  obtain ⟨v, h1, h2⟩ := R.slot i _ e
  have hv : v = .ref f := Dr.inv_fn h2
  subst hv
  refine ⟨f, spOf K (pureS s), h1, by unfold spA; rw [hs]; rfl, ?_⟩
  have hc := re_callV (s := s) (E := fun _ _ _ => False) h b σ H F ρ Φ Q R hT k
  have e0 : (fun (vs : List V) (H1 : Hp) => spOf K (pureS s) (vs ++ []) H1 Q (fun _ _ _ => False)) = fun vs H1 => spOf K (pureS s) vs H1 Q (fun _ _ _ => False) := by
    funext vs H1
    rw [List.append_nil]
  have hc' : t σ H (fun vs H1 => spOf K (pureS s) (vs ++ []) H1 Q (fun _ _ _ => False)) := hc
  rw [e0] at hc'
  exact hc'
@[simp] theorem dCallA_ (i : Nat) (SS : Addr → Option SV) (Ta : DLs) (ρ : DL.Env) (Φ : D → DL.Env → Prop) : dCallA i SS Ta ρ Φ = ∃ f s, ρ[i]? = some (some (.d (.fn f))) ∧ SS f = some s ∧ Ta ρ fun ds ρ1 => s ds fun d => Φ d ρ1 := Eq.trans rfl rfl
def dExt (i : Nat) (T : DLs) : DS := fun E ρ => (∃ ds0, ρ[i]? = some (some (.l ds0))) ∧ T ρ fun es ρ1 => ∃ ds, ρ1[i]? = some (some (.l ds)) ∧ ds.length + es.length ≤ sizeLine ∧ E.nx (ρ1.set i (some (.l (ds ++ es))))
theorem rs_ext {i : Nat} {t : TE} {T : DLs} (h : RL K ps t T) : RS K ps (tDrop (tBM K "list" rExtend (tVar i) (tCons t tNil))) (dExt i T) := by
  intro b σ H F ρ E D' R hT n r bk ct
  obtain ⟨⟨ds0, e0⟩, hT⟩ := hT
  obtain ⟨p, hp, _, _, xs0, ex0, _⟩ := R.own e0 rfl
  refine ⟨_, hp, .inl ⟨rfl, xs0, SqL.of ex0⟩, h b σ H F ρ _ _ R hT fun q ys H1 F1 ρ1 es s1 R1 lo hy hes hΦ => ?_⟩
  obtain ⟨ds, e1, hz, hΦ⟩ := hΦ
  obtain ⟨p', hp', hF1, _, xs, ex, hx⟩ := R1.own e1 rfl
  rw [hp] at hp'
  cases hp'
  refine ⟨p, q, xs, ys, rfl, rfl, ex, hy, by rw [hx.1, hes.1]; exact hz, n σ _ F1 _ s1 (R1.write e1 rfl rfl hp (fun a u na e => (upd_ne na).trans e) (Same.refl F1) (fun a o e => ?_) (fun a o e => .inl e) (fun a o e => .inl e) (at_l upd_same (hx.app hes))) hΦ⟩
  rw [upd_ne (fun z => by rw [z, hF1] at e; cases e)]
  exact R1.sub a o e
@[simp] theorem dExt_ (i : Nat) (T : DLs) (E : DEn) (ρ : DL.Env) : dExt i T E ρ = ((∃ ds0, ρ[i]? = some (some (.l ds0))) ∧ T ρ fun es ρ1 => ∃ ds, ρ1[i]? = some (some (.l ds)) ∧ ds.length + es.length ≤ sizeLine ∧ E.nx (ρ1.set i (some (.l (ds ++ es))))) := Eq.trans rfl rfl
/-! ### frames of statements -/
variable {b : Bs} {σ : L2.St} {H F : Hp} {ρ : DL.Env}
def exN (N : DL.Env → Prop) : DEn := ⟨N, fun _ _ => False, fun _ => False, fun _ => False⟩
theorem RS.fr {t : TS} {T : DS} (h : RS K ps t T) (R : Rep K ps b σ H F ρ) {N : DL.Env → Prop} {D' : Ends} (hT : T (exN N) ρ)
    (n : ∀ σ' H' F' ρ', Same F F' → Fr σ ρ H F H' F' → Rep K ps b σ' H' F' ρ' → (∀ a, Owned σ' ρ' a → Owned σ ρ a ∨ H a = none) → N ρ' → D'.nx σ' H') : t D' σ H :=
  h (here b σ H F ρ) σ H F ρ (exN N) D' R.here hT (fun σ' H' F' ρ' s R' hn => n σ' H' F' ρ' s (R.fr R') (R.back R') (fun a z => (R'.owned z).2.1.symm) hn)
    (fun _ _ _ _ _ _ _ _ _ z => z.elim) (fun _ _ _ _ _ _ z => z.elim) (fun _ _ _ _ _ _ z => z.elim)
theorem Rep.revs {vs : List V} (R : Rep K [] b σ H F ρ) : Rep K [] ⟨b.H0, b.F0, vs, b.O⟩ σ H F ρ :=
  ⟨R.sub, R.grow, R.keep, R.there, R.new, R.slot, R.apart, R.len, fun i h => (nomatch h), R.nt, R.dom, R.tabs⟩
theorem Rep.unpin (R : Rep K ps b σ H F ρ) : Rep K [] b σ H F ρ :=
  ⟨R.sub, R.grow, R.keep, R.there, R.new, R.slot, R.apart, R.len, fun i h => (nomatch h), R.nt, R.dom, R.tabs⟩
theorem Rep.setU {i : Nat} {v : V} (R : Rep K [] b σ H F ρ) (hρ : ∀ o, ρ[i]? ≠ some (some o)) (hv : b.vs[i]? = some v) (hi : i < σ.length) : Rep K [i] b (σ.set i (some v)) H F ρ where
  sub := R.sub
  grow := R.grow
  nt := R.nt
  dom := R.dom
  tabs := R.tabs
  keep := R.keep
  there := R.there
  new := R.new
  slot := fun j o e => by
    have n : i ≠ j := fun z => by subst z; exact hρ o e
    rw [List.getElem?_set_ne n]
    exact R.slot j o e
  apart := fun j k o u w n e1 o1 e2 o2 s1 => by
    have n1 : i ≠ j := fun z => by subst z; exact hρ o e1
    have n2 : i ≠ k := fun z => by subst z; exact hρ u e2
    rw [List.getElem?_set_ne n1] at s1
    rw [List.getElem?_set_ne n2]
    exact R.apart j k o u w n e1 o1 e2 o2 s1
  len := by rw [List.length_set, R.len]
  pin := fun j hj => by
    cases List.mem_singleton.mp hj
    exact ⟨v, List.getElem?_set_self hi, hv⟩
/-! ### the rows of nodes, loose -/
def foot (ts : List (Addr × Addr × V)) : List Addr := ts.flatMap fun x => [x.1, x.2.1]
def nV (ns : List Nat) : List V := ns.map fun n => .int (n : Nat)
structure Nst (K : PySem.W.Frag) (b : Bs) (σ : L2.St) (H F : Hp) (ρ : DL.Env) (p : Addr) (ts : List (Addr × Addr × V)) (rows : List (D × List Nat)) : Prop where
  main : H p = some (.lst (ts.map fun x => .ref x.1))
  len : ts.length = rows.length
  row : ∀ (i : Nat) x r, ts[i]? = some x → rows[i]? = some r → H x.1 = some (.tup [x.2.2, .ref x.2.1]) ∧ H x.2.1 = some (.lst (nV r.2)) ∧ Dr K F x.2.2 r.1
  free : ∀ a, a ∈ p :: foot ts → F a = none ∧ b.H0 a = none ∧ ¬ Owned σ ρ a
  nodup : (p :: foot ts).Nodup
theorem mem_foot {ts : List (Addr × Addr × V)} {a : Addr} (h : a ∈ foot ts) : ∃ (i : Nat) (x : Addr × Addr × V), ts[i]? = some x ∧ (a = x.1 ∨ a = x.2.1) := by
  obtain ⟨x, hx, ha⟩ := List.mem_flatMap.mp h
  obtain ⟨i, hi⟩ := List.getElem?_of_mem hx
  refine ⟨i, x, hi, ?_⟩
  simpa using ha
theorem foot_mem {ts : List (Addr × Addr × V)} {i : Nat} {x : Addr × Addr × V} (h : ts[i]? = some x) : x.1 ∈ foot ts ∧ x.2.1 ∈ foot ts :=
  ⟨List.mem_flatMap.mpr ⟨x, List.mem_of_getElem? h, by simp⟩, List.mem_flatMap.mpr ⟨x, List.mem_of_getElem? h, by simp⟩⟩
theorem Nst.ex {p : Addr} {ts : List (Addr × Addr × V)} {rows : List (D × List Nat)} (N : Nst K b σ H F ρ p ts rows) {a : Addr} (h : a ∈ p :: foot ts) : ∃ o, H a = some o ∧ NT o := by
  rcases List.mem_cons.mp h with rfl | h
  · exact ⟨_, N.main, by intro t z; cases z⟩
  · obtain ⟨i, x, hx, ha⟩ := mem_foot h
    have hi := (List.getElem?_eq_some_iff.mp hx).1
    obtain ⟨h1, h2, _⟩ := N.row i x _ hx (List.getElem?_eq_getElem (by rw [← N.len]; exact hi))
    rcases ha with rfl | rfl
    · exact ⟨_, h1, by intro t z; cases z⟩
    · exact ⟨_, h2, by intro t z; cases z⟩
theorem Nst.up {b' : Bs} {σ' : L2.St} {H' F' : Hp} {ρ' : DL.Env} {p : Addr} {ts : List (Addr × Addr × V)} {rows : List (D × List Nat)} (N : Nst K b σ H F ρ p ts rows) (R : Rep K ps b' σ H F ρ) (s : Same F F') (f : Fr σ ρ H F H' F')
    (o : ∀ a, Owned σ' ρ' a → Owned σ ρ a ∨ H a = none) : Nst K b σ' H' F' ρ' p ts rows := by
  have kp : ∀ {a : Addr} {u : HO}, a ∈ p :: foot ts → H a = some u → H' a = some u ∧ F' a = none := fun {a u} h e => by
    obtain ⟨u', e', nu⟩ := N.ex h
    rw [e] at e'
    cases e'
    obtain ⟨hF, _, hn⟩ := N.free a h
    exact f.loose R e hF hn nu
  refine ⟨(kp List.mem_cons_self N.main).1, N.len, fun i x r hx hr => ?_, fun a h => ?_, N.nodup⟩
  · obtain ⟨h1, h2, h3⟩ := N.row i x r hx hr
    obtain ⟨m1, m2⟩ := foot_mem hx
    exact ⟨(kp (List.mem_cons_of_mem _ m1) h1).1, (kp (List.mem_cons_of_mem _ m2) h2).1, h3.up s⟩
  · obtain ⟨u, e, _⟩ := N.ex h
    obtain ⟨_, h0, hn⟩ := N.free a h
    refine ⟨(kp h e).2, h0, fun z => ?_⟩
    rcases o a z with z | z
    · exact hn z
    · rw [e] at z; cases z
def rowD (r : D × List Nat) : D := .tup [r.1, .lst (r.2.map fun n => .int (n : Nat))]
theorem da_nats {F : Hp} : ∀ ns : List Nat, DA K F (nV ns) (ns.map fun n => .int (n : Nat))
  | [] => .nil
  | n :: ns => .cons (.int _) (da_nats ns)
theorem loose_of {p : Addr} (hF : F p = none) (h0 : b.H0 p = none) (hn : ¬ Owned σ ρ p) : Loose b σ F ρ p := ⟨hF, h0, fun i o e ho z => hn ⟨i, o, e, ho, z⟩⟩
theorem fz_rows : ∀ (ts : List (Addr × Addr × V)) (rows : List (D × List Nat)) (F : Hp), ts.length = rows.length → (∀ (i : Nat) x r, ts[i]? = some x → rows[i]? = some r → H x.1 = some (.tup [x.2.2, .ref x.2.1]) ∧ H x.2.1 = some (.lst (nV r.2)) ∧ Dr K F x.2.2 r.1) →
    (∀ a, a ∈ foot ts → F a = none ∧ b.H0 a = none ∧ ¬ Owned σ ρ a) → (foot ts).Nodup → Rep K ps b σ H F ρ → ∃ F', Same F F' ∧ Rep K ps b σ H F' ρ ∧ DA K F' (ts.map fun x => .ref x.1) (rows.map rowD) ∧ ∀ a, a ∉ foot ts → F' a = F a
  | [], [], F, _, _, _, _, R => ⟨F, Same.refl F, R, .nil, fun a _ => rfl⟩
  | [], _ :: _, F, hl, _, _, _, _ => by cases hl
  | _ :: _, [], F, hl, _, _, _, _ => by cases hl
  | (t, q, v) :: ts, r :: rows, F, hl, hr, hf, hn, R => by
    obtain ⟨ht, hq, hv⟩ := hr 0 _ r rfl rfl
    have hft : foot ((t, q, v) :: ts) = t :: q :: foot ts := rfl
    rw [hft] at hf hn
    obtain ⟨n1, n2⟩ := List.nodup_cons.mp hn
    obtain ⟨n3, n4⟩ := List.nodup_cons.mp n2
    have ntq : t ≠ q := fun z => n1 (by rw [z]; exact List.mem_cons_self)
    obtain ⟨tF, t0, tO⟩ := hf t List.mem_cons_self
    obtain ⟨qF, q0, qO⟩ := hf q (List.mem_cons_of_mem _ List.mem_cons_self)
    obtain ⟨s1, R1⟩ := R.frzLoose (loose_of qF q0 qO) hq
    have tF1 : upd F q (.lst (nV r.2)) t = none := by rw [upd_ne ntq]; exact tF
    obtain ⟨s2, R2⟩ := R1.frzLoose (loose_of tF1 t0 tO) ht
    have s12 := s1.trans s2
    have off : ∀ a, a ≠ t → a ≠ q → upd (upd F q (.lst (nV r.2))) t (.tup [v, .ref q]) a = F a := fun a h1 h2 => by rw [upd_ne h1, upd_ne h2]
    obtain ⟨F3, s3, R3, h3, o3⟩ := fz_rows ts rows _ (Nat.succ.inj hl) (fun i x r' hx hr' => by
        obtain ⟨a1, a2, a3⟩ := hr (i + 1) x r' hx hr'
        exact ⟨a1, a2, a3.up s12⟩) (fun a ha => by
        obtain ⟨a1, a2, a3⟩ := hf a (List.mem_cons_of_mem _ (List.mem_cons_of_mem _ ha))
        refine ⟨?_, a2, a3⟩
        rw [off a (fun z => n1 (by rw [← z]; exact List.mem_cons_of_mem _ ha)) (fun z => n3 (by rw [← z]; exact ha))]
        exact a1) n4 R2
    refine ⟨F3, s12.trans s3, R3, .cons ?_ h3, fun a ha => ?_⟩
    · have dn := da_nats (K := K) (F := upd (upd F q (.lst (nV r.2))) t (.tup [v, .ref q])) r.2
      have e1 : upd (upd F q (.lst (nV r.2))) t (.tup [v, .ref q]) q = some (.lst (nV r.2)) := by rw [upd_ne (Ne.symm ntq), upd_same]
      have da : DA K (upd (upd F q (.lst (nV r.2))) t (.tup [v, .ref q])) [v, .ref q] [r.1, .lst (r.2.map fun n => .int (n : Nat))] := .cons (hv.up s12) (.one (.lst e1 dn.1 dn.2))
      exact Dr.up s3 (.tup (SqT.of upd_same) da.1 da.2)
    · rw [hft] at ha
      rw [o3 a fun z => ha (List.mem_cons_of_mem _ (List.mem_cons_of_mem _ z))]
      exact off a (fun z => ha (by rw [z]; exact List.mem_cons_self)) (fun z => ha (by rw [z]; exact List.mem_cons_of_mem _ List.mem_cons_self))
theorem Nst.freeze {p : Addr} {ts : List (Addr × Addr × V)} {rows : List (D × List Nat)} (N : Nst K b σ H F ρ p ts rows) (R : Rep K ps b σ H F ρ) : ∃ F', Same F F' ∧ Rep K ps b σ H F' ρ ∧ Dr K F' (.ref p) (.lst (rows.map rowD)) := by
  obtain ⟨n1, n2⟩ := List.nodup_cons.mp N.nodup
  obtain ⟨F1, s1, R1, h1, o1⟩ := fz_rows ts rows F N.len N.row (fun a h => N.free a (List.mem_cons_of_mem _ h)) n2 R
  obtain ⟨a1, a2, a3⟩ := N.free p List.mem_cons_self
  obtain ⟨s2, R2⟩ := R1.frzLoose (loose_of (by rw [o1 p n1]; exact a1) a2 a3) N.main
  have h2 := h1.up s2
  exact ⟨_, s1.trans s2, R2, .lst upd_same h2.1 h2.2⟩
end
end NB
/-! numbered: its loop. -/
namespace NB
open PySem PySem.Spec PyProof.Rows L2 DL TR
section
variable [Tbs] {K : PySem.W.Frag} {b : Bs} {σ : L2.St} {H F : Hp} {ρ : DL.Env} {p : Addr} {ts : List (Addr × Addr × V)} {rows : List (D × List Nat)}
def tApp : TS := tDrop (tBM K "list" rAppend (tVar 2) (tCons (tTup (tCons (tVar 4) (tCons (tLst tNil) tNil))) tNil))
theorem foot_snoc (ts : List (Addr × Addr × V)) (x : Addr × Addr × V) : foot (ts ++ [x]) = foot ts ++ [x.1, x.2.1] := by
  unfold foot
  rw [List.flatMap_append]
  simp
theorem st_app (R : Rep K [2] b σ H F ρ) (N : Nst K b σ H F ρ p ts rows) (hp : σ[2]? = some (some (.ref p))) {d : D} (h4 : ρ[4]? = some (some (.d d))) (hz : rows.length < 16000000) {D' : Ends}
    (n : ∀ ts' H', Rep K [2] b σ H' F ρ → Nst K b σ H' F ρ p ts' (rows ++ [(d, [])]) → D'.nx σ H') : (tApp (K := K)) D' σ H := by
  obtain ⟨v4, g4, d4⟩ := R.slot 4 _ h4
  refine ⟨_, hp, .inl ⟨rfl, _, SqL.of N.main⟩, v4, g4, Nat.zero_le _, fun q hq => ⟨(show 2 ≤ sizeLine by decide), fun a ha => ?_⟩⟩
  have R1 := R.put (o := .lst []) hq
  have R2 := R1.put (o := .tup [v4, .ref q]) ha
  have hpq : p ≠ q := ne_of_none N.main hq
  have e1 : upd H q (.lst []) p = some (.lst (ts.map fun x => .ref x.1)) := (upd_ne hpq).trans N.main
  have hpa : p ≠ a := ne_of_none e1 ha
  have e2 : upd (upd H q (.lst [])) a (.tup [v4, .ref q]) p = some (.lst (ts.map fun x => .ref x.1)) := (upd_ne hpa).trans e1
  have haq : a ≠ q := fun z => by rw [z, upd_same] at ha; cases ha
  have ha0 : H a = none := by rwa [upd_ne haq] at ha
  obtain ⟨f1, f2, f3⟩ := N.free p List.mem_cons_self
  have nO : ∀ {x : Addr}, H x = none → ¬ Owned σ ρ x := fun {x} hx z => by
    obtain ⟨_, _, o, e⟩ := R.owned z
    rw [hx] at e
    cases e
  refine ⟨p, _, .ref a, rfl, rfl, e2, by rw [List.length_map, N.len]; show rows.length < 16777216; omega, n (ts ++ [(a, q, v4)]) _ (R2.poke f1 f2 f3 e2) ⟨?_, ?_, ?_, ?_, ?_⟩⟩
  · rw [upd_same, List.map_append]
    rfl
  · rw [List.length_append, List.length_append, N.len]
    rfl
  · have nd := (List.nodup_cons.mp N.nodup).1
    intro i x r hx hr
    by_cases hi : i < ts.length
    · rw [List.getElem?_append_left hi] at hx
      rw [List.getElem?_append_left (by rw [← N.len]; exact hi)] at hr
      obtain ⟨h1, h2, h3⟩ := N.row i x r hx hr
      obtain ⟨m1, m2⟩ := foot_mem hx
      have far : ∀ {y : Addr} {o : HO}, y ∈ foot ts → H y = some o → upd (upd (upd H q (.lst [])) a (.tup [v4, .ref q])) p (.lst (ts.map (fun x => .ref x.1) ++ [.ref a])) y = some o := fun {y o} m e => by
        rw [upd_ne (fun z => nd (by rw [← z]; exact m)), upd_ne (ne_of_none e ha0), upd_ne (ne_of_none e hq)]
        exact e
      exact ⟨far m1 h1, far m2 h2, h3⟩
    · rw [List.getElem?_append_right (by omega)] at hx
      rw [List.getElem?_append_right (by rw [← N.len]; omega), ← N.len] at hr
      have hi' : i - ts.length = 0 := by
        rcases Nat.eq_zero_or_pos (i - ts.length) with z | z
        · exact z
        · rw [List.getElem?_eq_none (by simp; omega)] at hx
          cases hx
      rw [hi'] at hx hr
      cases hx
      cases hr
      refine ⟨?_, ?_, d4⟩
      · rw [upd_ne (Ne.symm hpa), upd_same]
      · rw [upd_ne (Ne.symm hpq), upd_ne (Ne.symm haq), upd_same]
        rfl
  · intro x hx
    rw [foot_snoc, ← List.cons_append] at hx
    rcases List.mem_append.mp hx with hx | hx
    · exact N.free x hx
    · have : H x = none := by
        rcases List.mem_cons.mp hx with rfl | hx
        · exact ha0
        · rw [List.mem_singleton.mp hx]; exact hq
      obtain ⟨z1, z2, _⟩ := R.fresh this
      exact ⟨z1, z2, nO this⟩
  · rw [foot_snoc, ← List.cons_append]
    have out : ∀ {x : Addr}, H x = none → x ∉ p :: foot ts := fun {x} hx z => by
      obtain ⟨o, e, _⟩ := N.ex z
      rw [hx] at e
      cases e
    refine List.nodup_append.mpr ⟨N.nodup, ?_, fun x hx y hy => ?_⟩
    · simpa using haq
    · rcases List.mem_cons.mp hy with rfl | hy
      · exact fun z => out ha0 (by rw [← z]; exact hx)
      · rw [List.mem_singleton.mp hy]
        exact fun z => out hq (by have z : x = q := z; rw [← z]; exact hx)
theorem foot_sep : ∀ {ts : List (Addr × Addr × V)}, (foot ts).Nodup → ∀ {i j : Nat} {x y : Addr × Addr × V}, ts[i]? = some x → ts[j]? = some y → x.1 ≠ y.2.1 ∧ (i ≠ j → x.2.1 ≠ y.2.1)
  | [], _, i, j, x, y, hx, _ => by cases hx
  | z :: ts, hn, i, j, x, y, hx, hy => by
    have hft : foot (z :: ts) = z.1 :: z.2.1 :: foot ts := rfl
    rw [hft] at hn
    obtain ⟨n1, n2⟩ := List.nodup_cons.mp hn
    obtain ⟨n3, n4⟩ := List.nodup_cons.mp n2
    cases i with
    | zero =>
      cases hx
      cases j with
      | zero => cases hy; exact ⟨fun e => n1 (by rw [e]; exact List.mem_cons_self), fun e => absurd rfl e⟩
      | succ j =>
        have m := (foot_mem (i := j) (x := y) hy).2
        exact ⟨fun e => n1 (by rw [e]; exact List.mem_cons_of_mem _ m), fun _ e => n3 (by rw [e]; exact m)⟩
    | succ i =>
      cases j with
      | zero =>
        cases hy
        have m := foot_mem (i := i) (x := x) hx
        exact ⟨fun e => n3 (by rw [← e]; exact m.1), fun _ e => n3 (by rw [← e]; exact m.2)⟩
      | succ j =>
        obtain ⟨a1, a2⟩ := foot_sep n4 (i := i) (j := j) hx hy
        exact ⟨a1, fun e => a2 fun z => e (by rw [z])⟩
def tChild : TS := tDrop (tBM K "list" rAppend (tOp (rIxT K) (tOp (rIxL K) (tVar 2) (tVar 5)) (tC (.int 1))) (tCons (tVar 6) tNil))
theorem st_child (R : Rep K [2] b σ H F ρ) (N : Nst K b σ H F ρ p ts rows) (hp : σ[2]? = some (some (.ref p))) {k n : Nat} (h5 : ρ[5]? = some (some (.d (.int (k : Nat))))) (h6 : ρ[6]? = some (some (.d (.int (n : Nat))))) (hk : k < rows.length) (hz : ∀ r ∈ rows, r.2.length < 16000000) {D' : Ends}
    (nx : ∀ H', Rep K [2] b σ H' F ρ → Nst K b σ H' F ρ p ts (addTo (some k) n rows) → D'.nx σ H') : (tChild (K := K)) D' σ H := by
  obtain ⟨v5, g5, d5⟩ := R.slot 5 _ h5
  obtain ⟨v6, g6, d6⟩ := R.slot 6 _ h6
  have e5 : v5 = .int (k : Nat) := Dr.inv_int d5
  have e6 : v6 = .int (n : Nat) := Dr.inv_int d6
  subst e5 e6
  have hx := List.getElem?_eq_getElem (show k < ts.length by rw [N.len]; exact hk)
  have hr := List.getElem?_eq_getElem hk
  generalize ts[k]'(by rw [N.len]; exact hk) = x at hx
  generalize rows[k] = r at hr
  obtain ⟨h1, h2, h3⟩ := N.row k x r hx hr
  obtain ⟨m1, m2⟩ := foot_mem hx
  obtain ⟨n1, n2⟩ := List.nodup_cons.mp N.nodup
  obtain ⟨f1, f2, f3⟩ := N.free x.2.1 (List.mem_cons_of_mem _ m2)
  have ex : L2.atI (ts.map fun x => V.ref x.1) (k : Int) = some (.ref x.1) := by
    rw [atI_nat', List.getElem?_map, hx]
    rfl
  have zr := hz r (List.mem_of_getElem? hr)
  refine ⟨_, hp, _, g5, p, _, _, _, rfl, rfl, SqL.of N.main, ex, x.1, _, _, .ref x.2.1, rfl, rfl, SqT.of h1, rfl, .inl ⟨rfl, _, SqL.of h2⟩, _, g6, x.2.1, _, _, rfl, rfl, h2, by unfold nV; rw [List.length_map]; show r.2.length < 16777216; omega, ?_⟩
  refine nx _ (R.poke f1 f2 f3 h2) ⟨?_, ?_, ?_, N.free, N.nodup⟩
  · rw [upd_ne (fun z => n1 (by rw [z]; exact m2))]
    exact N.main
  · rw [addTo_len]
    exact N.len
  · intro i y s hy hs
    obtain ⟨a1, a2⟩ := foot_sep n2 hy hx
    rw [show addTo (some k) n rows = rows.modify k fun r => (r.1, r.2 ++ [n]) from rfl, modif_get] at hs
    by_cases hki : k = i
    · subst hki
      rw [if_pos rfl, hr] at hs
      cases hs
      rw [hx] at hy
      cases hy
      refine ⟨by rw [upd_ne a1]; exact h1, ?_, h3⟩
      rw [upd_same]
      unfold nV
      rw [List.map_append]
      rfl
    · rw [if_neg hki] at hs
      obtain ⟨b1, b2, b3⟩ := N.row i y s hy hs
      exact ⟨by rw [upd_ne a1]; exact b1, by rw [upd_ne (a2 fun z => hki z.symm)]; exact b2, b3⟩
end
end NB
/-! numbered: the whole. -/
namespace NB
open PySem PySem.Spec PyProof.Rows L2 DL TR
/-- s tells of each node those directly in it -/
inductive Good (s : SV) : Tr D → Prop
  | nd {d : D} {ks : List (Tr D)} (h : ∀ Φ : D → Prop, Φ (.tup (ks.map Tr.d)) → s [d] Φ) (hk : ∀ k ∈ ks, Good s k) : Good s (.nd d ks)
def oD : Option Nat → D
  | none => .non
  | some k => .int (k : Nat)
def wD (x : Tr D × Option Nat) : D := .tup [x.1.d, oD x.2]
def stk (ws : List (Tr D × Option Nat)) : List D := (ws.map wD).reverse
theorem stk_cons (x : Tr D × Option Nat) (ws : List (Tr D × Option Nat)) : stk (x :: ws) = stk ws ++ [wD x] := by
  unfold stk
  rw [List.map_cons, List.reverse_cons]
theorem stk_app (vs ws : List (Tr D × Option Nat)) : stk (vs ++ ws) = stk ws ++ stk vs := by
  unfold stk
  rw [List.map_append, List.reverse_append]
theorem stk_len (ws : List (Tr D × Option Nat)) : (stk ws).length ≤ szw ws := by
  induction ws with
  | nil => exact Nat.le_refl _
  | cons x ws ih =>
    have := sz_pos x.1
    rw [stk_cons, List.length_append]
    show _ + 1 ≤ sz x.1 + szw ws
    omega
def tTurn [Tbs] (K : PySem.W.Frag) (SI : Addr → Option SV) : TS :=
  tSeq (tAsg (tBM0 K "list" rPop (tVar 3)) (gTup K 2 (gCons (gName 4) (gCons (gName 5) gNil))))
    (tSeq (tAsg (tCB (fun xs H Q => ∃ x n, xs = [x] ∧ LenV K x H n ∧ Q (.int (n : Nat)) H) (tCons (tVar 2) tNil)) (gName 6))
      (tSeq (tApp (K := K))
        (tSeq (tIfS (tTest (tOp (fun x y H Q => y = V.non ∧ Q (V.bl !decide (x = V.non)) H) (tVar 5) (tC V.non))) (tChild (K := K)) tNext)
          (tDrop (tBM K "list" rExtend (tVar 3) (tCons (tLc (iTup K (SX.tRevT K (tCallA 1 (spA K SI) (tCons (tVar 4) tNil)))) (gName 7) tYes (tTup (tCons (tVar 7) (tCons (tVar 6) tNil))) [7]) tNil))))))
def tNum [Tbs] (K : PySem.W.Frag) (SI : Addr → Option SV) : TS :=
  tSeq (tAsg (tLst tNil) (gName 2))
    (tSeq (tAsg (tLst (tCons (tTup (tCons (tVar 0) (tCons (tC V.non) tNil))) tNil)) (gName 3))
      (tSeq (tWhile (fun σ H Q => tVar 3 σ H fun x H' => ∃ k, TruV K x H' k ∧ Q k H') (tTurn K SI)) (tRet (tVar 2))))
def dNum (SI : Addr → Option SV) : DS := fun E ρ => ∃ (t : Tr D) (f : Addr) (s : SV), ρ = [some (.d t.d), some (.d (.fn f)), none, none, none, none, none, none] ∧ SI f = some s ∧ Good s t ∧ sz t ≤ 1000000 ∧ ∀ o2 o4 o5 o6 o7 : Option OV, E.rt (.lst ((num t 0).map rowD)) [some (.d t.d), some (.d (.fn f)), none, o2, o4, o5, o6, o7]
def envN (r : D) (f : Addr) (ws : List (Tr D × Option Nat)) (o4 o5 o6 o7 : Option OV) : DL.Env := [some (.d r), some (.d (.fn f)), none, some (.l (stk ws)), o4, o5, o6, o7]
structure Lp (s : SV) (t : Tr D) (rows : List (D × List Nat)) (ws : List (Tr D × Option Nat)) : Prop where
  pr : proc rows ws = num t 0
  ok : ∀ x ∈ ws, InR rows x.2 ∧ Good s x.1
  len : rows.length + szw ws = sz t
  short : ∀ r ∈ rows, r.2.length ≤ rows.length
theorem Lp.step {s : SV} {t : Tr D} {rows : List (D × List Nat)} {d : D} {ks : List (Tr D)} {o : Option Nat} {ws : List (Tr D × Option Nat)} (h : Lp s t rows ((.nd d ks, o) :: ws)) : Lp s t (step1 d o rows) (ks.map (fun t => (t, some rows.length)) ++ ws) := by
  have ho := (h.ok _ List.mem_cons_self).1
  have hg := (h.ok _ List.mem_cons_self).2
  have hl : (step1 d o rows).length = rows.length + 1 := by unfold step1; rw [addTo_len, List.length_append]; rfl
  refine ⟨by rw [← proc_step d ks o rows ws ho]; exact h.pr, fun x hx => ?_, ?_, fun r hr => ?_⟩
  · rcases List.mem_append.mp hx with hx | hx
    · obtain ⟨k, hk, rfl⟩ := List.mem_map.mp hx
      cases hg with
      | nd _ hks => exact ⟨fun j e => by cases e; rw [hl]; omega, hks k hk⟩
    · obtain ⟨a, c⟩ := h.ok x (List.mem_cons_of_mem _ hx)
      exact ⟨fun j e => by rw [hl]; exact Nat.lt_succ_of_lt (a j e), c⟩
  · have h2 := h.len
    rw [szw_app, szw_kids, hl]
    have e : szw ((Tr.nd d ks, o) :: ws) = sz (Tr.nd d ks) + szw ws := rfl
    rw [e, sz] at h2
    omega
  · rw [hl]
    obtain ⟨i, hi⟩ := List.getElem?_of_mem hr
    unfold step1 at hi
    have base : ∀ r ∈ rows ++ [(d, [])], r.2.length ≤ rows.length := fun r hr => by
      rcases List.mem_append.mp hr with hr | hr
      · exact h.short r hr
      · rw [List.mem_singleton.mp hr]; exact Nat.zero_le _
    cases o with
    | none => exact Nat.le_succ_of_le (base r (List.mem_of_getElem? hi))
    | some k =>
      rw [show addTo (some k) rows.length (rows ++ [(d, [])]) = (rows ++ [(d, [])]).modify k (fun r => (r.1, r.2 ++ [rows.length])) from rfl, modif_get] at hi
      split at hi
      · obtain ⟨r', h1, rfl⟩ := Option.map_eq_some_iff.mp hi
        have := base r' (List.mem_of_getElem? h1)
        show (r'.2 ++ [rows.length]).length ≤ _
        rw [List.length_append]
        exact Nat.succ_le_succ this
      · exact Nat.le_succ_of_le (base r (List.mem_of_getElem? hi))
section
variable [Tbs] {K : PySem.W.Frag} {b : Bs} {σ : L2.St} {H F : Hp} {p : Addr} {ts : List (Addr × Addr × V)} {rows : List (D × List Nat)}
theorem pin2 {ρ : DL.Env} (R : Rep K [2] b σ H F ρ) (hb : b.vs = [.non, .non, .ref p]) : σ[2]? = some (some (.ref p)) := by
  obtain ⟨v, h1, h2⟩ := R.pin 2 (List.mem_singleton.mpr rfl)
  rw [hb] at h2
  cases h2
  exact h1
/-- one turn -/
theorem turn {SI : Addr → Option SV} {r : D} {f : Addr} {s : SV} {t : Tr D} {x : Tr D × Option Nat} {ws : List (Tr D × Option Nat)} {o4 o5 o6 o7 : Option OV} (hb : b.vs = [.non, .non, .ref p]) (hs : SI f = some s) (hz : sz t ≤ 1000000)
    (R : Rep K [2] b σ H F (envN r f (x :: ws) o4 o5 o6 o7)) (N : Nst K b σ H F (envN r f (x :: ws) o4 o5 o6 o7) p ts rows) (L : Lp s t rows (x :: ws)) {D' : Ends}
    (nx : ∀ σ' H' F' ts' rows' ws' o4 o5 o6 o7, Same F F' → Rep K [2] b σ' H' F' (envN r f ws' o4 o5 o6 o7) → Nst K b σ' H' F' (envN r f ws' o4 o5 o6 o7) p ts' rows' → Lp s t rows' ws' → szw ws' < szw (x :: ws) → D'.nx σ' H') : tTurn K SI D' σ H := by
  obtain ⟨⟨d, ks⟩, o⟩ := x
  have hlen := L.len
  have hrl : rows.length ≤ 1000000 := by omega
  have hwl : szw ((Tr.nd d ks, o) :: ws) = sz (Tr.nd d ks) + szw ws := rfl
  rw [hwl, sz] at hlen
  refine RS.fr (N := fun ρ' => ρ' = envN r f ws (some (.d d)) (some (.d (oD o))) o6 o7) (rs_asg (re_pop (i := 3)) (rg_tup (rgs_cons rg_name (rgs_cons rg_name rgs_nil)))) R ?_ fun σ1 H1 F1 ρ1 s1 f1 R1 w1 e1 => ?_
  · rw [dAsg_, dPop_]
    refine ⟨stk ((.nd d ks, o) :: ws), wD (.nd d ks, o), rfl, ?_, ?_⟩
    · rw [stk_cons]
      simp
    · rw [stk_cons, List.dropLast_concat]
      unfold wD envN exN
      simp
  subst e1
  have N1 := N.up R s1 f1 w1
  -- number = len(nodes)
  refine ⟨_, pin2 R1 hb, _, rows.length, rfl, .inl ⟨_, SqL.of N1.main, by rw [List.length_map, N1.len]⟩, ?_⟩
  have R2 := R1.setD (i := 6) (v := .int (rows.length : Nat)) (d := .int (rows.length : Nat)) (by decide) (.int _)
  have N2 : Nst K b (σ1.set 6 (some (.int (rows.length : Nat)))) H1 F1 ((envN r f ws (some (.d d)) (some (.d (oD o))) o6 o7).set 6 (some (.d (.int (rows.length : Nat))))) p ts rows :=
    N1.up R1 (Same.refl F1) (Fr.refl R1) fun a ⟨i, u, z1, z2, z3⟩ => by
      rcases set_some z1 with ⟨rfl, q⟩ | ⟨nq, q⟩
      · cases q; cases z2
      · rw [List.getElem?_set_ne (Ne.symm nq)] at z3
        exact .inl ⟨i, u, q, z2, z3⟩
  have e2 : (envN r f ws (some (.d d)) (some (.d (oD o))) o6 o7).set 6 (some (.d (.int (rows.length : Nat)))) = envN r f ws (some (.d d)) (some (.d (oD o))) (some (.d (.int (rows.length : Nat)))) o7 := rfl
  rw [e2] at R2 N2
  -- nodes.append((node, []))
  refine st_app R2 N2 (pin2 R2 hb) (d := d) rfl (by omega) fun ts3 H3 R3 N3 => ?_
  have L' := L.step
  have hsh : ∀ r ∈ rows ++ [(d, [])], r.2.length < 16000000 := fun r hr => by
    rcases List.mem_append.mp hr with hr | hr
    · have := L.short r hr
      omega
    · rw [List.mem_singleton.mp hr]
      exact (show 0 < 16000000 by decide)
  -- the rest, once the number stands with the one that it is in
  have rest : ∀ H4, Rep K [2] b (σ1.set 6 (some (.int (rows.length : Nat)))) H4 F1 (envN r f ws (some (.d d)) (some (.d (oD o))) (some (.d (.int (rows.length : Nat)))) o7) → Nst K b (σ1.set 6 (some (.int (rows.length : Nat)))) H4 F1 (envN r f ws (some (.d d)) (some (.d (oD o))) (some (.d (.int (rows.length : Nat)))) o7) p ts3 (step1 d o rows) →
      (tDrop (tBM K "list" rExtend (tVar 3) (tCons (tLc (iTup K (SX.tRevT K (tCallA 1 (spA K SI) (tCons (tVar 4) tNil)))) (gName 7) tYes (tTup (tCons (tVar 7) (tCons (tVar 6) tNil))) [7]) tNil))) D' (σ1.set 6 (some (.int (rows.length : Nat)))) H4 := by
    intro H4 R4 N4
    refine RS.fr (N := fun ρ' => ∃ o7', ρ' = envN r f (ks.map (fun t => (t, some rows.length)) ++ ws) (some (.d d)) (some (.d (oD o))) (some (.d (.int (rows.length : Nat)))) o7') (rs_ext (i := 3) (rl_lc (ri_tup (re_revT (re_callA (SS := SI) (i := 1) (rv_cons (re_var 4) rv_nil)))) rg_name rt_yes (re_tup (rv_cons (re_var 7) (rv_cons (re_var 6) rv_nil))))) R4 ?_ fun σ5 H5 F5 ρ5 s5 f5 R5 w5 e5 => ?_
    · have hg := (L.ok _ List.mem_cons_self).2
      have hkl : (ks.map Tr.d).length ≤ 1000000 := by
        have h1 := stk_len (ks.map fun t => (t, some rows.length))
        rw [szw_kids] at h1
        unfold stk at h1
        rw [List.length_reverse, List.length_map, List.length_map] at h1
        rw [List.length_map]
        omega
      cases hg with
      | nd hin _ =>
      rw [dExt_]
      refine ⟨⟨_, rfl⟩, ?_⟩
      refine lc_f ((ks.map Tr.d).reverse) (envN r f ws (some (.d d)) (some (.d (oD o))) (some (.d (.int (rows.length : Nat)))) o7) (envN r f ws (some (.d d)) (some (.d (oD o))) (some (.d (.int (rows.length : Nat)))) none) (fun x => .tup [x, .int (rows.length : Nat)]) (fun Ψ h => ?_) rfl (by rw [List.length_reverse]; omega) (fun x hx A hA => ?_) ?_
      · unfold envN at h ⊢
        simp
        exact ⟨s, hs, hin _ ⟨_, rfl, h⟩⟩
      · unfold envN
        simp
        exact hA _ (by simp [envN])
      · refine ⟨stk ws, ?_, ?_, keepD (some o7), ?_⟩
        · unfold envN
          simp
        · rw [List.length_map, List.length_reverse]
          have h1 := stk_len ws
          show _ ≤ 16777216
          omega
        · rw [show envN r f (ks.map (fun t => (t, some rows.length)) ++ ws) (some (.d d)) (some (.d (oD o))) (some (.d (.int (rows.length : Nat)))) (keepD (some o7)) = [some (.d r), some (.d (.fn f)), none, some (.l (stk (ks.map (fun t => (t, some rows.length)) ++ ws))), some (.d d), some (.d (oD o)), some (.d (.int (rows.length : Nat))), keepD (some (o7))] from rfl, stk_app]
          have e6 : (ks.map Tr.d).reverse.map (fun x => D.tup [x, .int (rows.length : Nat)]) = stk (ks.map fun t => (t, some rows.length)) := by
            unfold stk
            rw [List.map_reverse, List.map_map, List.map_map]
            rfl
          rw [e6]
          unfold envN
          simp
    · obtain ⟨o7', e5⟩ := e5
      subst e5
      have N5 := N4.up R4 s5 f5 w5
      refine nx σ5 H5 F5 ts3 _ _ _ _ _ _ (s1.trans s5) R5 N5 L' ?_
      rw [szw_app, szw_kids, hwl, sz]
      omega
  -- if outer is not None
  cases o with
  | none =>
    obtain ⟨v5, g5, d5⟩ := R3.slot 5 _ (rfl : (envN r f ws (some (.d d)) (some (.d (oD none))) (some (.d (.int (rows.length : Nat)))) o7)[5]? = some (some (.d .non)))
    have e5 : v5 = .non := Dr.inv_non d5
    subst e5
    exact ⟨_, g5, rfl, false, rfl, rest H3 R3 N3⟩
  | some k =>
    obtain ⟨v5, g5, d5⟩ := R3.slot 5 _ (rfl : (envN r f ws (some (.d d)) (some (.d (oD (some k)))) (some (.d (.int (rows.length : Nat)))) o7)[5]? = some (some (.d (.int (k : Nat)))))
    have e5 : v5 = .int (k : Nat) := Dr.inv_int d5
    subst e5
    have hk : k < (rows ++ [(d, [])]).length := by
      rw [List.length_append]
      exact Nat.lt_succ_of_lt ((L.ok _ List.mem_cons_self).1 k rfl)
    refine ⟨_, g5, rfl, true, rfl, ?_⟩
    exact st_child R3 N3 (pin2 R3 hb) rfl rfl hk hsh fun H4 R4 N4 => rest H4 R4 N4
theorem rs_numbered {SI : Addr → Option SV} : RS K [] (tNum K SI) (dNum SI) := by
  intro b σ H F ρ E D' R hT n r bk ct
  obtain ⟨t, f, s, rfl, hs, hg, hz, hE⟩ := hT
  have hl : σ.length = 8 := R.len.symm
  refine ⟨Nat.zero_le _, fun p hp => ?_⟩
  have R1 : Rep K [] ⟨H, F, [.non, .non, .ref p], Owned σ [some (.d t.d), some (.d (.fn f)), none, none, none, none, none, none]⟩ σ H F [some (.d t.d), some (.d (.fn f)), none, none, none, none, none, none] := Rep.revs R.here
  have hF := (R.fresh hp).1
  have R2 := R1.put (o := .lst []) hp
  have R3 := Rep.setU (i := 2) (v := .ref p) R2 (fun o z => by cases z) rfl (by omega)
  have N3 : Nst K ⟨H, F, [.non, .non, .ref p], Owned σ [some (.d t.d), some (.d (.fn f)), none, none, none, none, none, none]⟩ (σ.set 2 (some (.ref p))) (upd H p (.lst [])) F [some (.d t.d), some (.d (.fn f)), none, none, none, none, none, none] p [] [] := by
    refine ⟨upd_same, rfl, fun i x r h => (by cases h), fun a ha => ?_, (by simp [foot])⟩
    have ea : a = p := by simpa [foot] using ha
    subst ea
    refine ⟨hF, hp, fun ⟨i, o, z1, z2, z3⟩ => ?_⟩
    match i, z1 with
    | 0, z1 => cases z1; cases z2
    | 1, z1 => cases z1; cases z2
    | 2, z1 => cases z1
    | 3, z1 => cases z1
    | 4, z1 => cases z1
    | 5, z1 => cases z1
    | 6, z1 => cases z1
    | 7, z1 => cases z1
  refine RS.fr (N := fun ρ' => ρ' = envN t.d f [(t, none)] none none none none) (rs_setL (rl_lst (rv_cons (re_tup (rv_cons (re_var 0) (rv_cons re_non rv_nil))) rv_nil))) R3 ?_ fun σ4 H4 F4 ρ4 s4 f4 R4 w4 e4 => ?_
  · simp [envN, stk, wD, oD, exN]
  subst e4
  have N4 := N3.up R3 s4 f4 w4
  refine ⟨fun m σ' H' => ∃ F' ws rows ts o4 o5 o6 o7, Same F4 F' ∧ Rep K [2] _ σ' H' F' (envN t.d f ws o4 o5 o6 o7) ∧ Nst K _ σ' H' F' (envN t.d f ws o4 o5 o6 o7) p ts rows ∧ Lp s t rows ws ∧ m = szw ws, ⟨_, F4, _, _, _, _, _, _, _, Same.refl F4, R4, N4, ⟨proc_all t, fun x hx => ?_, ?_, fun r hr => (nomatch hr)⟩, rfl⟩, ?_⟩
  · rw [List.mem_singleton.mp hx]
    exact ⟨fun k e => (nomatch e), hg⟩
  · show 0 + (sz t + 0) = _
    omega
  · rintro m σ5 H5 ⟨F5, ws, rows, ts, o4, o5, o6, o7, s5, R5, N5, L5, rfl⟩
    obtain ⟨q, hq, _, _, xs, ex, hx⟩ := R5.own (i := 3) rfl rfl
    refine ⟨_, hq, _, .inl ⟨xs, SqL.of ex, rfl⟩, ?_⟩
    have hxl : xs.isEmpty = (stk ws).isEmpty := isEmpty_len hx.1
    rw [hxl]
    cases ws with
    | nil =>
      simp only []
      rw [if_neg (by simp [stk])]
      have hr : rows = num t 0 := L5.pr
      subst hr
      refine ⟨_, pin2 R5 rfl, ?_⟩
      obtain ⟨F6, s6, R6, d6⟩ := N5.freeze R5
      exact r _ _ H5 F6 _ _ ((s4.trans s5).trans s6) (R.back (Rep.revs (Rep.unpin R6))) d6 (hE _ _ _ _ _)
    | cons x ws =>
      simp only []
      rw [if_pos (by rw [stk_cons]; simp)]
      refine ⟨fun σ' H' => ∃ m', m' < szw (x :: ws) ∧ ∃ F' ws rows ts o4 o5 o6 o7, Same F4 F' ∧ Rep K [2] _ σ' H' F' (envN t.d f ws o4 o5 o6 o7) ∧ Nst K _ σ' H' F' (envN t.d f ws o4 o5 o6 o7) p ts rows ∧ Lp s t rows ws ∧ m' = szw ws, fun σ' H' h => h, ?_⟩
      exact turn rfl hs hz R5 N5 L5 fun σ' H' F' ts' rows' ws' p4 p5 p6 p7 s6 R6 N6 L6 lt => ⟨_, lt, F', ws', rows', ts', p4, p5, p6, p7, s5.trans s6, R6, N6, L6, rfl⟩
end
end NB
/-! The making of a lambda: what the heap is afterwards, to the last. -/
namespace LM
open PySem PySem.Spec PyProof.Rows L2 LamX
structure Made (T : List (Addr × Str)) (H H1 : Hp) : Prop where
  ext : ExtN H H1
  tabs : Tabs T H1
  dom : ∀ a o, H a = some o → ∃ o', H1 a = some o'
theorem Made.same {T : List (Addr × Str)} {H : Hp} (h : Tabs T H) : Made T H H := ⟨ExtN.refl H, h, fun a o e => ⟨o, e⟩⟩
/-- a table has grown by one code object -/
theorem Made.more {T : List (Addr × Str)} {H : Hp} {P k : Addr} {q : Str} {old : Array Value} (hT : Tabs T H) (hu : ∀ x ∈ T, x.1 = P → x.2 = q) (hP : H P = some (.tbl old)) (hk : H k = none) (ht : TriplesOk old.toList)
    (hall : ∀ (pos : Pos) (v : Value), codeAmong pos old.toList = some v → ∃ c, v = .ref c ∧ H c = some (CodeO c q)) {pos : Pos} :
    Made T H (upd (upd H P (.tbl (old ++ #[rawInt pos.line, rawInt pos.col, .ref k]))) k (CodeO k q)) := by
  have hPk := ne_of_none hP hk
  generalize hX : upd (upd H P (.tbl (old ++ #[rawInt pos.line, rawInt pos.col, .ref k]))) k (CodeO k q) = X
  have atK : X k = some (CodeO k q) := by rw [← hX]; exact upd_same
  have atP : X P = some (.tbl (old ++ #[rawInt pos.line, rawInt pos.col, .ref k])) := by rw [← hX, upd_ne hPk]; exact upd_same
  have else_ : ∀ a, a ≠ P → a ≠ k → X a = H a := fun a h1 h2 => by rw [← hX, upd_ne h2, upd_ne h1]
  have ext : ExtN H X := fun a o e nt => by
    rw [else_ a (fun z => nt old (by rw [z, hP] at e; exact (Option.some.inj e).symm)) (ne_of_none e hk)]
    exact e
  refine ⟨ext, fun x hx => ?_, fun a o e => ?_⟩
  · obtain ⟨tb, h1, h2, h3⟩ := hT x hx
    by_cases hb : x.1 = P
    · have hq := hu x hx hb
      rw [hb, hq]
      refine ⟨_, atP, by rw [Array.toList_append]; exact PySem.TriplesOk_snoc _ _ _ _ ht, fun at' v hv => ?_⟩
      rw [Array.toList_append] at hv
      rcases among_app old.toList ht hv with hv | hv
      · obtain ⟨c, e1, e2⟩ := hall at' v hv
        exact ⟨c, e1, ext c _ e2 codeO_ne⟩
      · exact ⟨k, hv, atK⟩
    · refine ⟨tb, (else_ _ hb (ne_of_none h1 hk)).trans h1, h2, fun at' v hv => ?_⟩
      obtain ⟨c, e1, e2⟩ := h3 at' v hv
      exact ⟨c, e1, ext c _ e2 codeO_ne⟩
  · by_cases h1 : a = P
    · exact ⟨_, by rw [h1]; exact atP⟩
    · exact ⟨o, (else_ a h1 (ne_of_none e hk)).trans e⟩
section
variable {X : Cx} {pins : List (Addr × Obj)} {σ : L2.St} {H : Hp} {s : Shared}
theorem lam_new {T : List (Addr × Str)} {c P : Addr} {params : Arguments} {body : Expr} {scope : Scope} {pos : Pos} {E Q : Value → Shared → Prop} (I : Inv X pins σ H s) (TB : TabB X.base X.mg c P) (hcode : X.env.code = .ref c)
    (hm : (P, X.env.qual ++ "<lambda>") ∈ T) (hu : ∀ x ∈ T, x.1 = P → x.2 = X.env.qual ++ "<lambda>") (hT : Tabs T H) (hdef : defaultsOf params X.env = ([], [])) (hcl : ∀ y ∈ scope.names, y.2 = .free → ∃ c, X.env.cells.lookup y.1 = some c)
    (fin : ∀ (f k : Addr) (m v : Value) (H1 : Hp) (s1 : Shared), Inv X pins σ H1 s1 → Made T H H1 → s1.heap.get? f = some (PySem.W.kla_obj "<lambda>" (X.env.qual ++ "<lambda>") params body scope (cloFrom X.env.cells scope.names []) m k v) → H1 f = none → f ∉ frs X.stack → H1 k = some (CodeO k (X.env.qual ++ "<lambda>")) → Q (.ref f) s1) :
    wpAny (model X.prog X.w) X.A (eval (.Lambda params body scope pos) X.env) Q E s := by
  obtain ⟨old, hP, ht, hall⟩ := hT _ hm
  have hPh : s.heap.get? P = some { cls := .none, data := .fields old } := I.hok P _ hP
  have young : ∀ a, s.heap.objs.size ≤ a → a ∉ frs X.stack := fun a ha hin => by
    rcases List.mem_cons.mp (I.stkSub _ hin) with e | e
    · have lt := I.lt
      rw [← e] at lt
      exact absurd (Nat.lt_of_lt_of_le lt ha) (Nat.lt_irrefl _)
    · exact I.nofs ha e
  apply PySem.W.kla_eval hdef
  cases among : codeAmong pos old.toList with
  | some v =>
    obtain ⟨k, rfl, hk⟩ := hall pos v among
    refine PySem.W.kla_makeFunctionHit (mg := X.mg) (c := c) (P := P) (ps := old) (closure_ok hcl) I.ok.glob (I.mod.glob.keeps I.bk) hcode (TB.code.keeps I.bk) hPh ht among (TB.bm.keeps I.bk) fun cv h1 tk keep size => ?_
    refine fin h1.objs.size k ((X.mg "__name__").getD .none) cv H _ (I.kept (h' := h1.push (PySem.W.kla_obj "<lambda>" (X.env.qual ++ "<lambda>") params body scope (cloFrom X.env.cells scope.names []) ((X.mg "__name__").getD .none) k cv)) (t' := tk) fun a o e => ?_) (Made.same hT) (Heap.get?_push_size _ rfl) (I.hok.fresh size) (young _ size) hk
    exact Heap.get?_push_of_some _ (keep a o e)
  | none =>
    refine PySem.W.kla_makeFunction (mg := X.mg) (c := c) (P := P) (ps := old) (closure_ok hcl) I.ok.glob (I.mod.glob.keeps I.bk) hcode (TB.code.keeps I.bk) hPh ht among TB.gP (TB.bm.keeps I.bk) fun k cv h1 tk but ge lt rec tab => ?_
    obtain ⟨k', oc, vs, tq, e, hoc, hd, hv⟩ := rec
    cases e
    have hk : H k = none := I.hok.fresh ge
    have size : s.heap.objs.size ≤ h1.objs.size := by omega
    have I1 := inv_table (t' := tk) (more := #[rawInt pos.line, rawInt pos.col, .ref k]) (h' := h1.push (PySem.W.kla_obj "<lambda>" (X.env.qual ++ "<lambda>") params body scope (cloFrom X.env.cells scope.names []) ((X.mg "__name__").getD .none) k cv)) I hP
      (fun a o na e => Heap.get?_push_of_some _ (but a o na e)) (Heap.get?_push_of_some _ tab) ge ⟨oc, vs, tq, Heap.get?_push_of_some _ hoc, hd, hv⟩
    refine fin h1.objs.size k ((X.mg "__name__").getD .none) cv _ _ I1 (Made.more hT hu hP hk ht hall) (Heap.get?_push_size _ rfl) ?_ (young _ size) upd_same
    have n1 : h1.objs.size ≠ k := by omega
    have n2 : h1.objs.size ≠ P := fun z => absurd (Nat.lt_of_lt_of_le (Heap.lt_size hPh) size) (by rw [z]; exact Nat.lt_irrefl _)
    rw [upd_ne n1, upd_ne n2]
    exact I.hok.fresh size
end
end LM
/-! A lambda with parameters handed to a def as its last argument, and called there. -/
namespace CLX
open PySem PySem.Spec PyProof.Rows L2 LamX NdefX
theorem cells_un {fs : List Addr} {cl : List (Str × Addr)} {fr : List Str} {ws : List (Option V)} {H HZ : Hp} {h h1 : Heap} (C : CellsAt cl fr ws h H) (un : Un fs [] H HZ h h1) : CellsAt cl fr ws h1 HZ := by
  have kp : ∀ y c, cl.lookup y = some c → ∀ v, h.IsCell c v → h1.IsCell c v := fun y c e v ⟨o, ho, hd⟩ => by
    obtain ⟨sl, q⟩ := un.any ho (C.all y c e).1 (by simp)
    exact ⟨_, q, hd⟩
  refine ⟨C.len, fun y c e => ?_, C.inj, fun i y e => ?_⟩
  · obtain ⟨n, v, z⟩ := C.all y c e
    refine ⟨?_, v, kp y c e v z⟩
    obtain ⟨o, ho, _⟩ := z
    exact un.free c o ho n (by simp)
  · obtain ⟨c, hc, hv⟩ := C.has i y e
    refine ⟨c, hc, fun v ev => ?_⟩
    obtain ⟨u, r, z⟩ := hv v ev
    exact ⟨u, r, kp y c hc _ z⟩
/-- a lambda's words -/
abbrev lamF (qual : Str) (params : Arguments) (scope : Scope) (cl : List (Str × Addr)) (c' : Addr) : NF := ⟨"<lambda>", qual, params, [], scope, cl, c'⟩
def E0 : XK := fun _ _ _ => False
section
variable {X : Cx} {pins : List (Addr × Obj)} {σ : L2.St} {H HZ : Hp} {s s1 : Shared}
theorem pe_act3 {CXg : CXT} {Eg : XK} {Ng : List Str} {qg : Str} {sg : Scope} {g f c' : Addr} {cdg pm ctv : Value} {params : Arguments} {body : Expr} {scope : Scope} {k i : Nat} {a : Str} {pn : List (Addr × Obj)} {xe : Value → Shared → Prop} {tb : TE} {t : TA} {p1 p2 : Pos}
    {N ps fr : List Str} {js : List Nat} {e : Expr} {es : List Expr}
    (I : Inv X pins σ H s) (S : NScope N ps fr scope) (cp : Caps X (cloFrom X.env.cells scope.names []) fr js) (hf : s.heap.get? f = some (PySem.W.kla_obj "<lambda>" (X.env.qual ++ "<lambda>") params body scope (cloFrom X.env.cells scope.names []) pm c' ctv)) (hfn : H f = none) (hfr : f ∉ frs X.stack)
    (hbind : ∀ us : List Value, us.length = ps.length → bindArgs (PySem.W.kla_fn "<lambda>" (X.env.qual ++ "<lambda>") params body scope (cloFrom X.env.cells scope.names []) pm (.ref c') ctv) ⟨us, []⟩ = pure (ps.zip us))
    (hr : Room (k + 1) (X.A.deeper (envOfC qg sg s.heap.objs.size g cdg)))
    (hbody : ∀ (A : Around) (outer : List Env) (s : Shared) (H : Hp), Room k (A.deeper (envF (lamF (X.env.qual ++ "<lambda>") params scope (cloFrom X.env.cells scope.names []) c') f s.heap.objs.size)) →
      PE (ncx C8.CX0 X.prog X.w X.K X.mg X.base N (lamF (X.env.qual ++ "<lambda>") params scope (cloFrom X.env.cells scope.names []) c') f A outer s H E0) body tb)
    (hN : Ng[i]? = some a) (hv : Vis sg a) (ha : PA ((cxOf CXg X.prog X.w X.K X.mg X.base Ng qg sg g cdg X.A X.stack s H Eg).tr pn xe) (e :: es) t) (hd : (a == ("__debug__" : Str)) = false := by decide) (hcd : (a == ("__classdict__" : Str)) = false := by decide)
    (he : starEach (e :: es) ((cxOf CXg X.prog X.w X.K X.mg X.base Ng qg sg g cdg X.A X.stack s H Eg).tr pn xe).env = (false, eval e ((cxOf CXg X.prog X.w X.K X.mg X.base Ng qg sg g cdg X.A X.stack s H Eg).tr pn xe).env) :: starEach es ((cxOf CXg X.prog X.w X.K X.mg X.base Ng qg sg g cdg X.A X.stack s H Eg).tr pn xe).env := by rfl)
    (hpl : (backTo p2 (starEach es ((cxOf CXg X.prog X.w X.K X.mg X.base Ng qg sg g cdg X.A X.stack s H Eg).tr pn xe).env)).any (·.1) = false := by rfl) :
    PE ((cxOf CXg X.prog X.w X.K X.mg X.base Ng qg sg g cdg X.A X.stack s H Eg).tr pn xe) (.Call (.Name a p1) (e :: es) [] p2)
      (fun σZ HZ Q => σZ[i]? = some (some (.ref f)) ∧ t σZ HZ fun vs HZ1 => vs.length = ps.length ∧ HZ1 c' = some (CodeO c' (X.env.qual ++ "<lambda>")) ∧ tb (startF N vs (js.map (slotAt σ))) HZ1 Q) := by
  refine ⟨fun pinsZ sZ σZ HZ Q IZ h => ?_⟩
  obtain ⟨hs, ht⟩ := h
  refine wpAny_Call_Name_kw (thn ((pe_var (pos := p1) (i := i) hN hv hd hcd).run pinsZ sZ σZ HZ (fun v H1 => v = .ref f ∧ H1 = HZ) IZ ⟨.ref f, hs, rfl, rfl⟩) fun u s1 ⟨v, H1, I1, r1, q1⟩ => ?_)
  obtain ⟨ev, eH⟩ := q1
  subst ev
  rw [eH] at I1
  obtain rfl : u = Value.ref f := r1
  have of : ∀ {σ2 : L2.St} {H2 : Hp} {s2 : Shared}, Inv ((cxOf CXg X.prog X.w X.K X.mg X.base Ng qg sg g cdg X.A X.stack s H Eg).tr pn xe) pinsZ σ2 H2 s2 → s2.heap.get? f = some (PySem.W.kla_obj "<lambda>" (X.env.qual ++ "<lambda>") params body scope (cloFrom X.env.cells scope.names []) pm c' ctv) :=
    fun I2 => I2.base.keep f _ hf hfn hfr (fun z => nomatch (show f ∈ ([] : List Addr) from z))
  refine PySem.W.callWith_F (first := []) ⟨_, _, _, _, of I1⟩ (thn (ha.run p2 pinsZ s1 σZ HZ _ I1 ht) fun us s2 ⟨vs, H2, I2, r, hl, hc, q⟩ => ⟨⟨_, _, _, _, of I2⟩, ?_⟩) he hpl
  show wpAny _ _ (call (.ref f) us) _ _ _
  have un : Un (frs X.stack) [] H H2 s.heap s2.heap := I2.base
  have C2 := cells_un (cells_of I cp) un
  obtain ⟨⟨oc, vs1, t1, hoc, hdc, hvc⟩, _, _⟩ := I2.hok c' _ hc
  have rc : codeAny (model X.prog X.w) (X.A.deeper (envOfC qg sg s.heap.objs.size g cdg)) (.call (.ref f) ⟨us, []⟩) (CR C8.CX0 (envOfC qg sg s.heap.objs.size g cdg :: X.stack) X.prog X.w H2 s2 Q E0) s2 := by
    refine PySem.W.kla_callFunE hr.depth (of I2) rfl S.co S.gen rfl ⟨c', oc, vs1, t1, rfl, hoc, hdc, hvc⟩ ?_
    rw [hbind us (by rw [← r.length]; exact hl)]
    refine wpAny_pure (wpAny_newFunctionEnv S.nocell (fun ⟨n, _⟩ hy => S.par n (List.of_mem_zip hy).1) (fun h₁ hns hsb => ⟨I2.nolimit.fresh _ hsb, ?_⟩) S.kind)
    show codeAny _ _ (.expr body (envF (lamF (X.env.qual ++ "<lambda>") params scope (cloFrom X.env.cells scope.names []) c') f s2.heap.objs.size)) _ _
    have kp : ∀ b o, s2.heap.get? b = some o → h₁.get? b = some o := fun b o e => hsb.extBut b o (Nat.ne_of_lt (Heap.lt_size e)) (Heap.get?_push_of_some _ e)
    have J := inv_startN (CX := C8.CX0) (F := lamF (X.env.qual ++ "<lambda>") params scope (cloFrom X.env.cells scope.names []) c') (f := f) (E := E0) (tk := s2.toks + (ps.zip us).length) S hr.hd I2.env0 hl r C2 hns kp
    refine PySem.W.kla_codeExpr (wpAny_mono ((hbody _ _ s2 H2 (hr.deeper _)).run [] _ _ H2 Q J q) (fun v s' hq => ?_) fun e s' hq => hq)
    obtain ⟨w', H', J', rv, q⟩ := hq
    exact ⟨w', H', J'.os, J'.bare, J'.base, J'.hok, rv, q⟩
  refine wpAny_call (codeAny_mono rc fun r s' hq => ?_)
  cases r with
  | error e => exact (show False from hq).elim
  | ok fl =>
    cases fl with
    | ret u => exact I2.after hq
    | next => exact False.elim hq
    | brk => exact False.elim hq
    | cont => exact False.elim hq
end
/-- the def g, given vs and the lambda; tl: what the lambda's call comes to -/
def Gives (X : Cx) (Ng : List Str) (x : Str) (sg : Scope) (g : Addr) (cdg : Value) (bg : List Stmt) (a : Str) (i nl k : Nat) (q : Str) (TT : (List V → Hp → VK → Prop) → List V → Hp → VK → Prop) : Prop :=
  ∀ (f c' : Addr) (s : Shared) (H : Hp) (Q : VK) (vs : List V) (tl : List V → Hp → VK → Prop), Room k (X.A.deeper (envOfC x sg s.heap.objs.size g cdg)) →
    (∀ (pn : List (Addr × Obj)) (xe : Value → Shared → Prop) (p1 p2 : Pos) (e : Expr) (es : List Expr) (t : TA), PA ((cxOf C8.CX0 X.prog X.w X.K X.mg X.base Ng x sg g cdg X.A X.stack s H C8.E0).tr pn xe) (e :: es) t →
      starEach (e :: es) ((cxOf C8.CX0 X.prog X.w X.K X.mg X.base Ng x sg g cdg X.A X.stack s H C8.E0).tr pn xe).env = (false, eval e ((cxOf C8.CX0 X.prog X.w X.K X.mg X.base Ng x sg g cdg X.A X.stack s H C8.E0).tr pn xe).env) :: starEach es ((cxOf C8.CX0 X.prog X.w X.K X.mg X.base Ng x sg g cdg X.A X.stack s H C8.E0).tr pn xe).env →
      (backTo p2 (starEach es ((cxOf C8.CX0 X.prog X.w X.K X.mg X.base Ng x sg g cdg X.A X.stack s H C8.E0).tr pn xe).env)).any (·.1) = false →
      PE ((cxOf C8.CX0 X.prog X.w X.K X.mg X.base Ng x sg g cdg X.A X.stack s H C8.E0).tr pn xe) (.Call (.Name a p1) (e :: es) [] p2)
        (fun σZ HZ Q => σZ[i]? = some (some (.ref f)) ∧ t σZ HZ fun vs HZ1 => vs.length = nl ∧ HZ1 c' = some (CodeO c' q) ∧ tl vs HZ1 Q)) →
    H c' = some (CodeO c' q) → H f = none → TT tl vs H Q →
    ∃ t, PSs (cxOf C8.CX0 X.prog X.w X.K X.mg X.base Ng x sg g cdg X.A X.stack s H C8.E0).nox bg t ∧ t { nx := fun _ H' => Q .non H', rt := Q } (L2.start Ng (vs ++ [.ref f])) H
def tGive (T : List (Addr × Str)) (TT : (List V → Hp → VK → Prop) → List V → Hp → VK → Prop) (t : TA) (tl : L2.St → List V → Hp → VK → Prop) : TE := fun σ H Q => t σ H fun vs H1 => Tabs T H1 ∧ ∀ H2, LM.Made T H1 H2 → TT (tl σ) vs H2 Q
section
variable {X : Cx}
/-- x(e1, e2, lambda ..: body) -/
theorem pe_give {T : List (Addr × Str)} {TT : (List V → Hp → VK → Prop) → List V → Hp → VK → Prop} {x a : Str} {g c P : Addr} {k : Nat} {pg : Arguments} {bg : List Stmt} {sg : Scope} {dV kV doc pm cdv ct oc : Value} {an od : Option Addr} {osl : Array (Option Value)} {Ng pr : List Str}
    {params : Arguments} {body : Expr} {scope : Scope} {t1 t2 tb : TE} {e1 e2 : Expr} {p lpos pos : Pos} {N ps fr : List Str} {js : List Nat} (hg : Gl X x) (hm : X.mg x = some (.ref g)) (hk : PySem.W.keepIn X.K (.ref g) = true)
    (lk : X.K.lookup g = some ⟨oc, od, .func (PySem.W.fnOf x x pg bg sg dV kV doc pm an cdv ct), osl⟩) (hcg : PySem.W.codeIn X.K cdv x = true) (hb : L2.Binds X.K (PySem.W.fnOf x x pg bg sg dV kV doc pm an cdv ct) pr []) (Sg : FnScope Ng pr sg) (hpr : pr.length = 3) (hNg : Ng[2]? = some a) (hva : Vis sg a)
    (hG : Gives X Ng x sg g cdv bg a 2 ps.length (k + 1) (X.env.qual ++ "<lambda>") TT)
    (TB : TabB X.base X.mg c P) (hcode : X.env.code = .ref c) (hmT : (P, X.env.qual ++ "<lambda>") ∈ T) (hu : ∀ p ∈ T, p.1 = P → p.2 = X.env.qual ++ "<lambda>") (hr : Room (k + 2) X.A) (S : NScope N ps fr scope)
    (hfree : ∀ y ∈ scope.names, y.2 = .free → X.env.scope.names.lookup y.1 = some .cell ∨ X.env.scope.names.lookup y.1 = some .free) (hfr : ∀ y ∈ fr, (y, NameKind.free) ∈ scope.names) (hjs : js.map (fun j => X.N[j]?) = fr.map some) (hdef : defaultsOf params X.env = ([], []))
    (hbind : ∀ (q : Str) (cl : List (Str × Addr)) (pm cv ctv : Value) (us : List Value), us.length = ps.length → bindArgs (PySem.W.kla_fn "<lambda>" q params body scope cl pm cv ctv) ⟨us, []⟩ = pure (ps.zip us))
    (hbody : ∀ (A : Around) (outer : List Env) (s : Shared) (H : Hp) (f c' : Addr), Room k (A.deeper (envF (lamF (X.env.qual ++ "<lambda>") params scope (cloFrom X.env.cells scope.names []) c') f s.heap.objs.size)) →
      PE (ncx C8.CX0 X.prog X.w X.K X.mg X.base N (lamF (X.env.qual ++ "<lambda>") params scope (cloFrom X.env.cells scope.names []) c') f A outer s H E0) body tb)
    (h1 : PE X e1 t1) (h2 : PE X e2 t2)
    (hdb : (x == ("__debug__" : Str)) = false := by decide) (hd : (a == ("__debug__" : Str)) = false := by decide) (hcd : (a == ("__classdict__" : Str)) = false := by decide)
    (hs1 : starEach [e1, e2, .Lambda params body scope lpos] X.env = [(false, eval e1 X.env), (false, eval e2 X.env), (false, eval (.Lambda params body scope lpos) X.env)] := by rfl)
    (he : starEach [e1, e2, .Lambda params body scope lpos] X.env = (false, eval e1 X.env) :: starEach [e2, .Lambda params body scope lpos] X.env := by rfl) (hpl : (backTo pos (starEach [e2, .Lambda params body scope lpos] X.env)).any (·.1) = false := by rfl) :
    PE X (.Call (.Name x p) [e1, e2, .Lambda params body scope lpos] [] pos) (tGive T TT (tCons t1 (tCons t2 tNil)) fun σ vs HZ1 Q => tb (startF N vs (js.map (slotAt σ))) HZ1 Q) := by
  refine ⟨fun pins s σ H Q I h => ?_⟩
  refine wpAny_Call_Name_kw (ld_glob I hg hm ?_ hdb)
  refine PySem.W.callWith_K (h₀ := X.base) I.ok.mod.kin hk ?_ he hpl
  rw [hs1]
  show wpAny _ _ (spliced [(false, eval e1 X.env), (false, eval e2 X.env), (false, eval (.Lambda params body scope lpos) X.env)]) _ _ s
  have hfr2 : ∀ y ∈ scope.names, y.2 = .free → ∃ c, X.env.cells.lookup y.1 = some c := fun y hy e => (hfree y hy e).elim (fun z => I.ok.has _ (.inl z)) fun z => I.ok.has _ (.inr z)
  refine Calls.spliced_cons (thn (h1.run pins s σ H _ I h) fun u1 s1 ⟨v1, H1, I1, r1, q1⟩ => ?_)
  refine Calls.spliced_cons (thn (h2.run pins s1 σ H1 _ I1 q1) fun u2 s2 ⟨v2, H2, I2, r2, hT, q2⟩ => ?_)
  refine Calls.spliced_cons (LM.lam_new I2 TB hcode hmT hu hT hdef hfr2 fun f c' pm' ctv H3 s3 I3 mk hf hfn hfrm hco => ?_)
  refine Calls.spliced_nil ⟨I3.kIn, ?_⟩
  have rr : Vals ([v1, v2, .ref f] : List V) [u1, u2, .ref f] := .cons r1 (.cons r2 (.cons rfl .nil))
  have rc : codeAny (model X.prog X.w) X.A (.call (.ref g) ⟨[u1, u2, .ref f], []⟩) (CR C8.CX0 X.stack X.prog X.w H3 s3 Q C8.E0) s3 := by
    refine run_ofS (N := Ng) (ps := pr) (us := [u1, u2, .ref f]) (vs := [v1, v2, .ref f]) lk hcg Sg hr I3.env0 (hb s3 [u1, u2, .ref f] I3.kIn (by rw [hpr]; rfl)) rr (by rw [hpr]; rfl) fun hr' => ?_
    obtain ⟨t', ht', hq'⟩ := hG f c' s3 H3 Q [v1, v2] (fun vs HZ1 Q => tb (startF N vs (js.map (slotAt σ))) HZ1 Q) hr' (fun pn xe p1 p2 e es t ha he2 hpl2 =>
      pe_act3 (i := 2) I3 S (Caps.made I3.ok hfree hfr hjs) hf hfn hfrm (hbind _ _ _ _ _) hr' (fun A outer s H hr2 => hbody A outer s H f c' hr2) hNg hva ha hd hcd he2 hpl2) hco hfn (q2 H3 mk)
    exact ⟨t', ht'.nox, hq'⟩
  refine wpAny_call (codeAny_mono rc fun r s2 hq => ?_)
  cases r with
  | error e => exact (show False from hq).elim
  | ok fl =>
    cases fl with
    | ret u => exact I3.after hq
    | next => exact False.elim hq
    | brk => exact False.elim hq
    | cont => exact False.elim hq
end
end CLX
/-! folded: over trees of data, told by a lambda. -/
namespace DL
open PySem PySem.Spec PyProof.Rows L2
section
variable [Tbs] {K : PySem.W.Frag} {ps : List Nat}
/-! ### ranges downward, lists repeated -/
def rngDn (hi : Int) (n : Nat) : List D := (List.range n).map fun i => .int (hi - (i : Nat))
theorem rngDn_len (hi : Int) (n : Nat) : (rngDn hi n).length = n := by simp [rngDn]
theorem rngDn_get {hi : Int} {n i : Nat} (h : i < n) : (rngDn hi n)[i]? = some (.int (hi - (i : Nat))) := by
  unfold rngDn
  rw [List.getElem?_map, List.getElem?_range h]
  rfl
theorem wk_rangeDn {F : Hp} {hi : Int} {n : Nat} : Wk K F (Itc hi (-1) n) (rngDn hi n) := by
  refine ⟨fun _ => True, YFn fun i => .int (hi + (i : Nat) * (-1)), by rw [rngDn_len]; exact walk_rangeC, fun H F' s sub => trivial, ?_⟩
  rintro i H x H' ⟨rfl, rfl⟩ hi' F' s sub
  rw [rngDn_len] at hi'
  have e : hi + ((i : Nat) : Int) * (-1) = hi - (i : Nat) := by omega
  refine ⟨_, F', rngDn_get hi', ?_, .inl ⟨rfl, rfl⟩⟩
  show Dr K F' (.int (hi + ((i : Nat) : Int) * (-1))) _
  rw [e]
  exact .int _
def dIRd (T : DLs) : DLs := fun ρ Φ => T ρ fun xs ρ' => ∃ i j : Int, xs = [.int i, .int j, .int (-1)] ∧ (-(2 ^ 62) ≤ i ∧ i < 2 ^ 62 ∧ -(2 ^ 62) ≤ j ∧ j < 2 ^ 62) ∧ Φ (rngDn i (i - j).toNat) ρ'
theorem ri_range3 {t : TA} {T : DLs} (h : RV K ps t T) : RI K ps (iRng3 t) (dIRd T) := by
  intro b σ H F ρ Φ R R0 hT k
  refine h b σ H F ρ _ _ R0 hT fun xs H1 F1 ρ1 ds s1 R1 h1 hT => ?_
  obtain ⟨i, j, rfl, ⟨b1, b2, b3, b4⟩, hT⟩ := hT
  obtain ⟨v, r, rfl, h2, h3⟩ := h1.inv
  obtain ⟨w, r2, rfl, h4, h5⟩ := h3.inv
  obtain ⟨u, r3, rfl, h6, h7⟩ := h5.inv
  rw [h7.inv_nil, h2.inv_int, h4.inv_int, h6.inv_int]
  exact ⟨i, j, -1, _, rfl, RgC.neg b1 b2 b3 b4, k _ H1 F1 ρ1 _ s1 R1 wk_rangeDn hT⟩
@[simp] theorem dIRd_ (T : DLs) (ρ : DL.Env) (Φ : List D → DL.Env → Prop) : dIRd T ρ Φ = T ρ fun xs ρ' => ∃ i j : Int, xs = [.int i, .int j, .int (-1)] ∧ (-(2 ^ 62) ≤ i ∧ i < 2 ^ 62 ∧ -(2 ^ 62) ≤ j ∧ j < 2 ^ 62) ∧ Φ (rngDn i (i - j).toNat) ρ' := Eq.trans rfl rfl
def oRep : D → D → (List D → Prop) → Prop := fun d e Φ => match d, e with
  | .lst xs, .int k => (0 ≤ k ∧ k < 2 ^ 63) ∧ xs.length * k.toNat ≤ sizeLine ∧ Φ (List.replicate k.toNat xs).flatten
  | _, _ => False
theorem DA.rep {F : Hp} {xs : List V} {ds : List D} (h : DA K F xs ds) : ∀ n : Nat, DA K F (List.replicate n xs).flatten (List.replicate n ds).flatten
  | 0 => .nil
  | n + 1 => by
    rw [List.replicate_succ, List.replicate_succ, List.flatten_cons, List.flatten_cons]
    exact h.app (DA.rep h n)
theorem rol_rep : ROL K ps rRep oRep := by
  intro b σ H F ρ x y d e Φ Q R h1 h2 hT k
  cases d <;> try exact hT.elim
  cases e <;> try exact hT.elim
  rename_i xs n
  obtain ⟨⟨b1, b2⟩, b3, hT⟩ := hT
  obtain ⟨a, ys, rfl, ea, ha⟩ := h1.inv_lst
  refine ⟨a, n, ys, rfl, h2.inv_int, R.sub _ _ ea, Int.le_trans (by decide) b1, b2, by rw [ha.1]; exact b3, fun p hp => ?_⟩
  exact k p _ _ F _ (Same.refl F) (R.put hp) (R.loose hp) upd_same (ha.rep n.toNat) hT
@[simp] theorem oRep_ (xs : List D) (n : Int) (Φ : List D → Prop) : oRep (.lst xs) (.int n) Φ = ((0 ≤ n ∧ n < 2 ^ 63) ∧ xs.length * n.toNat ≤ sizeLine ∧ Φ (List.replicate n.toNat xs).flatten) := Eq.trans rfl rfl
/-! ### the entry of a def that is handed data alone -/
theorem rep_start {N : List Str} {H F : Hp} {vs : List V} {ds : List D} (hsub : Sub F H) (hnt : ∀ a o, F a = some o → NT o) (htb : LamX.Tabs Tbs.T H) (hB : Same Tbs.B F) (h : DA K F vs ds) (ws : List (Option V)) (cs : List (Option OV))
    (hw : ws.length = cs.length) (hc : ∀ (i : Nat) o, cs[i]? = some (some o) → ∃ d v, o = .d d ∧ ws[i]? = some (some v) ∧ Dr K F v d) :
    Rep K [] ⟨H, F, vs, fun _ => False⟩ (vs.map some ++ ws) H F (ds.map (fun d => some (.d d)) ++ cs) := by
  have key : ∀ (i : Nat) o, (ds.map (fun d => some (OV.d d)) ++ cs)[i]? = some (some o) → ∃ d v, o = .d d ∧ (vs.map some ++ ws)[i]? = some (some v) ∧ Dr K F v d := fun i o e => by
    by_cases hi : i < ds.length
    · rw [List.getElem?_append_left (by rw [List.length_map]; exact hi), List.getElem?_map] at e
      obtain ⟨d, hd, e⟩ := Option.map_eq_some_iff.mp e
      obtain ⟨v, hv, hr⟩ := h.get hd
      refine ⟨d, v, (Option.some.inj e).symm, ?_, hr⟩
      rw [List.getElem?_append_left (by rw [List.length_map, h.1]; exact hi), List.getElem?_map, hv]
      rfl
    · rw [List.getElem?_append_right (by rw [List.length_map]; omega), List.length_map] at e
      obtain ⟨d, v, h1, h2, h3⟩ := hc _ o e
      refine ⟨d, v, h1, ?_, h3⟩
      rw [List.getElem?_append_right (by rw [List.length_map, h.1]; omega), List.length_map, h.1]
      exact h2
  refine ⟨hsub, ⟨Same.refl F, hB⟩, fun a o e _ _ => e, fun a z => z.elim, fun a o e => .inl e, fun i o e => ?_, fun i j o u v n e1 o1 => ?_, by rw [List.length_append, List.length_append, List.length_map, List.length_map, h.1, hw], fun i z => (nomatch z), hnt, fun a o e => ⟨o, e⟩, htb⟩
  · obtain ⟨d, v, rfl, h1, h2⟩ := key i o e
    exact ⟨v, h1, h2⟩
  · obtain ⟨d, v', rfl, _⟩ := key i o e1
    cases o1
/-- what does not lean on a code object -/
theorem Dr.less {F F' : Hp} (s : ∀ a o, F a = some o → (∀ c q, o ≠ LamX.CodeO c q) → F' a = some o) {v : V} {d : D} (h : Dr K F v d) : Dr K F' v d := by
  have n1 : ∀ (xs : List V) (c : Addr) (q : Str), HO.tup xs ≠ LamX.CodeO c q := fun xs c q z => by unfold LamX.CodeO at z; cases z
  have n2 : ∀ (C x : Addr) (xs : List (Str × V)) (c : Addr) (q : Str), HO.ins C x xs ≠ LamX.CodeO c q := fun C x xs c q z => by unfold LamX.CodeO at z; cases z
  induction h with
  | non => exact .non
  | bl b => exact .bl b
  | int i => exact .int i
  | str x => exact .str x
  | ty n => exact .ty n
  | fn a => exact .fn a
  | scr e =>
    refine .scr ?_
    rcases e with (e | ⟨o, e⟩) | e
    · exact .inl (.inl (s _ _ e (lst_nc _)))
    · exact .inl (.inr ⟨o, s _ _ e fun c q z => by unfold LamX.CodeO at z; cases z⟩)
    · exact .inr e
  | tup e hl _ ih =>
    refine .tup ?_ hl ih
    rcases e with (e | ⟨o, e⟩) | e
    · exact .inl (.inl (s _ _ e (n1 _)))
    · exact .inl (.inr ⟨o, s _ _ e fun c q z => by unfold LamX.CodeO at z; cases z⟩)
    · exact .inr e
  | lst e hl _ ih => exact .lst (s _ _ e (lst_nc _)) hl ih
  | dct e hk _ ih => exact .dct (s _ _ e (dK_nc _)) hk ih
  | obj e hk _ ih => exact .obj (s _ _ e (n2 _ _ _)) hk ih
end
end DL
namespace FD
open PySem PySem.Spec PyProof.Rows L2 DL TR NB
section
variable [Tbs] {K : PySem.W.Frag} {ps : List Nat}
/-! ### a call of the lambda -/
def tTell (i : Nat) (f : Addr) (nl : Nat) (c' : Addr) (q : Str) (tl : List V → Hp → VK → Prop) (t : TA) : TE := fun σZ HZ Q => σZ[i]? = some (some (.ref f)) ∧ t σZ HZ fun vs HZ1 => vs.length = nl ∧ HZ1 c' = some (LamX.CodeO c' q) ∧ tl vs HZ1 Q
def dTell (i : Nat) (f : Addr) (nl : Nat) (s : SV) (Ta : DLs) : DE := fun ρ Φ => ρ[i]? = some (some (.d (.fn f))) ∧ Ta ρ fun ds ρ1 => ds.length = nl ∧ s ds fun d => Φ d ρ1
theorem re_tell {i nl : Nat} {f c' : Addr} {q : Str} {tl : List V → Hp → VK → Prop} {s : SV} {t : TA} {Ta : DLs} (hc : Tbs.B c' = some (LamX.CodeO c' q)) (hl : ∀ vs H Q, spOf K (pureS s) vs H Q CLX.E0 → tl vs H Q) (h : RV K ps t Ta) : RE K ps (tTell i f nl c' q tl t) (dTell i f nl s Ta) := by
  intro b σ H F ρ Φ Q R hT k
  obtain ⟨e, hT⟩ := hT
  obtain ⟨v, h1, h2⟩ := R.slot i _ e
  have hv : v = .ref f := Dr.inv_fn h2
  subst hv
  refine ⟨h1, h b σ H F ρ _ _ R hT fun vs H1 F1 ρ1 ds s1 R1 hr ⟨hn, hS⟩ => ⟨by rw [hr.1, hn], R1.sub _ _ (R1.grow.b _ _ hc), hl _ _ _ ?_⟩⟩
  have nO : ∀ a, ¬ OwnA vs (ds.map .d) a := fun a ⟨i, o, e1, e2, _⟩ => by
    rw [List.getElem?_map] at e1
    obtain ⟨d, _, rfl⟩ := Option.map_eq_some_iff.mp e1
    cases e2
  refine ⟨F1, ds.map .d, fun d _ => Φ d ρ1, ⟨R1.sub, R1.nt, R1.tabs, R1.grow.b⟩, ⟨by rw [List.length_map]; exact hr.1, fun k v o e1 e2 => ?_, fun k l o u v n e1 o1 e2 o2 e3 e4 => ?_⟩, ⟨ds, rfl, hS⟩, fun F' H' v d os' s2 ⟨sub2, nt2, tb2⟩ kp th nw len2 hout hd hΦ => ?_⟩
  · rw [List.getElem?_map] at e2
    obtain ⟨d, hd, rfl⟩ := Option.map_eq_some_iff.mp e2
    exact hr.2 k v d e1 hd
  · rw [List.getElem?_map] at e1
    obtain ⟨d, _, rfl⟩ := Option.map_eq_some_iff.mp e1
    cases o1
  · exact k v H' F' ρ1 d (s1.trans s2) (R1.grownT (fun a o e nz => kp a o e (nO a) nz) th s2 sub2 (fun a o e => (nw a o e).elim .inl fun h => h.elim .inr fun z => absurd z (nO a)) nt2 tb2) hd hΦ
@[simp] theorem dTell_ (i : Nat) (f : Addr) (nl : Nat) (s : SV) (Ta : DLs) (ρ : DL.Env) (Φ : D → DL.Env → Prop) : dTell i f nl s Ta ρ Φ = (ρ[i]? = some (some (.d (.fn f))) ∧ Ta ρ fun ds ρ1 => ds.length = nl ∧ s ds fun d => Φ d ρ1) := Eq.trans rfl rfl
end
/-- what numbered promises -/
def sNum (SI : Addr → Option SV) : SV := fun ds Φ => ∃ (t : Tr D) (f : Addr) (s : SV), ds = [t.d, .fn f] ∧ SI f = some s ∧ Good s t ∧ sz t ≤ 1000000 ∧ Φ (.lst ((num t 0).map rowD))
/-- what folded comes to -/
def dFold (SI : Addr → Option SV) (f : Addr) (sL : SV) : DS :=
  dSeq (dAsg (dCallV (sNum SI) (dCons (dVar 0) (dCons (dVar 1) dNil))) (dName 3))
    (dSeq (dSetL 4 (dOpL oRep (dK (dLst (dCons (dC D.non) dNil))) (dLenS 3)))
      (dSeq (dFor (dIRd (dCons (dOp (oI0 fun a c => .int (a - c)) (dLenS 3) (dC (.int 1))) (dCons (dNeg (dC (.int 1))) (dCons (dNeg (dC (.int 1))) dNil)))) (dName 5)
          (dSeq (dAsg (dIxS 3 (dVar 5)) (dGTup 2 (dGCons (dName 6) (dGCons (dName 7) dGNil))))
            (dPutL 4 (dTell 2 f 2 sL (dCons (dVar 6) (dCons (dK (dLc (dIL (dVar 7)) (dName 8) dYes (dIxS 4 (dVar 8)) [8])) dNil))) (dVar 5))))
        (dRet (dIxS 4 (dC (.int 0))))))
/-- told so far: those from j on -/
def toldAt {α : Type} (G : List (Tr α)) (val : Tr α → D) (j : Nat) : List D := (List.range G.length).map fun i => if j ≤ i then (match G[i]? with | some s => val s | none => .non) else .non
theorem toldAt_len {α : Type} (G : List (Tr α)) (val : Tr α → D) (j : Nat) : (toldAt G val j).length = G.length := by simp [toldAt]
theorem toldAt_get {α : Type} {G : List (Tr α)} {val : Tr α → D} {j i : Nat} {s : Tr α} (h : G[i]? = some s) (hj : j ≤ i) : (toldAt G val j)[i]? = some (val s) := by
  unfold toldAt
  rw [List.getElem?_map, List.getElem?_range (List.getElem?_eq_some_iff.mp h).1]
  simp [hj, h]
theorem toldAt_all {α : Type} (G : List (Tr α)) (val : Tr α → D) : toldAt G val G.length = List.replicate G.length .non := by
  unfold toldAt
  apply List.ext_getElem?
  intro i
  rw [List.getElem?_map, List.getElem?_replicate]
  by_cases hi : i < G.length
  · rw [List.getElem?_range hi, if_pos hi, Option.map_some, if_neg (by omega)]
  · rw [List.getElem?_eq_none (by simp; omega), if_neg hi]
    rfl
theorem toldAt_set {α : Type} {G : List (Tr α)} {val : Tr α → D} {j : Nat} {s : Tr α} (h : G[j]? = some s) : (toldAt G val (j + 1)).set j (val s) = toldAt G val j := by
  have hj := (List.getElem?_eq_some_iff.mp h).1
  apply List.ext_getElem?
  intro i
  by_cases hij : j = i
  · subst hij
    rw [List.getElem?_set_self (by rw [toldAt_len]; exact hj), toldAt_get h (Nat.le_refl _)]
  · rw [List.getElem?_set_ne hij]
    unfold toldAt
    rw [List.getElem?_map, List.getElem?_map]
    by_cases hi : i < G.length
    · rw [List.getElem?_range hi, Option.map_some, Option.map_some]
      by_cases h1 : j + 1 ≤ i
      · rw [if_pos h1, if_pos (by omega)]
      · rw [if_neg h1, if_neg (by omega)]
    · rw [List.getElem?_eq_none (by simp; omega)]
      rfl
def envF (r : D) (fi f : Addr) (nodes : List D) (told : List D) (o5 o6 o7 o8 : Option OV) : DL.Env := [some (.d r), some (.d (.fn fi)), some (.d (.fn f)), some (.d (.lst nodes)), some (.l told), o5, o6, o7, o8]
theorem fold_go [Tbs] {SI : Addr → Option SV} {f fi : Addr} {si sL : SV} {α : Type} {δ : α → D} {t : Tr α} {val : Tr α → D} (hs : SI fi = some si) (hg : Good si (mapT δ t)) (hz : sz t ≤ 1000000) (hv : ∀ s ∈ pre t, ∀ Φ : D → Prop, Φ (val s) → sL [δ s.d, .lst (s.ks.map val)] Φ) {E : DEn}
    (hE : ∀ ρ', E.rt (val t) ρ') : dFold SI f sL E [some (.d (δ t.d)), some (.d (.fn fi)), some (.d (.fn f)), none, none, none, none, none, none] := by
  unfold dFold
  have hn : ((num (mapT δ t) 0).map rowD).length = sz t := by rw [List.length_map, num_len, sz_map]
  have hG : (pre t).length = sz t := pre_len t
  have hp := sz_pos t
  generalize hnd : (num (mapT δ t) 0).map rowD = nodes at hn
  simp only [dSeq_, dAsg_, dCallV_, dCons_, dVar_, dNil_, List.getElem?_cons_zero, List.getElem?_cons_succ, dVarG_d]
  refine ⟨mapT δ t, fi, si, by rw [mapT_d], hs, hg, by rw [sz_map]; exact hz, ?_⟩
  rw [hnd]
  simp [hn]
  refine ⟨by omega, by omega, ?_⟩
  have e0 : List.replicate (sz t) D.non = toldAt (pre t) val (sz t) := by
    rw [← hG, toldAt_all]
  rw [e0]
  refine for_inv (rngDn ((sz t : Int) - 1) (sz t)) (envF (δ t.d) fi f nodes (toldAt (pre t) val (sz t)) none none none none) (fun k ρ => ∃ o5 o6 o7 o8, ρ = envF (δ t.d) fi f nodes (toldAt (pre t) val (sz t - k)) o5 o6 o7 o8) (fun Ψ h => ?_) ⟨none, none, none, none, rfl⟩ ?_ ?_
  · have e1 : ((sz t : Int) - 1 - (-1)).toNat = sz t := by omega
    simp [hn]
    refine ⟨_, _, ⟨rfl, rfl⟩, ⟨by omega, by omega, by omega, by omega⟩, ?_⟩
    rw [e1]
    exact h
  · rintro k x ρ hx ⟨o5, o6, o7, o8, rfl⟩
    have hk : k < sz t := by
      have := (List.getElem?_eq_some_iff.mp hx).1
      rwa [rngDn_len] at this
    rw [rngDn_get hk] at hx
    cases hx
    obtain ⟨j, hj⟩ : ∃ j, j = sz t - 1 - k := ⟨_, rfl⟩
    have ej : (sz t : Int) - 1 - (k : Nat) = (j : Nat) := by omega
    have e2 : sz t - k = j + 1 := by omega
    have e3 : sz t - (k + 1) = j := by omega
    rw [ej, e2, e3]
    have hjn : j < (num t 0).length := by rw [num_len]; omega
    have hr := List.getElem?_eq_getElem hjn
    generalize (num t 0)[j] = r at hr
    obtain ⟨s, h1, h2, h3, h4⟩ := rows_ok t hr
    have hnr : nodes[j]? = some (rowD (δ r.1, r.2)) := by rw [← hnd, num_map, List.getElem?_map, List.getElem?_map, hr]; rfl
    have hsm : s ∈ pre t := List.mem_of_getElem? h1
    simp only [dName_]
    unfold envF
    simp [hnr, rowD]
    refine lc_z (r.2.map fun n => .int (n : Nat)) (s.ks.map val) [some (.d (δ t.d)), some (.d (.fn fi)), some (.d (.fn f)), some (.d (.lst nodes)), some (.l (toldAt (pre t) val (j + 1))), some (.d (.int (j : Nat))), some (.d (δ r.1)), some (.d (.lst (r.2.map fun n => .int (n : Nat)))), o8]
      [some (.d (δ t.d)), some (.d (.fn fi)), some (.d (.fn f)), some (.d (.lst nodes)), some (.l (toldAt (pre t) val (j + 1))), some (.d (.int (j : Nat))), some (.d (δ r.1)), some (.d (.lst (r.2.map fun n => .int (n : Nat)))), none] (fun Ψ h => ?_) rfl ?_ ?_ (fun i x e hx he A hA => ?_) ?_
    · simpa using h
    · rw [List.length_map, h3]
      have := kids_le hsm
      omega
    · rw [List.length_map, List.length_map, h3]
    · rw [List.getElem?_map] at hx he
      obtain ⟨n, hn', rfl⟩ := Option.map_eq_some_iff.mp hx
      obtain ⟨u, hu, rfl⟩ := Option.map_eq_some_iff.mp he
      obtain ⟨g1, g2⟩ := h4 i n hn'
      rw [hu] at g2
      simp
      exact ⟨_, toldAt_get g2 (by omega), hA _ (by simp)⟩
    · simp
      rw [← h2]
      have hjl : j < (toldAt (pre t) val (j + 1)).length := by rw [toldAt_len, hG]; omega
      refine hv s hsm _ ⟨j, ?_, toldAt_set h1⟩
      unfold ixN
      rw [if_pos (by omega), if_pos (by omega)]
      rfl
  · rintro ρ ⟨o5, o6, o7, o8, rfl⟩
    rw [rngDn_len, Nat.sub_self]
    unfold envF
    simp
    exact ⟨_, (atI_nat' _ 0).trans (toldAt_get (pre_zero t) (Nat.le_refl _)), hE _⟩
end FD
/-! folded as it is handed a lambda. -/
namespace FD
open PySem PySem.Spec PyProof.Rows L2 DL TR NB
/-- what folded asks of its arguments and of the lambda -/
def TTf (I : Tbs) (K : PySem.W.Frag) (SI : Addr → Option SV) (tl : List V → Hp → VK → Prop) (vs : List V) (H : Hp) (Q : VK) : Prop :=
  ∃ (F : Hp) (α : Type) (δ : α → D) (t : Tr α) (fi : Addr) (si sL : SV) (val : Tr α → D), (Sub F H ∧ (∀ a o, F a = some o → NT o) ∧ LamX.Tabs I.T H ∧ Same I.B F) ∧ DA K F vs [δ t.d, .fn fi] ∧ (SI fi = some si ∧ Good si (mapT δ t) ∧ sz t ≤ 1000000) ∧
    (∀ s ∈ pre t, ∀ Φ : D → Prop, Φ (val s) → sL [δ s.d, .lst (s.ks.map val)] Φ) ∧ (∀ vs H' Q, @spOf ⟨I.T, F⟩ K (pureS sL) vs H' Q CLX.E0 → tl vs H' Q) ∧
    ∀ F' H' v, Same F F' → (Sub F' H' ∧ (∀ a o, F' a = some o → NT o) ∧ LamX.Tabs I.T H') → (∀ a o, H a = some o → NT o → H' a = some o) → (∀ a o, H a = some o → ∃ o', H' a = some o') → (∀ a o, F' a = some o → F a = some o ∨ H a = none) → Dr K F' v (val t) → Q v H'
theorem codeO_nt (c : Addr) (q : Str) : NT (LamX.CodeO c q) := fun t z => by
  unfold LamX.CodeO at z
  cases z
/-- the body of folded, told by data -/
theorem fold_run {I : Tbs} {K : PySem.W.Frag} {SI : Addr → Option SV} {f c' : Addr} {q : Str} {H : Hp} {Q : VK} {vs : List V} {tl : List V → Hp → VK → Prop} {N : List Str} (hN : N.length = 9) (hco : H c' = some (LamX.CodeO c' q)) (hT : TTf I K SI tl vs H Q) {P : TS → Prop}
    (h : ∀ (J : Tbs) (s : SV), J.T = I.T → J.B c' = some (LamX.CodeO c' q) → (∀ vs H' Q, @spOf J K (pureS s) vs H' Q CLX.E0 → tl vs H' Q) → ∃ t, P t ∧ @RS J K [] t (dFold SI f s)) :
    ∃ t, P t ∧ t { nx := fun _ H' => Q .non H', rt := Q } (L2.start N (vs ++ [.ref f])) H := by
  obtain ⟨F, α, δ, tr, fi, si, sL, val, ⟨hsub, hnt, htb, hB⟩, hda, ⟨hs, hg, hz⟩, hv, hl, hQ⟩ := hT
  have sF : Same F (upd F c' (LamX.CodeO c' q)) := fun a o e => by
    by_cases ha : a = c'
    · subst ha
      rw [hsub _ _ e] at hco
      rw [upd_same]
      exact hco.symm
    · rw [upd_ne ha]
      exact e
  have sub1 : Sub (upd F c' (LamX.CodeO c' q)) H := fun a o e => by
    by_cases ha : a = c'
    · subst ha
      rw [upd_same] at e
      rw [hco]
      exact e
    · rw [upd_ne ha] at e
      exact hsub _ _ e
  have nt1 : ∀ a o, upd F c' (LamX.CodeO c' q) a = some o → NT o := nt_upd hnt (codeO_nt _ _)
  obtain ⟨t, ht, hr⟩ := h ⟨I.T, upd F c' (LamX.CodeO c' q)⟩ sL rfl upd_same (fun vs H' Q hsp => hl vs H' Q (by
    obtain ⟨F', os, Φ, ⟨a1, a2, a3, a4⟩, rest⟩ := hsp
    exact ⟨F', os, Φ, ⟨a1, a2, a3, sF.trans a4⟩, rest⟩))
  letI J : Tbs := ⟨I.T, upd F c' (LamX.CodeO c' q)⟩
  have hda' : DA K (upd F c' (LamX.CodeO c' q)) (vs ++ [.ref f]) ([δ tr.d, .fn fi] ++ [.fn f]) := (hda.up sF).app (.one (.fn f))
  have R := @rep_start J K N H _ _ _ sub1 nt1 htb (Same.refl _) hda' (List.replicate 6 none) (List.replicate 6 none) rfl (fun i o e => by
    have := List.mem_of_getElem? e
    rw [List.mem_replicate] at this
    cases this.2)
  have e1 : (vs ++ [V.ref f]).map some ++ List.replicate 6 none = L2.start N (vs ++ [.ref f]) := by
    unfold L2.start
    have := hda'.1
    rw [hN, this]
    rfl
  rw [e1] at R
  have fin : ∀ (v : V) (σ' : L2.St) (H' F' : Hp) (ρ' : DL.Env) (d : D), Same (upd F c' (LamX.CodeO c' q)) F' → @Rep J K [] ⟨H, upd F c' (LamX.CodeO c' q), vs ++ [.ref f], fun _ => False⟩ σ' H' F' ρ' → Dr K F' v d → d = val tr → Q v H' := by
    intro v σ' H' F' ρ' d s R' hd ed
    subst ed
    -- the code object is kept for good only here
    let F2 : Hp := fun a => if a = c' then F a else F' a
    have f2 : ∀ a, a ≠ c' → F2 a = F' a := fun a n => if_neg n
    have f2c : F2 c' = F c' := if_pos rfl
    have s2 : Same F F2 := fun a o e => by
      by_cases ha : a = c'
      · subst ha; rw [f2c]; exact e
      · rw [f2 a ha]; exact s _ _ (sF _ _ e)
    have sub2 : Sub F2 F' := fun a o e => by
      by_cases ha : a = c'
      · subst ha; rw [f2c] at e; exact s _ _ (sF _ _ e)
      · rw [f2 a ha] at e; exact e
    refine hQ F2 H' v s2 ⟨fun a o e => R'.sub _ _ (sub2 a o e), fun a o e => R'.nt a o (sub2 a o e), R'.tabs⟩ (fun a o e nz => R'.keep a o e (fun z => z) nz) (fun a o e => R'.dom a o e) (fun a o e => ?_) (hd.less fun a o e nc => ?_)
    · by_cases ha : a = c'
      · subst ha; rw [f2c] at e; exact .inl e
      · rw [f2 a ha] at e
        rcases R'.new a o e with z | z | z
        · have z : upd F c' (LamX.CodeO c' q) a = some o := z
          rw [upd_ne ha] at z
          exact .inl z
        · exact .inr z
        · exact z.elim
    · have ha : a ≠ c' := fun z => by
        subst z
        rw [s _ _ upd_same] at e
        exact nc _ _ (Option.some.inj e).symm
      rw [f2 a ha]
      exact e
  exact ⟨t, ht, hr _ _ H _ _ ⟨fun _ => False, fun d _ => d = val tr, fun _ => False, fun _ => False⟩ _ R (fold_go hs hg hz hv fun _ => rfl) (fun _ _ _ _ _ _ z => z.elim) fin (fun _ _ _ _ _ _ z => z.elim) (fun _ _ _ _ _ _ z => z.elim)⟩
/-! ### folded(tree, inner_of, lambda ..) -/
def freeB (so scope : Scope) : Bool := scope.names.all fun y => !decide (y.2 = .free) || decide (so.names.lookup y.1 = some .cell) || decide (so.names.lookup y.1 = some .free)
theorem free_by {so scope : Scope} (h : freeB so scope = true) : ∀ y ∈ scope.names, y.2 = .free → so.names.lookup y.1 = some .cell ∨ so.names.lookup y.1 = some .free := fun y hy e => by
  have := List.all_eq_true.mp h y hy
  simp only [Bool.or_eq_true, Bool.not_eq_true', decide_eq_false_iff_not, decide_eq_true_eq] at this
  rcases this with (z | z) | z
  · exact absurd e z
  · exact .inl z
  · exact .inr z
def dGive (SI : Addr → Option SV) (js : List Nat) (Lam : List D → SV) (Ta : DLs) : DE := fun ρ Φ => Ta ρ fun ds ρ1 => ∃ (α : Type) (δ : α → D) (t : Tr α) (fi : Addr) (si : SV) (val : Tr α → D) (caps : List D), ds = [δ t.d, .fn fi] ∧ (SI fi = some si ∧ Good si (mapT δ t) ∧ sz t ≤ 1000000) ∧
  (js.map fun j => ρ1[j]?) = caps.map (fun d => some (some (OV.d d))) ∧ (∀ s ∈ pre t, ∀ Φ' : D → Prop, Φ' (val s) → Lam caps [δ s.d, .lst (s.ks.map val)] Φ') ∧ Φ (val t) ρ1
theorem give_at {SI : Addr → Option SV} {js : List Nat} {Lam : List D → SV} {Ta : DLs} {ρ : DL.Env} {Φ : D → DL.Env → Prop} {α : Type} (ρ1 : DL.Env) (δ : α → D) (t : Tr α) (fi : Addr) (si : SV) (val : Tr α → D) (caps : List D) (hA : ∀ Ψ : List D → DL.Env → Prop, Ψ [δ t.d, .fn fi] ρ1 → Ta ρ Ψ)
    (hs : SI fi = some si) (hg : Good si (mapT δ t)) (hz : sz t ≤ 1000000) (hc : (js.map fun j => ρ1[j]?) = caps.map (fun d => some (some (OV.d d)))) (hv : ∀ s ∈ pre t, ∀ Φ' : D → Prop, Φ' (val s) → Lam caps [δ s.d, .lst (s.ks.map val)] Φ') (hΦ : Φ (val t) ρ1) : dGive SI js Lam Ta ρ Φ :=
  hA _ ⟨α, δ, t, fi, si, val, caps, rfl, ⟨hs, hg, hz⟩, hc, hv, hΦ⟩
/-- the lambda's names at its entry -/
def startL (ds caps : List D) (m : Nat) : DL.Env := ds.map (fun d => some (.d d)) ++ (caps.map (fun d => some (.d d)) ++ List.replicate m none)
theorem re_give [I : Tbs] {K : PySem.W.Frag} {ps : List Nat} {SI : Addr → Option SV} {t : TA} {tb : TE} {Tb : DE} {Ta : DLs} {js : List Nat} {N : List Str} {Lam : List D → SV} {nl : Nat} (h : RV K ps t Ta) (hb : RE K [] tb Tb)
    (hsem : ∀ caps ds Φ, caps.length = js.length → Lam caps ds Φ → ds.length = nl ∧ Tb (startL ds caps (N.length - nl - js.length)) (fun d _ => Φ d)) :
    RE K ps (CLX.tGive Tbs.T (TTf I K SI) t fun σ vs HZ1 Q => tb (NdefX.startF N vs (js.map (NdefX.slotAt σ))) HZ1 Q) (dGive SI js Lam Ta) := by
  intro b σ H F ρ Φ Q R hT k
  refine h b σ H F ρ _ _ R hT fun vs H1 F1 ρ1 ds s1 R1 hda ⟨α, δ, tr, fi, si, val, caps, e, hsi, hcap, hval, hΦ⟩ => ⟨R1.tabs, fun H2 mk => ?_⟩
  subst e
  have hcl : caps.length = js.length := by
    have := congrArg List.length hcap
    rw [List.length_map, List.length_map] at this
    exact this.symm
  refine ⟨F1, α, δ, tr, fi, si, Lam caps, val, ⟨fun a o e => mk.ext a o (R1.sub a o e) (R1.nt a o e), R1.nt, mk.tabs, R1.grow.b⟩, hda, hsi, hval, fun vs' H' Q' hsp => ?_, fun F' H' v s ⟨sub, nt, tb'⟩ keep dom new hd => ?_⟩
  · obtain ⟨F', os, Φ', ⟨a1, a2, a3, a4⟩, ha, ⟨ds', e, hS⟩, hq⟩ := hsp
    subst e
    obtain ⟨hl, hTb⟩ := hsem caps ds' _ hcl hS
    have hDA : DA K F' vs' ds' := ⟨by have := ha.len; rwa [List.length_map] at this, fun i v d e1 e2 => ha.ok i v (.d d) e1 (by rw [List.getElem?_map, e2]; rfl)⟩
    have R2 := @rep_start I K N H' F' vs' ds' a1 a2 a3 (R1.grow.b.trans a4) hDA (js.map (NdefX.slotAt σ) ++ List.replicate (N.length - nl - js.length) none) (caps.map (fun d => some (.d d)) ++ List.replicate (N.length - nl - js.length) none)
      (by rw [List.length_append, List.length_append, List.length_map, List.length_map, hcl, List.length_replicate, List.length_replicate]) (fun i o e => by
        by_cases hi : i < caps.length
        · rw [List.getElem?_append_left (by rw [List.length_map]; exact hi), List.getElem?_map] at e
          obtain ⟨d, hd, e⟩ := Option.map_eq_some_iff.mp e
          have e := Option.some.inj e
          subst e
          have hj := List.getElem?_eq_getElem (show i < js.length by omega)
          have hc := congrArg (fun l => l[i]?) hcap
          simp only [List.getElem?_map, hj, hd, Option.map_some] at hc
          obtain ⟨v, g1, g2⟩ := R1.slot _ _ (Option.some.inj hc)
          refine ⟨d, v, rfl, ?_, Dr.up a4 g2⟩
          rw [List.getElem?_append_left (by rw [List.length_map]; omega), List.getElem?_map, hj, Option.map_some]
          unfold NdefX.slotAt
          rw [g1]
        · rw [List.getElem?_append_right (by rw [List.length_map]; omega)] at e
          have := List.mem_of_getElem? e
          rw [List.mem_replicate] at this
          cases this.2)
    have e1 : NdefX.startF N vs' (js.map (NdefX.slotAt σ)) = vs'.map some ++ (js.map (NdefX.slotAt σ) ++ List.replicate (N.length - nl - js.length) none) := by
      unfold NdefX.startF
      rw [List.length_map, hDA.1, hl]
    rw [e1]
    refine hb _ _ H' F' _ _ Q' R2 hTb fun v H'' F'' ρ'' d s R'' hd hΦ => ?_
    exact hq F'' H'' v d _ s ⟨R''.sub, R''.nt, R''.tabs⟩ (fun a o e _ nz => R''.keep a o e (fun z => z) nz) R''.dom (fun a o e => (R''.new a o e).elim .inl fun z => z.elim (fun z => .inr (.inl z)) fun z => z.elim) rfl (fun i o o' v e1 ho => by
      rw [List.getElem?_map] at e1
      obtain ⟨d, _, rfl⟩ := Option.map_eq_some_iff.mp e1
      cases ho) hd hΦ
  · refine k v H' F' ρ1 _ (s1.trans s) (R1.grownT (fun a o e nz => keep a o (mk.ext a o e nz) nz) (fun a o e => (mk.dom a o e).elim fun o1 e1 => dom a o1 e1) s sub (fun a o e => (new a o e).elim .inl fun z => .inr ?_) nt tb') hd hΦ
    cases q : H1 a with
    | none => rfl
    | some u =>
      obtain ⟨u', e'⟩ := mk.dom a u q
      rw [z] at e'
      cases e'
end FD
/-! Dict comprehensions, list(d), sorted(d), == of nested data. -/
namespace DL
open PySem PySem.Spec PyProof.Rows L2
def dDc (Ti : DLs) (G : DG) (Tt : DT) (Tk Tv : DE) (vs : List Nat) : DDs := fun ρ Φ => Ti ρ fun ds ρ1 => ∃ W : Nat → List (Key × D) → DL.Env → Prop, W 0 [] (wipeD ρ1 vs) ∧
  (∀ k x acc ρ, ds[k]? = some x → W k acc ρ → G x ρ fun ρ2 => Tt ρ2 fun c ρ3 => if c = true then Tk ρ3 fun y ρ4 => Tv ρ4 fun z ρ5 => ∃ key, keyD y = some key ∧ acc.length < sizeLine ∧ W (k + 1) (putD acc key z) (wipeD ρ5 vs) else W (k + 1) acc (wipeD ρ3 vs)) ∧
  ∀ acc ρ, W ds.length acc ρ → Φ acc (restore ρ ρ1 vs)
section
variable [Tbs] {K : PySem.W.Frag} {ps : List Nat}
theorem rd_dc {js : List Nat} {wi : TI} {g : TG} {tt : TT} {tk tv : TE} {vs : List Nat} {Ti : DLs} {G : DG} {Tt : DT} {Tk Tv : DE} (hi : RI K ps wi Ti) (hg : RG K ps js g G) (ht : RT K ps tt Tt) (hk : RE K ps tk Tk) (he : RE K ps tv Tv) (hv : ∀ v ∈ vs, v ∉ ps := by decide) (hj : ∀ j ∈ js, j ∈ vs := by decide) :
    RD K ps (tDc wi g tt tk tv vs) (dDc Ti G Tt Tk Tv vs) := by
  intro b σ H F ρ Φ Q R0 hT k
  refine hi b σ H F ρ _ _ R0 hT fun J H1 F1 ρ1 ds s1 R1 hw hT => fun p hp => ?_
  obtain ⟨Gd, Y, hwk, hG, hY⟩ := hw
  obtain ⟨W, w0, wt, wd⟩ := hT
  obtain ⟨hF1, h01, _⟩ := R1.fresh hp
  have n1 : ¬ Owned σ ρ1 p := fun z => by
    obtain ⟨_, _, o, e⟩ := R1.owned z
    rw [hp] at e
    cases e
  let Pv : Nat → Hp → Prop := fun i H' => ∃ F' ρ' acc xs, Same F1 F' ∧ Rep K ps b (wipe σ vs) H' F' ρ' ∧ H' p = some (.dK xs) ∧ DM K F' xs acc ∧ F' p = none ∧ ¬ Owned (wipe σ vs) ρ' p ∧ W i acc ρ'
  refine ⟨fun i m H' => m = ds.length - i ∧ i ≤ ds.length ∧ Pv i H', ⟨ds.length, by simp, Nat.zero_le _, F1, _, [], [], Same.refl F1, (R1.block hv).put hp, upd_same, .nil, hF1, fun z => n1 (owned_block z), w0⟩, ?_⟩
  rintro i m H2 ⟨rfl, hle, F2, ρ2, acc, xs, s, R2, ex, hx, hF2, n2, hW⟩
  have hgd := hG H2 F2 s R2.sub
  by_cases hin : i < ds.length
  · refine .inr ⟨hwk.goes i H2 hin hgd, Pv (i + 1), fun H' p' => ⟨ds.length - (i + 1), by omega, rfl, hin, p'⟩, fun x H3 y => ?_⟩
    obtain ⟨d, F3, hd, hdr, hy⟩ := hY i H2 x H3 (hwk.yields i H2 x H3 hin hgd y) hin F2 s R2.sub
    have st : Rep K ps b (wipe σ vs) H3 F3 ρ2 ∧ H3 p = some (.dK xs) ∧ F3 p = none ∧ Same F2 F3 := by
      rcases hy with ⟨rfl, rfl⟩ | ⟨q, o, hq, hqn, rfl, rfl⟩
      · exact ⟨R2, ex, hF2, Same.refl _⟩
      · have nq : p ≠ q := ne_of_none ex hq
        exact ⟨R2.alloc hq hqn, (upd_ne nq).trans ex, (upd_ne nq).trans hF2, SX.same_upd (R2.fresh hq).1⟩
    obtain ⟨R3, ex3, hF3, s3⟩ := st
    refine hg.fr R3 hdr (wt i d acc ρ2 hd hW) fun σ4 H4 F4 ρ4 s4 f4 R4 o4 w4 hT => ?_
    have hwp : wipe σ4 vs = wipe σ vs := by rw [w4 vs hj, wipe_wipe]
    obtain ⟨ex4, hF4⟩ := f4.loose R3 ex3 hF3 n2
    have n4 : ¬ Owned σ4 ρ4 p := fun z => (o4 p z).elim n2 fun h => by rw [ex3] at h; cases h
    refine ⟨hwp, ht.fr R4 hT fun c H5 F5 ρ5 s5 f5 R5 o5 hT => ?_⟩
    obtain ⟨ex5, hF5⟩ := f5.loose R4 ex4 hF4 n4
    have n5 : ¬ Owned σ4 ρ5 p := fun z => (o5 p z).elim n4 fun h => by rw [ex4] at h; cases h
    have s15 : Same F1 F5 := (((s.trans s3).trans s4).trans s5)
    have hx5 := (((hx.up s3).up s4).up s5)
    cases c with
    | false =>
      refine ⟨F5, wipeD ρ5 vs, acc, xs, s15, ?_, ex5, hx5, hF5, ?_, hT⟩
      · have := R5.block hv
        rwa [hwp] at this
      · intro z
        rw [← hwp] at z
        exact n5 (owned_block z)
    | true =>
      refine hk.fr R5 hT fun u H6 F6 ρ6 e s6 f6 R6 o6 hd6 hT => ?_
      obtain ⟨ex6, hF6⟩ := f6.loose R5 ex5 hF5 n5
      have n6 : ¬ Owned σ4 ρ6 p := fun z => (o6 p z).elim n5 fun h => by rw [ex5] at h; cases h
      refine he.fr R6 hT fun u7 H7 F7 ρ7 e7 s7 f7 R7 o7 hd7 hT => ?_
      obtain ⟨ex7, hF7⟩ := f7.loose R6 ex6 hF6 n6
      have n7 : ¬ Owned σ4 ρ7 p := fun z => (o7 p z).elim n6 fun h => by rw [ex6] at h; cases h
      obtain ⟨key, hky, hz, hT⟩ := hT
      have hx7 := (hx5.up s6).up s7
      refine ⟨xs, key, keyD_ok hd6 hky, ex7, by rw [hx7.len]; exact hz, F7, wipeD ρ7 vs, putD acc key e7, putK xs key u7, (s15.trans s6).trans s7, ?_, upd_same, hx7.put hd7, hF7, ?_, hT⟩
      · have := (R7.poke (o := .dK (putK xs key u7)) hF7 h01 n7 ex7).block hv
        rwa [hwp] at this
      · intro z
        rw [← hwp] at z
        exact n7 (owned_block z)
  · have e : i = ds.length := by omega
    subst e
    refine .inl ⟨hwk.stops H2 hgd, ?_⟩
    have Ru := R1.unblock s R2 hv
    refine k p xs H2 F2 _ acc (s1.trans s) Ru ⟨hF2, h01, fun i o e ho z => ?_⟩ ex hx (wd acc ρ2 hW)
    rcases restore_some e with ⟨_, d, rfl, _⟩ | ⟨h1, h2⟩
    · cases ho
    · exact n2 ⟨i, o, h2, ho, by rw [wipe_get h1]; exact z⟩
/-! ### list(d), sorted(d) -/
def kyD : Key → D
  | .inl i => .int i
  | .inr x => .str x
theorem kyD_ok {F : Hp} (k : Key) : Dr K F (kV k) (kyD k) := by
  cases k with
  | inl i => exact .int i
  | inr x => exact .str x
theorem keys_da {F : Hp} {xs : List (Key × V)} {ds : List (Key × D)} (h : xs.map (·.1) = ds.map (·.1)) : DA K F (xs.map fun kv => kV kv.1) (ds.map fun kv => kyD kv.1) := by
  have e1 : (xs.map fun kv => kV kv.1) = (xs.map (·.1)).map kV := by rw [List.map_map]; rfl
  have e2 : (ds.map fun kv => kyD kv.1) = (ds.map (·.1)).map kyD := by rw [List.map_map]; rfl
  rw [e1, e2, h]
  generalize ds.map (·.1) = ks
  induction ks with
  | nil => exact .nil
  | cons k ks ih => exact .cons (kyD_ok k) ih
def oListD (ds : List D) (Φ : List D → Prop) : Prop := match ds with
  | [.dct ks] => Φ (ks.map fun kv => kyD kv.1)
  | _ => False
theorem rcl_listD : RCL K ps (fun xs H Q => ∃ (a : Addr) (kvs : List (Key × V)), xs = [.ref a] ∧ Rd H a (.dK kvs) ∧ ∀ p, H p = none → Q (.ref p) (upd H p (.lst (kvs.map fun kv => kV kv.1)))) oListD := by
  intro b σ H F ρ xs ds Φ Q R h hT k
  match ds, hT with
  | [.dct ks], hT =>
    obtain ⟨v, r, rfl, h1, h2⟩ := h.inv
    rw [h2.inv_nil]
    obtain ⟨a, ys, rfl, ea, ha⟩ := h1.inv_dct
    exact ⟨a, ys, rfl, Rd.of (R.sub _ _ ea), fun q hq => k q _ _ F _ (Same.refl F) (R.put hq) (R.loose hq) upd_same (keys_da ha.1) hT⟩
def oSortD (ds : List D) (Φ : List D → Prop) : Prop := match ds with
  | [.dct ks] => ∃ ss : List Str, ks.map (·.1) = ss.map Sum.inr ∧ ss.length < 64 ∧ ∀ ys : List Str, ys.Perm ss → sortedS ys = true → Φ (ys.map .str)
  | _ => False
theorem strs_da {F : Hp} (ys : List Str) : DA K F (ys.map V.str) (ys.map .str) := by
  induction ys with
  | nil => exact .nil
  | cons y ys ih => exact .cons (.str y) ih
theorem rcl_sortD : RCL K ps (fun xs H Q => ∃ (a : Addr) (kvs : List (Key × V)) (ks : List Str), xs = [.ref a] ∧ Rd H a (.dK kvs) ∧ kvs.map (·.1) = ks.map Sum.inr ∧ ks.length < 64 ∧
    ∀ ys p, ys.Perm ks → sortedS ys = true → H p = none → Q (.ref p) (upd H p (.lst (ys.map V.str)))) oSortD := by
  intro b σ H F ρ xs ds Φ Q R h hT k
  match ds, hT with
  | [.dct ks], ⟨ss, e, h64, hT⟩ =>
    obtain ⟨v, r, rfl, h1, h2⟩ := h.inv
    rw [h2.inv_nil]
    obtain ⟨a, ys, rfl, ea, ha⟩ := h1.inv_dct
    exact ⟨a, ys, ss, rfl, Rd.of (R.sub _ _ ea), ha.1.trans e, h64, fun zs q hp hs hq => k q _ _ F _ (Same.refl F) (R.put hq) (R.loose hq) upd_same (strs_da zs) (hT zs hp hs)⟩
/-- list(d), sorted(d) of the slot's dict -/
def dSortS (i : Nat) : DLs := fun ρ Φ => ∃ ks, peek ρ i = some (.dct ks) ∧ oSortD [.dct ks] fun l => Φ l ρ
theorem rl_sortS {i : Nat} : RL K ps (tCB (fun xs H Q => ∃ (a : Addr) (kvs : List (Key × V)) (ks : List Str), xs = [.ref a] ∧ Rd H a (.dK kvs) ∧ kvs.map (·.1) = ks.map Sum.inr ∧ ks.length < 64 ∧
    ∀ ys p, ys.Perm ks → sortedS ys = true → H p = none → Q (.ref p) (upd H p (.lst (ys.map V.str)))) (tCons (tVar i) tNil)) (dSortS i) := by
  intro b σ H F ρ Φ Q R0 hT k
  obtain ⟨ks, hp, ss, e, h64, hT⟩ := hT
  obtain ⟨v, hv⟩ := slot_some R0 (peek_some hp)
  obtain ⟨a, xs, rfl, ea, ha⟩ := peek_dct R0 hp hv
  exact ⟨_, hv, a, xs, ss, rfl, Rd.of ea, ha.1.trans e, h64, fun zs q hp hs hq => k q _ _ F ρ _ (Same.refl F) (R0.put hq) (R0.loose hq) upd_same (strs_da zs) (hT zs hp hs)⟩
/-! ### == of nested data -/
mutual
def toPy : D → Option PyData
  | .non => some .none
  | .bl b => some (.bool b)
  | .int i => some (.int i)
  | .str x => some (.str x)
  | .lst l => (toPys l).map .list
  | .tup l => (toPys l).map .tuple
  | _ => none
def toPys : List D → Option (List PyData)
  | [] => some []
  | d :: l => match toPy d, toPys l with
    | some p, some q => some (p :: q)
    | _, _ => none
end
mutual
theorem toPy_ok {F H : Hp} (s : Sub F H) : ∀ {d : D} {v : V} {p : PyData}, Dr K F v d → toPy d = some p → Dp K H v p
  | .non, v, p, h, e => by rw [toPy] at e; cases e; rw [h.inv_non]; exact .non
  | .bl b, v, p, h, e => by rw [toPy] at e; cases e; rw [h.inv_bl]; exact .bl b
  | .int i, v, p, h, e => by rw [toPy] at e; cases e; rw [h.inv_int]; exact .int i
  | .str x, v, p, h, e => by rw [toPy] at e; cases e; rw [h.inv_str]; exact .str x
  | .lst l, v, p, h, e => by
    rw [toPy] at e
    obtain ⟨q, hq, rfl⟩ := Option.map_eq_some_iff.mp e
    obtain ⟨a, xs, rfl, ea, ha⟩ := h.inv_lst
    exact .lst (SqL.of (s _ _ ea)) (toPys_ok s ha hq)
  | .tup l, v, p, h, e => by
    rw [toPy] at e
    obtain ⟨q, hq, rfl⟩ := Option.map_eq_some_iff.mp e
    obtain ⟨a, xs, rfl, ea, ha⟩ := h.inv_tup
    exact .tup (sqT_same s ea) (toPys_ok s ha hq)
  | .ty _, v, p, h, e => by rw [toPy] at e <;> first | cases e | (intros; contradiction)
  | .fn _, v, p, h, e => by rw [toPy] at e <;> first | cases e | (intros; contradiction)
  | .scr _, v, p, h, e => by rw [toPy] at e <;> first | cases e | (intros; contradiction)
  | .dct _, v, p, h, e => by rw [toPy] at e <;> first | cases e | (intros; contradiction)
  | .obj _ _, v, p, h, e => by rw [toPy] at e <;> first | cases e | (intros; contradiction)
theorem toPys_ok {F H : Hp} (s : Sub F H) : ∀ {ds : List D} {xs : List V} {ps : List PyData}, DA K F xs ds → toPys ds = some ps → DpAll K H xs ps
  | [], xs, ps, h, e => by rw [toPys] at e; cases e; rw [h.inv_nil]; exact .nil
  | d :: ds, xs, ps, h, e => by
    obtain ⟨v, r, rfl, h1, h2⟩ := h.inv
    rw [toPys] at e
    split at e
    · rename_i p q hp hq
      cases e
      exact .cons (toPy_ok s h1 hp) (toPys_ok s h2 hq)
    · cases e
end
def oEqP (neg : Bool) : DO := fun d e Φ => ∃ p q, toPy d = some p ∧ toPy e = some q ∧ SeqAt.shaped p = true ∧ SeqAt.shaped q = true ∧ Φ (.bl (if neg then !PyData.eqv p q else PyData.eqv p q))
theorem ro_eqD : RO K ps (rEqD K) (oEqP false) := by
  intro b σ H F ρ x y d e Φ Q R h1 h2 hT k
  obtain ⟨p, q, e1, e2, s1, s2, hT⟩ := hT
  exact ⟨p, q, toPy_ok R.sub h1 e1, toPy_ok R.sub h2 e2, s1, s2, k _ H F _ (Same.refl F) R (.bl _) hT⟩
theorem ro_neD : RO K ps (rNeD K) (oEqP true) := by
  intro b σ H F ρ x y d e Φ Q R h1 h2 hT k
  obtain ⟨p, q, e1, e2, s1, s2, hT⟩ := hT
  exact ⟨p, q, toPy_ok R.sub h1 e1, toPy_ok R.sub h2 e2, s1, s2, k _ H F _ (Same.refl F) R (.bl _) hT⟩
end
@[simp] theorem oListD_ (ks : List (Key × D)) (Φ : List D → Prop) : oListD [.dct ks] Φ = Φ (ks.map fun kv => kyD kv.1) := Eq.trans rfl rfl
@[simp] theorem oSortD_ (ks : List (Key × D)) (Φ : List D → Prop) : oSortD [.dct ks] Φ = ∃ ss : List Str, ks.map (·.1) = ss.map Sum.inr ∧ ss.length < 64 ∧ ∀ ys : List Str, ys.Perm ss → sortedS ys = true → Φ (ys.map .str) := Eq.trans rfl rfl
@[simp] theorem dSortS_ (i : Nat) (ρ : DL.Env) (Φ : List D → DL.Env → Prop) : dSortS i ρ Φ = ∃ ks, peek ρ i = some (.dct ks) ∧ oSortD [.dct ks] fun l => Φ l ρ := Eq.trans rfl rfl
@[simp] theorem oEqP_ (neg : Bool) (d e : D) (Φ : D → Prop) : oEqP neg d e Φ = ∃ p q, toPy d = some p ∧ toPy e = some q ∧ SeqAt.shaped p = true ∧ SeqAt.shaped q = true ∧ Φ (.bl (if neg then !PyData.eqv p q else PyData.eqv p q)) := Eq.trans rfl rfl
theorem dc_inv {Ti : DLs} {G : DG} {Tt : DT} {Tk Tv : DE} {vs : List Nat} {ρ : DL.Env} {Φ : List (Key × D) → DL.Env → Prop} (ds : List D) (ρ1 : DL.Env) (W : Nat → List (Key × D) → DL.Env → Prop) (hI : ∀ Ψ : List D → DL.Env → Prop, Ψ ds ρ1 → Ti ρ Ψ) (h0 : W 0 [] (wipeD ρ1 vs))
    (hs : ∀ k x acc ρ, ds[k]? = some x → W k acc ρ → G x ρ fun ρ2 => Tt ρ2 fun c ρ3 => if c = true then Tk ρ3 fun y ρ4 => Tv ρ4 fun z ρ5 => ∃ key, keyD y = some key ∧ acc.length < sizeLine ∧ W (k + 1) (putD acc key z) (wipeD ρ5 vs) else W (k + 1) acc (wipeD ρ3 vs))
    (hd : ∀ acc ρ, W ds.length acc ρ → Φ acc (restore ρ ρ1 vs)) : dDc Ti G Tt Tk Tv vs ρ Φ := hI _ ⟨W, h0, hs, hd⟩
end DL
/-! The end of a law whose program makes lambdas. -/
namespace FE
open PySem PySem.Spec PyProof.Rows L2 DL
/-- of a def: its code object and the empty table of this -/
def TabAt (mg : Str → Option Value) (h : Heap) (x : Str) : Prop := ∃ a o fd c P, mg x = some (.ref a) ∧ h.get? a = some o ∧ o.data = .func fd ∧ fd.code = .ref c ∧ h.IsCode c P #[] ∧ h.TableAt c P #[]
theorem walk_tab {l : PySem.W.OpenLaw} {n k : Nat} {q : Program} {loose : List Str} {XP : (Str → Option Value) → Heap → Prop} {YP : World → Heap → Prop} {d : DefRec} {K : Params → PySem.W.Frag} {CX : World → CXT} {x : Str} (xs : List Str)
    (hn : l.most = some n) (hn2 : n ≤ sizeLine) (hdf : d.params.defaults = []) (hr : Room k callerA) (hx : (xs.all fun x => (recsOf q).any fun e => e.name == x) = true) (hY : ∀ (w : World) (h : Heap), YP w h → (K w.params).In h)
    (F : ∀ (w : World) (mg : Str → Option Value) (fa : Addr) (h : Heap), (K w.params).In h → h.Ns mainGlobals mg → mg d.name = some (.ref fa) → (∀ x ∈ xs, TabAt mg h x) → LamX.LawAtS l w (K w.params) (CX w) k n x mg fa h)
    (hCX : ∀ (w : World) (H : Hp) (s : Shared) (e : Value) (s' : Shared), CX w [] H s (fun _ _ _ => False) e s' → False) : PySem.W.WalkO q loose XP YP l.row.toRowW d [] (fun f vs => PySem.call f vs) := by
  refine Att.attach_callB hn hdf fun w s₀ s₁ mg mb fa o pm cd doc a vs ns G Y ho hd hcd hmg hobj hints hlen hbits hg => ?_
  have inK := hY w _ Y
  have tabs : ∀ x ∈ xs, TabAt mg s₁.heap x := fun x hm => by
    obtain ⟨r, r1, r2⟩ := List.any_eq_true.mp (List.all_eq_true.mp hx x hm)
    have t := G.T.tab r r1
    rw [beq_iff_eq.mp r2] at t
    exact t
  obtain ⟨fd, cs, sp, a1, a2, a3, a4, a5, a6⟩ := F w mg fa _ inK G.T.g hmg tabs
  exact LamX.law_callTs inK G.T.g G.T.b G.T.builtins G.T.nolimit hg a1 a2 a3 G.T.bmain hobj hints (Nat.le_trans hlen hn2) hr a6 a4 (fun H z1 z2 => a5 H a ns hlen hbits z1 z2) fun H e s' => hCX w H s₁ e s'
theorem tab_at {K : PySem.W.Frag} {h : Heap} {mg : Str → Option Value} {x : Str} {f c P : Addr} {oc e : Value} {od dd : Option Addr} {fd : FuncData} {sl sl' : Array (Option Value)} {vs : Array Value} (inK : K.In h) (hm : mg x = some (.ref f)) (lf : K.lookup f = some ⟨oc, od, .func fd, sl⟩) (hc : fd.code = .ref c)
    (lc : K.lookup c = some ⟨e, dd, .fields vs, sl'⟩) (hp : vs[11]? = some (.ref P)) (t : TabAt mg h x) : h.get? P = some { cls := .none, data := .fields #[] } ∧ PySem.W.CodeHd h c P := by
  obtain ⟨a, o, fd', c', P', t1, t2, t3, t4, t5, t6⟩ := t
  rw [hm] at t1
  cases t1
  rw [inK _ _ lf] at t2
  cases t2
  cases t3
  rw [hc] at t4
  cases t4
  have t6' := t6
  obtain ⟨⟨o, vs', u1, u2, u3, u4⟩, u5⟩ := t6
  rw [inK _ _ lc] at u1
  cases u1
  cases u3
  rw [hp] at u4
  cases u4
  exact ⟨u5, PySem.W.CodeHd.of t5 t6'⟩
theorem law_entry {K : PySem.W.Frag} {T0 : List (Addr × Str)} {sL : NB.SV} {a : Addr} {ns : List Int} {H : Hp} (hT : ∀ p ∈ T0, H p.1 = some (.tbl #[])) (hS : SqL K H a (ns.map V.int)) (hs : ∀ Φ : D → Prop, Φ (.bl true) → sL [.scr ns] Φ) :
    @spOf ⟨T0, fun _ => none⟩ K (pureS sL) [.ref a] H (fun v _ => v = .bl true) fun _ _ _ => False := by
  have core : ∀ F : Hp, Sub F H → (∀ b o, F b = some o → NT o) → SqL K F a (ns.map V.int) → @spOf ⟨T0, fun _ => none⟩ K (pureS sL) [.ref a] H (fun v _ => v = .bl true) fun _ _ _ => False := fun F sub nt hF => by
    refine ⟨F, [.d (.scr ns)], fun d _ => d = .bl true, ⟨sub, nt, fun p hp => LamX.TabS.nil (hT p hp), fun b o e => nomatch e⟩, ⟨rfl, fun i v o e1 e2 => ?_, fun i j o u v n e1 o1 => ?_⟩, ⟨[.scr ns], rfl, hs _ rfl⟩, fun F' H' v d os' _ _ _ _ _ _ _ hd hΦ => ?_⟩
    · match i, e1, e2 with
      | 0, e1, e2 =>
        cases e1
        cases e2
        exact Dr.scr hF
      | i + 1, e1, e2 => cases e1
    · match i, e1 with
      | 0, e1 => cases e1; cases o1
      | i + 1, e1 => cases e1
    · have hΦ : d = .bl true := hΦ
      subst hΦ
      exact hd.inv_bl
  have one : ∀ o, H a = some o → NT o → ∃ F : Hp, F a = some o ∧ Sub F H ∧ ∀ b o, F b = some o → NT o := fun o e nt => by
    have q : ∀ b u, (fun b => if b = a then some o else none) b = some u → b = a ∧ u = o := fun b u eu => by
      have eu : (if b = a then some o else none) = some u := eu
      split at eu
      · exact ⟨by assumption, (Option.some.inj eu).symm⟩
      · cases eu
    exact ⟨fun b => if b = a then some o else none, if_pos rfl, fun b u eu => by rw [(q b u eu).1, (q b u eu).2]; exact e, fun b u eu => by rw [(q b u eu).2]; exact nt⟩
  rcases hS with (h | ⟨o, h⟩) | h
  · obtain ⟨F, f1, f2, f3⟩ := one _ h (fun t z => by cases z)
    exact core F f2 f3 (.inl (.inl f1))
  · obtain ⟨F, f1, f2, f3⟩ := one _ h (fun t z => by cases z)
    exact core F f2 f3 (.inl (.inr ⟨o, f1⟩))
  · exact core (fun _ => none) (fun b o e => nomatch e) (fun b o e => nomatch e) (.inr h)
end FE
/-! A layer with cells: slots hold data, which may tell of a cell by its address; a cell is a list, a dict, an object, a draw that may change. Part 1. -/
namespace HC
open PySem PySem.Spec PyProof.Rows L2 DL
inductive Cell where
  | l (ds : List D) | m (ks : List (Key × D)) | o (C : Addr) (fs : List (Str × D)) | draw | z (d : D)
abbrev Cells := List (Addr × Cell)
def look : Cells → Addr → Option Cell
  | [], _ => none
  | (q, c) :: M, p => if q = p then some c else look M p
def put : Cells → Addr → Cell → Cells
  | [], _, _ => []
  | (q, c) :: M, p, x => if q = p then (q, x) :: M else (q, c) :: put M p x
theorem look_put {p : Addr} {x : Cell} : ∀ {M : Cells} {a : Addr}, look M p ≠ none → look (put M p x) a = if a = p then some x else look M a
  | [], a, h => absurd rfl h
  | (q, c) :: M, a, h => by
    unfold look at h
    unfold put
    by_cases hq : q = p
    · rw [if_pos hq]
      unfold look
      by_cases ha : q = a
      · rw [if_pos ha, if_pos (ha.symm.trans hq)]
      · rw [if_neg ha, if_neg (fun z => ha (hq.trans z.symm)), if_neg ha]
    · rw [if_neg hq] at h
      rw [if_neg hq]
      unfold look
      by_cases ha : q = a
      · rw [if_pos ha, if_neg (fun z => hq (ha.trans z)), if_pos ha]
      · rw [if_neg ha, if_neg ha]
        exact look_put h
theorem put_none {p : Addr} {x : Cell} : ∀ {M : Cells} {a : Addr}, look (put M p x) a = none ↔ look M a = none
  | [], a => Iff.rfl
  | (q, c) :: M, a => by
    unfold put
    by_cases hq : q = p
    · rw [if_pos hq]
      unfold look
      by_cases ha : q = a
      · rw [if_pos ha, if_pos ha]
        exact ⟨fun z => (by cases z), fun z => (by cases z)⟩
      · rw [if_neg ha, if_neg ha]
    · rw [if_neg hq]
      unfold look
      by_cases ha : q = a
      · rw [if_pos ha, if_pos ha]
      · rw [if_neg ha, if_neg ha]
        exact put_none
/-- the cell c stands at p -/
def At (K : PySem.W.Frag) (F H : Hp) (p : Addr) : Cell → Prop
  | .l ds => F p = none ∧ ∃ xs, H p = some (.lst xs) ∧ DA K F xs ds
  | .m ks => F p = none ∧ ∃ xs, H p = some (.dK xs) ∧ DM K F xs ks
  | .o C fs => F p = none ∧ ∃ dx xs, H p = some (.ins C dx xs) ∧ DM K F xs fs
  | .draw => F p = none ∧ DrawIn F H p
  | .z d => Dr K F (.ref p) d ∧ ∃ u, F p = some u
structure Bs where
  H0 : Hp
  F0 : Hp
  O : Addr → Prop
abbrev Env := List (Option D)
structure Rep [Tbs] (K : PySem.W.Frag) (b : Bs) (σ : L2.St) (H F : Hp) (ρ : Env) (M : Cells) : Prop where
  sub : ∀ a o, F a = some o → H a = some o
  grow : Gr b.F0 F
  keep : ∀ a o, b.H0 a = some o → ¬ b.O a → NT o → H a = some o
  new : ∀ a o, F a = some o → b.F0 a = some o ∨ b.H0 a = none ∨ b.O a
  slot : ∀ (i : Nat) d, ρ[i]? = some (some d) → ∃ v, σ[i]? = some (some v) ∧ Dr K F v d
  cell : ∀ p c, look M p = some c → At K F H p c ∧ (b.H0 p = none ∨ b.O p)
  len : ρ.length = σ.length
  nt : ∀ a o, F a = some o → NT o
  dom : ∀ a o, b.H0 a = some o → ∃ o', H a = some o'
  tabs : LamX.Tabs Tbs.T H
theorem At.kind {K : PySem.W.Frag} {F H : Hp} {p : Addr} {c : Cell} (h : At K F H p c) (s : ∀ a o, F a = some o → H a = some o) (n : ∀ a o, F a = some o → NT o) : ∃ u, H p = some u ∧ NT u := by
  cases c with
  | l ds => obtain ⟨_, xs, e, _⟩ := h; exact ⟨_, e, by intro t z; cases z⟩
  | m ks => obtain ⟨_, xs, e, _⟩ := h; exact ⟨_, e, by intro t z; cases z⟩
  | o C fs => obtain ⟨_, dx, xs, e, _⟩ := h; exact ⟨_, e, by intro t z; cases z⟩
  | draw => obtain ⟨_, _, _, _, _, _, e, _⟩ := h; exact ⟨_, e, by intro t z; cases z⟩
  | z d => obtain ⟨_, u, e⟩ := h; exact ⟨_, s _ _ e, n _ _ e⟩
theorem At.up {K : PySem.W.Frag} {F H F' H' : Hp} {p : Addr} {c : Cell} (h : At K F H p c) (s : Same F F') (e : H' p = H p) (hF : F p = none → F' p = none) : At K F' H' p c := by
  cases c with
  | l ds => obtain ⟨h0, xs, h1, h2⟩ := h; exact ⟨hF h0, xs, e.trans h1, h2.up s⟩
  | m ks => obtain ⟨h0, xs, h1, h2⟩ := h; exact ⟨hF h0, xs, e.trans h1, h2.up s⟩
  | o C fs => obtain ⟨h0, dx, xs, h1, h2⟩ := h; exact ⟨hF h0, dx, xs, e.trans h1, h2.up s⟩
  | draw => obtain ⟨h0, sc, ns, i, x, y, h1, h2, h3⟩ := h; exact ⟨hF h0, sc, ns, i, x, y, e.trans h1, s _ _ h2, h3⟩
  | z d => obtain ⟨h1, u, h2⟩ := h; exact ⟨h1.up s, u, s _ _ h2⟩
theorem ins_nc (C x : Addr) (xs : List (Str × V)) (c : Addr) (q : Str) : HO.ins C x xs ≠ LamX.CodeO c q := fun z => by
  unfold LamX.CodeO at z
  cases z
section
variable [Tbs] {K : PySem.W.Frag} {b : Bs} {σ : L2.St} {H F : Hp} {ρ : Env} {M : Cells}
theorem Rep.fresh (R : Rep K b σ H F ρ M) {p : Addr} (h : H p = none) : F p = none ∧ b.H0 p = none ∧ look M p = none := by
  refine ⟨?_, ?_, ?_⟩
  · cases e : F p with
    | none => rfl
    | some o => rw [R.sub _ _ e] at h; cases h
  · cases e : b.H0 p with
    | none => rfl
    | some o => obtain ⟨o', e'⟩ := R.dom _ _ e; rw [e'] at h; cases h
  · cases e : look M p with
    | none => rfl
    | some c =>
      obtain ⟨u, eu, _⟩ := (R.cell p c e).1.kind R.sub R.nt
      rw [h] at eu
      cases eu
/-- the heap has grown; the kept part too, by new things; all that is no table stays -/
theorem Rep.grownT {H' F' : Hp} (R : Rep K b σ H F ρ M) (hs : ∀ a o, H a = some o → NT o → H' a = some o) (th : ∀ a o, H a = some o → ∃ o', H' a = some o') (fs : Same F F') (sub : ∀ a o, F' a = some o → H' a = some o) (new : ∀ a o, F' a = some o → F a = some o ∨ H a = none) (nn : ∀ a o, F' a = some o → NT o) (tb : LamX.Tabs Tbs.T H') : Rep K b σ H' F' ρ M where
  sub := sub
  grow := R.grow.trans fs
  keep := fun a o e n z => hs _ _ (R.keep a o e n z) z
  new := fun a o e => by
    rcases new a o e with h | h
    · exact R.new a o h
    · exact .inr (.inl (R.fresh h).2.1)
  slot := fun i d e => by
    obtain ⟨v, h1, h2⟩ := R.slot i d e
    exact ⟨v, h1, h2.up fs⟩
  cell := fun p c e => by
    obtain ⟨h1, h2⟩ := R.cell p c e
    obtain ⟨u, eu, nu⟩ := h1.kind R.sub R.nt
    refine ⟨h1.up fs ((hs _ _ eu nu).trans eu.symm) fun hF => ?_, h2⟩
    cases e' : F' p with
    | none => rfl
    | some o' =>
      rcases new p o' e' with h | h
      · rw [hF] at h; cases h
      · rw [eu] at h; cases h
  len := R.len
  nt := nn
  dom := fun a o e => by
    obtain ⟨o', e'⟩ := R.dom a o e
    exact th _ _ e'
  tabs := tb
theorem Rep.grown {H' F' : Hp} (R : Rep K b σ H F ρ M) (hs : Same H H') (fs : Same F F') (sub : ∀ a o, F' a = some o → H' a = some o) (new : ∀ a o, F' a = some o → F a = some o ∨ H a = none) (nn : ∀ a o, F' a = some o → F a = some o ∨ NT o) : Rep K b σ H' F' ρ M :=
  R.grownT (fun a o e _ => hs _ _ e) (fun a o e => ⟨o, hs _ _ e⟩) fs sub new (fun a o e => (nn a o e).elim (R.nt a o) id) (R.tabs.ext hs)
theorem Rep.alloc (R : Rep K b σ H F ρ M) {p : Addr} {o : HO} (h : H p = none) (hn : NT o := by intro t z; cases z) : Rep K b σ (upd H p o) (upd F p o) ρ M := by
  obtain ⟨hF, _, _⟩ := R.fresh h
  refine R.grown (SX.same_upd h) (SX.same_upd hF) (fun a u e => ?_) (fun a u e => ?_) fun a u e => ?_
  · by_cases ha : a = p
    · subst ha; rw [upd_same] at e ⊢; exact e
    · rw [upd_ne ha] at e ⊢; exact R.sub _ _ e
  · by_cases ha : a = p
    · subst ha; exact .inr h
    · rw [upd_ne ha] at e; exact .inl e
  · by_cases ha : a = p
    · subst ha; rw [upd_same] at e; cases e; exact .inr hn
    · rw [upd_ne ha] at e; exact .inl e
theorem Rep.lay (R : Rep K b σ H F ρ M) {p : Addr} {o : HO} (h : H p = none) : Rep K b σ (upd H p o) F ρ M := by
  obtain ⟨hF, _, _⟩ := R.fresh h
  refine R.grown (SX.same_upd h) (Same.refl F) (fun a u e => ?_) (fun a u e => .inl e) fun a u e => .inl e
  rw [upd_ne (fun z => by rw [z, hF] at e; cases e)]
  exact R.sub _ _ e
def Loose (b : Bs) (F : Hp) (M : Cells) (p : Addr) : Prop := F p = none ∧ b.H0 p = none ∧ look M p = none
theorem Rep.loose (R : Rep K b σ H F ρ M) {p : Addr} (h : H p = none) : Loose b F M p := R.fresh h
/-- fewer cells, fewer slots -/
theorem Rep.weak {ρ' : Env} {M' : Cells} (R : Rep K b σ H F ρ M) (hl : ρ'.length = ρ.length) (h : ∀ (i : Nat) o, ρ'[i]? = some (some o) → ρ[i]? = some (some o)) (hM : ∀ p c, look M' p = some c → look M p = some c) : Rep K b σ H F ρ' M' :=
  ⟨R.sub, R.grow, R.keep, R.new, fun i o e => R.slot i o (h i o e), fun p c e => R.cell p c (hM p c e), hl.trans R.len, R.nt, R.dom, R.tabs⟩
theorem Rep.setD (R : Rep K b σ H F ρ M) {i : Nat} {v : V} {d : D} (h : Dr K F v d) : Rep K b (σ.set i (some v)) H F (ρ.set i (some d)) M where
  sub := R.sub
  grow := R.grow
  keep := R.keep
  new := R.new
  nt := R.nt
  dom := R.dom
  tabs := R.tabs
  cell := R.cell
  len := by rw [List.length_set, List.length_set, R.len]
  slot := fun j o e => by
    rcases set_some e with ⟨rfl, q1⟩ | ⟨n, q1⟩
    · cases q1
      have hl : j < σ.length := by
        have := (List.getElem?_eq_some_iff.mp e).1
        rwa [List.length_set, R.len] at this
      exact ⟨v, List.getElem?_set_self hl, h⟩
    · rw [List.getElem?_set_ne (Ne.symm n)]
      exact R.slot j o q1
/-- a loose thing becomes a cell -/
theorem Rep.add (R : Rep K b σ H F ρ M) {p : Addr} {c : Cell} (lo : Loose b F M p) (h : At K F H p c) : Rep K b σ H F ρ ((p, c) :: M) where
  sub := R.sub
  grow := R.grow
  keep := R.keep
  new := R.new
  nt := R.nt
  dom := R.dom
  tabs := R.tabs
  slot := R.slot
  len := R.len
  cell := fun q x e => by
    unfold look at e
    by_cases hq : p = q
    · rw [if_pos hq] at e
      cases e
      subst hq
      exact ⟨h, .inl lo.2.1⟩
    · rw [if_neg hq] at e
      exact R.cell q x e
/-- a loose thing is kept for good -/
theorem Rep.frzLoose (R : Rep K b σ H F ρ M) {p : Addr} {u : HO} (lo : Loose b F M p) (hx : H p = some u) (hn : NT u := by intro t z; cases z) : Same F (upd F p u) ∧ Rep K b σ H (upd F p u) ρ M := by
  have sF : Same F (upd F p u) := SX.same_upd lo.1
  refine ⟨sF, ⟨fun a w e1 => ?_, R.grow.trans sF, R.keep, fun a w e1 => ?_, fun j d e1 => ?_, fun q c e1 => ?_, R.len, nt_upd R.nt hn, R.dom, R.tabs⟩⟩
  · by_cases ha : a = p
    · subst ha; rw [upd_same] at e1; cases e1; exact hx
    · rw [upd_ne ha] at e1; exact R.sub _ _ e1
  · by_cases ha : a = p
    · subst ha; exact .inr (.inl lo.2.1)
    · rw [upd_ne ha] at e1; exact R.new _ _ e1
  · obtain ⟨v, g1, g2⟩ := R.slot j d e1
    exact ⟨v, g1, g2.up sF⟩
  · obtain ⟨h1, h2⟩ := R.cell q c e1
    have nq : q ≠ p := fun z => by rw [z, lo.2.2] at e1; cases e1
    exact ⟨h1.up sF rfl fun hF => by rw [upd_ne nq]; exact hF, h2⟩
/-- a cell is written -/
theorem Rep.write (R : Rep K b σ H F ρ M) {p : Addr} {c c' : Cell} {u u0 : HO} (e : look M p = some c) (hF : F p = none) (eu0 : H p = some u0) (n0 : NT u0) (c0 : ∀ x q, u0 ≠ LamX.CodeO x q) (h : At K F (upd H p u) p c') : Rep K b σ (upd H p u) F ρ (put M p c') := by
  have hb := (R.cell p c e).2
  have hne : look M p ≠ none := by rw [e]; exact fun z => (by cases z)
  refine ⟨fun a w e1 => ?_, R.grow, fun a w e1 n1 nz => ?_, R.new, R.slot, fun q x e1 => ?_, R.len, R.nt, fun a w e1 => ?_, tabs_but R.tabs eu0 n0 c0 fun a w na e1 => (upd_ne na).trans e1⟩
  · rw [upd_ne (fun z => by rw [z, hF] at e1; cases e1)]
    exact R.sub _ _ e1
  · by_cases ha : a = p
    · subst ha
      rcases hb with z | z
      · rw [z] at e1; cases e1
      · exact absurd z n1
    · rw [upd_ne ha]
      exact R.keep _ _ e1 n1 nz
  · rw [look_put hne] at e1
    by_cases hq : q = p
    · subst hq
      rw [if_pos rfl] at e1
      cases e1
      exact ⟨h, hb⟩
    · rw [if_neg hq] at e1
      obtain ⟨h1, h2⟩ := R.cell q x e1
      exact ⟨h1.up (Same.refl F) (upd_ne hq) id, h2⟩
  · by_cases ha : a = p
    · subst ha; exact ⟨_, upd_same⟩
    · rw [upd_ne ha]; exact R.dom _ _ e1
/-- a cell is kept for good -/
theorem Rep.frz (R : Rep K b σ H F ρ M) {p : Addr} {c : Cell} {u : HO} {d : D} (e : look M p = some c) (hF : F p = none) (eu : H p = some u) (nu : NT u) (hd : Dr K (upd F p u) (.ref p) d) : Same F (upd F p u) ∧ Rep K b σ H (upd F p u) ρ (put M p (.z d)) := by
  have sF : Same F (upd F p u) := SX.same_upd hF
  have hb := (R.cell p c e).2
  have hne : look M p ≠ none := by rw [e]; exact fun z => (by cases z)
  refine ⟨sF, ⟨fun a w e1 => ?_, R.grow.trans sF, R.keep, fun a w e1 => ?_, fun j d e1 => ?_, fun q x e1 => ?_, R.len, nt_upd R.nt nu, R.dom, R.tabs⟩⟩
  · by_cases ha : a = p
    · subst ha; rw [upd_same] at e1; cases e1; exact eu
    · rw [upd_ne ha] at e1; exact R.sub _ _ e1
  · by_cases ha : a = p
    · subst ha; exact .inr hb
    · rw [upd_ne ha] at e1; exact R.new _ _ e1
  · obtain ⟨v, g1, g2⟩ := R.slot j d e1
    exact ⟨v, g1, g2.up sF⟩
  · rw [look_put hne] at e1
    by_cases hq : q = p
    · subst hq
      rw [if_pos rfl] at e1
      cases e1
      exact ⟨⟨hd, u, upd_same⟩, hb⟩
    · rw [if_neg hq] at e1
      obtain ⟨h1, h2⟩ := R.cell q x e1
      exact ⟨h1.up sF rfl fun hF => by rw [upd_ne hq]; exact hF, h2⟩
/-- a loose thing is changed -/
theorem Rep.poke (R : Rep K b σ H F ρ M) {p : Addr} {o u : HO} (lo : Loose b F M p) (e : H p = some u) (hz : NT u := by intro t z; cases z) (hc : ∀ c q, u ≠ LamX.CodeO c q := by first | exact lst_nc _ | exact dK_nc _ | exact ins_nc _ _ _) : Rep K b σ (upd H p o) F ρ M where
  sub := fun a w e1 => by
    rw [upd_ne (fun z => by rw [z, lo.1] at e1; cases e1)]
    exact R.sub a w e1
  grow := R.grow
  nt := R.nt
  dom := fun a w e1 => by
    rw [upd_ne (fun z => by rw [z, lo.2.1] at e1; cases e1)]
    exact R.dom a w e1
  tabs := tabs_but R.tabs e hz hc fun a w na e1 => by rw [upd_ne na]; exact e1
  keep := fun a w e1 n nz => by
    rw [upd_ne (fun z => by rw [z, lo.2.1] at e1; cases e1)]
    exact R.keep a w e1 n nz
  new := R.new
  slot := R.slot
  len := R.len
  cell := fun q c e1 => by
    obtain ⟨h1, h2⟩ := R.cell q c e1
    have nq : q ≠ p := fun z => by rw [z, lo.2.2] at e1; cases e1
    exact ⟨h1.up (Same.refl F) (upd_ne nq) id, h2⟩
/-! ### the layer without cells -/
abbrev ob (H F : Hp) : DL.Bs := ⟨H, F, [], fun _ => False⟩
theorem Rep.old (R : Rep K b σ H F ρ M) : DL.Rep K [] (ob H F) σ H F (List.replicate σ.length none) := by
  have nn : ∀ (i : Nat) (o : OV), (List.replicate σ.length (none : Option OV))[i]? ≠ some (some o) := fun i o e => by
    have := List.mem_of_getElem? e
    rw [List.mem_replicate] at this
    cases this.2
  exact ⟨R.sub, ⟨Same.refl F, R.grow.b⟩, fun a o e _ _ => e, fun a z => z.elim, fun a o e => .inl e, fun i o e => absurd e (nn i o), fun i j o u v n e => absurd e (nn i o), List.length_replicate, fun i h => (nomatch h), R.nt, fun a o e => ⟨o, e⟩, R.tabs⟩
theorem Rep.oldBack {σ' : L2.St} {H' F' : Hp} {ρ' : DL.Env} (R : Rep K b σ H F ρ M) (R' : DL.Rep K [] (ob H F) σ' H' F' ρ') (s : Same F F') : Rep K b σ H' F' ρ M :=
  R.grownT (fun a o e nz => R'.keep a o e (fun z => z) nz) (fun a o e => R'.dom a o e) s R'.sub (fun a o e => (R'.new a o e).elim .inl fun z => z.elim .inr False.elim) R'.nt R'.tabs
/-! ### what has happened since here -/
def here (H F : Hp) (M : Cells) : Bs := ⟨H, F, fun a => look M a ≠ none⟩
theorem Rep.here (R : Rep K b σ H F ρ M) : Rep K (here H F M) σ H F ρ M :=
  ⟨R.sub, ⟨Same.refl F, R.grow.b⟩, fun a o e _ _ => e, fun a o e => .inl e, R.slot, fun p c e => ⟨(R.cell p c e).1, .inr (show look M p ≠ none by rw [e]; exact fun z => (by cases z))⟩, R.len, R.nt, fun a o e => ⟨o, e⟩, R.tabs⟩
theorem Rep.cellOf (R : Rep K b σ H F ρ M) {p : Addr} (h : look M p ≠ none) : (b.H0 p = none ∨ b.O p) ∧ ∃ u, H p = some u ∧ NT u := by
  cases e : look M p with
  | none => exact absurd e h
  | some c => exact ⟨(R.cell p c e).2, (R.cell p c e).1.kind R.sub R.nt⟩
theorem Rep.back {σ' : L2.St} {H' F' : Hp} {ρ' : Env} {M' : Cells} (R : Rep K b σ H F ρ M) (R' : Rep K (HC.here H F M) σ' H' F' ρ' M') : Rep K b σ' H' F' ρ' M' where
  sub := R'.sub
  grow := R.grow.trans R'.grow.a
  nt := R'.nt
  dom := fun a o e => by
    obtain ⟨o1, e1⟩ := R.dom a o e
    exact R'.dom a o1 e1
  tabs := R'.tabs
  keep := fun a o e n nz => by
    refine R'.keep a o (R.keep a o e n nz) (fun z => ?_) nz
    rcases (R.cellOf z).1 with h | h
    · rw [h] at e; cases e
    · exact n h
  new := fun a o e => by
    rcases R'.new a o e with h | h | h
    · exact R.new a o h
    · exact .inr (.inl (R.fresh h).2.1)
    · exact .inr (R.cellOf h).1
  slot := R'.slot
  len := R'.len
  cell := fun p c e => by
    obtain ⟨h1, h2⟩ := R'.cell p c e
    refine ⟨h1, ?_⟩
    rcases h2 with h | h
    · exact .inl (R.fresh h).2.1
    · exact (R.cellOf h).1
structure Fr (M : Cells) (H F H' F' : Hp) (M' : Cells) : Prop where
  keep : ∀ a o, H a = some o → look M a = none → NT o → H' a = some o
  new : ∀ a o, F' a = some o → F a = some o ∨ H a = none ∨ look M a ≠ none
  cells : ∀ a, look M' a ≠ none → look M a ≠ none ∨ H a = none
theorem Rep.fr {σ' : L2.St} {H' F' : Hp} {ρ' : Env} {M' : Cells} (R' : Rep K (HC.here H F M) σ' H' F' ρ' M') : Fr M H F H' F' M' :=
  ⟨fun a o e n nz => R'.keep a o e (fun z => z n) nz, R'.new, fun a h => (R'.cellOf h).1.symm⟩
/-- a loose thing stays loose, as it was -/
theorem Fr.loose {H' F' : Hp} {M' : Cells} (f : Fr M H F H' F' M') {p : Addr} {o : HO} (lo : Loose b F M p) (e : H p = some o) (hz : NT o := by intro t z; cases z) : H' p = some o ∧ Loose b F' M' p := by
  refine ⟨f.keep p o e lo.2.2 hz, ?_, lo.2.1, ?_⟩
  · cases q : F' p with
    | none => rfl
    | some u =>
      rcases f.new p u q with h | h | h
      · rw [lo.1] at h; cases h
      · rw [e] at h; cases h
      · exact absurd lo.2.2 h
  · cases q : look M' p with
    | none => rfl
    | some c =>
      rcases f.cells p (by rw [q]; exact fun z => (by cases z)) with h | h
      · exact absurd lo.2.2 h
      · rw [e] at h; cases h
theorem Fr.refl (R : Rep K b σ H F ρ M) : Fr M H F H F M := ⟨fun _ _ e _ _ => e, fun _ _ e => .inl e, fun _ h => .inl h⟩
theorem loose_back {p : Addr} {F' : Hp} {M' : Cells} (R : Rep K b σ H F ρ M) (h : Loose (HC.here H F M) F' M' p) : Loose b F' M' p := ⟨h.1, (R.fresh h.2.1).2.1, h.2.2⟩
end
end HC
/-! Part 2: what expressions come to. -/
namespace HC
open PySem PySem.Spec PyProof.Rows L2 DL
abbrev CE := HC.Env → Cells → (D → Cells → Prop) → Prop
abbrev CLs := HC.Env → Cells → (List D → Cells → Prop) → Prop
abbrev CDs := HC.Env → Cells → (List (Key × D) → Cells → Prop) → Prop
abbrev CTt := HC.Env → Cells → (Bool → Cells → Prop) → Prop
def lstOf (M : Cells) : D → Option (List D)
  | .lst l => some l
  | .fn p => match look M p with
    | some (.l ds) => some ds
    | some (.z (.lst ds)) => some ds
    | _ => none
  | _ => none
def dctOf (M : Cells) : D → Option (List (Key × D))
  | .dct l => some l
  | .fn p => match look M p with
    | some (.m ds) => some ds
    | some (.z (.dct ds)) => some ds
    | _ => none
  | _ => none
def objOf (M : Cells) : D → Option (Addr × List (Str × D))
  | .obj C l => some (C, l)
  | .fn p => match look M p with
    | some (.o C ds) => some (C, ds)
    | some (.z (.obj C ds)) => some (C, ds)
    | _ => none
  | _ => none
/-- lists, tuples -/
def seqOf (M : Cells) : D → Option (List D)
  | .tup l => some l
  | d => lstOf M d
section
variable [Tbs] {K : PySem.W.Frag} {b : HC.Bs} {σ : L2.St} {H F : Hp} {ρ : HC.Env} {M : Cells}
theorem lst_at (R : Rep K b σ H F ρ M) {v : V} {d : D} {ds : List D} (h : Dr K F v d) (e : lstOf M d = some ds) : ∃ a xs, v = .ref a ∧ H a = some (.lst xs) ∧ DA K F xs ds := by
  cases d with
  | lst l =>
    cases e
    obtain ⟨a, xs, rfl, e1, e2⟩ := h.inv_lst
    exact ⟨a, xs, rfl, R.sub _ _ e1, e2⟩
  | fn p =>
    have hv := h.inv_fn
    subst hv
    unfold lstOf at e
    cases q : look M p with
    | none => simp only [q] at e; cases e
    | some c =>
      have hc := (R.cell p c q).1
      cases c with
      | l ds' =>
        simp only [q] at e
        cases e
        obtain ⟨_, xs, e1, e2⟩ := hc
        exact ⟨p, xs, rfl, e1, e2⟩
      | z d' =>
        cases d' with
        | lst l =>
          simp only [q] at e
          cases e
          obtain ⟨a, xs, e0, e1, e2⟩ := hc.1.inv_lst
          cases e0
          exact ⟨p, xs, rfl, R.sub _ _ e1, e2⟩
        | _ => simp only [q] at e; cases e
      | _ => simp only [q] at e; cases e
  | _ => cases e
theorem dct_at (R : Rep K b σ H F ρ M) {v : V} {d : D} {ds : List (Key × D)} (h : Dr K F v d) (e : dctOf M d = some ds) : ∃ a xs, v = .ref a ∧ H a = some (.dK xs) ∧ DM K F xs ds := by
  cases d with
  | dct l =>
    cases e
    obtain ⟨a, xs, rfl, e1, e2⟩ := h.inv_dct
    exact ⟨a, xs, rfl, R.sub _ _ e1, e2⟩
  | fn p =>
    have hv := h.inv_fn
    subst hv
    unfold dctOf at e
    cases q : look M p with
    | none => simp only [q] at e; cases e
    | some c =>
      have hc := (R.cell p c q).1
      cases c with
      | m ds' =>
        simp only [q] at e
        cases e
        obtain ⟨_, xs, e1, e2⟩ := hc
        exact ⟨p, xs, rfl, e1, e2⟩
      | z d' =>
        cases d' with
        | dct l =>
          simp only [q] at e
          cases e
          obtain ⟨a, xs, e0, e1, e2⟩ := hc.1.inv_dct
          cases e0
          exact ⟨p, xs, rfl, R.sub _ _ e1, e2⟩
        | _ => simp only [q] at e; cases e
      | _ => simp only [q] at e; cases e
  | _ => cases e
theorem obj_at (R : Rep K b σ H F ρ M) {v : V} {d : D} {C : Addr} {ds : List (Str × D)} (h : Dr K F v d) (e : objOf M d = some (C, ds)) : ∃ a dx xs, v = .ref a ∧ H a = some (.ins C dx xs) ∧ DM K F xs ds := by
  cases d with
  | obj C' l =>
    cases e
    obtain ⟨a, dx, xs, rfl, e1, e2⟩ := h.inv_obj
    exact ⟨a, dx, xs, rfl, R.sub _ _ e1, e2⟩
  | fn p =>
    have hv := h.inv_fn
    subst hv
    unfold objOf at e
    cases q : look M p with
    | none => simp only [q] at e; cases e
    | some c =>
      have hc := (R.cell p c q).1
      cases c with
      | o C' ds' =>
        simp only [q] at e
        cases e
        obtain ⟨_, dx, xs, e1, e2⟩ := hc
        exact ⟨p, dx, xs, rfl, e1, e2⟩
      | z d' =>
        cases d' with
        | obj C' l =>
          simp only [q] at e
          cases e
          obtain ⟨a, dx, xs, e0, e1, e2⟩ := hc.1.inv_obj
          cases e0
          exact ⟨p, dx, xs, rfl, R.sub _ _ e1, e2⟩
        | _ => simp only [q] at e; cases e
      | _ => simp only [q] at e; cases e
  | _ => cases e
theorem seq_at (R : Rep K b σ H F ρ M) {v : V} {d : D} {ds : List D} (h : Dr K F v d) (e : seqOf M d = some ds) : ∃ a xs, v = .ref a ∧ (SqL K H a xs ∨ SqT K H a xs) ∧ DA K F xs ds := by
  by_cases hd : ∃ l, d = .tup l
  · obtain ⟨l, rfl⟩ := hd
    cases e
    obtain ⟨a, xs, rfl, e1, e2⟩ := h.inv_tup
    exact ⟨a, xs, rfl, .inr (sqT_same R.sub e1), e2⟩
  · have e' : lstOf M d = some ds := by
      cases d with
      | tup l => exact absurd ⟨l, rfl⟩ hd
      | _ => exact e
    obtain ⟨a, xs, h1, h2, h3⟩ := lst_at R h e'
    exact ⟨a, xs, h1, .inl (SqL.of h2), h3⟩
end
section
variable [Tbs] (K : PySem.W.Frag)
def XE (t : TE) (T : CE) : Prop := ∀ (b : HC.Bs) (σ : L2.St) (H F : Hp) (ρ : HC.Env) (M : Cells) (Φ : D → Cells → Prop) (Q : VK), Rep K b σ H F ρ M → T ρ M Φ →
  (∀ v H' F' M' d, Same F F' → Rep K b σ H' F' ρ M' → Dr K F' v d → Φ d M' → Q v H') → t σ H Q
def XL (t : TE) (T : CLs) : Prop := ∀ (b : HC.Bs) (σ : L2.St) (H F : Hp) (ρ : HC.Env) (M : Cells) (Φ : List D → Cells → Prop) (Q : VK), Rep K b σ H F ρ M → T ρ M Φ →
  (∀ p xs H' F' M' ds, Same F F' → Rep K b σ H' F' ρ M' → Loose b F' M' p → H' p = some (.lst xs) → DA K F' xs ds → Φ ds M' → Q (.ref p) H') → t σ H Q
def XD (t : TE) (T : CDs) : Prop := ∀ (b : HC.Bs) (σ : L2.St) (H F : Hp) (ρ : HC.Env) (M : Cells) (Φ : List (Key × D) → Cells → Prop) (Q : VK), Rep K b σ H F ρ M → T ρ M Φ →
  (∀ p xs H' F' M' ds, Same F F' → Rep K b σ H' F' ρ M' → Loose b F' M' p → H' p = some (.dK xs) → DM K F' xs ds → Φ ds M' → Q (.ref p) H') → t σ H Q
def XT (t : TT) (T : CTt) : Prop := ∀ (b : HC.Bs) (σ : L2.St) (H F : Hp) (ρ : HC.Env) (M : Cells) (Φ : Bool → Cells → Prop) (Q : Bool → Hp → Prop), Rep K b σ H F ρ M → T ρ M Φ →
  (∀ c H' F' M', Same F F' → Rep K b σ H' F' ρ M' → Φ c M' → Q c H') → t σ H Q
def XV (t : TA) (T : CLs) : Prop := ∀ (b : HC.Bs) (σ : L2.St) (H F : Hp) (ρ : HC.Env) (M : Cells) (Φ : List D → Cells → Prop) (Q : List V → Hp → Prop), Rep K b σ H F ρ M → T ρ M Φ →
  (∀ vs H' F' M' ds, Same F F' → Rep K b σ H' F' ρ M' → DA K F' vs ds → Φ ds M' → Q vs H') → t σ H Q
end
section
variable [Tbs] {K : PySem.W.Frag}
/-! ### names, constants, freezing -/
def cRaw (i : Nat) : CE := fun ρ M Φ => ∃ d, ρ[i]? = some (some d) ∧ Φ d M
theorem xe_raw (i : Nat) : XE K (tVar i) (cRaw i) := by
  intro b σ H F ρ M Φ Q R h k
  obtain ⟨d, e, h⟩ := h
  obtain ⟨v, h1, h2⟩ := R.slot i d e
  exact ⟨v, h1, k v H F M d (Same.refl F) R h2 h⟩
def frzG (M : Cells) (d : D) (Φ : D → Cells → Prop) : Prop := match d with
  | .fn p => match look M p with
    | some (.l ds) => Φ (.lst ds) (put M p (.z (.lst ds)))
    | some (.m ks) => Φ (.dct ks) (put M p (.z (.dct ks)))
    | some (.o C fs) => Φ (.obj C fs) (put M p (.z (.obj C fs)))
    | some (.z d) => Φ d M
    | _ => Φ d M
  | d => Φ d M
theorem frz_ok {b : HC.Bs} {σ : L2.St} {H F : Hp} {ρ : HC.Env} {M : Cells} {v : V} {d : D} {Φ : D → Cells → Prop} (R : Rep K b σ H F ρ M) (hd : Dr K F v d) (h : frzG M d Φ) : ∃ F' M' d', Same F F' ∧ Rep K b σ H F' ρ M' ∧ Dr K F' v d' ∧ Φ d' M' := by
  by_cases hf : ∃ p, d = .fn p
  · obtain ⟨p, rfl⟩ := hf
    have hv := hd.inv_fn
    subst hv
    unfold frzG at h
    cases q : look M p with
    | none => simp only [q] at h; exact ⟨F, M, _, Same.refl F, R, hd, h⟩
    | some c =>
      have hc := (R.cell p c q).1
      cases c with
      | l ds =>
        simp only [q] at h
        obtain ⟨hF, xs, e1, e2⟩ := hc
        have up := SX.same_upd (o := .lst xs) hF
        have e3 := e2.up up
        obtain ⟨s, R'⟩ := R.frz (d := .lst ds) q hF e1 (by intro t z; cases z) (.lst upd_same e3.1 e3.2)
        exact ⟨_, _, _, s, R', .lst upd_same e3.1 e3.2, h⟩
      | m ks =>
        simp only [q] at h
        obtain ⟨hF, xs, e1, e2⟩ := hc
        have up := SX.same_upd (o := .dK xs) hF
        have e3 := e2.up up
        obtain ⟨s, R'⟩ := R.frz (d := .dct ks) q hF e1 (by intro t z; cases z) (.dct upd_same e3.1 e3.2)
        exact ⟨_, _, _, s, R', .dct upd_same e3.1 e3.2, h⟩
      | o C fs =>
        simp only [q] at h
        obtain ⟨hF, dx, xs, e1, e2⟩ := hc
        have up := SX.same_upd (o := .ins C dx xs) hF
        have e3 := e2.up up
        obtain ⟨s, R'⟩ := R.frz (d := .obj C fs) q hF e1 (by intro t z; cases z) (.obj upd_same e3.1 e3.2)
        exact ⟨_, _, _, s, R', .obj upd_same e3.1 e3.2, h⟩
      | draw => simp only [q] at h; exact ⟨F, M, _, Same.refl F, R, hd, h⟩
      | z d => simp only [q] at h; exact ⟨F, M, _, Same.refl F, R, hc.1, h⟩
  · have h' : Φ d M := by
      cases d with
      | fn p => exact absurd ⟨p, rfl⟩ hf
      | _ => exact h
    exact ⟨F, M, d, Same.refl F, R, hd, h'⟩
/-- what an expression gives is kept for good -/
def cFz (T : CE) : CE := fun ρ M Φ => T ρ M fun d M' => frzG M' d Φ
theorem xe_fz {t : TE} {T : CE} (h : XE K t T) : XE K t (cFz T) := by
  intro b σ H F ρ M Φ Q R hT k
  refine h b σ H F ρ M _ Q R hT fun v H' F' M' d s R' hd hΦ => ?_
  obtain ⟨F2, M2, d2, s2, R2, hd2, h2⟩ := frz_ok R' hd hΦ
  exact k v H' F2 M2 d2 (s.trans s2) R2 hd2 h2
def cVar (i : Nat) : CE := cFz (cRaw i)
theorem xe_var (i : Nat) : XE K (tVar i) (cVar i) := xe_fz (xe_raw i)
def cC (d : D) : CE := fun ρ M Φ => Φ d M
theorem xe_c {v : V} {d : D} (h : ∀ F, Dr K F v d) : XE K (tC v) (cC d) := fun b σ H F ρ M Φ Q R hT k => k v H F M d (Same.refl F) R (h F) hT
theorem xe_int {i : Int} : XE K (tC (.int i)) (cC (.int i)) := xe_c fun _ => .int i
theorem xe_str {x : Str} : XE K (tC (.str x)) (cC (.str x)) := xe_c fun _ => .str x
theorem xe_bl {x : Bool} : XE K (tC (.bl x)) (cC (.bl x)) := xe_c fun _ => .bl x
theorem xe_non : XE K (tC .non) (cC .non) := xe_c fun _ => .non
theorem xe_fn {a : Addr} : XE K (tC (.ref a)) (cC (.fn a)) := xe_c fun _ => .fn a
theorem xe_ty {n : String} : XE K (tC (.ty n)) (cC (.ty n)) := xe_c fun _ => .ty n
/-- a new list: kept, or a cell -/
def cK (T : CLs) : CE := fun ρ M Φ => T ρ M fun ds M' => Φ (.lst ds) M'
theorem XL.re {t : TE} {T : CLs} (h : XL K t T) : XE K t (cK T) := by
  intro b σ H F ρ M Φ Q R hT k
  refine h b σ H F ρ M _ Q R hT fun p xs H' F' M' ds s R' lo hx hd hΦ => ?_
  obtain ⟨sF, R2⟩ := R'.frzLoose lo hx
  have h2 := hd.up sF
  exact k _ H' _ M' (.lst ds) (s.trans sF) R2 (.lst upd_same h2.1 h2.2) hΦ
def cKc (T : CLs) : CE := fun ρ M Φ => T ρ M fun ds M' => ∀ p, look M' p = none → Φ (.fn p) ((p, .l ds) :: M')
theorem XL.ce {t : TE} {T : CLs} (h : XL K t T) : XE K t (cKc T) := by
  intro b σ H F ρ M Φ Q R hT k
  refine h b σ H F ρ M _ Q R hT fun p xs H' F' M' ds s R' lo hx hd hΦ => ?_
  exact k _ H' F' _ (.fn p) s (R'.add (c := .l ds) lo ⟨lo.1, xs, hx, hd⟩) (.fn p) (hΦ p lo.2.2)
def cKd (T : CDs) : CE := fun ρ M Φ => T ρ M fun ds M' => Φ (.dct ds) M'
theorem XD.re {t : TE} {T : CDs} (h : XD K t T) : XE K t (cKd T) := by
  intro b σ H F ρ M Φ Q R hT k
  refine h b σ H F ρ M _ Q R hT fun p xs H' F' M' ds s R' lo hx hd hΦ => ?_
  obtain ⟨sF, R2⟩ := R'.frzLoose lo hx
  have h2 := hd.up sF
  exact k _ H' _ M' (.dct ds) (s.trans sF) R2 (.dct upd_same h2.1 h2.2) hΦ
def cKdc (T : CDs) : CE := fun ρ M Φ => T ρ M fun ds M' => ∀ p, look M' p = none → Φ (.fn p) ((p, .m ds) :: M')
theorem XD.ce {t : TE} {T : CDs} (h : XD K t T) : XE K t (cKdc T) := by
  intro b σ H F ρ M Φ Q R hT k
  refine h b σ H F ρ M _ Q R hT fun p xs H' F' M' ds s R' lo hx hd hΦ => ?_
  exact k _ H' F' _ (.fn p) s (R'.add (c := .m ds) lo ⟨lo.1, xs, hx, hd⟩) (.fn p) (hΦ p lo.2.2)
/-! ### operators -/
def cOp (R : DO) (Ta Tb : CE) : CE := fun ρ M Φ => Ta ρ M fun x M1 => Tb ρ M1 fun y M2 => R x y fun z => Φ z M2
theorem xe_op {r : R2} {R : DO} {ta tb : TE} {Ta Tb : CE} (ho : RO K [] r R) (ha : XE K ta Ta) (hb : XE K tb Tb) : XE K (tOp r ta tb) (cOp R Ta Tb) := by
  intro b σ H F ρ M Φ Q R0 hT k
  refine ha b σ H F ρ M _ _ R0 hT fun x H1 F1 M1 d s1 R1 h1 hT => ?_
  refine hb b σ H1 F1 ρ M1 _ _ R1 hT fun y H2 F2 M2 e s2 R2 h2 hT => ?_
  exact ho _ σ H2 F2 _ x y d e _ Q R2.old (h1.up s2) h2 hT fun v H3 F3 z s3 R3 h3 hz => k v H3 F3 M2 z ((s1.trans s2).trans s3) (R2.oldBack R3 s3) h3 hz
def cOpL (R : D → D → (List D → Prop) → Prop) (Ta Tb : CE) : CLs := fun ρ M Φ => Ta ρ M fun x M1 => Tb ρ M1 fun y M2 => R x y fun z => Φ z M2
theorem loose_old {b : HC.Bs} {σ : L2.St} {H F F' H' : Hp} {ρ : HC.Env} {M : Cells} {p : Addr} {ρ' : DL.Env} (R : Rep K b σ H F ρ M) (lo : DL.Loose (ob H F) σ F' ρ' p) : HC.Loose b F' M p := by
  have hp : H p = none := lo.2.1
  exact ⟨lo.1, (R.fresh hp).2⟩
theorem xl_op {r : R2} {R : D → D → (List D → Prop) → Prop} {ta tb : TE} {Ta Tb : CE} (ho : ROL K [] r R) (ha : XE K ta Ta) (hb : XE K tb Tb) : XL K (tOp r ta tb) (cOpL R Ta Tb) := by
  intro b σ H F ρ M Φ Q R0 hT k
  refine ha b σ H F ρ M _ _ R0 hT fun x H1 F1 M1 d s1 R1 h1 hT => ?_
  refine hb b σ H1 F1 ρ M1 _ _ R1 hT fun y H2 F2 M2 e s2 R2 h2 hT => ?_
  exact ho _ σ H2 F2 _ x y d e _ Q R2.old (h1.up s2) h2 hT fun p xs H3 F3 ds s3 R3 lo hx hd hz => k p xs H3 F3 M2 ds ((s1.trans s2).trans s3) (R2.oldBack R3 s3) (loose_old (H' := H3) R2 lo) hx hd hz
/-! ### arguments, displays -/
def cNil : CLs := fun ρ M Φ => Φ [] M
theorem xv_nil : XV K tNil cNil := fun b σ H F ρ M Φ Q R hT k => k [] H F M [] (Same.refl F) R .nil hT
def cCons (Ta : CE) (Tr : CLs) : CLs := fun ρ M Φ => Ta ρ M fun x M1 => Tr ρ M1 fun xs M2 => Φ (x :: xs) M2
theorem xv_cons {ta : TE} {tr : TA} {Ta : CE} {Tr : CLs} (ha : XE K ta Ta) (hr : XV K tr Tr) : XV K (tCons ta tr) (cCons Ta Tr) := by
  intro b σ H F ρ M Φ Q R0 hT k
  refine ha b σ H F ρ M _ _ R0 hT fun x H1 F1 M1 d s1 R1 h1 hT => ?_
  exact hr b σ H1 F1 ρ M1 _ _ R1 hT fun xs H2 F2 M2 ds s2 R2 h2 hT => k _ H2 F2 M2 _ (s1.trans s2) R2 (.cons (h1.up s2) h2) hT
def cTup (T : CLs) : CE := fun ρ M Φ => T ρ M fun ds M' => ds.length ≤ sizeLine ∧ Φ (.tup ds) M'
theorem xe_tup {t : TA} {T : CLs} (h : XV K t T) : XE K (tTup t) (cTup T) := by
  intro b σ H F ρ M Φ Q R0 hT k
  refine h b σ H F ρ M _ _ R0 hT fun xs H1 F1 M1 ds s1 R1 h1 hT => ⟨by rw [h1.1]; exact hT.1, fun p hp => ?_⟩
  obtain ⟨hF, _⟩ := R1.fresh hp
  have sF : Same F1 (upd F1 p (.tup xs)) := SX.same_upd hF
  have h2 := h1.up sF
  exact k _ _ _ M1 _ (s1.trans sF) (R1.alloc hp) (.tup (SqT.of upd_same) h2.1 h2.2) hT.2
def cLst (T : CLs) : CLs := fun ρ M Φ => T ρ M fun ds M' => ds.length ≤ sizeLine ∧ Φ ds M'
theorem xl_lst {t : TA} {T : CLs} (h : XV K t T) : XL K (tLst t) (cLst T) := by
  intro b σ H F ρ M Φ Q R0 hT k
  refine h b σ H F ρ M _ _ R0 hT fun xs H1 F1 M1 ds s1 R1 h1 hT => ⟨by rw [h1.1]; exact hT.1, fun p hp => ?_⟩
  exact k p xs _ F1 M1 ds s1 (R1.lay hp) (R1.loose hp) upd_same h1 hT.2
def cNewD : CDs := fun ρ M Φ => Φ [] M
theorem xd_new : XD K tDNewK cNewD := by
  intro b σ H F ρ M Φ Q R0 hT k
  exact fun p hp => k p [] _ F M [] (Same.refl F) (R0.lay hp) (R0.loose hp) upd_same .nil hT
/-! ### places, lengths, in -/
def cIxL (Ta Tb : CE) : CE := fun ρ M Φ => Ta ρ M fun x M1 => Tb ρ M1 fun y M2 => ∃ ds j z, lstOf M2 x = some ds ∧ y = .int j ∧ atI ds j = some z ∧ Φ z M2
theorem xe_ixL {ta tb : TE} {Ta Tb : CE} (ha : XE K ta Ta) (hb : XE K tb Tb) : XE K (tOp (rIxL K) ta tb) (cIxL Ta Tb) := by
  intro b σ H F ρ M Φ Q R0 hT k
  refine ha b σ H F ρ M _ _ R0 hT fun x H1 F1 M1 d s1 R1 h1 hT => ?_
  refine hb b σ H1 F1 ρ M1 _ _ R1 hT fun y H2 F2 M2 e s2 R2 h2 hT => ?_
  obtain ⟨ds, j, z, hl, rfl, hz, hΦ⟩ := hT
  obtain ⟨a, xs, rfl, ea, ha⟩ := lst_at R2 (h1.up s2) hl
  obtain ⟨w, hw, hd⟩ := ha.atI hz
  exact ⟨a, xs, j, w, rfl, h2.inv_int, SqL.of ea, hw, k w H2 F2 M2 z (s1.trans s2) R2 hd hΦ⟩
def cIx (Ta Tb : CE) : CE := fun ρ M Φ => Ta ρ M fun x M1 => Tb ρ M1 fun y M2 => ∃ ds j z, seqOf M2 x = some ds ∧ y = .int j ∧ atI ds j = some z ∧ Φ z M2
theorem xe_ix {ta tb : TE} {Ta Tb : CE} (ha : XE K ta Ta) (hb : XE K tb Tb) : XE K (tOp (rIx K) ta tb) (cIx Ta Tb) := by
  intro b σ H F ρ M Φ Q R0 hT k
  refine ha b σ H F ρ M _ _ R0 hT fun x H1 F1 M1 d s1 R1 h1 hT => ?_
  refine hb b σ H1 F1 ρ M1 _ _ R1 hT fun y H2 F2 M2 e s2 R2 h2 hT => ?_
  obtain ⟨ds, j, z, hl, rfl, hz, hΦ⟩ := hT
  obtain ⟨a, xs, rfl, ea, ha⟩ := seq_at R2 (h1.up s2) hl
  obtain ⟨w, hw, hd⟩ := ha.atI hz
  rcases ea with ea | ea
  · exact .inl ⟨a, xs, j, w, rfl, h2.inv_int, ea, hw, k w H2 F2 M2 z (s1.trans s2) R2 hd hΦ⟩
  · exact .inr (.inl ⟨a, xs, j, w, rfl, h2.inv_int, ea, hw, k w H2 F2 M2 z (s1.trans s2) R2 hd hΦ⟩)
def lenG (M : Cells) (d : D) (Φ : Nat → Prop) : Prop := match d with
  | .str x => x.length ≤ sizeLine ∧ Φ x.length
  | d => ∃ ds, seqOf M d = some ds ∧ Φ ds.length
def cLen (Ta : CE) : CE := fun ρ M Φ => Ta ρ M fun x M1 => lenG M1 x fun n => Φ (.int (n : Nat)) M1
theorem xe_len {ta : TE} {Ta : CE} (ha : XE K ta Ta) : XE K (tCB (fun xs H Q => ∃ x n, xs = [x] ∧ LenV K x H n ∧ Q (.int n) H) (tCons ta tNil)) (cLen Ta) := by
  intro b σ H F ρ M Φ Q R0 hT k
  refine ha b σ H F ρ M _ _ R0 hT fun x H1 F1 M1 d s1 R1 h1 hT => ?_
  by_cases hs : ∃ y, d = .str y
  · obtain ⟨y, rfl⟩ := hs
    rw [h1.inv_str]
    exact ⟨_, y.length, rfl, ⟨hT.1, rfl⟩, k _ H1 F1 M1 _ s1 R1 (.int _) hT.2⟩
  · have hT' : ∃ ds, seqOf M1 d = some ds ∧ Φ (.int (ds.length : Nat)) M1 := by
      cases d with
      | str y => exact absurd ⟨y, rfl⟩ hs
      | _ => exact hT
    obtain ⟨ds, he, hΦ⟩ := hT'
    obtain ⟨a, xs, rfl, ea, ha⟩ := seq_at R1 h1 he
    refine ⟨_, ds.length, rfl, ?_, k _ H1 F1 M1 _ s1 R1 (.int _) hΦ⟩
    rcases ea with ea | ea
    · exact .inl ⟨xs, ea, ha.1.symm⟩
    · exact .inr ⟨xs, ea, ha.1.symm⟩
def cIn (neg : Bool) (Ta Tb : CE) : CE := fun ρ M Φ => Ta ρ M fun x M1 => Tb ρ M1 fun y M2 => ∃ ds, seqOf M2 y = some ds ∧ flatD x = true ∧ ds.all flatD = true ∧ Φ (.bl (if neg then !inD x ds else inD x ds)) M2
theorem xe_in {neg : Bool} {ta tb : TE} {Ta Tb : CE} (ha : XE K ta Ta) (hb : XE K tb Tb) : XE K (tOp (rIn K neg) ta tb) (cIn neg Ta Tb) := by
  intro b σ H F ρ M Φ Q R0 hT k
  refine ha b σ H F ρ M _ _ R0 hT fun x H1 F1 M1 d s1 R1 h1 hT => ?_
  refine hb b σ H1 F1 ρ M1 _ _ R1 hT fun y H2 F2 M2 e s2 R2 h2 hT => ?_
  obtain ⟨ds, hl, fd, fs, hΦ⟩ := hT
  obtain ⟨a, xs, rfl, ea, ha⟩ := seq_at R2 h2 hl
  obtain ⟨i1, i2⟩ := inD_ok (h1.up s2) fd ha fs
  refine ⟨a, xs, rfl, ea, flat_ok h1 fd, i1, ?_⟩
  rw [i2]
  exact k _ H2 F2 M2 _ (s1.trans s2) R2 (.bl _) hΦ
def cInD (neg : Bool) (Ta Tb : CE) : CE := fun ρ M Φ => Ta ρ M fun x M1 => Tb ρ M1 fun y M2 => ∃ ds key, dctOf M2 y = some ds ∧ keyD x = some key ∧ Φ (.bl (if neg then !(valD ds key).isSome else (valD ds key).isSome)) M2
theorem dval {F H : Hp} {a : Addr} {v : V} {d : D} {k : Key} {xs : List (Key × V)} {ds : List (Key × D)} (h : Dr K F v d) (e : keyD d = some k) (hd : DM K F xs ds) (ha : H a = some (.dK xs)) : ∃ o, DGet H a v o ∧ o.isSome = (valD ds k).isSome ∧ ∀ z, valD ds k = some z → ∃ w, o = some w ∧ Dr K F w z := by
  have g := dget_ok h e hd ha
  cases q : valD ds k with
  | none => rw [q] at g; exact ⟨none, g, rfl, fun z e => (by cases e)⟩
  | some z => rw [q] at g; obtain ⟨w, g1, g2⟩ := g; exact ⟨some w, g1, rfl, fun z' e => by cases e; exact ⟨w, rfl, g2⟩⟩
theorem xe_inD {ta tb : TE} {Ta Tb : CE} (ha : XE K ta Ta) (hb : XE K tb Tb) : XE K (tOp rInDK ta tb) (cInD false Ta Tb) := by
  intro b σ H F ρ M Φ Q R0 hT k
  refine ha b σ H F ρ M _ _ R0 hT fun x H1 F1 M1 d s1 R1 h1 hT => ?_
  refine hb b σ H1 F1 ρ M1 _ _ R1 hT fun y H2 F2 M2 e s2 R2 h2 hT => ?_
  obtain ⟨ds, key, hl, hk, hΦ⟩ := hT
  obtain ⟨a, xs, rfl, ea, ha⟩ := dct_at R2 h2 hl
  obtain ⟨o, g1, g2, _⟩ := dval (h1.up s2) hk ha ea
  refine ⟨a, o, rfl, g1, ?_⟩
  rw [g2]
  exact k _ H2 F2 M2 _ (s1.trans s2) R2 (.bl _) hΦ
theorem xe_notInD {ta tb : TE} {Ta Tb : CE} (ha : XE K ta Ta) (hb : XE K tb Tb) : XE K (tOp rNotInDK ta tb) (cInD true Ta Tb) := by
  intro b σ H F ρ M Φ Q R0 hT k
  refine ha b σ H F ρ M _ _ R0 hT fun x H1 F1 M1 d s1 R1 h1 hT => ?_
  refine hb b σ H1 F1 ρ M1 _ _ R1 hT fun y H2 F2 M2 e s2 R2 h2 hT => ?_
  obtain ⟨ds, key, hl, hk, hΦ⟩ := hT
  obtain ⟨a, xs, rfl, ea, ha⟩ := dct_at R2 h2 hl
  obtain ⟨o, g1, g2, _⟩ := dval (h1.up s2) hk ha ea
  refine ⟨a, o, rfl, g1, ?_⟩
  rw [g2]
  exact k _ H2 F2 M2 _ (s1.trans s2) R2 (.bl _) hΦ
def cDGet (Td Ty : CE) : CE := fun ρ M Φ => Td ρ M fun x M1 => Ty ρ M1 fun y M2 => ∃ ds key z, dctOf M2 x = some ds ∧ keyD y = some key ∧ valD ds key = some z ∧ Φ z M2
theorem xe_dget {td ty : TE} {Td Ty : CE} (hd : XE K td Td) (hy : XE K ty Ty) : XE K (tDGet td ty) (cDGet Td Ty) := by
  intro b σ H F ρ M Φ Q R0 hT k
  refine hd b σ H F ρ M _ _ R0 hT fun x H1 F1 M1 d s1 R1 h1 hT => ?_
  refine hy b σ H1 F1 ρ M1 _ _ R1 hT fun y H2 F2 M2 e s2 R2 h2 hT => ?_
  obtain ⟨ds, key, z, hl, hk, hz, hΦ⟩ := hT
  obtain ⟨a, xs, rfl, ea, ha⟩ := dct_at R2 (h1.up s2) hl
  obtain ⟨o, g1, _, g3⟩ := dval h2 hk ha ea
  obtain ⟨w, rfl, hw⟩ := g3 z hz
  exact ⟨a, w, rfl, g1, k w H2 F2 M2 z (s1.trans s2) R2 hw hΦ⟩
def cGet1 (Td Ty : CE) : CE := fun ρ M Φ => Td ρ M fun x M1 => (∃ ds, dctOf M1 x = some ds) ∧ Ty ρ M1 fun y M2 => ∃ ds key, dctOf M2 x = some ds ∧ keyD y = some key ∧ Φ ((valD ds key).getD .non) M2
theorem xe_get1 {td ty : TE} {Td Ty : CE} (hd : XE K td Td) (hy : XE K ty Ty) : XE K (tDGet1 td ty) (cGet1 Td Ty) := by
  intro b σ H F ρ M Φ Q R0 hT k
  refine hd b σ H F ρ M _ _ R0 hT fun x H1 F1 M1 d s1 R1 h1 hT => ?_
  obtain ⟨⟨ds0, e0⟩, hT⟩ := hT
  obtain ⟨a, xs0, rfl, ea0, _⟩ := dct_at R1 h1 e0
  refine ⟨a, rfl, .inl ⟨xs0, .inl ea0⟩, hy b σ H1 F1 ρ M1 _ _ R1 hT fun y H2 F2 M2 e s2 R2 h2 hT => ?_⟩
  obtain ⟨ds, key, hl, hk, hΦ⟩ := hT
  obtain ⟨a', xs, e', ea, ha⟩ := dct_at R2 (h1.up s2) hl
  cases e'
  obtain ⟨o, g1, _, g3⟩ := dval h2 hk ha ea
  cases q : valD ds key with
  | none =>
    rw [q] at hΦ
    cases o with
    | none => exact ⟨none, g1, k _ H2 F2 M2 _ (s1.trans s2) R2 .non hΦ⟩
    | some w => simp_all
  | some z =>
    rw [q] at hΦ
    obtain ⟨w, rfl, hw⟩ := g3 z q
    exact ⟨some w, g1, k _ H2 F2 M2 _ (s1.trans s2) R2 hw hΦ⟩
def cGet2 (Td Ty Tz : CE) : CE := fun ρ M Φ => Td ρ M fun x M1 => (∃ ds, dctOf M1 x = some ds) ∧ Ty ρ M1 fun y M2 => Tz ρ M2 fun z M3 => ∃ ds key, dctOf M3 x = some ds ∧ keyD y = some key ∧ Φ ((valD ds key).getD z) M3
theorem xe_get2 {td ty tz : TE} {Td Ty Tz : CE} (hd : XE K td Td) (hy : XE K ty Ty) (hz : XE K tz Tz) : XE K (tDGet2 td ty tz) (cGet2 Td Ty Tz) := by
  intro b σ H F ρ M Φ Q R0 hT k
  refine hd b σ H F ρ M _ _ R0 hT fun x H1 F1 M1 d s1 R1 h1 hT => ?_
  obtain ⟨⟨ds0, e0⟩, hT⟩ := hT
  obtain ⟨a, xs0, rfl, ea0, _⟩ := dct_at R1 h1 e0
  refine ⟨a, rfl, .inl ⟨xs0, .inl ea0⟩, hy b σ H1 F1 ρ M1 _ _ R1 hT fun y H2 F2 M2 e s2 R2 h2 hT => ?_⟩
  refine hz b σ H2 F2 ρ M2 _ _ R2 hT fun z H3 F3 M3 f s3 R3 h3 hT => ?_
  obtain ⟨ds, key, hl, hk, hΦ⟩ := hT
  have s12 := s2.trans s3
  obtain ⟨a', xs, e', ea, ha⟩ := dct_at R3 (h1.up s12) hl
  cases e'
  obtain ⟨o, g1, _, g3⟩ := dval (h2.up s3) hk ha ea
  cases q : valD ds key with
  | none =>
    rw [q] at hΦ
    cases o with
    | none => exact ⟨none, g1, k _ H3 F3 M3 _ (s1.trans s12) R3 h3 hΦ⟩
    | some w => simp_all
  | some z =>
    rw [q] at hΦ
    obtain ⟨w, rfl, hw⟩ := g3 z q
    exact ⟨some w, g1, k _ H3 F3 M3 _ (s1.trans s12) R3 hw hΦ⟩
/-! ### fields -/
def cFld (C : Addr) (T : CE) (f : Str) : CE := fun ρ M Φ => T ρ M fun x M1 => ∃ fs d, objOf M1 x = some (C, fs) ∧ valD fs f = some d ∧ Φ d M1
theorem xe_fld {C : Addr} {t : TE} {T : CE} {f : Str} (hc : Cls K C) (hn : NoAttr K C f) (h : XE K t T) : XE K (tFld K t f) (cFld C T f) := by
  intro b σ H F ρ M Φ Q R0 hT k
  refine h b σ H F ρ M _ _ R0 hT fun x H1 F1 M1 d s1 R1 h1 hT => ?_
  obtain ⟨fs, e, ho, he, hΦ⟩ := hT
  obtain ⟨a, dx, xs, rfl, ea, hm⟩ := obj_at R1 h1 ho
  have m := hm.val (k := f)
  rw [he] at m
  obtain ⟨v, hv, hd⟩ := m
  exact ⟨a, C, dx, xs, v, rfl, ea, hc, hn, by rw [lookup_valV]; exact hv, k v H1 F1 M1 e s1 R1 hd hΦ⟩
/-! ### tests -/
def cTest (T : CE) : CTt := fun ρ M Φ => T ρ M fun x M' => blG x fun c => Φ c M'
theorem xt_test {t : TE} {T : CE} (h : XE K t T) : XT K (tTest t) (cTest T) := by
  intro b σ H F ρ M Φ Q R0 hT k
  refine h b σ H F ρ M _ _ R0 hT fun x H1 F1 M1 d s1 R1 h1 hT => ?_
  obtain ⟨c, rfl, hT⟩ := blG_ok hT
  exact ⟨c, h1.inv_bl, k c H1 F1 M1 s1 R1 hT⟩
theorem xt_B {t : TE} {T : CE} (h : XE K t T) : XT K (tB t) (cTest T) := xt_test h
def truG (M : Cells) (d : D) (Φ : Bool → Prop) : Prop := match d with
  | .non => Φ false
  | .bl b => Φ b
  | .int i => Φ (i != 0)
  | .tup l => Φ (!l.isEmpty)
  | d => (∃ ds, lstOf M d = some ds ∧ Φ (!ds.isEmpty)) ∨ ∃ ds, dctOf M d = some ds ∧ Φ (!ds.isEmpty)
def cTruth (T : CE) : CTt := fun ρ M Φ => T ρ M fun x M' => truG M' x fun c => Φ c M'
theorem xt_truth {t : TE} {T : CE} (h : XE K t T) : XT K (fun σ H Q => t σ H fun x H' => ∃ k, TruV K x H' k ∧ Q k H') (cTruth T) := by
  intro b σ H F ρ M Φ Q R0 hT k
  refine h b σ H F ρ M _ _ R0 hT fun x H1 F1 M1 d s1 R1 h1 hT => ?_
  have rest : ((∃ ds, lstOf M1 d = some ds ∧ Φ (!ds.isEmpty) M1) ∨ ∃ ds, dctOf M1 d = some ds ∧ Φ (!ds.isEmpty) M1) → ∃ c, TruV K x H1 c ∧ Q c H1 := fun hT => by
    rcases hT with ⟨ds, e, hΦ⟩ | ⟨ds, e, hΦ⟩
    · obtain ⟨a, xs, rfl, ea, ha⟩ := lst_at R1 h1 e
      exact ⟨_, .inl ⟨_, SqL.of ea, by rw [isEmpty_len ha.1]⟩, k _ H1 F1 M1 s1 R1 hΦ⟩
    · obtain ⟨a, xs, rfl, ea, ha⟩ := dct_at R1 h1 e
      exact ⟨_, .inr (.inr ⟨_, ea, by rw [isEmpty_len ha.len]⟩), k _ H1 F1 M1 s1 R1 hΦ⟩
  cases d with
  | non => rw [h1.inv_non]; exact ⟨false, rfl, k _ H1 F1 M1 s1 R1 hT⟩
  | bl c => rw [h1.inv_bl]; exact ⟨c, rfl, k _ H1 F1 M1 s1 R1 hT⟩
  | int i => rw [h1.inv_int]; exact ⟨_, rfl, k _ H1 F1 M1 s1 R1 hT⟩
  | tup l =>
    obtain ⟨a, xs, rfl, ea, ha⟩ := h1.inv_tup
    exact ⟨_, .inr (.inl ⟨_, sqT_same R1.sub ea, by rw [isEmpty_len ha.1]⟩), k _ H1 F1 M1 s1 R1 hT⟩
  | _ => exact rest hT
def cAnd (T U : CTt) : CTt := fun ρ M Φ => T ρ M fun c M1 => if c = true then U ρ M1 Φ else Φ false M1
theorem xt_and {t u : TT} {T U : CTt} (h : XT K t T) (h2 : XT K u U) : XT K (tAnd t u) (cAnd T U) := by
  intro b σ H F ρ M Φ Q R0 hT k
  refine h b σ H F ρ M _ _ R0 hT fun c H1 F1 M1 s1 R1 hT => ?_
  cases c with
  | true => exact h2 b σ H1 F1 ρ M1 _ _ R1 hT fun c H2 F2 M2 s2 R2 hT => k c H2 F2 M2 (s1.trans s2) R2 hT
  | false => exact k false H1 F1 M1 s1 R1 hT
def cOr (T U : CTt) : CTt := fun ρ M Φ => T ρ M fun c M1 => if c = true then Φ true M1 else U ρ M1 Φ
theorem xt_or {t u : TT} {T U : CTt} (h : XT K t T) (h2 : XT K u U) : XT K (tOr t u) (cOr T U) := by
  intro b σ H F ρ M Φ Q R0 hT k
  refine h b σ H F ρ M _ _ R0 hT fun c H1 F1 M1 s1 R1 hT => ?_
  cases c with
  | false => exact h2 b σ H1 F1 ρ M1 _ _ R1 hT fun c H2 F2 M2 s2 R2 hT => k c H2 F2 M2 (s1.trans s2) R2 hT
  | true => exact k true H1 F1 M1 s1 R1 hT
def cNot (T : CTt) : CTt := fun ρ M Φ => T ρ M fun c M1 => Φ (!c) M1
theorem xt_not {t : TT} {T : CTt} (h : XT K t T) : XT K (tNot t) (cNot T) := by
  intro b σ H F ρ M Φ Q R0 hT k
  exact h b σ H F ρ M _ _ R0 hT fun c H1 F1 M1 s1 R1 hT => k _ H1 F1 M1 s1 R1 hT
def cAndV (T U : CE) : CE := fun ρ M Φ => T ρ M fun x M1 => blG x fun c => if c = true then U ρ M1 Φ else Φ (.bl false) M1
theorem xe_and {t u : TE} {T U : CE} (h : XE K t T) (h2 : XE K u U) : XE K (tAndV t u) (cAndV T U) := by
  intro b σ H F ρ M Φ Q R0 hT k
  refine h b σ H F ρ M _ _ R0 hT fun x H1 F1 M1 d s1 R1 h1 hT => ?_
  obtain ⟨c, rfl, hT⟩ := blG_ok hT
  refine ⟨c, h1.inv_bl, ?_⟩
  cases c with
  | true => exact h2 b σ H1 F1 ρ M1 _ _ R1 hT fun c H2 F2 M2 d s2 R2 hd hT => k c H2 F2 M2 d (s1.trans s2) R2 hd hT
  | false => exact k _ H1 F1 M1 _ s1 R1 (.bl false) hT
def cOrV (T U : CE) : CE := fun ρ M Φ => T ρ M fun x M1 => blG x fun c => if c = true then Φ (.bl true) M1 else U ρ M1 Φ
theorem xe_or {t u : TE} {T U : CE} (h : XE K t T) (h2 : XE K u U) : XE K (tOrV t u) (cOrV T U) := by
  intro b σ H F ρ M Φ Q R0 hT k
  refine h b σ H F ρ M _ _ R0 hT fun x H1 F1 M1 d s1 R1 h1 hT => ?_
  obtain ⟨c, rfl, hT⟩ := blG_ok hT
  refine ⟨c, h1.inv_bl, ?_⟩
  cases c with
  | false => exact h2 b σ H1 F1 ρ M1 _ _ R1 hT fun c H2 F2 M2 d s2 R2 hd hT => k c H2 F2 M2 d (s1.trans s2) R2 hd hT
  | true => exact k _ H1 F1 M1 _ s1 R1 (.bl true) hT
def cNotV (T : CE) : CE := fun ρ M Φ => T ρ M fun x M1 => blG x fun c => Φ (.bl (!c)) M1
theorem xe_not {t : TE} {T : CE} (h : XE K t T) : XE K (tNotV t) (cNotV T) := by
  intro b σ H F ρ M Φ Q R0 hT k
  refine h b σ H F ρ M _ _ R0 hT fun x H1 F1 M1 d s1 R1 h1 hT => ?_
  obtain ⟨c, rfl, hT⟩ := blG_ok hT
  exact ⟨c, h1.inv_bl, k _ H1 F1 M1 _ s1 R1 (.bl _) hT⟩
def cIf (T : CTt) (U W : CE) : CE := fun ρ M Φ => T ρ M fun c M1 => if c = true then U ρ M1 Φ else W ρ M1 Φ
theorem xe_if {t : TT} {u w : TE} {T : CTt} {U W : CE} (h : XT K t T) (h2 : XE K u U) (h3 : XE K w W) : XE K (tIf t u w) (cIf T U W) := by
  intro b σ H F ρ M Φ Q R0 hT k
  refine h b σ H F ρ M _ _ R0 hT fun c H1 F1 M1 s1 R1 hT => ?_
  cases c with
  | true => exact h2 b σ H1 F1 ρ M1 _ _ R1 hT fun c H2 F2 M2 d s2 R2 hd hT => k c H2 F2 M2 d (s1.trans s2) R2 hd hT
  | false => exact h3 b σ H1 F1 ρ M1 _ _ R1 hT fun c H2 F2 M2 d s2 R2 hd hT => k c H2 F2 M2 d (s1.trans s2) R2 hd hT
def cIfL (T : CTt) (U W : CLs) : CLs := fun ρ M Φ => T ρ M fun c M1 => if c = true then U ρ M1 Φ else W ρ M1 Φ
theorem xl_if {t : TT} {u w : TE} {T : CTt} {U W : CLs} (h : XT K t T) (h2 : XL K u U) (h3 : XL K w W) : XL K (tIf t u w) (cIfL T U W) := by
  intro b σ H F ρ M Φ Q R0 hT k
  refine h b σ H F ρ M _ _ R0 hT fun c H1 F1 M1 s1 R1 hT => ?_
  cases c with
  | true => exact h2 b σ H1 F1 ρ M1 _ _ R1 hT fun p xs H2 F2 M2 ds s2 R2 lo hx hd hT => k p xs H2 F2 M2 ds (s1.trans s2) R2 lo hx hd hT
  | false => exact h3 b σ H1 F1 ρ M1 _ _ R1 hT fun p xs H2 F2 M2 ds s2 R2 lo hx hd hT => k p xs H2 F2 M2 ds (s1.trans s2) R2 lo hx hd hT
def cNeg (T : CE) : CE := fun ρ M Φ => T ρ M fun x M1 => ∃ i, x = .int i ∧ Φ (.int (-i)) M1
theorem xe_neg {t : TE} {T : CE} (h : XE K t T) : XE K (tUn (rU fun i => .int (-i)) t) (cNeg T) := by
  intro b σ H F ρ M Φ Q R0 hT k
  refine h b σ H F ρ M _ _ R0 hT fun x H1 F1 M1 d s1 R1 h1 hT => ?_
  obtain ⟨i, rfl, hT⟩ := hT
  exact ⟨i, h1.inv_int, k _ H1 F1 M1 _ s1 R1 (.int _) hT⟩
/-! ### built-ins -/
def cCB (R : List D → (D → Prop) → Prop) (T : CLs) : CE := fun ρ M Φ => T ρ M fun ds M' => R ds fun z => Φ z M'
theorem xe_cb {r : List V → Hp → VK → Prop} {R : List D → (D → Prop) → Prop} {t : TA} {T : CLs} (hr : RC K [] r R) (h : XV K t T) : XE K (tCB r t) (cCB R T) := by
  intro b σ H F ρ M Φ Q R0 hT k
  refine h b σ H F ρ M _ _ R0 hT fun xs H1 F1 M1 ds s1 R1 h1 hT => ?_
  exact hr _ σ H1 F1 _ xs ds _ Q R1.old h1 hT fun v H2 F2 z s2 R2 hd hΦ => k v H2 F2 M1 z (s1.trans s2) (R1.oldBack R2 s2) hd hΦ
def cCBL (R : List D → (List D → Prop) → Prop) (T : CLs) : CLs := fun ρ M Φ => T ρ M fun ds M' => R ds fun z => Φ z M'
theorem xl_cb {r : List V → Hp → VK → Prop} {R : List D → (List D → Prop) → Prop} {t : TA} {T : CLs} (hr : RCL K [] r R) (h : XV K t T) : XL K (tCB r t) (cCBL R T) := by
  intro b σ H F ρ M Φ Q R0 hT k
  refine h b σ H F ρ M _ _ R0 hT fun xs H1 F1 M1 ds s1 R1 h1 hT => ?_
  exact hr _ σ H1 F1 _ xs ds _ Q R1.old h1 hT fun p ys H2 F2 z s2 R2 lo hx hd hΦ => k p ys H2 F2 M1 z (s1.trans s2) (R1.oldBack R2 s2) (loose_old (H' := H2) R1 lo) hx hd hΦ
def cIsi2 (Ta : CE) (m n : String) : CE := fun ρ M Φ => Ta ρ M fun x M1 => obG (isD x m) fun c => obG (isD x n) fun e => Φ (.bl (c || e)) M1
end
end HC
/-! Part 3: what is walked, targets, comprehensions, slices. -/
namespace HC
open PySem PySem.Spec PyProof.Rows L2 DL
section
variable [Tbs] {K : PySem.W.Frag} {b : HC.Bs} {σ : L2.St} {H F : Hp} {ρ : HC.Env} {M : Cells}
theorem XE.fr {t : TE} {T : CE} (h : XE K t T) (R : Rep K b σ H F ρ M) {Φ : D → Cells → Prop} {Q : VK} (hT : T ρ M Φ)
    (k : ∀ v H' F' M' d, Same F F' → Fr M H F H' F' M' → Rep K b σ H' F' ρ M' → Dr K F' v d → Φ d M' → Q v H') : t σ H Q :=
  h (HC.here H F M) σ H F ρ M Φ Q R.here hT fun v H' F' M' d s R' hd hΦ => k v H' F' M' d s (Rep.fr R') (R.back R') hd hΦ
theorem XT.fr {t : TT} {T : CTt} (h : XT K t T) (R : Rep K b σ H F ρ M) {Φ : Bool → Cells → Prop} {Q : Bool → Hp → Prop} (hT : T ρ M Φ)
    (k : ∀ c H' F' M', Same F F' → Fr M H F H' F' M' → Rep K b σ H' F' ρ M' → Φ c M' → Q c H') : t σ H Q :=
  h (HC.here H F M) σ H F ρ M Φ Q R.here hT fun c H' F' M' s R' hΦ => k c H' F' M' s (Rep.fr R') (R.back R') hΦ
end
section
variable [Tbs] (K : PySem.W.Frag)
def XI (wi : TI) (T : CLs) : Prop := ∀ (b : HC.Bs) (σ : L2.St) (H F : Hp) (ρ : HC.Env) (M : Cells) (Φ : List D → Cells → Prop) (R : It → Hp → Prop), Rep K b σ H F ρ M → T ρ M Φ →
  (∀ J H' F' M' ds, Same F F' → Rep K b σ H' F' ρ M' → Wk K F' J ds → Φ ds M' → R J H') → wi σ H R
end
abbrev CG := D → HC.Env → Cells → (HC.Env → Cells → Prop) → Prop
/-- a target; js: the slots that it stores into -/
def XG [Tbs] (K : PySem.W.Frag) (js : List Nat) (g : TG) (G : CG) : Prop := ∀ (b : HC.Bs) (σ : L2.St) (H F : Hp) (ρ : HC.Env) (M : Cells) (v : V) (d : D) (Φ : HC.Env → Cells → Prop) (Q : L2.St → Hp → Prop), Rep K b σ H F ρ M → Dr K F v d → G d ρ M Φ →
  (∀ σ' H' F' ρ' M', Same F F' → Rep K b σ' H' F' ρ' M' → (∀ ws, (∀ j ∈ js, j ∈ ws) → wipe σ' ws = wipe σ ws) → Φ ρ' M' → Q σ' H') → g v σ H Q
section
variable [Tbs] {K : PySem.W.Frag}
def cIL (T : CE) : CLs := fun ρ M Φ => T ρ M fun x M' => ∃ ds, x = .lst ds ∧ Φ ds M'
theorem xi_list {t : TE} {T : CE} (h : XE K t T) : XI K (iList K t) (cIL T) := by
  intro b σ H F ρ M Φ R R0 hT k
  refine h b σ H F ρ M _ _ R0 hT fun x H1 F1 M1 d s1 R1 h1 hT => ?_
  obtain ⟨ds, rfl, hT⟩ := hT
  obtain ⟨a, xs, rfl, ea, ha⟩ := h1.inv_lst
  exact ⟨a, rfl, ⟨xs, SqL.of (R1.sub _ _ ea)⟩, k _ H1 F1 M1 ds s1 R1 (wk_list ea ha) hT⟩
def cIT (T : CE) : CLs := fun ρ M Φ => T ρ M fun x M' => ∃ ds, x = .tup ds ∧ Φ ds M'
theorem xi_tup {t : TE} {T : CE} (h : XE K t T) : XI K (iTup K t) (cIT T) := by
  intro b σ H F ρ M Φ R R0 hT k
  refine h b σ H F ρ M _ _ R0 hT fun x H1 F1 M1 d s1 R1 h1 hT => ?_
  obtain ⟨ds, rfl, hT⟩ := hT
  obtain ⟨a, xs, rfl, ea, ha⟩ := h1.inv_tup
  exact ⟨a, rfl, ⟨xs, sqT_same R1.sub ea⟩, k _ H1 F1 M1 ds s1 R1 (wk_tup ea ha) hT⟩
def cIR1 (T : CLs) : CLs := fun ρ M Φ => T ρ M fun xs M' => ∃ j : Int, xs = [.int j] ∧ -(2 ^ 62) ≤ j ∧ j < 2 ^ 62 ∧ Φ (rngD 0 j.toNat) M'
theorem xi_range1 {t : TA} {T : CLs} (h : XV K t T) : XI K (iRng1 t) (cIR1 T) := by
  intro b σ H F ρ M Φ R R0 hT k
  refine h b σ H F ρ M _ _ R0 hT fun xs H1 F1 M1 ds s1 R1 h1 hT => ?_
  obtain ⟨j, rfl, b1, b2, hT⟩ := hT
  obtain ⟨v, r, rfl, h2, h3⟩ := h1.inv
  rw [h3.inv_nil, h2.inv_int]
  exact ⟨j, rfl, b1, b2, k _ H1 F1 M1 _ s1 R1 wk_range hT⟩
def cIR2 (T : CLs) : CLs := fun ρ M Φ => T ρ M fun xs M' => ∃ i j : Int, xs = [.int i, .int j] ∧ (-(2 ^ 62) ≤ i ∧ i < 2 ^ 62 ∧ -(2 ^ 62) ≤ j ∧ j < 2 ^ 62) ∧ Φ (rngD i (j - i).toNat) M'
theorem xi_range2 {t : TA} {T : CLs} (h : XV K t T) : XI K (iRng2 t) (cIR2 T) := by
  intro b σ H F ρ M Φ R R0 hT k
  refine h b σ H F ρ M _ _ R0 hT fun xs H1 F1 M1 ds s1 R1 h1 hT => ?_
  obtain ⟨i, j, rfl, bb, hT⟩ := hT
  obtain ⟨v, r, rfl, h2, h3⟩ := h1.inv
  obtain ⟨w, r2, rfl, h4, h5⟩ := h3.inv
  rw [h5.inv_nil, h2.inv_int, h4.inv_int]
  exact ⟨i, j, rfl, bb, k _ H1 F1 M1 _ s1 R1 wk_range hT⟩
def cIRd (T : CLs) : CLs := fun ρ M Φ => T ρ M fun xs M' => ∃ i j : Int, xs = [.int i, .int j, .int (-1)] ∧ (-(2 ^ 62) ≤ i ∧ i < 2 ^ 62 ∧ -(2 ^ 62) ≤ j ∧ j < 2 ^ 62) ∧ Φ (rngDn i (i - j).toNat) M'
theorem xi_range3 {t : TA} {T : CLs} (h : XV K t T) : XI K (iRng3 t) (cIRd T) := by
  intro b σ H F ρ M Φ R R0 hT k
  refine h b σ H F ρ M _ _ R0 hT fun xs H1 F1 M1 ds s1 R1 h1 hT => ?_
  obtain ⟨i, j, rfl, ⟨b1, b2, b3, b4⟩, hT⟩ := hT
  obtain ⟨v, r, rfl, h2, h3⟩ := h1.inv
  obtain ⟨w, r2, rfl, h4, h5⟩ := h3.inv
  obtain ⟨u, r3, rfl, h6, h7⟩ := h5.inv
  rw [h7.inv_nil, h2.inv_int, h4.inv_int, h6.inv_int]
  exact ⟨i, j, -1, _, rfl, RgC.neg b1 b2 b3 b4, k _ H1 F1 M1 _ s1 R1 wk_rangeDn hT⟩
def enumD (ds : List D) : List D := (List.range ds.length).map fun i => .tup [.int (i : Nat), ds.getD i .non]
theorem enumD_len (ds : List D) : (enumD ds).length = ds.length := by simp [enumD]
theorem enumD_get {ds : List D} {i : Nat} {d : D} (h : ds[i]? = some d) : (enumD ds)[i]? = some (.tup [.int (i : Nat), d]) := by
  have hi := (List.getElem?_eq_some_iff.mp h).1
  unfold enumD
  rw [List.getElem?_map, List.getElem?_range hi, Option.map_some, List.getD_eq_getElem?_getD, h]
  rfl
theorem wk_pair {F : Hp} {J : It} {G : Hp → Prop} {f g : Nat → Option V} {ds es : List D} {n : Nat} (hn : n ≤ ds.length ∧ n ≤ es.length) (w : Walk J n G (YPair f g)) (hG : ∀ H F', Same F F' → Sub F' H → G H) (hf : ∀ (i : Nat) v d, f i = some v → ds[i]? = some d → Dr K F v d) (hg : ∀ (i : Nat) v d, g i = some v → es[i]? = some d → Dr K F v d) {rs : List D} (hr : rs.length = n) (hrs : ∀ (i : Nat) d e, ds[i]? = some d → es[i]? = some e → i < n → rs[i]? = some (.tup [d, e])) : Wk K F J rs := by
  refine ⟨G, YPair f g, by rw [hr]; exact w, hG, ?_⟩
  intro i H x H' hy hi F' s sub
  rw [hr] at hi
  obtain ⟨T, u, v, h1, h2, h3, h4, h5⟩ := hy
  have e1 := List.getElem?_eq_getElem (show i < ds.length by omega)
  have e2 := List.getElem?_eq_getElem (show i < es.length by omega)
  have d1 := (hf i u _ h4 e1).up s
  have d2 := (hg i v _ h5 e2).up s
  have hF : F' T = none := by
    cases q : F' T with
    | none => rfl
    | some o => rw [sub _ _ q] at h2; cases h2
  have sF : Same F' (upd F' T (.tup [u, v])) := SX.same_upd hF
  have hda := (DA.cons d1 (.one d2)).up sF
  refine ⟨_, upd F' T (.tup [u, v]), hrs i _ _ e1 e2 hi, ?_, .inr ⟨T, .tup [u, v], h2, (by intro t z; cases z), rfl, h3⟩⟩
  rw [h1]
  exact .tup (SqT.of upd_same) hda.1 hda.2
theorem wk_enum {F : Hp} {a : Addr} {xs : List V} {ds : List D} (e : F a = some (.lst xs)) (h : DA K F xs ds) : Wk K F (Ite K a) (enumD ds) := by
  refine wk_pair (ds := (List.range ds.length).map fun i => .int (i : Nat)) (es := ds) (n := xs.length) ⟨by rw [List.length_map, List.length_range, h.1]; exact Nat.le_refl _, by rw [h.1]; exact Nat.le_refl _⟩ walk_enum (fun H F' s sub => SqL.of (sub _ _ (s _ _ e))) (fun i v d e1 e2 => ?_) (fun i v d e1 e2 => h.2 i v d e1 e2) (by rw [enumD_len, h.1]) fun i d e' e1 e2 hi => ?_
  · cases e1
    rw [List.getElem?_map] at e2
    obtain ⟨j, hj, rfl⟩ := Option.map_eq_some_iff.mp e2
    have hjl := (List.getElem?_eq_some_iff.mp hj).1
    rw [List.length_range] at hjl
    rw [List.getElem?_range hjl] at hj
    cases hj
    exact .int _
  · have hi' := (List.getElem?_eq_some_iff.mp e2).1
    rw [List.getElem?_map, List.getElem?_range hi'] at e1
    cases e1
    exact enumD_get e2
def cIEn (T : CE) : CLs := fun ρ M Φ => T ρ M fun x M' => ∃ ds, x = .lst ds ∧ Φ (enumD ds) M'
theorem xi_enum {t : TE} {T : CE} (h : XE K t T) : XI K (iEnum K (tCons t tNil)) (cIEn T) := by
  intro b σ H F ρ M Φ R R0 hT k
  refine h b σ H F ρ M _ _ R0 hT fun x H1 F1 M1 d s1 R1 h1 hT => ?_
  obtain ⟨ds, rfl, hT⟩ := hT
  obtain ⟨a, xs, rfl, ea, ha⟩ := h1.inv_lst
  exact ⟨a, xs, rfl, SqL.of (R1.sub _ _ ea), k _ H1 F1 M1 _ s1 R1 (wk_enum ea ha) hT⟩
/-! ### targets -/
def cName (j : Nat) : CG := fun d ρ M Φ => Φ (ρ.set j (some d)) M
theorem xg_name {j : Nat} : XG K [j] (gName j) (cName j) := by
  intro b σ H F ρ M v d Φ Q R hd hT k
  exact k _ H F _ M (Same.refl F) (R.setD hd) (fun ws hw => wipe_set (hw j (List.mem_singleton.mpr rfl))) hT
abbrev CGs := List D → HC.Env → Cells → (HC.Env → Cells → Prop) → Prop
def XGs (K : PySem.W.Frag) (js : List Nat) (g : TGs) (G : CGs) : Prop := ∀ (b : HC.Bs) (σ : L2.St) (H F : Hp) (ρ : HC.Env) (M : Cells) (vs : List V) (ds : List D) (Φ : HC.Env → Cells → Prop) (Q : L2.St → Hp → Prop), Rep K b σ H F ρ M → DA K F vs ds → G ds ρ M Φ →
  (∀ σ' H' F' ρ' M', Same F F' → Rep K b σ' H' F' ρ' M' → (∀ ws, (∀ j ∈ js, j ∈ ws) → wipe σ' ws = wipe σ ws) → Φ ρ' M' → Q σ' H') → g vs σ H Q
def cGNil : CGs := fun ds ρ M Φ => ds = [] ∧ Φ ρ M
theorem xgs_nil : XGs K [] gNil cGNil := by
  intro b σ H F ρ M vs ds Φ Q R hd hT k
  obtain ⟨rfl, hT⟩ := hT
  exact ⟨hd.inv_nil, k σ H F ρ M (Same.refl F) R (fun _ _ => rfl) hT⟩
def cGCons (G : CG) (Gs : CGs) : CGs := fun ds ρ M Φ => ∃ d r, ds = d :: r ∧ G d ρ M fun ρ1 M1 => Gs r ρ1 M1 Φ
theorem xgs_cons {js js' : List Nat} {g : TG} {gs : TGs} {G : CG} {Gs : CGs} (h : XG K js g G) (hs : XGs K js' gs Gs) : XGs K (js ++ js') (gCons g gs) (cGCons G Gs) := by
  intro b σ H F ρ M vs ds Φ Q R hd hT k
  obtain ⟨d, r, rfl, hT⟩ := hT
  obtain ⟨v, t, rfl, h1, h2⟩ := hd.inv
  refine ⟨v, t, rfl, h b σ H F ρ M v d _ _ R h1 hT fun σ1 H1 F1 ρ1 M1 s1 R1 w1 hT => ?_⟩
  refine hs b σ1 H1 F1 ρ1 M1 t r _ _ R1 (h2.up s1) hT fun σ2 H2 F2 ρ2 M2 s2 R2 w2 hT => k σ2 H2 F2 ρ2 M2 (s1.trans s2) R2 (fun ws hw => ?_) hT
  rw [w2 ws fun j hj => hw j (List.mem_append_right _ hj), w1 ws fun j hj => hw j (List.mem_append_left _ hj)]
def cGTup (n : Nat) (Gs : CGs) : CG := fun d ρ M Φ => ∃ ds, d = .tup ds ∧ ds.length = n ∧ Gs ds ρ M Φ
theorem xg_tup {n : Nat} {js : List Nat} {gs : TGs} {Gs : CGs} (hs : XGs K js gs Gs) : XG K js (gTup K n gs) (cGTup n Gs) := by
  intro b σ H F ρ M v d Φ Q R hd hT k
  obtain ⟨ds, rfl, hn, hT⟩ := hT
  obtain ⟨a, xs, rfl, ea, ha⟩ := hd.inv_tup
  exact ⟨a, xs, rfl, sqT_same R.sub ea, by rw [ha.1, hn], hs b σ H F ρ M xs ds Φ Q R ha hT k⟩
theorem XG.fr {js : List Nat} {g : TG} {G : CG} (h : XG K js g G) {b : HC.Bs} {σ : L2.St} {H F : Hp} {ρ : HC.Env} {M : Cells} {v : V} {d : D} {Φ : HC.Env → Cells → Prop} {Q : L2.St → Hp → Prop} (R : Rep K b σ H F ρ M) (hd : Dr K F v d) (hT : G d ρ M Φ)
    (k : ∀ σ' H' F' ρ' M', Same F F' → Fr M H F H' F' M' → Rep K b σ' H' F' ρ' M' → (∀ ws, (∀ j ∈ js, j ∈ ws) → wipe σ' ws = wipe σ ws) → Φ ρ' M' → Q σ' H') : g v σ H Q :=
  h (HC.here H F M) σ H F ρ M v d Φ Q R.here hd hT fun σ' H' F' ρ' M' s R' w hΦ => k σ' H' F' ρ' M' s (Rep.fr R') (R.back R') w hΦ
/-! ### comprehensions -/
def wipeC (ρ : HC.Env) : List Nat → HC.Env
  | [] => ρ
  | v :: vs => (wipeC ρ vs).set v none
theorem wipeC_len (ρ : HC.Env) : ∀ vs, (wipeC ρ vs).length = ρ.length
  | [] => rfl
  | v :: vs => by unfold wipeC; rw [List.length_set, wipeC_len ρ vs]
theorem wipeC_some {ρ : HC.Env} {i : Nat} {o : D} : ∀ {vs : List Nat}, (wipeC ρ vs)[i]? = some (some o) → ρ[i]? = some (some o) ∧ i ∉ vs
  | [], h => ⟨h, by simp⟩
  | v :: vs, h => by
    rcases set_some (show ((wipeC ρ vs).set v none)[i]? = some (some o) from h) with ⟨rfl, q⟩ | ⟨n, q⟩
    · cases q
    · obtain ⟨h1, h2⟩ := wipeC_some q
      exact ⟨h1, fun hm => (List.mem_cons.mp hm).elim n h2⟩
theorem Rep.block {b : HC.Bs} {σ : L2.St} {H F : Hp} {ρ : HC.Env} {M : Cells} (R : Rep K b σ H F ρ M) (vs : List Nat) : Rep K b (wipe σ vs) H F (wipeC ρ vs) M where
  sub := R.sub
  grow := R.grow
  keep := R.keep
  new := R.new
  nt := R.nt
  dom := R.dom
  tabs := R.tabs
  cell := R.cell
  slot := fun i o e => by
    obtain ⟨h1, h2⟩ := wipeC_some e
    rw [wipe_get h2]
    exact R.slot i o h1
  len := by rw [wipeC_len, wipe_length]; exact R.len
theorem Rep.unblock {b : HC.Bs} {σ : L2.St} {H F H0 F0 : Hp} {ρ0 ρ : HC.Env} {M0 M : Cells} {vs : List Nat} (R0 : Rep K b σ H0 F0 ρ0 M0) (s : Same F0 F) (R : Rep K b (wipe σ vs) H F ρ M) : Rep K b σ H F ρ0 M where
  sub := R.sub
  grow := R.grow
  keep := R.keep
  new := R.new
  nt := R.nt
  dom := R.dom
  tabs := R.tabs
  cell := R.cell
  slot := fun i o e => by
    obtain ⟨v, h1, h2⟩ := R0.slot i o e
    exact ⟨v, h1, h2.up s⟩
  len := R0.len
def cYes : CTt := fun ρ M Φ => Φ true M
theorem xt_yes : XT K tYes cYes := fun b σ H F ρ M Φ Q R hT k => k true H F M (Same.refl F) R hT
def cLc (Ti : CLs) (G : CG) (Tt : CTt) (Te : CE) (vs : List Nat) : CLs := fun ρ M Φ => Ti ρ M fun ds M1 => ∃ W : Nat → List D → Cells → Prop, W 0 [] M1 ∧
  (∀ k x acc M, ds[k]? = some x → W k acc M → G x (wipeC ρ vs) M fun ρ2 M2 => Tt ρ2 M2 fun c M3 => if c = true then Te ρ2 M3 fun e M4 => acc.length < sizeLine ∧ W (k + 1) (acc ++ [e]) M4 else W (k + 1) acc M3) ∧
  ∀ acc M, W ds.length acc M → Φ acc M
theorem xl_lc {js : List Nat} {wi : TI} {g : TG} {tt : TT} {te : TE} {vs : List Nat} {Ti : CLs} {G : CG} {Tt : CTt} {Te : CE} (hi : XI K wi Ti) (hg : XG K js g G) (ht : XT K tt Tt) (he : XE K te Te) (hj : ∀ j ∈ js, j ∈ vs := by decide) :
    XL K (tLc wi g tt te vs) (cLc Ti G Tt Te vs) := by
  intro b σ H F ρ M Φ Q R0 hT k
  refine hi b σ H F ρ M _ _ R0 hT fun J H1 F1 M1 ds s1 R1 hw hT => fun p hp => ?_
  obtain ⟨Gd, Y, hwk, hG, hY⟩ := hw
  obtain ⟨W, w0, wt, wd⟩ := hT
  have lo1 := R1.loose hp
  refine lc_it hwk (fun i H' => ∃ F' M' acc xs, Same F1 F' ∧ Rep K b (wipe σ vs) H' F' (wipeC ρ vs) M' ∧ H' p = some (.lst xs) ∧ DA K F' xs acc ∧ Loose b F' M' p ∧ W i acc M')
    ⟨F1, M1, [], [], Same.refl F1, (R1.block vs).lay hp, upd_same, .nil, lo1, w0⟩ ?_ ?_ ?_
  · rintro i H' _ ⟨F', M', acc, xs, s, R, _⟩
    exact hG H' F' s R.sub
  · rintro i x H2 H3 hin ⟨F2, M2, acc, xs, s, R2, ex, hx, lo2, hW⟩ y
    obtain ⟨d, F3, hd, hdr, hy⟩ := hY i H2 x H3 y hin F2 s R2.sub
    have st : Rep K b (wipe σ vs) H3 F3 (wipeC ρ vs) M2 ∧ H3 p = some (.lst xs) ∧ Loose b F3 M2 p ∧ Same F2 F3 := by
      rcases hy with ⟨rfl, rfl⟩ | ⟨q, o, hq, hqn, rfl, rfl⟩
      · exact ⟨R2, ex, lo2, Same.refl _⟩
      · have nq : p ≠ q := ne_of_none ex hq
        exact ⟨R2.alloc hq hqn, (upd_ne nq).trans ex, ⟨(upd_ne nq).trans lo2.1, lo2.2⟩, SX.same_upd (R2.fresh hq).1⟩
    obtain ⟨R3, ex3, lo3, s3⟩ := st
    refine hg.fr R3 hdr (wt i d acc M2 hd hW) fun σ4 H4 F4 ρ4 M4 s4 f4 R4 w4 hT => ?_
    have hwp : wipe σ4 vs = wipe σ vs := by rw [w4 vs hj, wipe_wipe]
    obtain ⟨ex4, lo4⟩ := f4.loose lo3 ex3
    refine ⟨hwp, ht.fr R4 hT fun c H5 F5 M5 s5 f5 R5 hT => ?_⟩
    obtain ⟨ex5, lo5⟩ := f5.loose lo4 ex4
    have s15 : Same F1 F5 := (((s.trans s3).trans s4).trans s5)
    have hx5 := (((hx.up s3).up s4).up s5)
    -- back to the block's slots
    have blk : ∀ {H' F' : Hp} {M' : Cells}, Same F2 F' → Rep K b σ4 H' F' ρ4 M' → Rep K b (wipe σ vs) H' F' (wipeC ρ vs) M' := fun {H' F' M'} sq R' => by
      have h1 := R'.block vs
      rw [hwp] at h1
      have h2 : Rep K b (wipe (wipe σ vs) []) H' F' (wipeC ρ4 vs) M' := h1
      exact Rep.unblock (vs := []) R2 sq h2
    cases c with
    | false => exact ⟨F5, M5, acc, xs, s15, blk ((s3.trans s4).trans s5) R5, ex5, hx5, lo5, hT⟩
    | true =>
      refine he.fr R5 hT fun u H6 F6 M6 e s6 f6 R6 hd6 hT => ?_
      obtain ⟨ex6, lo6⟩ := f6.loose lo5 ex5
      have hx6 := hx5.up s6
      exact ⟨xs, ex6, by rw [hx6.1]; exact hT.1, F6, M6, acc ++ [e], xs ++ [u], s15.trans s6, blk (((s3.trans s4).trans s5).trans s6) (R6.poke (o := .lst (xs ++ [u])) lo6 ex6), upd_same, hx6.app (.one hd6), lo6, hT.2⟩
  · rintro H' ⟨F', M', acc, xs, s, R, ex, hx, lo, hW⟩
    exact k p xs H' F' M' acc (s1.trans s) (R1.unblock s R) lo ex hx (wd acc M' hW)
def cDc (Ti : CLs) (G : CG) (Tt : CTt) (Tk Tv : CE) (vs : List Nat) : CDs := fun ρ M Φ => Ti ρ M fun ds M1 => ∃ W : Nat → List (Key × D) → Cells → Prop, W 0 [] M1 ∧
  (∀ k x acc M, ds[k]? = some x → W k acc M → G x (wipeC ρ vs) M fun ρ2 M2 => Tt ρ2 M2 fun c M3 => if c = true then Tk ρ2 M3 fun y M4 => Tv ρ2 M4 fun z M5 => ∃ key, keyD y = some key ∧ acc.length < sizeLine ∧ W (k + 1) (putD acc key z) M5 else W (k + 1) acc M3) ∧
  ∀ acc M, W ds.length acc M → Φ acc M
theorem xd_dc {js : List Nat} {wi : TI} {g : TG} {tt : TT} {tk tv : TE} {vs : List Nat} {Ti : CLs} {G : CG} {Tt : CTt} {Tk Tv : CE} (hi : XI K wi Ti) (hg : XG K js g G) (ht : XT K tt Tt) (hk : XE K tk Tk) (he : XE K tv Tv) (hj : ∀ j ∈ js, j ∈ vs := by decide) :
    XD K (tDc wi g tt tk tv vs) (cDc Ti G Tt Tk Tv vs) := by
  intro b σ H F ρ M Φ Q R0 hT k
  refine hi b σ H F ρ M _ _ R0 hT fun J H1 F1 M1 ds s1 R1 hw hT => fun p hp => ?_
  obtain ⟨Gd, Y, hwk, hG, hY⟩ := hw
  obtain ⟨W, w0, wt, wd⟩ := hT
  have lo1 := R1.loose hp
  let Pv : Nat → Hp → Prop := fun i H' => ∃ F' M' acc xs, Same F1 F' ∧ Rep K b (wipe σ vs) H' F' (wipeC ρ vs) M' ∧ H' p = some (.dK xs) ∧ DM K F' xs acc ∧ Loose b F' M' p ∧ W i acc M'
  refine ⟨fun i m H' => m = ds.length - i ∧ i ≤ ds.length ∧ Pv i H', ⟨ds.length, by simp, Nat.zero_le _, F1, M1, [], [], Same.refl F1, (R1.block vs).lay hp, upd_same, .nil, lo1, w0⟩, ?_⟩
  rintro i m H2 ⟨rfl, hle, F2, M2, acc, xs, s, R2, ex, hx, lo2, hW⟩
  have hgd := hG H2 F2 s R2.sub
  by_cases hin : i < ds.length
  · refine .inr ⟨hwk.goes i H2 hin hgd, Pv (i + 1), fun H' p' => ⟨ds.length - (i + 1), by omega, rfl, hin, p'⟩, fun x H3 y => ?_⟩
    obtain ⟨d, F3, hd, hdr, hy⟩ := hY i H2 x H3 (hwk.yields i H2 x H3 hin hgd y) hin F2 s R2.sub
    have st : Rep K b (wipe σ vs) H3 F3 (wipeC ρ vs) M2 ∧ H3 p = some (.dK xs) ∧ Loose b F3 M2 p ∧ Same F2 F3 := by
      rcases hy with ⟨rfl, rfl⟩ | ⟨q, o, hq, hqn, rfl, rfl⟩
      · exact ⟨R2, ex, lo2, Same.refl _⟩
      · have nq : p ≠ q := ne_of_none ex hq
        exact ⟨R2.alloc hq hqn, (upd_ne nq).trans ex, ⟨(upd_ne nq).trans lo2.1, lo2.2⟩, SX.same_upd (R2.fresh hq).1⟩
    obtain ⟨R3, ex3, lo3, s3⟩ := st
    refine hg.fr R3 hdr (wt i d acc M2 hd hW) fun σ4 H4 F4 ρ4 M4 s4 f4 R4 w4 hT => ?_
    have hwp : wipe σ4 vs = wipe σ vs := by rw [w4 vs hj, wipe_wipe]
    obtain ⟨ex4, lo4⟩ := f4.loose lo3 ex3
    refine ⟨hwp, ht.fr R4 hT fun c H5 F5 M5 s5 f5 R5 hT => ?_⟩
    obtain ⟨ex5, lo5⟩ := f5.loose lo4 ex4
    have s15 : Same F1 F5 := (((s.trans s3).trans s4).trans s5)
    have hx5 := (((hx.up s3).up s4).up s5)
    have blk : ∀ {H' F' : Hp} {M' : Cells}, Same F2 F' → Rep K b σ4 H' F' ρ4 M' → Rep K b (wipe σ vs) H' F' (wipeC ρ vs) M' := fun {H' F' M'} sq R' => by
      have h1 := R'.block vs
      rw [hwp] at h1
      have h2 : Rep K b (wipe (wipe σ vs) []) H' F' (wipeC ρ4 vs) M' := h1
      exact Rep.unblock (vs := []) R2 sq h2
    cases c with
    | false => exact ⟨F5, M5, acc, xs, s15, blk ((s3.trans s4).trans s5) R5, ex5, hx5, lo5, hT⟩
    | true =>
      refine hk.fr R5 hT fun u H6 F6 M6 e s6 f6 R6 hd6 hT => ?_
      obtain ⟨ex6, lo6⟩ := f6.loose lo5 ex5
      refine he.fr R6 hT fun u7 H7 F7 M7 e7 s7 f7 R7 hd7 hT => ?_
      obtain ⟨ex7, lo7⟩ := f7.loose lo6 ex6
      obtain ⟨key, hky, hz, hT⟩ := hT
      have hx7 := (hx5.up s6).up s7
      exact ⟨xs, key, keyD_ok hd6 hky, ex7, by rw [hx7.len]; exact hz, F7, M7, putD acc key e7, putK xs key u7, (s15.trans s6).trans s7, blk ((((s3.trans s4).trans s5).trans s6).trans s7) (R7.poke (o := .dK (putK xs key u7)) lo7 ex7), upd_same, hx7.put hd7, lo7, hT⟩
  · have e : i = ds.length := by omega
    subst e
    exact .inl ⟨hwk.stops H2 hgd, k p xs H2 F2 M2 acc (s1.trans s) (R1.unblock s R2) lo2 ex hx (wd acc M2 hW)⟩
/-! ### slices -/
abbrev COo := HC.Env → Cells → (Option Int → Cells → Prop) → Prop
def XP (K : PySem.W.Frag) (t : TO) (T : COo) : Prop := ∀ (b : HC.Bs) (σ : L2.St) (H F : Hp) (ρ : HC.Env) (M : Cells) (Φ : Option Int → Cells → Prop) (Q : Option Int → Hp → Prop), Rep K b σ H F ρ M → T ρ M Φ →
  (∀ o H' F' M', Same F F' → Rep K b σ H' F' ρ M' → Φ o M' → Q o H') → t σ H Q
def cNoPart : COo := fun ρ M Φ => Φ none M
theorem xp_none : XP K tNoPart cNoPart := fun b σ H F ρ M Φ Q R hT k => k none H F M (Same.refl F) R hT
def cPart (T : CE) : COo := fun ρ M Φ => T ρ M fun x M' => ∃ i, x = .int i ∧ Φ (some i) M'
theorem xp_some {t : TE} {T : CE} (h : XE K t T) : XP K (tPart t) (cPart T) := by
  intro b σ H F ρ M Φ Q R0 hT k
  refine h b σ H F ρ M _ _ R0 hT fun x H1 F1 M1 d s1 R1 h1 hT => ?_
  obtain ⟨i, rfl, hT⟩ := hT
  exact ⟨i, h1.inv_int, k _ H1 F1 M1 s1 R1 hT⟩
def cSlL (Te : CE) (Tl Th : COo) : CLs := fun ρ M Φ => Te ρ M fun x M1 => Tl ρ M1 fun l M2 => Th ρ M2 fun u M3 => ∃ ds, lstOf M3 x = some ds ∧ Φ (cutD ds l u) M3
theorem xl_slice {te : TE} {tl th : TO} {Te : CE} {Tl Th : COo} (he : XE K te Te) (hl : XP K tl Tl) (hh : XP K th Th) : XL K (tSl (rSlL K) te tl th) (cSlL Te Tl Th) := by
  intro b σ H F ρ M Φ Q R0 hT k
  refine he b σ H F ρ M _ _ R0 hT fun x H1 F1 M1 d s1 R1 h1 hA => ?_
  refine hl b σ H1 F1 ρ M1 _ _ R1 hA fun l H2 F2 M2 s2 R2 hB => ?_
  refine hh b σ H2 F2 ρ M2 _ _ R2 hB fun u H3 F3 M3 s3 R3 hC => ?_
  obtain ⟨ds, hl, hD⟩ := hC
  have s13 := s2.trans s3
  obtain ⟨a, xs, rfl, ea, ha⟩ := lst_at R3 (h1.up s13) hl
  exact ⟨a, xs, rfl, SqL.of ea, fun p hp => k p _ _ F3 M3 _ (s1.trans s13) (R3.lay hp) (R3.loose hp) upd_same (ha.cut l u) hD⟩
def cRevL (T : CE) : CLs := fun ρ M Φ => T ρ M fun x M1 => ∃ ds, lstOf M1 x = some ds ∧ Φ ds.reverse M1
theorem xl_rev {t : TE} {T : CE} (h : XE K t T) : XL K (tRevL K t) (cRevL T) := by
  intro b σ H F ρ M Φ Q R0 hT k
  refine h b σ H F ρ M _ _ R0 hT fun x H1 F1 M1 d s1 R1 h1 hT => ?_
  obtain ⟨ds, hl, hT⟩ := hT
  obtain ⟨a, xs, rfl, ea, ha⟩ := lst_at R1 h1 hl
  exact ⟨a, xs, rfl, SqL.of ea, fun p hp => k p _ _ F1 M1 _ s1 (R1.lay hp) (R1.loose hp) upd_same ha.rev hT⟩
def cRevT (T : CE) : CE := fun ρ M Φ => T ρ M fun x M1 => ∃ ds, x = .tup ds ∧ Φ (.tup ds.reverse) M1
theorem xe_revT {t : TE} {T : CE} (h : XE K t T) : XE K (SX.tRevT K t) (cRevT T) := by
  intro b σ H F ρ M Φ Q R0 hT k
  refine h b σ H F ρ M _ _ R0 hT fun x H1 F1 M1 d s1 R1 h1 hT => ?_
  obtain ⟨ds, rfl, hT⟩ := hT
  obtain ⟨a, xs, rfl, ea, ha⟩ := h1.inv_tup
  refine ⟨a, xs, rfl, sqT_same R1.sub ea, fun p hp => ?_⟩
  obtain ⟨hF, _⟩ := R1.fresh hp
  have sF : Same F1 (upd F1 p (.tup xs.reverse)) := SX.same_upd hF
  have h2 := ha.rev.up sF
  exact k _ _ _ M1 _ (s1.trans sF) (R1.alloc hp) (.tup (SqT.of upd_same) h2.1 h2.2) hT
/-- tuple(x) of a list -/
def cTupOf (T : CE) : CE := fun ρ M Φ => T ρ M fun x M1 => ∃ ds, seqOf M1 x = some ds ∧ Φ (.tup ds) M1
theorem xe_tupOf {t : TE} {T : CE} (h : XE K t T) : XE K (tCB (fun xs H Q => ∃ p ys, xs = [V.ref p] ∧ ((SqL K H p ys ∧ ∀ l, H l = none → Q (.ref l) (upd H l (.tup ys))) ∨ (SqT K H p ys ∧ Q (.ref p) H))) (tCons t tNil)) (cTupOf T) := by
  intro b σ H F ρ M Φ Q R0 hT k
  refine h b σ H F ρ M _ _ R0 hT fun x H1 F1 M1 d s1 R1 h1 hT => ?_
  obtain ⟨ds, hl, hΦ⟩ := hT
  by_cases hd : d = .tup ds
  · subst hd
    obtain ⟨a, xs, rfl, ea, ha⟩ := h1.inv_tup
    exact ⟨a, xs, rfl, .inr ⟨sqT_same R1.sub ea, k _ H1 F1 M1 _ s1 R1 h1 hΦ⟩⟩
  · have hl' : lstOf M1 d = some ds := by
      cases d with
      | tup l => cases hl; exact absurd rfl hd
      | _ => exact hl
    obtain ⟨a, xs, rfl, ea, ha⟩ := lst_at R1 h1 hl'
    refine ⟨a, xs, rfl, .inl ⟨SqL.of ea, fun p hp => ?_⟩⟩
    obtain ⟨hF, _⟩ := R1.fresh hp
    have sF : Same F1 (upd F1 p (.tup xs)) := SX.same_upd hF
    have h2 := ha.up sF
    exact k _ _ _ M1 _ (s1.trans sF) (R1.alloc hp) (.tup (SqT.of upd_same) h2.1 h2.2) hΦ
end
end HC
/-! Part 4: statements, promises, calls. -/
namespace HC
open PySem PySem.Spec PyProof.Rows L2 DL
structure CEn where
  nx : HC.Env → Cells → Prop
  rt : D → HC.Env → Cells → Prop
  bk : HC.Env → Cells → Prop
  ct : HC.Env → Cells → Prop
abbrev CS := CEn → HC.Env → Cells → Prop
def XS [Tbs] (K : PySem.W.Frag) (t : TS) (T : CS) : Prop := ∀ (b : HC.Bs) (σ : L2.St) (H F : Hp) (ρ : HC.Env) (M : Cells) (E : CEn) (D' : Ends), Rep K b σ H F ρ M → T E ρ M →
  (∀ σ' H' F' ρ' M', Same F F' → Rep K b σ' H' F' ρ' M' → E.nx ρ' M' → D'.nx σ' H') → (∀ v σ' H' F' ρ' M' d, Same F F' → Rep K b σ' H' F' ρ' M' → Dr K F' v d → E.rt d ρ' M' → D'.rt v H') →
  (∀ σ' H' F' ρ' M', Same F F' → Rep K b σ' H' F' ρ' M' → E.bk ρ' M' → D'.bk σ' H') → (∀ σ' H' F' ρ' M', Same F F' → Rep K b σ' H' F' ρ' M' → E.ct ρ' M' → D'.ct σ' H') → t D' σ H
section
variable [Tbs] {K : PySem.W.Frag}
def cNext : CS := fun E ρ M => E.nx ρ M
theorem xs_next : XS K tNext cNext := fun b σ H F ρ M E D' R hT n r bk ct => n σ H F ρ M (Same.refl F) R hT
def cSeq (T U : CS) : CS := fun E ρ M => T { E with nx := U E } ρ M
theorem xs_seq {t u : TS} {T U : CS} (h : XS K t T) (h2 : XS K u U) : XS K (tSeq t u) (cSeq T U) := by
  intro b σ H F ρ M E D' R hT n r bk ct
  refine h b σ H F ρ M _ _ R hT (fun σ1 H1 F1 ρ1 M1 s1 R1 hT => ?_) r bk ct
  exact h2 b σ1 H1 F1 ρ1 M1 E D' R1 hT (fun σ2 H2 F2 ρ2 M2 s2 => n σ2 H2 F2 ρ2 M2 (s1.trans s2)) (fun v σ2 H2 F2 ρ2 M2 d s2 => r v σ2 H2 F2 ρ2 M2 d (s1.trans s2)) (fun σ2 H2 F2 ρ2 M2 s2 => bk σ2 H2 F2 ρ2 M2 (s1.trans s2)) (fun σ2 H2 F2 ρ2 M2 s2 => ct σ2 H2 F2 ρ2 M2 (s1.trans s2))
def cBreak : CS := fun E ρ M => E.bk ρ M
theorem xs_break : XS K tBreak cBreak := fun b σ H F ρ M E D' R hT n r bk ct => bk σ H F ρ M (Same.refl F) R hT
def cCont : CS := fun E ρ M => E.ct ρ M
theorem xs_cont : XS K tCont cCont := fun b σ H F ρ M E D' R hT n r bk ct => ct σ H F ρ M (Same.refl F) R hT
def cRet (T : CE) : CS := fun E ρ M => T ρ M fun d M' => E.rt d ρ M'
theorem xs_ret {t : TE} {T : CE} (h : XE K t T) : XS K (tRet t) (cRet T) := by
  intro b σ H F ρ M E D' R hT n r bk ct
  exact h b σ H F ρ M _ _ R hT fun v H1 F1 M1 d s1 R1 hd hΦ => r v σ H1 F1 ρ M1 d s1 R1 hd hΦ
def cRetN : CS := fun E ρ M => E.rt .non ρ M
theorem xs_retN : XS K tRetN cRetN := fun b σ H F ρ M E D' R hT n r bk ct => r .non σ H F ρ M .non (Same.refl F) R .non hT
def cDrop (T : CE) : CS := fun E ρ M => T ρ M fun _ M' => E.nx ρ M'
theorem xs_drop {t : TE} {T : CE} (h : XE K t T) : XS K (tDrop t) (cDrop T) := by
  intro b σ H F ρ M E D' R hT n r bk ct
  exact h b σ H F ρ M _ _ R hT fun v H1 F1 M1 d s1 R1 hd hΦ => n σ H1 F1 ρ M1 s1 R1 hΦ
def cIfS (C : CTt) (T U : CS) : CS := fun E ρ M => C ρ M fun c M1 => if c = true then T E ρ M1 else U E ρ M1
theorem xs_if {c : TT} {t u : TS} {C : CTt} {T U : CS} (hc : XT K c C) (h : XS K t T) (h2 : XS K u U) : XS K (tIfS c t u) (cIfS C T U) := by
  intro b σ H F ρ M E D' R hT n r bk ct
  refine hc b σ H F ρ M _ _ R hT fun c H1 F1 M1 s1 R1 hT => ?_
  have n' := fun σ2 H2 F2 ρ2 M2 (s2 : Same F1 F2) => n σ2 H2 F2 ρ2 M2 (s1.trans s2)
  have r' := fun v σ2 H2 F2 ρ2 M2 d (s2 : Same F1 F2) => r v σ2 H2 F2 ρ2 M2 d (s1.trans s2)
  have b' := fun σ2 H2 F2 ρ2 M2 (s2 : Same F1 F2) => bk σ2 H2 F2 ρ2 M2 (s1.trans s2)
  have c' := fun σ2 H2 F2 ρ2 M2 (s2 : Same F1 F2) => ct σ2 H2 F2 ρ2 M2 (s1.trans s2)
  cases c with
  | true => exact h b σ H1 F1 ρ M1 E D' R1 hT n' r' b' c'
  | false => exact h2 b σ H1 F1 ρ M1 E D' R1 hT n' r' b' c'
def cAsg (T : CE) (G : CG) : CS := fun E ρ M => T ρ M fun d M1 => G d ρ M1 E.nx
theorem xs_asg {js : List Nat} {t : TE} {g : TG} {T : CE} {G : CG} (h : XE K t T) (hg : XG K js g G) : XS K (tAsg t g) (cAsg T G) := by
  intro b σ H F ρ M E D' R hT n r bk ct
  refine h b σ H F ρ M _ _ R hT fun v H1 F1 M1 d s1 R1 hd hΦ => ?_
  exact hg b σ H1 F1 ρ M1 v d _ _ R1 hd hΦ fun σ2 H2 F2 ρ2 M2 s2 R2 _ hn => n σ2 H2 F2 ρ2 M2 (s1.trans s2) R2 hn
def cAug (i : Nat) (T : CE) (R : DO) : CS := fun E ρ M => ∃ x, ρ[i]? = some (some x) ∧ T ρ M fun y M1 => R x y fun z => E.nx (ρ.set i (some z)) M1
theorem xs_augI {i : Nat} {t : TE} {T : CE} {f : Int → Int → Int} (h : XE K t T) : XS K (tAug i t (ipI f)) (cAug i T (oI0 fun a c => .int (f a c))) := by
  intro b σ H F ρ M E D' R hT n r bk ct
  obtain ⟨x, hx, hT⟩ := hT
  obtain ⟨v, h1, h2⟩ := R.slot i _ hx
  refine ⟨v, h1, h b σ H F ρ M _ _ R hT fun y H1 F1 M1 d s1 R1 hd hΦ => ?_⟩
  cases x <;> try exact hΦ.elim
  cases d <;> try exact hΦ.elim
  exact ⟨_, _, h2.inv_int, hd.inv_int, n _ H1 F1 _ M1 s1 (R1.setD (.int _)) hΦ⟩
/-! ### cells are changed -/
theorem Rep.writeL {b : HC.Bs} {σ : L2.St} {H F : Hp} {ρ : HC.Env} {M : Cells} {p : Addr} {ds ds' : List D} {xs ys : List V} (R : Rep K b σ H F ρ M) (e : look M p = some (.l ds)) (ex : H p = some (.lst xs)) (hy : DA K F ys ds') : Rep K b σ (upd H p (.lst ys)) F ρ (put M p (.l ds')) := by
  obtain ⟨hF, _⟩ := (R.cell p _ e).1
  exact R.write e hF ex (by intro t z; cases z) (lst_nc _) ⟨hF, ys, upd_same, hy⟩
theorem Rep.writeM {b : HC.Bs} {σ : L2.St} {H F : Hp} {ρ : HC.Env} {M : Cells} {p : Addr} {ds ds' : List (Key × D)} {xs ys : List (Key × V)} (R : Rep K b σ H F ρ M) (e : look M p = some (.m ds)) (ex : H p = some (.dK xs)) (hy : DM K F ys ds') : Rep K b σ (upd H p (.dK ys)) F ρ (put M p (.m ds')) := by
  obtain ⟨hF, _⟩ := (R.cell p _ e).1
  exact R.write e hF ex (by intro t z; cases z) (dK_nc _) ⟨hF, ys, upd_same, hy⟩
theorem l_at {b : HC.Bs} {σ : L2.St} {H F : Hp} {ρ : HC.Env} {M : Cells} (R : Rep K b σ H F ρ M) {p : Addr} {ds : List D} (e : look M p = some (.l ds)) : ∃ xs, H p = some (.lst xs) ∧ DA K F xs ds := (R.cell p _ e).1.2
theorem m_at {b : HC.Bs} {σ : L2.St} {H F : Hp} {ρ : HC.Env} {M : Cells} (R : Rep K b σ H F ρ M) {p : Addr} {ds : List (Key × D)} (e : look M p = some (.m ds)) : ∃ xs, H p = some (.dK xs) ∧ DM K F xs ds := (R.cell p _ e).1.2
/-- x.append(e) -/
def cApp (To T : CE) : CS := fun E ρ M => To ρ M fun x M1 => (∃ l0, lstOf M1 x = some l0) ∧ T ρ M1 fun d M2 => ∃ p ds, x = .fn p ∧ look M2 p = some (.l ds) ∧ ds.length < sizeLine ∧ E.nx ρ (put M2 p (.l (ds ++ [d])))
theorem xs_app {to t : TE} {To T : CE} (ho : XE K to To) (h : XE K t T) : XS K (tDrop (tBM K "list" rAppend to (tCons t tNil))) (cApp To T) := by
  intro b σ H F ρ M E D' R hT n r bk ct
  refine ho b σ H F ρ M _ _ R hT fun x H1 F1 M1 dx s1 R1 h1 hT => ?_
  obtain ⟨⟨l0, e0⟩, hT⟩ := hT
  obtain ⟨a, xs0, rfl, ea, _⟩ := lst_at R1 h1 e0
  refine ⟨.inl ⟨rfl, xs0, SqL.of ea⟩, h b σ H1 F1 ρ M1 _ _ R1 hT fun y H2 F2 M2 d s2 R2 hd hΦ => ?_⟩
  obtain ⟨p, ds, rfl, e1, hz, hΦ⟩ := hΦ
  cases h1.inv_fn
  obtain ⟨xs, ex, hx⟩ := l_at R2 e1
  exact ⟨_, xs, y, rfl, rfl, ex, by rw [hx.1]; exact hz, n σ _ F2 ρ _ (s1.trans s2) (R2.writeL e1 ex (hx.app (.one hd))) hΦ⟩
/-- x.extend(a new list) -/
def cExt (To : CE) (T : CLs) : CS := fun E ρ M => To ρ M fun x M1 => (∃ l0, lstOf M1 x = some l0) ∧ T ρ M1 fun es M2 => ∃ p ds, x = .fn p ∧ look M2 p = some (.l ds) ∧ ds.length + es.length ≤ sizeLine ∧ E.nx ρ (put M2 p (.l (ds ++ es)))
theorem xs_ext {to t : TE} {To : CE} {T : CLs} (ho : XE K to To) (h : XL K t T) : XS K (tDrop (tBM K "list" rExtend to (tCons t tNil))) (cExt To T) := by
  intro b σ H F ρ M E D' R hT n r bk ct
  refine ho b σ H F ρ M _ _ R hT fun x H1 F1 M1 dx s1 R1 h1 hT => ?_
  obtain ⟨⟨l0, e0⟩, hT⟩ := hT
  obtain ⟨a, xs0, rfl, ea, _⟩ := lst_at R1 h1 e0
  refine ⟨.inl ⟨rfl, xs0, SqL.of ea⟩, h b σ H1 F1 ρ M1 _ _ R1 hT fun q ys H2 F2 M2 es s2 R2 lo hy hes hΦ => ?_⟩
  obtain ⟨p, ds, rfl, e1, hz, hΦ⟩ := hΦ
  cases h1.inv_fn
  obtain ⟨xs, ex, hx⟩ := l_at R2 e1
  exact ⟨_, q, xs, ys, rfl, rfl, ex, hy, by rw [hx.1, hes.1]; exact hz, n σ _ F2 ρ _ (s1.trans s2) (R2.writeL e1 ex (hx.app hes)) hΦ⟩
/-- x.pop() -/
def cPop (To : CE) : CE := fun ρ M Φ => To ρ M fun x M1 => ∃ p ds d, x = .fn p ∧ look M1 p = some (.l ds) ∧ ds[ds.length - 1]? = some d ∧ Φ d (put M1 p (.l ds.dropLast))
theorem xe_pop {to : TE} {To : CE} (ho : XE K to To) : XE K (tBM0 K "list" rPop to) (cPop To) := by
  intro b σ H F ρ M Φ Q R hT k
  refine ho b σ H F ρ M _ _ R hT fun x H1 F1 M1 dx s1 R1 h1 hT => ?_
  obtain ⟨p, ds, d, rfl, e1, hd, hΦ⟩ := hT
  cases h1.inv_fn
  obtain ⟨xs, ex, hx⟩ := l_at R1 e1
  obtain ⟨v, hv, hdr⟩ := hx.get hd
  exact ⟨.inl ⟨rfl, xs, SqL.of ex⟩, p, xs, v, rfl, rfl, ex, by rw [hx.1]; exact hv, k v _ F1 _ d s1 (R1.writeL e1 ex hx.dropLast) hdr hΦ⟩
/-- x[e] = v in a list, in a dict -/
def cSubL (To Ti : CE) : CG := fun d ρ M Φ => To ρ M fun x M1 => Ti ρ M1 fun y M2 => ∃ p ds k j, x = .fn p ∧ look M2 p = some (.l ds) ∧ y = .int k ∧ ixN ds.length k = some j ∧ Φ ρ (put M2 p (.l (ds.set j d)))
theorem xg_subL {to ti : TE} {To Ti : CE} (ho : XE K to To) (hi : XE K ti Ti) : XG K [] (gSub to ti rSetL) (cSubL To Ti) := by
  intro b σ H F ρ M v d Φ Q R hd hT k
  refine ho b σ H F ρ M _ _ R hT fun x H1 F1 M1 dx s1 R1 h1 hT => ?_
  refine hi b σ H1 F1 ρ M1 _ _ R1 hT fun y H2 F2 M2 e s2 R2 h2 hΦ => ?_
  obtain ⟨p, ds, i, j, rfl, e1, rfl, hj, hΦ⟩ := hΦ
  cases h1.inv_fn
  obtain ⟨xs, ex, hx⟩ := l_at R2 e1
  exact ⟨p, xs, i, j, rfl, h2.inv_int, ex, by rw [hx.1]; exact hj, k σ _ F2 ρ _ (s1.trans s2) (R2.writeL e1 ex (hx.set (hd.up (s1.trans s2)))) (fun _ _ => rfl) hΦ⟩
def cSubM (To Ti : CE) : CG := fun d ρ M Φ => To ρ M fun x M1 => Ti ρ M1 fun y M2 => ∃ p ks key, x = .fn p ∧ look M2 p = some (.m ks) ∧ keyD y = some key ∧ ks.length < sizeLine ∧ Φ ρ (put M2 p (.m (putD ks key d)))
theorem xg_subM {to ti : TE} {To Ti : CE} (ho : XE K to To) (hi : XE K ti Ti) : XG K [] (gSub to ti rSetD) (cSubM To Ti) := by
  intro b σ H F ρ M v d Φ Q R hd hT k
  refine ho b σ H F ρ M _ _ R hT fun x H1 F1 M1 dx s1 R1 h1 hT => ?_
  refine hi b σ H1 F1 ρ M1 _ _ R1 hT fun y H2 F2 M2 e s2 R2 h2 hΦ => ?_
  obtain ⟨p, ks, key, rfl, e1, hk, hz, hΦ⟩ := hΦ
  cases h1.inv_fn
  obtain ⟨xs, ex, hx⟩ := m_at R2 e1
  rw [keyD_ok h2 hk]
  exact ⟨p, _, rfl, DPut.k ex (by rw [hx.len]; exact hz), k σ _ F2 ρ _ (s1.trans s2) (R2.writeM e1 ex (hx.put (hd.up (s1.trans s2)))) (fun _ _ => rfl) hΦ⟩
/-- x.f = v -/
theorem putF_eq (f : Str) (v : V) : ∀ fs : List (Str × V), (fs.map (·.1)).Nodup → putF f v fs = putK fs f v
  | [], _ => rfl
  | (g, x) :: r, h => by
    rw [List.map_cons] at h
    obtain ⟨h1, h2⟩ := List.nodup_cons.mp h
    unfold putF
    by_cases hg : g = f
    · subst hg
      rw [if_pos rfl]
      unfold putK
      rw [List.any_cons, decide_eq_true rfl, Bool.true_or, if_pos rfl, List.map_cons, if_pos rfl]
      congr 1
      have : ∀ l : List (Str × V), g ∉ l.map (·.1) → l.map (fun kv => if kv.1 = g then (kv.1, v) else kv) = l := by
        intro l
        induction l with
        | nil => intro _; rfl
        | cons q l ih =>
          intro hn
          rw [List.map_cons] at hn
          rw [List.map_cons, if_neg (fun z => hn (by rw [z]; exact List.mem_cons_self)), ih fun z => hn (List.mem_cons_of_mem _ z)]
      exact (this r h1).symm
    · rw [if_neg hg, putF_eq f v r h2]
      unfold putK
      rw [List.any_cons, decide_eq_false hg, Bool.false_or]
      split
      · rw [List.map_cons, if_neg hg]
      · rfl
def cFldS (C : Addr) (To : CE) (f : Str) : CG := fun d ρ M Φ => To ρ M fun x M1 => ∃ p fs, x = .fn p ∧ look M1 p = some (.o C fs) ∧ (fs.map (·.1)).Nodup ∧ fs.length < 1000 ∧ Φ ρ (put M1 p (.o C (putD fs f d)))
theorem xg_fld {C : Addr} {to : TE} {To : CE} {f : Str} (hc : Cls K C) (hn : NoAttr K C f) (ho : XE K to To) : XG K [] (SX.gFld K to f) (cFldS C To f) := by
  intro b σ H F ρ M v d Φ Q R hd hT k
  refine ho b σ H F ρ M _ _ R hT fun x H1 F1 M1 dx s1 R1 h1 hT => ?_
  obtain ⟨p, fs, rfl, e1, nd, hl, hΦ⟩ := hT
  cases h1.inv_fn
  obtain ⟨hF, dx, xs, ex, hx⟩ := (R1.cell p _ e1).1
  refine ⟨p, C, dx, xs, rfl, ex, hc, hn, by rw [hx.len]; exact hl, ?_⟩
  have e2 : putF f v xs = putK xs f v := putF_eq f v xs (by rw [hx.1]; exact nd)
  rw [e2]
  exact k σ _ F1 ρ _ s1 (R1.write (c' := .o C (putD fs f d)) e1 hF ex (by intro t z; cases z) (ins_nc _ _ _) ⟨hF, dx, _, upd_same, hx.put (hd.up s1)⟩) (fun _ _ => rfl) hΦ
/-! ### loops -/
def cFor (Ti : CLs) (G : CG) (Tb : CS) : CS := fun E ρ M => Ti ρ M fun ds M1 => ∃ W : Nat → HC.Env → Cells → Prop, W 0 ρ M1 ∧ (∀ k x ρ M, ds[k]? = some x → W k ρ M → G x ρ M fun ρ2 M2 => Tb ⟨W (k + 1), E.rt, E.nx, W (k + 1)⟩ ρ2 M2) ∧ ∀ ρ M, W ds.length ρ M → E.nx ρ M
theorem xs_for {js : List Nat} {wi : TI} {g : TG} {tb : TS} {Ti : CLs} {G : CG} {Tb : CS} (hi : XI K wi Ti) (hg : XG K js g G) (hb : XS K tb Tb) : XS K (tFor wi g tb) (cFor Ti G Tb) := by
  intro b σ H F ρ M E D' R0 hT n r bk ct
  refine hi b σ H F ρ M _ _ R0 hT fun J H1 F1 M1 ds s1 R1 hw hT => ?_
  obtain ⟨Gd, Y, hwk, hG, hY⟩ := hw
  obtain ⟨W, w0, wt, wd⟩ := hT
  refine for_it hwk (fun i σ' H' => ∃ F' ρ' M', Same F1 F' ∧ Rep K b σ' H' F' ρ' M' ∧ W i ρ' M') ⟨F1, ρ, M1, Same.refl F1, R1, w0⟩ ?_ ?_ ?_
  · rintro i σ' H' _ ⟨F', ρ', M', s, R, _⟩
    exact hG H' F' s R.sub
  · rintro i x σ2 H2 H3 hin ⟨F2, ρ2, M2, s, R2, hW⟩ y
    obtain ⟨d, F3, hd, hdr, hy⟩ := hY i H2 x H3 y hin F2 s R2.sub
    have st : Rep K b σ2 H3 F3 ρ2 M2 ∧ Same F2 F3 := by
      rcases hy with ⟨rfl, rfl⟩ | ⟨q, o, hq, hqn, rfl, rfl⟩
      · exact ⟨R2, Same.refl _⟩
      · exact ⟨R2.alloc hq hqn, SX.same_upd (R2.fresh hq).1⟩
    obtain ⟨R3, s3⟩ := st
    refine hg b σ2 H3 F3 ρ2 M2 x d _ _ R3 hdr (wt i d ρ2 M2 hd hW) fun σ4 H4 F4 ρ4 M4 s4 R4 _ hT => ?_
    have s14 := ((s.trans s3).trans s4)
    exact hb b σ4 H4 F4 ρ4 M4 _ _ R4 hT (fun σ5 H5 F5 ρ5 M5 s5 R5 h => ⟨F5, ρ5, M5, s14.trans s5, R5, h⟩) (fun v σ5 H5 F5 ρ5 M5 d s5 R5 hd h => r v σ5 H5 F5 ρ5 M5 d (s1.trans (s14.trans s5)) R5 hd h) (fun σ5 H5 F5 ρ5 M5 s5 R5 h => n σ5 H5 F5 ρ5 M5 (s1.trans (s14.trans s5)) R5 h)
      (fun σ5 H5 F5 ρ5 M5 s5 R5 h => ⟨F5, ρ5, M5, s14.trans s5, R5, h⟩)
  · rintro σ' H' ⟨F', ρ', M', s, R, hW⟩
    exact n σ' H' F' ρ' M' (s1.trans s) R (wd ρ' M' hW)
def cWhile (C : CTt) (Tb : CS) : CS := fun E ρ M => ∃ W : Nat → HC.Env → Cells → Prop, (∃ m, W m ρ M) ∧ ∀ m ρ M, W m ρ M → C ρ M fun c M1 => if c = true then Tb ⟨fun ρ2 M2 => ∃ m', m' < m ∧ W m' ρ2 M2, E.rt, E.nx, fun ρ2 M2 => ∃ m', m' < m ∧ W m' ρ2 M2⟩ ρ M1 else E.nx ρ M1
theorem xs_while {c : TT} {tb : TS} {C : CTt} {Tb : CS} (hc : XT K c C) (hb : XS K tb Tb) : XS K (tWhile c tb) (cWhile C Tb) := by
  intro b σ H F ρ M E D' R0 hT n r bk ct
  obtain ⟨W, ⟨m0, w0⟩, wt⟩ := hT
  refine ⟨fun m σ' H' => ∃ F' ρ' M', Same F F' ∧ Rep K b σ' H' F' ρ' M' ∧ W m ρ' M', ⟨m0, F, ρ, M, Same.refl F, R0, w0⟩, ?_⟩
  rintro m σ1 H1 ⟨F1, ρ1, M1, s1, R1, hW⟩
  refine hc b σ1 H1 F1 ρ1 M1 _ _ R1 (wt m ρ1 M1 hW) fun c H2 F2 M2 s2 R2 hT => ?_
  cases c with
  | false => exact n σ1 H2 F2 ρ1 M2 (s1.trans s2) R2 hT
  | true =>
    refine ⟨fun σ' H' => ∃ m', m' < m ∧ ∃ F' ρ' M', Same F F' ∧ Rep K b σ' H' F' ρ' M' ∧ W m' ρ' M', fun σ' H' h => h, ?_⟩
    exact hb b σ1 H2 F2 ρ1 M2 _ _ R2 hT (fun σ5 H5 F5 ρ5 M5 s5 R5 ⟨m', h1, h2⟩ => ⟨m', h1, F5, ρ5, M5, (s1.trans s2).trans s5, R5, h2⟩) (fun v σ5 H5 F5 ρ5 M5 d s5 R5 hd h => r v σ5 H5 F5 ρ5 M5 d ((s1.trans s2).trans s5) R5 hd h)
      (fun σ5 H5 F5 ρ5 M5 s5 R5 h => n σ5 H5 F5 ρ5 M5 ((s1.trans s2).trans s5) R5 h) (fun σ5 H5 F5 ρ5 M5 s5 R5 ⟨m', h1, h2⟩ => ⟨m', h1, F5, ρ5, M5, (s1.trans s2).trans s5, R5, h2⟩)
/-! ### promises -/
abbrev SC := List D → Cells → (D → Cells → Prop) → Prop
def spH (K : PySem.W.Frag) (S : SC) : Sp := fun vs H Q _ => ∃ (F : Hp) (M : Cells) (ds : List D) (Φ : D → Cells → Prop), (Sub F H ∧ (∀ a o, F a = some o → NT o) ∧ LamX.Tabs Tbs.T H ∧ Same Tbs.B F) ∧ (∀ p c, look M p = some c → At K F H p c) ∧ DA K F vs ds ∧ S ds M Φ ∧
  ∀ F' H' v M' d, Same F F' → (Sub F' H' ∧ (∀ a o, F' a = some o → NT o) ∧ LamX.Tabs Tbs.T H') → (∀ a o, H a = some o → look M a = none → NT o → H' a = some o) → (∀ a o, H a = some o → ∃ o', H' a = some o') → (∀ a o, F' a = some o → F a = some o ∨ H a = none ∨ look M a ≠ none) →
    (∀ p c, look M' p = some c → At K F' H' p c ∧ (look M p ≠ none ∨ H p = none)) → Dr K F' v d → Φ d M' → Q v H'
/-- nothing of cells -/
def pureH (s : List D → (D → Prop) → Prop) : SC := fun ds M Φ => s ds fun d => Φ d M
/-- cells may be forgotten -/
def Fewer (M' M : Cells) : Prop := ∀ p c, look M' p = some c → look M p = some c
def startC (n : Nat) (ds : List D) : HC.Env := ds.map some ++ List.replicate (n - ds.length) none
theorem fn_goC {N pr : List Str} {S : SC} {T : CS} {t : TS} {vs : List V} {H : Hp} {Q : VK} {E : XK} (hN : pr.length ≤ N.length) (h2 : XS K t T) (len : ∀ ds M Φ, S ds M Φ → ds.length = pr.length)
    (go : ∀ ds M Φ, S ds M Φ → T ⟨fun _ M' => ∃ M2, Fewer M2 M' ∧ Φ .non M2, fun d _ M' => ∃ M2, Fewer M2 M' ∧ Φ d M2, fun _ _ => False, fun _ _ => False⟩ (startC N.length ds) M)
    (h : spH K S vs H Q E) : t { nx := fun _ H' => Q .non H', rt := Q } (L2.start N vs) H := by
  obtain ⟨F, M, ds, Φ, ⟨hsub, hnt, htb, hB⟩, hM, hda, hS, q⟩ := h
  have hl := len ds M Φ hS
  have R : Rep K (HC.here H F M) (L2.start N vs) H F (startC N.length ds) M := by
    refine ⟨hsub, ⟨Same.refl F, hB⟩, fun a o e _ _ => e, fun a o e => .inl e, fun i d e => ?_, fun p c e => ⟨hM p c e, .inr (show look M p ≠ none by rw [e]; exact fun z => (by cases z))⟩, ?_, hnt, fun a o e => ⟨o, e⟩, htb⟩
    · unfold startC at e
      by_cases hi : i < ds.length
      · rw [List.getElem?_append_left (by rw [List.length_map]; exact hi), List.getElem?_map] at e
        obtain ⟨d', hd, e⟩ := Option.map_eq_some_iff.mp e
        cases e
        obtain ⟨v, hv, hr⟩ := hda.get hd
        refine ⟨v, ?_, hr⟩
        unfold L2.start
        rw [List.getElem?_append_left (by rw [List.length_map, hda.1]; exact hi), List.getElem?_map, hv]
        rfl
      · rw [List.getElem?_append_right (by rw [List.length_map]; omega)] at e
        have := List.mem_of_getElem? e
        rw [List.mem_replicate] at this
        cases this.2
    · unfold startC L2.start
      rw [List.length_append, List.length_append, List.length_map, List.length_map, List.length_replicate, List.length_replicate, hda.1]
  have fin : ∀ v σ' H' F' ρ' M' d, Same F F' → Rep K (HC.here H F M) σ' H' F' ρ' M' → Dr K F' v d → (∃ M2, Fewer M2 M' ∧ Φ d M2) → Q v H' := by
    intro v σ' H' F' ρ' M' d s R' hd ⟨M2, hf, hΦ⟩
    exact q F' H' v M2 d s ⟨R'.sub, R'.nt, R'.tabs⟩ (fun a o e n nz => R'.keep a o e (fun z => z n) nz) R'.dom R'.new (fun p c e => ⟨(R'.cell p c (hf p c e)).1, (R'.cell p c (hf p c e)).2.symm⟩) hd hΦ
  exact h2 _ _ H F _ M _ _ R (go ds M Φ hS) (fun σ' H' F' ρ' M' s R' hn => fin .non σ' H' F' ρ' M' .non s R' .non hn) fin (fun _ _ _ _ _ _ _ z => z.elim) (fun _ _ _ _ _ _ _ z => z.elim)
theorem fnC {P : Program} {w : World} {mg : Str → Option Value} {base : Heap} {x qual : Str} {st : Stmt} {f : Addr} {fd : FuncData} {N pr : List Str} {k : Nat} {S : SC} (Fn : Fun K x qual st f fd) (Sc : FnScope N pr (defScope st)) {T : CS}
    (body : ∀ (cdv : Value) (A : Around) (outer : List PySem.Env) (s : Shared) (H : Hp) (E : XK), Room k (A.deeper (envOfC qual (defScope st) s.heap.objs.size f cdv)) →
      ∃ t, PSs (cxOf CX0 P w K mg base N qual (defScope st) f cdv A outer s H E).nox (defBody st) t ∧ XS K t T)
    (len : ∀ ds M Φ, S ds M Φ → ds.length = pr.length)
    (go : ∀ ds M Φ, S ds M Φ → T ⟨fun _ M' => ∃ M2, Fewer M2 M' ∧ Φ .non M2, fun d _ M' => ∃ M2, Fewer M2 M' ∧ Φ d M2, fun _ _ => False, fun _ _ => False⟩ (startC N.length ds) M) :
    FnOk P w K mg base CX0 (k + 1) f fd pr (spH K S) := by
  refine Fn.ok Sc (fun vs H Q E h => ?_) (fun cdv A outer s H vs Q E hr h => ?_)
  · obtain ⟨F, M, ds, Φ, _, _, ha, hS, _⟩ := h
    rw [ha.1]
    exact len ds M Φ hS
  · obtain ⟨t, h1, h2⟩ := body cdv A outer s H E hr
    have hN : pr.length ≤ N.length := by
      have := congrArg List.length Sc.pre
      rw [List.length_take] at this
      omega
    exact ⟨t, h1, fn_goC hN h2 len go h⟩
theorem fnCC {P : Program} {w : World} {mg : Str → Option Value} {base : Heap} {x qual : Str} {st : Stmt} {f c : Addr} {fd : FuncData} {N pr : List Str} {k : Nat} {S : SC} (Fn : Fun K x qual st f fd) (hc : fd.code = .ref c) (Sc : FnScope N pr (defScope st)) {T : CS}
    (body : ∀ (A : Around) (outer : List PySem.Env) (s : Shared) (H : Hp) (E : XK), Room k (A.deeper (envOfC qual (defScope st) s.heap.objs.size f (.ref c))) →
      ∃ t, PSs (cxOf CX0 P w K mg base N qual (defScope st) f (.ref c) A outer s H E).nox (defBody st) t ∧ XS K t T)
    (len : ∀ ds M Φ, S ds M Φ → ds.length = pr.length)
    (go : ∀ ds M Φ, S ds M Φ → T ⟨fun _ M' => ∃ M2, Fewer M2 M' ∧ Φ .non M2, fun d _ M' => ∃ M2, Fewer M2 M' ∧ Φ d M2, fun _ _ => False, fun _ _ => False⟩ (startC N.length ds) M) :
    FnOk P w K mg base CX0 (k + 1) f fd pr (spH K S) := by
  refine okC Fn hc Sc (fun vs H Q E h => ?_) (fun A outer s H vs Q E hr h => ?_)
  · obtain ⟨F, M, ds, Φ, _, _, ha, hS, _⟩ := h
    rw [ha.1]
    exact len ds M Φ hS
  · obtain ⟨t, h1, h2⟩ := body A outer s H E hr
    have hN : pr.length ≤ N.length := by
      have := congrArg List.length Sc.pre
      rw [List.length_take] at this
      omega
    exact ⟨t, h1, fn_goC hN h2 len go h⟩
/-! ### calls -/
/-- what a call leaves, back to the caller -/
theorem Rep.called {b : HC.Bs} {σ : L2.St} {H F H' F' : Hp} {ρ : HC.Env} {M M' : Cells} (R : Rep K b σ H F ρ M) (s : Same F F') (x : Sub F' H' ∧ (∀ a o, F' a = some o → NT o) ∧ LamX.Tabs Tbs.T H') (kp : ∀ a o, H a = some o → look M a = none → NT o → H' a = some o) (dom : ∀ a o, H a = some o → ∃ o', H' a = some o')
    (nw : ∀ a o, F' a = some o → F a = some o ∨ H a = none ∨ look M a ≠ none) (cl : ∀ p c, look M' p = some c → At K F' H' p c ∧ (look M p ≠ none ∨ H p = none)) : Rep K b σ H' F' ρ M' where
  sub := x.1
  grow := R.grow.trans s
  nt := x.2.1
  tabs := x.2.2
  len := R.len
  keep := fun a o e n nz => by
    have e1 := R.keep a o e n nz
    refine kp a o e1 ?_ nz
    cases q : look M a with
    | none => rfl
    | some c =>
      rcases (R.cell a c q).2 with z | z
      · rw [z] at e; cases e
      · exact absurd z n
  dom := fun a o e => by
    obtain ⟨o', e'⟩ := R.dom a o e
    exact dom a o' e'
  new := fun a o e => by
    rcases nw a o e with h | h | h
    · exact R.new a o h
    · exact .inr (.inl (R.fresh h).2.1)
    · exact .inr (R.cellOf h).1
  slot := fun i d e => by
    obtain ⟨v, h1, h2⟩ := R.slot i d e
    exact ⟨v, h1, h2.up s⟩
  cell := fun p c e => by
    obtain ⟨h1, h2⟩ := cl p c e
    refine ⟨h1, ?_⟩
    rcases h2 with h | h
    · exact (R.cellOf h).1
    · exact .inl (R.fresh h).2.1
def cCall (S : SC) (Ta : CLs) : CE := fun ρ M Φ => Ta ρ M fun ds M1 => S ds M1 Φ
theorem xe_callAt {S : SC} {b : HC.Bs} {σ : L2.St} {H F : Hp} {ρ : HC.Env} {M : Cells} {vs : List V} {ds : List D} {Φ : D → Cells → Prop} {Q : VK} {E : XK} (R : Rep K b σ H F ρ M) (hd : DA K F vs ds) (hS : S ds M Φ)
    (k : ∀ v H' F' M' d, Same F F' → Rep K b σ H' F' ρ M' → Dr K F' v d → Φ d M' → Q v H') : spH K S vs H Q E :=
  ⟨F, M, ds, Φ, ⟨R.sub, R.nt, R.tabs, R.grow.b⟩, fun p c e => (R.cell p c e).1, hd, hS, fun F' H' v M' d s x kp dom nw cl hdr hΦ => k v H' F' M' d s (R.called s x kp dom nw cl) hdr hΦ⟩
theorem xe_call {S : SC} {t : TA} {Ta : CLs} {E : XK} (h : XV K t Ta) : XE K (tCall (spH K S) [] E t) (cCall S Ta) := by
  intro b σ H F ρ M Φ Q R0 hT k
  refine h b σ H F ρ M _ _ R0 hT fun vs H1 F1 M1 ds s1 R1 hr hS => ?_
  show spH K S (vs ++ []) H1 Q E
  rw [List.append_nil]
  exact xe_callAt R1 hr hS fun v H' F' M' d s R' hd hΦ => k v H' F' M' d (s1.trans s) R' hd hΦ
/-- the promise of the layer without cells -/
theorem xe_callO {s : List D → (D → Prop) → Prop} {t : TA} {Ta : CLs} {E : XK} (h : XV K t Ta) : XE K (tCall (spOf K (pureS s)) [] E t) (cCall (pureH s) Ta) := by
  intro b σ H F ρ M Φ Q R0 hT k
  refine h b σ H F ρ M _ _ R0 hT fun vs H1 F1 M1 ds s1 R1 hr hS => ?_
  have nO : ∀ a, ¬ OwnA vs (ds.map .d) a := fun a ⟨i, o, e1, e2, _⟩ => by
    rw [List.getElem?_map] at e1
    obtain ⟨d, _, rfl⟩ := Option.map_eq_some_iff.mp e1
    cases e2
  show spOf K (pureS s) (vs ++ []) H1 Q E
  rw [List.append_nil]
  refine ⟨F1, ds.map .d, fun d _ => Φ d M1, ⟨R1.sub, R1.nt, R1.tabs, R1.grow.b⟩, ⟨by rw [List.length_map]; exact hr.1, fun k v o e1 e2 => ?_, fun k l o u v n e1 o1 e2 o2 e3 e4 => ?_⟩, ⟨ds, rfl, hS⟩, fun F' H' v d os' s2 ⟨sub2, nt2, tb2⟩ kp th nw len2 hout hd hΦ => ?_⟩
  · rw [List.getElem?_map] at e2
    obtain ⟨d, hd, rfl⟩ := Option.map_eq_some_iff.mp e2
    exact hr.2 k v d e1 hd
  · rw [List.getElem?_map] at e1
    obtain ⟨d, _, rfl⟩ := Option.map_eq_some_iff.mp e1
    cases o1
  · exact k v H' F' M1 d (s1.trans s2) (R1.grownT (fun a o e nz => kp a o e (nO a) nz) th s2 sub2 (fun a o e => (nw a o e).elim .inl fun h => h.elim .inr fun z => absurd z (nO a)) nt2 tb2) hd hΦ
/-- a local name that holds a def -/
def cCallA (i : Nat) (SS : Addr → Option SC) (Ta : CLs) : CE := fun ρ M Φ => ∃ f s, ρ[i]? = some (some (.fn f)) ∧ SS f = some s ∧ Ta ρ M fun ds M1 => s ds M1 Φ
def spHA (K : PySem.W.Frag) (SS : Addr → Option SC) : Addr → Option Sp := fun f => (SS f).map fun s => spH K s
theorem xe_callA {i : Nat} {SS : Addr → Option SC} {t : TA} {Ta : CLs} (h : XV K t Ta) : XE K (tCallA i (spHA K SS) t) (cCallA i SS Ta) := by
  intro b σ H F ρ M Φ Q R hT k
  obtain ⟨f, s, e, hs, hT⟩ := hT
  obtain ⟨v, h1, h2⟩ := R.slot i _ e
  cases h2.inv_fn
  refine ⟨f, spH K s, h1, by unfold spHA; rw [hs]; rfl, h b σ H F ρ M _ _ R hT fun vs H1 F1 M1 ds s1 R1 hr hS => ?_⟩
  exact xe_callAt R1 hr hS fun v H' F' M' d s R' hd hΦ => k v H' F' M' d (s1.trans s) R' hd hΦ
/-- C(..) -/
def cMake (C : Addr) (S : SC) (Ta : CLs) : CE := fun ρ M Φ => Ta ρ M fun ds M1 => ∀ p, look M1 p = none → S (.fn p :: ds) ((p, .o C []) :: M1) fun d M2 => d = .non ∧ Φ (.fn p) M2
theorem xe_make {C : Addr} {S : SC} {t : TA} {Ta : CLs} {E : XK} (h : XV K t Ta) : XE K (tMake C (spH K S) [] E t) (cMake C S Ta) := by
  intro b σ H F ρ M Φ Q R0 hT k
  refine h b σ H F ρ M _ _ R0 hT fun vs H1 F1 M1 ds s1 R1 hr hS => fun x dx hx hdx ne => ?_
  rw [List.append_nil]
  have R2 := R1.lay (o := .own x) hdx
  have hx2 : upd H1 dx (.own x) x = none := by rw [upd_ne (Ne.symm ne)]; exact hx
  have lo := R2.loose hx2
  have R3 := (R2.lay (o := .ins C dx []) hx2).add (c := .o C []) lo ⟨lo.1, dx, [], upd_same, .nil⟩
  exact xe_callAt R3 (.cons (.fn x) hr) (hS x lo.2.2) fun v H' F' M' d s R' hd ⟨ed, hΦ⟩ => by
    subst ed
    exact ⟨hd.inv_non, k _ H' F' M' _ (s1.trans s) R' (.fn x) hΦ⟩
/-- x.m(..) -/
def cMeth (C : Addr) (m : Str) (S : SC) (To : CE) (Ta : CLs) : CE := fun ρ M Φ => To ρ M fun x M1 => (∃ fs, objOf M1 x = some (C, fs) ∧ valD fs m = none) ∧ Ta ρ M1 fun ds M2 => S (x :: ds) M2 Φ
theorem xe_meth {C : Addr} {m : Str} {S : SC} {to : TE} {To : CE} {t : TA} {Ta : CLs} {E : XK} (ho : XE K to To) (h : XV K t Ta) : XE K (tMeth C m (spH K S) [] E to t) (cMeth C m S To Ta) := by
  intro b σ H F ρ M Φ Q R0 hT k
  refine ho b σ H F ρ M _ _ R0 hT fun x H1 F1 M1 dx s1 R1 h1 hT => ?_
  obtain ⟨⟨fs, e1, e2⟩, hT⟩ := hT
  obtain ⟨a, dd, xs, rfl, ea, hm⟩ := obj_at R1 h1 e1
  have hv := hm.val (k := m)
  rw [e2] at hv
  refine ⟨a, dd, xs, rfl, ea, by rw [lookup_valV]; exact hv, h b σ H1 F1 ρ M1 _ _ R1 hT fun vs H2 F2 M2 ds s2 R2 hr hS => ?_⟩
  rw [List.append_nil]
  exact xe_callAt R2 (.cons (h1.up s2) hr) hS fun v H' F' M' d s R' hd hΦ => k v H' F' M' d ((s1.trans s2).trans s) R' hd hΦ
end
end HC
/-! Part 5: what simp knows; freezing all that hangs on a cell; loops. -/
namespace HC
open PySem PySem.Spec PyProof.Rows L2 DL
@[simp] theorem cRaw_ (i : Nat) (ρ : HC.Env) (M : Cells) (Φ : D → Cells → Prop) : cRaw i ρ M Φ = (∃ d, ρ[i]? = some (some d) ∧ Φ d M) := Eq.trans rfl rfl
@[simp] theorem cFz_ (T : CE) (ρ : HC.Env) (M : Cells) (Φ : D → Cells → Prop) : cFz T ρ M Φ = (T ρ M fun d M' => frzG M' d Φ) := Eq.trans rfl rfl
@[simp] theorem cC_ (d : D) (ρ : HC.Env) (M : Cells) (Φ : D → Cells → Prop) : cC d ρ M Φ = (Φ d M) := Eq.trans rfl rfl
@[simp] theorem cK_ (T : CLs) (ρ : HC.Env) (M : Cells) (Φ : D → Cells → Prop) : cK T ρ M Φ = (T ρ M fun ds M' => Φ (.lst ds) M') := Eq.trans rfl rfl
@[simp] theorem cKc_ (T : CLs) (ρ : HC.Env) (M : Cells) (Φ : D → Cells → Prop) : cKc T ρ M Φ = (T ρ M fun ds M' => ∀ p, look M' p = none → Φ (.fn p) ((p, .l ds) :: M')) := Eq.trans rfl rfl
@[simp] theorem cKd_ (T : CDs) (ρ : HC.Env) (M : Cells) (Φ : D → Cells → Prop) : cKd T ρ M Φ = (T ρ M fun ds M' => Φ (.dct ds) M') := Eq.trans rfl rfl
@[simp] theorem cKdc_ (T : CDs) (ρ : HC.Env) (M : Cells) (Φ : D → Cells → Prop) : cKdc T ρ M Φ = (T ρ M fun ds M' => ∀ p, look M' p = none → Φ (.fn p) ((p, .m ds) :: M')) := Eq.trans rfl rfl
@[simp] theorem cOp_ (R : DO) (Ta Tb : CE) (ρ : HC.Env) (M : Cells) (Φ : D → Cells → Prop) : cOp R Ta Tb ρ M Φ = (Ta ρ M fun x M1 => Tb ρ M1 fun y M2 => R x y fun z => Φ z M2) := Eq.trans rfl rfl
@[simp] theorem cOpL_ (R : D → D → (List D → Prop) → Prop) (Ta Tb : CE) (ρ : HC.Env) (M : Cells) (Φ : List D → Cells → Prop) : cOpL R Ta Tb ρ M Φ = (Ta ρ M fun x M1 => Tb ρ M1 fun y M2 => R x y fun z => Φ z M2) := Eq.trans rfl rfl
@[simp] theorem cNil_ (ρ : HC.Env) (M : Cells) (Φ : List D → Cells → Prop) : cNil ρ M Φ = (Φ [] M) := Eq.trans rfl rfl
@[simp] theorem cCons_ (Ta : CE) (Tr : CLs) (ρ : HC.Env) (M : Cells) (Φ : List D → Cells → Prop) : cCons Ta Tr ρ M Φ = (Ta ρ M fun x M1 => Tr ρ M1 fun xs M2 => Φ (x :: xs) M2) := Eq.trans rfl rfl
@[simp] theorem cTup_ (T : CLs) (ρ : HC.Env) (M : Cells) (Φ : D → Cells → Prop) : cTup T ρ M Φ = (T ρ M fun ds M' => ds.length ≤ sizeLine ∧ Φ (.tup ds) M') := Eq.trans rfl rfl
@[simp] theorem cLst_ (T : CLs) (ρ : HC.Env) (M : Cells) (Φ : List D → Cells → Prop) : cLst T ρ M Φ = (T ρ M fun ds M' => ds.length ≤ sizeLine ∧ Φ ds M') := Eq.trans rfl rfl
@[simp] theorem cNewD_ (ρ : HC.Env) (M : Cells) (Φ : List (Key × D) → Cells → Prop) : cNewD ρ M Φ = (Φ [] M) := Eq.trans rfl rfl
@[simp] theorem cIxL_ (Ta Tb : CE) (ρ : HC.Env) (M : Cells) (Φ : D → Cells → Prop) : cIxL Ta Tb ρ M Φ = (Ta ρ M fun x M1 => Tb ρ M1 fun y M2 => ∃ ds j z, lstOf M2 x = some ds ∧ y = .int j ∧ atI ds j = some z ∧ Φ z M2) := Eq.trans rfl rfl
@[simp] theorem cIx_ (Ta Tb : CE) (ρ : HC.Env) (M : Cells) (Φ : D → Cells → Prop) : cIx Ta Tb ρ M Φ = (Ta ρ M fun x M1 => Tb ρ M1 fun y M2 => ∃ ds j z, seqOf M2 x = some ds ∧ y = .int j ∧ atI ds j = some z ∧ Φ z M2) := Eq.trans rfl rfl
@[simp] theorem cLen_ (Ta : CE) (ρ : HC.Env) (M : Cells) (Φ : D → Cells → Prop) : cLen Ta ρ M Φ = (Ta ρ M fun x M1 => lenG M1 x fun n => Φ (.int (n : Nat)) M1) := Eq.trans rfl rfl
@[simp] theorem cIn_ (neg : Bool) (Ta Tb : CE) (ρ : HC.Env) (M : Cells) (Φ : D → Cells → Prop) : cIn neg Ta Tb ρ M Φ = (Ta ρ M fun x M1 => Tb ρ M1 fun y M2 => ∃ ds, seqOf M2 y = some ds ∧ flatD x = true ∧ ds.all flatD = true ∧ Φ (.bl (if neg then !inD x ds else inD x ds)) M2) := Eq.trans rfl rfl
@[simp] theorem cInD_ (neg : Bool) (Ta Tb : CE) (ρ : HC.Env) (M : Cells) (Φ : D → Cells → Prop) : cInD neg Ta Tb ρ M Φ = (Ta ρ M fun x M1 => Tb ρ M1 fun y M2 => ∃ ds key, dctOf M2 y = some ds ∧ keyD x = some key ∧ Φ (.bl (if neg then !(valD ds key).isSome else (valD ds key).isSome)) M2) := Eq.trans rfl rfl
@[simp] theorem cDGet_ (Td Ty : CE) (ρ : HC.Env) (M : Cells) (Φ : D → Cells → Prop) : cDGet Td Ty ρ M Φ = (Td ρ M fun x M1 => Ty ρ M1 fun y M2 => ∃ ds key z, dctOf M2 x = some ds ∧ keyD y = some key ∧ valD ds key = some z ∧ Φ z M2) := Eq.trans rfl rfl
@[simp] theorem cGet1_ (Td Ty : CE) (ρ : HC.Env) (M : Cells) (Φ : D → Cells → Prop) : cGet1 Td Ty ρ M Φ = (Td ρ M fun x M1 => (∃ ds, dctOf M1 x = some ds) ∧ Ty ρ M1 fun y M2 => ∃ ds key, dctOf M2 x = some ds ∧ keyD y = some key ∧ Φ ((valD ds key).getD .non) M2) := Eq.trans rfl rfl
@[simp] theorem cGet2_ (Td Ty Tz : CE) (ρ : HC.Env) (M : Cells) (Φ : D → Cells → Prop) : cGet2 Td Ty Tz ρ M Φ = (Td ρ M fun x M1 => (∃ ds, dctOf M1 x = some ds) ∧ Ty ρ M1 fun y M2 => Tz ρ M2 fun z M3 => ∃ ds key, dctOf M3 x = some ds ∧ keyD y = some key ∧ Φ ((valD ds key).getD z) M3) := Eq.trans rfl rfl
@[simp] theorem cFld_ (C : Addr) (T : CE) (f : Str) (ρ : HC.Env) (M : Cells) (Φ : D → Cells → Prop) : cFld C T f ρ M Φ = (T ρ M fun x M1 => ∃ fs d, objOf M1 x = some (C, fs) ∧ valD fs f = some d ∧ Φ d M1) := Eq.trans rfl rfl
@[simp] theorem cTest_ (T : CE) (ρ : HC.Env) (M : Cells) (Φ : Bool → Cells → Prop) : cTest T ρ M Φ = (T ρ M fun x M' => blG x fun c => Φ c M') := Eq.trans rfl rfl
@[simp] theorem cTruth_ (T : CE) (ρ : HC.Env) (M : Cells) (Φ : Bool → Cells → Prop) : cTruth T ρ M Φ = (T ρ M fun x M' => truG M' x fun c => Φ c M') := Eq.trans rfl rfl
@[simp] theorem cAnd_ (T U : CTt) (ρ : HC.Env) (M : Cells) (Φ : Bool → Cells → Prop) : cAnd T U ρ M Φ = (T ρ M fun c M1 => if c = true then U ρ M1 Φ else Φ false M1) := Eq.trans rfl rfl
@[simp] theorem cOr_ (T U : CTt) (ρ : HC.Env) (M : Cells) (Φ : Bool → Cells → Prop) : cOr T U ρ M Φ = (T ρ M fun c M1 => if c = true then Φ true M1 else U ρ M1 Φ) := Eq.trans rfl rfl
@[simp] theorem cNot_ (T : CTt) (ρ : HC.Env) (M : Cells) (Φ : Bool → Cells → Prop) : cNot T ρ M Φ = (T ρ M fun c M1 => Φ (!c) M1) := Eq.trans rfl rfl
@[simp] theorem cAndV_ (T U : CE) (ρ : HC.Env) (M : Cells) (Φ : D → Cells → Prop) : cAndV T U ρ M Φ = (T ρ M fun x M1 => blG x fun c => if c = true then U ρ M1 Φ else Φ (.bl false) M1) := Eq.trans rfl rfl
@[simp] theorem cOrV_ (T U : CE) (ρ : HC.Env) (M : Cells) (Φ : D → Cells → Prop) : cOrV T U ρ M Φ = (T ρ M fun x M1 => blG x fun c => if c = true then Φ (.bl true) M1 else U ρ M1 Φ) := Eq.trans rfl rfl
@[simp] theorem cNotV_ (T : CE) (ρ : HC.Env) (M : Cells) (Φ : D → Cells → Prop) : cNotV T ρ M Φ = (T ρ M fun x M1 => blG x fun c => Φ (.bl (!c)) M1) := Eq.trans rfl rfl
@[simp] theorem cIf_ (T : CTt) (U W : CE) (ρ : HC.Env) (M : Cells) (Φ : D → Cells → Prop) : cIf T U W ρ M Φ = (T ρ M fun c M1 => if c = true then U ρ M1 Φ else W ρ M1 Φ) := Eq.trans rfl rfl
@[simp] theorem cIfL_ (T : CTt) (U W : CLs) (ρ : HC.Env) (M : Cells) (Φ : List D → Cells → Prop) : cIfL T U W ρ M Φ = (T ρ M fun c M1 => if c = true then U ρ M1 Φ else W ρ M1 Φ) := Eq.trans rfl rfl
@[simp] theorem cNeg_ (T : CE) (ρ : HC.Env) (M : Cells) (Φ : D → Cells → Prop) : cNeg T ρ M Φ = (T ρ M fun x M1 => ∃ i, x = .int i ∧ Φ (.int (-i)) M1) := Eq.trans rfl rfl
@[simp] theorem cCB_ (R : List D → (D → Prop) → Prop) (T : CLs) (ρ : HC.Env) (M : Cells) (Φ : D → Cells → Prop) : cCB R T ρ M Φ = (T ρ M fun ds M' => R ds fun z => Φ z M') := Eq.trans rfl rfl
@[simp] theorem cCBL_ (R : List D → (List D → Prop) → Prop) (T : CLs) (ρ : HC.Env) (M : Cells) (Φ : List D → Cells → Prop) : cCBL R T ρ M Φ = (T ρ M fun ds M' => R ds fun z => Φ z M') := Eq.trans rfl rfl
@[simp] theorem cIsi2_ (Ta : CE) (m n : String) (ρ : HC.Env) (M : Cells) (Φ : D → Cells → Prop) : cIsi2 Ta m n ρ M Φ = (Ta ρ M fun x M1 => obG (isD x m) fun c => obG (isD x n) fun e => Φ (.bl (c || e)) M1) := Eq.trans rfl rfl
@[simp] theorem cIL_ (T : CE) (ρ : HC.Env) (M : Cells) (Φ : List D → Cells → Prop) : cIL T ρ M Φ = (T ρ M fun x M' => ∃ ds, x = .lst ds ∧ Φ ds M') := Eq.trans rfl rfl
@[simp] theorem cIT_ (T : CE) (ρ : HC.Env) (M : Cells) (Φ : List D → Cells → Prop) : cIT T ρ M Φ = (T ρ M fun x M' => ∃ ds, x = .tup ds ∧ Φ ds M') := Eq.trans rfl rfl
@[simp] theorem cIR1_ (T : CLs) (ρ : HC.Env) (M : Cells) (Φ : List D → Cells → Prop) : cIR1 T ρ M Φ = (T ρ M fun xs M' => ∃ j : Int, xs = [.int j] ∧ -(2 ^ 62) ≤ j ∧ j < 2 ^ 62 ∧ Φ (rngD 0 j.toNat) M') := Eq.trans rfl rfl
@[simp] theorem cIR2_ (T : CLs) (ρ : HC.Env) (M : Cells) (Φ : List D → Cells → Prop) : cIR2 T ρ M Φ = (T ρ M fun xs M' => ∃ i j : Int, xs = [.int i, .int j] ∧ (-(2 ^ 62) ≤ i ∧ i < 2 ^ 62 ∧ -(2 ^ 62) ≤ j ∧ j < 2 ^ 62) ∧ Φ (rngD i (j - i).toNat) M') := Eq.trans rfl rfl
@[simp] theorem cIRd_ (T : CLs) (ρ : HC.Env) (M : Cells) (Φ : List D → Cells → Prop) : cIRd T ρ M Φ = (T ρ M fun xs M' => ∃ i j : Int, xs = [.int i, .int j, .int (-1)] ∧ (-(2 ^ 62) ≤ i ∧ i < 2 ^ 62 ∧ -(2 ^ 62) ≤ j ∧ j < 2 ^ 62) ∧ Φ (rngDn i (i - j).toNat) M') := Eq.trans rfl rfl
@[simp] theorem cIEn_ (T : CE) (ρ : HC.Env) (M : Cells) (Φ : List D → Cells → Prop) : cIEn T ρ M Φ = (T ρ M fun x M' => ∃ ds, x = .lst ds ∧ Φ (enumD ds) M') := Eq.trans rfl rfl
@[simp] theorem cName_ (j : Nat) (d : D) (ρ : HC.Env) (M : Cells) (Φ : HC.Env → Cells → Prop) : cName j d ρ M Φ = (Φ (ρ.set j (some d)) M) := Eq.trans rfl rfl
@[simp] theorem cYes_ (ρ : HC.Env) (M : Cells) (Φ : Bool → Cells → Prop) : cYes ρ M Φ = (Φ true M) := Eq.trans rfl rfl
@[simp] theorem cNoPart_ (ρ : HC.Env) (M : Cells) (Φ : Option Int → Cells → Prop) : cNoPart ρ M Φ = (Φ none M) := Eq.trans rfl rfl
@[simp] theorem cPart_ (T : CE) (ρ : HC.Env) (M : Cells) (Φ : Option Int → Cells → Prop) : cPart T ρ M Φ = (T ρ M fun x M' => ∃ i, x = .int i ∧ Φ (some i) M') := Eq.trans rfl rfl
@[simp] theorem cSlL_ (Te : CE) (Tl Th : COo) (ρ : HC.Env) (M : Cells) (Φ : List D → Cells → Prop) : cSlL Te Tl Th ρ M Φ = (Te ρ M fun x M1 => Tl ρ M1 fun l M2 => Th ρ M2 fun u M3 => ∃ ds, lstOf M3 x = some ds ∧ Φ (cutD ds l u) M3) := Eq.trans rfl rfl
@[simp] theorem cRevL_ (T : CE) (ρ : HC.Env) (M : Cells) (Φ : List D → Cells → Prop) : cRevL T ρ M Φ = (T ρ M fun x M1 => ∃ ds, lstOf M1 x = some ds ∧ Φ ds.reverse M1) := Eq.trans rfl rfl
@[simp] theorem cRevT_ (T : CE) (ρ : HC.Env) (M : Cells) (Φ : D → Cells → Prop) : cRevT T ρ M Φ = (T ρ M fun x M1 => ∃ ds, x = .tup ds ∧ Φ (.tup ds.reverse) M1) := Eq.trans rfl rfl
@[simp] theorem cTupOf_ (T : CE) (ρ : HC.Env) (M : Cells) (Φ : D → Cells → Prop) : cTupOf T ρ M Φ = (T ρ M fun x M1 => ∃ ds, seqOf M1 x = some ds ∧ Φ (.tup ds) M1) := Eq.trans rfl rfl
@[simp] theorem cNext_ (E : CEn) (ρ : HC.Env) (M : Cells) : cNext E ρ M = (E.nx ρ M) := Eq.trans rfl rfl
@[simp] theorem cSeq_ (T U : CS) (E : CEn) (ρ : HC.Env) (M : Cells) : cSeq T U E ρ M = (T { E with nx := U E } ρ M) := Eq.trans rfl rfl
@[simp] theorem cBreak_ (E : CEn) (ρ : HC.Env) (M : Cells) : cBreak E ρ M = (E.bk ρ M) := Eq.trans rfl rfl
@[simp] theorem cCont_ (E : CEn) (ρ : HC.Env) (M : Cells) : cCont E ρ M = (E.ct ρ M) := Eq.trans rfl rfl
@[simp] theorem cRet_ (T : CE) (E : CEn) (ρ : HC.Env) (M : Cells) : cRet T E ρ M = (T ρ M fun d M' => E.rt d ρ M') := Eq.trans rfl rfl
@[simp] theorem cRetN_ (E : CEn) (ρ : HC.Env) (M : Cells) : cRetN E ρ M = (E.rt .non ρ M) := Eq.trans rfl rfl
@[simp] theorem cDrop_ (T : CE) (E : CEn) (ρ : HC.Env) (M : Cells) : cDrop T E ρ M = (T ρ M fun _ M' => E.nx ρ M') := Eq.trans rfl rfl
@[simp] theorem cIfS_ (C : CTt) (T U : CS) (E : CEn) (ρ : HC.Env) (M : Cells) : cIfS C T U E ρ M = (C ρ M fun c M1 => if c = true then T E ρ M1 else U E ρ M1) := Eq.trans rfl rfl
@[simp] theorem cAsg_ (T : CE) (G : CG) (E : CEn) (ρ : HC.Env) (M : Cells) : cAsg T G E ρ M = (T ρ M fun d M1 => G d ρ M1 E.nx) := Eq.trans rfl rfl
@[simp] theorem cAug_ (i : Nat) (T : CE) (R : DO) (E : CEn) (ρ : HC.Env) (M : Cells) : cAug i T R E ρ M = (∃ x, ρ[i]? = some (some x) ∧ T ρ M fun y M1 => R x y fun z => E.nx (ρ.set i (some z)) M1) := Eq.trans rfl rfl
@[simp] theorem cApp_ (To T : CE) (E : CEn) (ρ : HC.Env) (M : Cells) : cApp To T E ρ M = (To ρ M fun x M1 => (∃ l0, lstOf M1 x = some l0) ∧ T ρ M1 fun d M2 => ∃ p ds, x = .fn p ∧ look M2 p = some (.l ds) ∧ ds.length < sizeLine ∧ E.nx ρ (put M2 p (.l (ds ++ [d])))) := Eq.trans rfl rfl
@[simp] theorem cExt_ (To : CE) (T : CLs) (E : CEn) (ρ : HC.Env) (M : Cells) : cExt To T E ρ M = (To ρ M fun x M1 => (∃ l0, lstOf M1 x = some l0) ∧ T ρ M1 fun es M2 => ∃ p ds, x = .fn p ∧ look M2 p = some (.l ds) ∧ ds.length + es.length ≤ sizeLine ∧ E.nx ρ (put M2 p (.l (ds ++ es)))) := Eq.trans rfl rfl
@[simp] theorem cPop_ (To : CE) (ρ : HC.Env) (M : Cells) (Φ : D → Cells → Prop) : cPop To ρ M Φ = (To ρ M fun x M1 => ∃ p ds d, x = .fn p ∧ look M1 p = some (.l ds) ∧ ds[ds.length - 1]? = some d ∧ Φ d (put M1 p (.l ds.dropLast))) := Eq.trans rfl rfl
@[simp] theorem cSubL_ (To Ti : CE) (d : D) (ρ : HC.Env) (M : Cells) (Φ : HC.Env → Cells → Prop) : cSubL To Ti d ρ M Φ = (To ρ M fun x M1 => Ti ρ M1 fun y M2 => ∃ p ds k j, x = .fn p ∧ look M2 p = some (.l ds) ∧ y = .int k ∧ ixN ds.length k = some j ∧ Φ ρ (put M2 p (.l (ds.set j d)))) := Eq.trans rfl rfl
@[simp] theorem cSubM_ (To Ti : CE) (d : D) (ρ : HC.Env) (M : Cells) (Φ : HC.Env → Cells → Prop) : cSubM To Ti d ρ M Φ = (To ρ M fun x M1 => Ti ρ M1 fun y M2 => ∃ p ks key, x = .fn p ∧ look M2 p = some (.m ks) ∧ keyD y = some key ∧ ks.length < sizeLine ∧ Φ ρ (put M2 p (.m (putD ks key d)))) := Eq.trans rfl rfl
@[simp] theorem cFldS_ (C : Addr) (To : CE) (f : Str) (d : D) (ρ : HC.Env) (M : Cells) (Φ : HC.Env → Cells → Prop) : cFldS C To f d ρ M Φ = (To ρ M fun x M1 => ∃ p fs, x = .fn p ∧ look M1 p = some (.o C fs) ∧ (fs.map (·.1)).Nodup ∧ fs.length < 1000 ∧ Φ ρ (put M1 p (.o C (putD fs f d)))) := Eq.trans rfl rfl
@[simp] theorem cCall_ (S : SC) (Ta : CLs) (ρ : HC.Env) (M : Cells) (Φ : D → Cells → Prop) : cCall S Ta ρ M Φ = (Ta ρ M fun ds M1 => S ds M1 Φ) := Eq.trans rfl rfl
@[simp] theorem cCallA_ (i : Nat) (SS : Addr → Option SC) (Ta : CLs) (ρ : HC.Env) (M : Cells) (Φ : D → Cells → Prop) : cCallA i SS Ta ρ M Φ = (∃ f s, ρ[i]? = some (some (.fn f)) ∧ SS f = some s ∧ Ta ρ M fun ds M1 => s ds M1 Φ) := Eq.trans rfl rfl
@[simp] theorem cMake_ (C : Addr) (S : SC) (Ta : CLs) (ρ : HC.Env) (M : Cells) (Φ : D → Cells → Prop) : cMake C S Ta ρ M Φ = (Ta ρ M fun ds M1 => ∀ p, look M1 p = none → S (.fn p :: ds) ((p, .o C []) :: M1) fun d M2 => d = .non ∧ Φ (.fn p) M2) := Eq.trans rfl rfl
@[simp] theorem cMeth_ (C : Addr) (m : Str) (S : SC) (To : CE) (Ta : CLs) (ρ : HC.Env) (M : Cells) (Φ : D → Cells → Prop) : cMeth C m S To Ta ρ M Φ = (To ρ M fun x M1 => (∃ fs, objOf M1 x = some (C, fs) ∧ valD fs m = none) ∧ Ta ρ M1 fun ds M2 => S (x :: ds) M2 Φ) := Eq.trans rfl rfl
@[simp] theorem cVar_ (i : Nat) (ρ : HC.Env) (M : Cells) (Φ : D → Cells → Prop) : cVar i ρ M Φ = ∃ d, ρ[i]? = some (some d) ∧ frzG M d Φ := Eq.trans rfl rfl
@[simp] theorem cGNil_ (ρ : HC.Env) (M : Cells) (Φ : HC.Env → Cells → Prop) : cGNil [] ρ M Φ = Φ ρ M := by unfold cGNil; simp
@[simp] theorem cGCons_ (G : CG) (Gs : CGs) (d : D) (r : List D) (ρ : HC.Env) (M : Cells) (Φ : HC.Env → Cells → Prop) : cGCons G Gs (d :: r) ρ M Φ = G d ρ M fun ρ1 M1 => Gs r ρ1 M1 Φ := by
  unfold cGCons
  refine propext ⟨?_, fun h => ⟨_, _, rfl, h⟩⟩
  rintro ⟨d', r', h, g⟩
  cases h
  exact g
@[simp] theorem cGTup_ (n : Nat) (Gs : CGs) (ds : List D) (ρ : HC.Env) (M : Cells) (Φ : HC.Env → Cells → Prop) : cGTup n Gs (.tup ds) ρ M Φ = (ds.length = n ∧ Gs ds ρ M Φ) := by
  unfold cGTup
  refine propext ⟨?_, fun h => ⟨_, rfl, h⟩⟩
  rintro ⟨d', h, g⟩
  cases h
  exact g
@[simp] theorem look_cons (q : Addr) (c : Cell) (M : Cells) (p : Addr) : look ((q, c) :: M) p = if q = p then some c else look M p := Eq.trans rfl rfl
@[simp] theorem put_cons (q : Addr) (c : Cell) (M : Cells) (p : Addr) (x : Cell) : put ((q, c) :: M) p x = if q = p then (q, x) :: M else (q, c) :: put M p x := Eq.trans rfl rfl
theorem look_putI {p : Addr} {x c : Cell} {M : Cells} (h : look M p = some c) (a : Addr) : look (put M p x) a = if a = p then some x else look M a := look_put (by rw [h]; exact fun z => (by cases z))
@[simp] theorem lstOf_l (M : Cells) (l : List D) : lstOf M (.lst l) = some l := Eq.trans rfl rfl
@[simp] theorem dctOf_l (M : Cells) (l : List (Key × D)) : dctOf M (.dct l) = some l := Eq.trans rfl rfl
@[simp] theorem objOf_l (M : Cells) (C : Addr) (l : List (Str × D)) : objOf M (.obj C l) = some (C, l) := Eq.trans rfl rfl
@[simp] theorem seqOf_t (M : Cells) (l : List D) : seqOf M (.tup l) = some l := Eq.trans rfl rfl
@[simp] theorem seqOf_l (M : Cells) (l : List D) : seqOf M (.lst l) = some l := Eq.trans rfl rfl
@[simp] theorem seqOf_f (M : Cells) (p : Addr) : seqOf M (.fn p) = lstOf M (.fn p) := Eq.trans rfl rfl
def lstC : Option Cell → Option (List D)
  | some (.l ds) => some ds
  | some (.z (.lst ds)) => some ds
  | _ => none
def dctC : Option Cell → Option (List (Key × D))
  | some (.m ds) => some ds
  | some (.z (.dct ds)) => some ds
  | _ => none
def objC : Option Cell → Option (Addr × List (Str × D))
  | some (.o C ds) => some (C, ds)
  | some (.z (.obj C ds)) => some (C, ds)
  | _ => none
@[simp] theorem lstOf_f (M : Cells) (p : Addr) : lstOf M (.fn p) = lstC (look M p) := by
  cases e : look M p with
  | none => simp only [lstOf, lstC, e]
  | some c => cases c with
    | z d => cases d <;> simp only [lstOf, lstC, e]
    | _ => simp only [lstOf, lstC, e]
@[simp] theorem dctOf_f (M : Cells) (p : Addr) : dctOf M (.fn p) = dctC (look M p) := by
  cases e : look M p with
  | none => simp only [dctOf, dctC, e]
  | some c => cases c with
    | z d => cases d <;> simp only [dctOf, dctC, e]
    | _ => simp only [dctOf, dctC, e]
@[simp] theorem objOf_f (M : Cells) (p : Addr) : objOf M (.fn p) = objC (look M p) := by
  cases e : look M p with
  | none => simp only [objOf, objC, e]
  | some c => cases c with
    | z d => cases d <;> simp only [objOf, objC, e]
    | _ => simp only [objOf, objC, e]
@[simp] theorem lstC_l (l : List D) : lstC (some (.l l)) = some l := Eq.trans rfl rfl
@[simp] theorem lstC_z (l : List D) : lstC (some (.z (.lst l))) = some l := Eq.trans rfl rfl
@[simp] theorem dctC_l (l : List (Key × D)) : dctC (some (.m l)) = some l := Eq.trans rfl rfl
@[simp] theorem dctC_z (l : List (Key × D)) : dctC (some (.z (.dct l))) = some l := Eq.trans rfl rfl
@[simp] theorem objC_o (C : Addr) (l : List (Str × D)) : objC (some (.o C l)) = some (C, l) := Eq.trans rfl rfl
@[simp] theorem objC_z (C : Addr) (l : List (Str × D)) : objC (some (.z (.obj C l))) = some (C, l) := Eq.trans rfl rfl
@[simp] theorem lenG_s (M : Cells) (x : Str) (Φ : Nat → Prop) : lenG M (.str x) Φ = (x.length ≤ sizeLine ∧ Φ x.length) := Eq.trans rfl rfl
@[simp] theorem lenG_t (M : Cells) (l : List D) (Φ : Nat → Prop) : lenG M (.tup l) Φ = Φ l.length := by unfold lenG; simp
@[simp] theorem lenG_l (M : Cells) (l : List D) (Φ : Nat → Prop) : lenG M (.lst l) Φ = Φ l.length := by unfold lenG; simp
@[simp] theorem lenG_f (M : Cells) (p : Addr) (Φ : Nat → Prop) : lenG M (.fn p) Φ = ∃ ds, lstC (look M p) = some ds ∧ Φ ds.length := by unfold lenG; simp
@[simp] theorem truG_n (M : Cells) (Φ : Bool → Prop) : truG M .non Φ = Φ false := Eq.trans rfl rfl
@[simp] theorem truG_b (M : Cells) (c : Bool) (Φ : Bool → Prop) : truG M (.bl c) Φ = Φ c := Eq.trans rfl rfl
@[simp] theorem truG_i (M : Cells) (c : Int) (Φ : Bool → Prop) : truG M (.int c) Φ = Φ (c != 0) := Eq.trans rfl rfl
@[simp] theorem truG_t (M : Cells) (c : List D) (Φ : Bool → Prop) : truG M (.tup c) Φ = Φ (!c.isEmpty) := Eq.trans rfl rfl
theorem dctOf_lst (M : Cells) (c : List D) : dctOf M (.lst c) = none := rfl
theorem lstOf_dct (M : Cells) (c : List (Key × D)) : lstOf M (.dct c) = none := rfl
@[simp] theorem truG_l (M : Cells) (c : List D) (Φ : Bool → Prop) : truG M (.lst c) Φ = Φ (!c.isEmpty) := by unfold truG; simp [dctOf_lst]
@[simp] theorem truG_d (M : Cells) (c : List (Key × D)) (Φ : Bool → Prop) : truG M (.dct c) Φ = Φ (!c.isEmpty) := by unfold truG; simp [lstOf_dct]
@[simp] theorem truG_f (M : Cells) (p : Addr) (Φ : Bool → Prop) : truG M (.fn p) Φ = ((∃ ds, lstC (look M p) = some ds ∧ Φ (!ds.isEmpty)) ∨ ∃ ds, dctC (look M p) = some ds ∧ Φ (!ds.isEmpty)) := by unfold truG; simp
def frzC (p : Addr) (M : Cells) (Φ : D → Cells → Prop) : Option Cell → Prop
  | some (.l ds) => Φ (.lst ds) (put M p (.z (.lst ds)))
  | some (.m ks) => Φ (.dct ks) (put M p (.z (.dct ks)))
  | some (.o C fs) => Φ (.obj C fs) (put M p (.z (.obj C fs)))
  | some (.z d) => Φ d M
  | _ => Φ (.fn p) M
@[simp] theorem frzG_f (M : Cells) (p : Addr) (Φ : D → Cells → Prop) : frzG M (.fn p) Φ = frzC p M Φ (look M p) := by
  cases e : look M p with
  | none => simp only [frzG, frzC, e]
  | some c => cases c <;> simp only [frzG, frzC, e]
@[simp] theorem frzG_n (M : Cells) (Φ : D → Cells → Prop) : frzG M .non Φ = Φ .non M := Eq.trans rfl rfl
@[simp] theorem frzG_b (M : Cells) (x : Bool) (Φ : D → Cells → Prop) : frzG M (.bl x) Φ = Φ (.bl x) M := Eq.trans rfl rfl
@[simp] theorem frzG_i (M : Cells) (x : Int) (Φ : D → Cells → Prop) : frzG M (.int x) Φ = Φ (.int x) M := Eq.trans rfl rfl
@[simp] theorem frzG_s (M : Cells) (x : Str) (Φ : D → Cells → Prop) : frzG M (.str x) Φ = Φ (.str x) M := Eq.trans rfl rfl
@[simp] theorem frzG_t (M : Cells) (x : List D) (Φ : D → Cells → Prop) : frzG M (.tup x) Φ = Φ (.tup x) M := Eq.trans rfl rfl
@[simp] theorem frzG_l (M : Cells) (x : List D) (Φ : D → Cells → Prop) : frzG M (.lst x) Φ = Φ (.lst x) M := Eq.trans rfl rfl
@[simp] theorem frzG_o (M : Cells) (C : Addr) (x : List (Str × D)) (Φ : D → Cells → Prop) : frzG M (.obj C x) Φ = Φ (.obj C x) M := Eq.trans rfl rfl
@[simp] theorem wipeC_0 (ρ : HC.Env) : wipeC ρ [] = ρ := Eq.trans rfl rfl
@[simp] theorem wipeC_1 (ρ : HC.Env) (v : Nat) (vs : List Nat) : wipeC ρ (v :: vs) = (wipeC ρ vs).set v none := Eq.trans rfl rfl
@[simp] theorem startC_ (n : Nat) (ds : List D) : startC n ds = ds.map some ++ List.replicate (n - ds.length) none := Eq.trans rfl rfl
theorem Fewer.refl (M : Cells) : Fewer M M := fun _ _ h => h
/-! ### all that hangs on a cell is kept for good -/
def frzL (f : Cells → D → D × Cells) : Cells → List D → List D × Cells
  | M, [] => ([], M)
  | M, d :: ds => ((f M d).1 :: (frzL f (f M d).2 ds).1, (frzL f (f M d).2 ds).2)
def frzF {κ : Type} (f : Cells → D → D × Cells) : Cells → List (κ × D) → List (κ × D) × Cells
  | M, [] => ([], M)
  | M, d :: ds => ((d.1, (f M d.2).1) :: (frzF f (f M d.2).2 ds).1, (frzF f (f M d.2).2 ds).2)
def zL (p : Addr) (r : List D × Cells) : D × Cells := match look r.2 p with
  | some (.l _) => (.lst r.1, put r.2 p (.z (.lst r.1)))
  | _ => (.fn p, r.2)
def zM (p : Addr) (r : List (Key × D) × Cells) : D × Cells := match look r.2 p with
  | some (.m _) => (.dct r.1, put r.2 p (.z (.dct r.1)))
  | _ => (.fn p, r.2)
def zO (p : Addr) (r : List (Str × D) × Cells) : D × Cells := match look r.2 p with
  | some (.o C _) => (.obj C r.1, put r.2 p (.z (.obj C r.1)))
  | _ => (.fn p, r.2)
def frzN : Nat → Cells → D → D × Cells
  | 0, M, d => (d, M)
  | n + 1, M, d => match d with
    | .fn p => match look M p with
      | some (.l ds) => zL p (frzL (frzN n) M ds)
      | some (.m ks) => zM p (frzF (frzN n) M ks)
      | some (.o _ fs) => zO p (frzF (frzN n) M fs)
      | some (.z d) => (d, M)
      | _ => (.fn p, M)
    | d => (d, M)
section
variable [Tbs] {K : PySem.W.Frag} {b : HC.Bs} {σ : L2.St} {ρ : HC.Env}
def FzOk (K : PySem.W.Frag) (b : HC.Bs) (σ : L2.St) (ρ : HC.Env) (f : Cells → D → D × Cells) : Prop := ∀ (H F : Hp) (M : Cells) (v : V) (d : D), Rep K b σ H F ρ M → Dr K F v d → ∃ F', Same F F' ∧ Rep K b σ H F' ρ (f M d).2 ∧ Dr K F' v (f M d).1
theorem frzL_ok {f : Cells → D → D × Cells} (hf : FzOk K b σ ρ f) : ∀ (ds : List D) (H F : Hp) (M : Cells) (xs : List V), Rep K b σ H F ρ M → DA K F xs ds → ∃ F', Same F F' ∧ Rep K b σ H F' ρ (frzL f M ds).2 ∧ DA K F' xs (frzL f M ds).1
  | [], H, F, M, xs, R, h => ⟨F, Same.refl F, R, h⟩
  | d :: ds, H, F, M, xs, R, h => by
    obtain ⟨v, r, rfl, h1, h2⟩ := h.inv
    obtain ⟨F1, s1, R1, d1⟩ := hf H F M v d R h1
    obtain ⟨F2, s2, R2, d2⟩ := frzL_ok hf ds H F1 _ r R1 (h2.up s1)
    exact ⟨F2, s1.trans s2, R2, .cons (d1.up s2) d2⟩
theorem frzF_ok {κ : Type} {f : Cells → D → D × Cells} (hf : FzOk K b σ ρ f) : ∀ (ds : List (κ × D)) (H F : Hp) (M : Cells) (xs : List (κ × V)), Rep K b σ H F ρ M → DM K F xs ds → ∃ F', Same F F' ∧ Rep K b σ H F' ρ (frzF f M ds).2 ∧ DM K F' xs (frzF f M ds).1
  | [], H, F, M, xs, R, h => ⟨F, Same.refl F, R, h⟩
  | d :: ds, H, F, M, xs, R, h => by
    obtain ⟨v, r, rfl, h1, h2⟩ := h.inv
    obtain ⟨F1, s1, R1, d1⟩ := hf H F M v d.2 R h1
    obtain ⟨F2, s2, R2, d2⟩ := frzF_ok hf ds H F1 _ r R1 (h2.up s1)
    exact ⟨F2, s1.trans s2, R2, .cons (d1.up s2) d2⟩
theorem frzN_ok : ∀ n : Nat, FzOk K b σ ρ (frzN n)
  | 0 => fun H F M v d R h => ⟨F, Same.refl F, R, h⟩
  | n + 1 => fun H F M v d R h => by
    have ih := frzN_ok n
    by_cases hd : ∃ p, d = .fn p
    · obtain ⟨p, rfl⟩ := hd
      cases h.inv_fn
      unfold frzN
      cases q : look M p with
      | none => simp only [q]; exact ⟨F, Same.refl F, R, h⟩
      | some c =>
        have hc := (R.cell p c q).1
        cases c with
        | l ds =>
          simp only [q]
          obtain ⟨_, xs, e1, e2⟩ := hc
          obtain ⟨F1, s1, R1, d1⟩ := frzL_ok ih ds H F M xs R e2
          unfold zL
          cases q1 : look (frzL (frzN n) M ds).2 p with
          | none => simp only [q1]; exact ⟨F1, s1, R1, .fn p⟩
          | some c1 =>
            cases c1 with
            | l ds1 =>
              simp only [q1]
              obtain ⟨hF, _, _, _⟩ := (R1.cell p _ q1).1
              have d2 := d1.up (SX.same_upd (o := .lst xs) hF)
              obtain ⟨s2, R2⟩ := R1.frz (d := .lst (frzL (frzN n) M ds).1) q1 hF e1 (by intro t z; cases z) (.lst upd_same d2.1 d2.2)
              exact ⟨_, s1.trans s2, R2, .lst upd_same d2.1 d2.2⟩
            | _ => simp only [q1]; exact ⟨F1, s1, R1, .fn p⟩
        | m ds =>
          simp only [q]
          obtain ⟨_, xs, e1, e2⟩ := hc
          obtain ⟨F1, s1, R1, d1⟩ := frzF_ok ih ds H F M xs R e2
          unfold zM
          cases q1 : look (frzF (frzN n) M ds).2 p with
          | none => simp only [q1]; exact ⟨F1, s1, R1, .fn p⟩
          | some c1 =>
            cases c1 with
            | m ds1 =>
              simp only [q1]
              obtain ⟨hF, _, _, _⟩ := (R1.cell p _ q1).1
              have d2 := d1.up (SX.same_upd (o := .dK xs) hF)
              obtain ⟨s2, R2⟩ := R1.frz (d := .dct (frzF (frzN n) M ds).1) q1 hF e1 (by intro t z; cases z) (.dct upd_same d2.1 d2.2)
              exact ⟨_, s1.trans s2, R2, .dct upd_same d2.1 d2.2⟩
            | _ => simp only [q1]; exact ⟨F1, s1, R1, .fn p⟩
        | o C ds =>
          simp only [q]
          obtain ⟨_, dx, xs, e1, e2⟩ := hc
          obtain ⟨F1, s1, R1, d1⟩ := frzF_ok ih ds H F M xs R e2
          unfold zO
          cases q1 : look (frzF (frzN n) M ds).2 p with
          | none => simp only [q1]; exact ⟨F1, s1, R1, .fn p⟩
          | some c1 =>
            cases c1 with
            | o C1 ds1 =>
              simp only [q1]
              obtain ⟨hF, dx1, xs1, e3, _⟩ := (R1.cell p _ q1).1
              rw [e1] at e3
              cases e3
              have d2 := d1.up (SX.same_upd (o := .ins C dx xs) hF)
              obtain ⟨s2, R2⟩ := R1.frz (d := .obj C (frzF (frzN n) M ds).1) q1 hF e1 (by intro t z; cases z) (.obj upd_same d2.1 d2.2)
              exact ⟨_, s1.trans s2, R2, .obj upd_same d2.1 d2.2⟩
            | _ => simp only [q1]; exact ⟨F1, s1, R1, .fn p⟩
        | draw => simp only [q]; exact ⟨F, Same.refl F, R, h⟩
        | z d => simp only [q]; exact ⟨F, Same.refl F, R, hc.1⟩
    · have e : frzN (n + 1) M d = (d, M) := by
        cases d with
        | fn p => exact absurd ⟨p, rfl⟩ hd
        | _ => rfl
      rw [e]
      exact ⟨F, Same.refl F, R, h⟩
def cDeep (n : Nat) (T : CE) : CE := fun ρ M Φ => T ρ M fun d M' => Φ (frzN n M' d).1 (frzN n M' d).2
theorem xe_deep {n : Nat} {t : TE} {T : CE} (h : XE K t T) : XE K t (cDeep n T) := by
  intro b σ H F ρ M Φ Q R hT k
  refine h b σ H F ρ M _ Q R hT fun v H' F' M' d s R' hd hΦ => ?_
  obtain ⟨F2, s2, R2, hd2⟩ := frzN_ok n H' F' M' v d R' hd
  exact k v H' F2 _ _ (s.trans s2) R2 hd2 hΦ
end
@[simp] theorem cDeep_ (n : Nat) (T : CE) (ρ : HC.Env) (M : Cells) (Φ : D → Cells → Prop) : cDeep n T ρ M Φ = T ρ M fun d M' => Φ (frzN n M' d).1 (frzN n M' d).2 := Eq.trans rfl rfl
/-! ### loops -/
theorem for_inv {Ti : CLs} {G : CG} {Tb : CS} {E : CEn} {ρ : HC.Env} {M : Cells} (ds : List D) (M1 : Cells) (W : Nat → HC.Env → Cells → Prop) (hI : ∀ Ψ : List D → Cells → Prop, Ψ ds M1 → Ti ρ M Ψ) (h0 : W 0 ρ M1)
    (hs : ∀ k x ρ M, ds[k]? = some x → W k ρ M → G x ρ M fun ρ2 M2 => Tb ⟨W (k + 1), E.rt, E.nx, W (k + 1)⟩ ρ2 M2) (hd : ∀ ρ M, W ds.length ρ M → E.nx ρ M) : cFor Ti G Tb E ρ M := hI _ ⟨W, h0, hs, hd⟩
theorem while_inv {C : CTt} {Tb : CS} {E : CEn} {ρ : HC.Env} {M : Cells} (W : Nat → HC.Env → Cells → Prop) (h0 : ∃ m, W m ρ M)
    (hs : ∀ m ρ M, W m ρ M → C ρ M fun c M1 => if c = true then Tb ⟨fun ρ2 M2 => ∃ m', m' < m ∧ W m' ρ2 M2, E.rt, E.nx, fun ρ2 M2 => ∃ m', m' < m ∧ W m' ρ2 M2⟩ ρ M1 else E.nx ρ M1) : cWhile C Tb E ρ M := ⟨W, h0, hs⟩
theorem lc_inv {Ti : CLs} {G : CG} {Tt : CTt} {Te : CE} {vs : List Nat} {ρ : HC.Env} {M : Cells} {Φ : List D → Cells → Prop} (ds : List D) (M1 : Cells) (W : Nat → List D → Cells → Prop) (hI : ∀ Ψ : List D → Cells → Prop, Ψ ds M1 → Ti ρ M Ψ) (h0 : W 0 [] M1)
    (hs : ∀ k x acc M, ds[k]? = some x → W k acc M → G x (wipeC ρ vs) M fun ρ2 M2 => Tt ρ2 M2 fun c M3 => if c = true then Te ρ2 M3 fun e M4 => acc.length < sizeLine ∧ W (k + 1) (acc ++ [e]) M4 else W (k + 1) acc M3)
    (hd : ∀ acc M, W ds.length acc M → Φ acc M) : cLc Ti G Tt Te vs ρ M Φ := hI _ ⟨W, h0, hs, hd⟩
/-- a comprehension that leaves the cells as they are -/
theorem lc_fp {Ti : CLs} {G : CG} {Tt : CTt} {Te : CE} {vs : List Nat} {ρ ρw : HC.Env} {M : Cells} {Φ : List D → Cells → Prop} (ds : List D) (M1 : Cells) (p : D → Bool) (f : D → D) (hI : ∀ Ψ : List D → Cells → Prop, Ψ ds M1 → Ti ρ M Ψ) (hw : wipeC ρ vs = ρw) (hz : ds.length ≤ 16000000)
    (hs : ∀ x, x ∈ ds → ∀ (A : D → Cells → Prop) (B : Cells → Prop), (p x = true → A (f x) M1) → (p x = false → B M1) → G x ρw M1 fun ρ2 M2 => Tt ρ2 M2 fun c M3 => if c = true then Te ρ2 M3 A else B M3)
    (hd : Φ ((ds.filter p).map f) M1) : cLc Ti G Tt Te vs ρ M Φ := by
  subst hw
  refine lc_inv ds M1 (fun k acc M => acc = ((ds.take k).filter p).map f ∧ M = M1) hI ⟨rfl, rfl⟩ ?_ ?_
  · rintro k x acc _ hx ⟨rfl, rfl⟩
    have hk := (List.getElem?_eq_some_iff.mp hx).1
    have ht : ds.take (k + 1) = ds.take k ++ [x] := by rw [List.take_add_one, hx]; rfl
    refine hs x (List.mem_of_getElem? hx) _ _ (fun hp => ⟨?_, ?_, rfl⟩) (fun hp => ⟨?_, rfl⟩)
    · have h1 : (((ds.take k).filter p).map f).length ≤ k := by
        rw [List.length_map]
        exact Nat.le_trans (List.length_filter_le _ _) (by rw [List.length_take]; omega)
      show _ < 16777216
      omega
    · rw [ht, List.filter_append, List.filter_cons, hp]
      simp
    · rw [ht, List.filter_append, List.filter_cons, hp]
      simp
  · rintro acc _ ⟨rfl, rfl⟩
    rw [List.take_length]
    exact hd
theorem lc_f {Ti : CLs} {G : CG} {Te : CE} {vs : List Nat} {ρ ρw : HC.Env} {M : Cells} {Φ : List D → Cells → Prop} (ds : List D) (M1 : Cells) (f : D → D) (hI : ∀ Ψ : List D → Cells → Prop, Ψ ds M1 → Ti ρ M Ψ) (hw : wipeC ρ vs = ρw) (hz : ds.length ≤ 16000000)
    (hs : ∀ x, x ∈ ds → ∀ (A : D → Cells → Prop), A (f x) M1 → G x ρw M1 fun ρ2 M2 => Te ρ2 M2 A)
    (hd : Φ (ds.map f) M1) : cLc Ti G cYes Te vs ρ M Φ := by
  refine lc_fp ds M1 (fun _ => true) f hI hw hz (fun x hx A B h1 h2 => ?_) ?_
  · exact hs x hx A (h1 rfl)
  · have e : ds.filter (fun _ => true) = ds := List.filter_eq_self.mpr fun _ _ => rfl
    rw [e]
    exact hd
theorem lc_z {Ti : CLs} {G : CG} {Te : CE} {vs : List Nat} {ρ ρw : HC.Env} {M : Cells} {Φ : List D → Cells → Prop} (ds es : List D) (M1 : Cells) (hI : ∀ Ψ : List D → Cells → Prop, Ψ ds M1 → Ti ρ M Ψ) (hw : wipeC ρ vs = ρw) (hz : ds.length ≤ 16000000) (hl : es.length = ds.length)
    (hs : ∀ (k : Nat) x e, ds[k]? = some x → es[k]? = some e → ∀ (A : D → Cells → Prop), A e M1 → G x ρw M1 fun ρ2 M2 => Te ρ2 M2 A)
    (hd : Φ es M1) : cLc Ti G cYes Te vs ρ M Φ := by
  subst hw
  refine lc_inv ds M1 (fun k acc M => acc = es.take k ∧ M = M1) hI ⟨rfl, rfl⟩ ?_ ?_
  · rintro k x acc _ hx ⟨rfl, rfl⟩
    have hk := (List.getElem?_eq_some_iff.mp hx).1
    have ge := List.getElem?_eq_getElem (show k < es.length by omega)
    refine hs k x _ hx ge _ ⟨?_, ?_, rfl⟩
    · show _ < 16777216
      rw [List.length_take]
      omega
    · rw [List.take_add_one, ge]
      rfl
  · rintro acc _ ⟨rfl, rfl⟩
    rw [← hl, List.take_length]
    exact hd
theorem put_put {p : Addr} {x y : Cell} : ∀ {M : Cells}, put (put M p x) p y = put M p y
  | [] => rfl
  | (q, c) :: M => by
    rw [put_cons, put_cons]
    by_cases h : q = p
    · rw [if_pos h, if_pos h, put_cons, if_pos h]
    · rw [if_neg h, if_neg h, put_cons, if_neg h, put_put]
theorem look_self {p : Addr} {x c : Cell} {M : Cells} (h : look M p = some c) : look (put M p x) p = some x := by rw [look_putI h, if_pos rfl]
theorem look_other {p a : Addr} {x c : Cell} {M : Cells} (h : look M p = some c) (n : a ≠ p) : look (put M p x) a = look M a := by rw [look_putI h, if_neg n]
@[simp] theorem frzN_l (n : Nat) (M : Cells) (l : List D) : frzN (n + 1) M (.lst l) = (.lst l, M) := rfl
@[simp] theorem frzN_t (n : Nat) (M : Cells) (l : List D) : frzN (n + 1) M (.tup l) = (.tup l, M) := rfl
@[simp] theorem frzN_i (n : Nat) (M : Cells) (l : Int) : frzN (n + 1) M (.int l) = (.int l, M) := rfl
@[simp] theorem frzN_s (n : Nat) (M : Cells) (l : Str) : frzN (n + 1) M (.str l) = (.str l, M) := rfl
@[simp] theorem frzN_b (n : Nat) (M : Cells) (l : Bool) : frzN (n + 1) M (.bl l) = (.bl l, M) := rfl
@[simp] theorem frzN_n (n : Nat) (M : Cells) : frzN (n + 1) M .non = (.non, M) := rfl
theorem frzN_cl {n : Nat} {M : Cells} {p : Addr} {l : List D} (h : look M p = some (.l l)) : frzN (n + 1) M (.fn p) = zL p (frzL (frzN n) M l) := by
  unfold frzN
  simp only [h]
theorem frzN_co {n : Nat} {M : Cells} {p C : Addr} {l : List (Str × D)} (h : look M p = some (.o C l)) : frzN (n + 1) M (.fn p) = zO p (frzF (frzN n) M l) := by
  unfold frzN
  simp only [h]
theorem frzN_cm {n : Nat} {M : Cells} {p : Addr} {l : List (Key × D)} (h : look M p = some (.m l)) : frzN (n + 1) M (.fn p) = zM p (frzF (frzN n) M l) := by
  unfold frzN
  simp only [h]
theorem frzN_cz {n : Nat} {M : Cells} {p : Addr} {d : D} (h : look M p = some (.z d)) : frzN (n + 1) M (.fn p) = (d, M) := by
  unfold frzN
  simp only [h]
theorem zL_l {p : Addr} {r : List D × Cells} {l : List D} (h : look r.2 p = some (.l l)) : zL p r = (.lst r.1, put r.2 p (.z (.lst r.1))) := by
  unfold zL
  simp only [h]
theorem zO_o {p C : Addr} {r : List (Str × D) × Cells} {l : List (Str × D)} (h : look r.2 p = some (.o C l)) : zO p r = (.obj C r.1, put r.2 p (.z (.obj C r.1))) := by
  unfold zO
  simp only [h]
theorem frzL_flat {f : Cells → D → D × Cells} : ∀ {l : List D} {M : Cells}, (∀ d ∈ l, ∀ M, f M d = (d, M)) → frzL f M l = (l, M)
  | [], M, h => rfl
  | d :: l, M, h => by
    unfold frzL
    rw [h d List.mem_cons_self M, frzL_flat fun d hd => h d (List.mem_cons_of_mem _ hd)]
@[simp] theorem frzF_nil {κ : Type} (f : Cells → D → D × Cells) (M : Cells) : frzF f M ([] : List (κ × D)) = ([], M) := rfl
@[simp] theorem frzF_cons {κ : Type} (f : Cells → D → D × Cells) (M : Cells) (d : κ × D) (l : List (κ × D)) : frzF f M (d :: l) = ((d.1, (f M d.2).1) :: (frzF f (f M d.2).2 l).1, (frzF f (f M d.2).2 l).2) := rfl
@[simp] theorem frzL_nil (f : Cells → D → D × Cells) (M : Cells) : frzL f M [] = ([], M) := rfl
@[simp] theorem frzL_cons (f : Cells → D → D × Cells) (M : Cells) (d : D) (l : List D) : frzL f M (d :: l) = ((f M d).1 :: (frzL f (f M d).2 l).1, (frzL f (f M d).2 l).2) := rfl
end HC
/-! Part 6: between the layers; draws; the written dicts of a module; enumerate. -/
namespace HC
open PySem PySem.Spec PyProof.Rows L2 DL
section
variable [Tbs] {K : PySem.W.Frag} {ps : List Nat}
/-- C(..), and what was made is kept as data -/
def dMakeH (C : Addr) (S : SC) (Ta : DLs) : DE := fun ρ Φ => Ta ρ fun ds ρ1 => ∀ p, S (.fn p :: ds) [(p, .o C [])] fun d M2 => d = .non ∧ Φ (frzN 4 M2 (.fn p)).1 ρ1
theorem re_makeH {C : Addr} {S : SC} {t : TA} {Ta : DLs} {E : XK} (h : DL.RV K ps t Ta) : DL.RE K ps (tMake C (spH K S) [] E t) (dMakeH C S Ta) := by
  intro b σ H F ρ Φ Q R0 hT k
  refine h b σ H F ρ _ _ R0 hT fun vs H1 F1 ρ1 ds s1 R1 hr hS => fun x dx hx hdx ne => ?_
  rw [List.append_nil]
  have Z : HC.Rep K (HC.here H1 F1 []) [] H1 F1 [] [] := ⟨R1.sub, ⟨Same.refl F1, R1.grow.b⟩, fun a o e _ _ => e, fun a o e => .inl e, fun i d e => (by cases e), fun p c e => (by cases e), rfl, R1.nt, fun a o e => ⟨o, e⟩, R1.tabs⟩
  have R2 := Z.lay (o := .own x) hdx
  have hx2 : upd H1 dx (.own x) x = none := by rw [upd_ne (Ne.symm ne)]; exact hx
  have lo := R2.loose hx2
  have R3 := (R2.lay (o := .ins C dx []) hx2).add (c := .o C []) lo ⟨lo.1, dx, [], upd_same, .nil⟩
  refine xe_callAt R3 (.cons (.fn x) hr) (hS x) fun v H' F' M' d s R' hd ⟨ed, hΦ⟩ => ?_
  subst ed
  obtain ⟨F2, s2, R4, hd2⟩ := frzN_ok 4 H' F' M' (.ref x) (.fn x) R' (.fn x)
  have nO : ∀ a, ¬ (HC.here H1 F1 []).O a := fun a z => z rfl
  exact ⟨hd.inv_non, k _ H' F2 ρ1 _ ((s1.trans s).trans s2) (R1.grownT (fun a o e nz => R4.keep a o e (nO a) nz) (fun a o e => R4.dom a o e) (s.trans s2) R4.sub (fun a o e => (R4.new a o e).elim .inl fun z => z.elim .inr fun z => absurd z (nO a)) R4.nt R4.tabs) hd2 hΦ⟩
def dIEn (T : DE) : DLs := fun ρ Φ => T ρ fun x ρ' => ∃ ds, x = .lst ds ∧ Φ (enumD ds) ρ'
theorem ri_enum {t : TE} {T : DE} (h : DL.RE K ps t T) : DL.RI K ps (iEnum K (tCons t tNil)) (dIEn T) := by
  intro b σ H F ρ Φ R R0 hT k
  refine h b σ H F ρ _ _ R0 hT fun x H1 F1 ρ1 d s1 R1 h1 hT => ?_
  obtain ⟨ds, rfl, hT⟩ := hT
  obtain ⟨a, xs, rfl, ea, ha⟩ := h1.inv_lst
  exact ⟨a, xs, rfl, SqL.of (R1.sub _ _ ea), k _ H1 F1 ρ1 _ s1 R1 (wk_enum ea ha) hT⟩
end
/-! ### the written dicts of a module -/
def vD : V → Option D
  | .ref a => some (.fn a)
  | .int i => some (.int i)
  | .str s => some (.str s)
  | _ => none
theorem vD_ok {K : PySem.W.Frag} {F : Hp} {v : V} {d : D} (h : vD v = some d) : Dr K F v d := by
  cases v <;> cases h
  · exact .int _
  · exact .str _
  · exact .fn _
def oInW (a : Addr) (kvs : List (Str × V)) : DO := fun x y Φ => ∃ z, x = .str z ∧ y = .fn a ∧ Φ (.bl (kvs.lookup z).isSome)
def oNotInW (a : Addr) (kvs : List (Str × V)) : DO := fun x y Φ => ∃ z, x = .str z ∧ y = .fn a ∧ Φ (.bl (!(kvs.lookup z).isSome))
def oIxW (a : Addr) (kvs : List (Str × V)) : DO := fun x y Φ => ∃ z v d, x = .fn a ∧ y = .str z ∧ kvs.lookup z = some v ∧ vD v = some d ∧ Φ d
section
variable [Tbs] {K : PySem.W.Frag} {ps : List Nat} {a : Addr} {kvs : List (Str × V)}
theorem ro_inW : RO K ps (fun x y H Q => ∃ z : Str, x = .str z ∧ y = .ref a ∧ Q (.bl (kvs.lookup z).isSome) H) (oInW a kvs) := by
  intro b σ H F ρ x y d e Φ Q R hx hy hT k
  obtain ⟨z, rfl, rfl, hT⟩ := hT
  exact ⟨z, hx.inv_str, hy.inv_fn, k _ H F _ (Same.refl F) R (.bl _) hT⟩
theorem ro_notInW : RO K ps (fun x y H Q => ∃ z : Str, x = .str z ∧ y = .ref a ∧ Q (.bl (!(kvs.lookup z).isSome)) H) (oNotInW a kvs) := by
  intro b σ H F ρ x y d e Φ Q R hx hy hT k
  obtain ⟨z, rfl, rfl, hT⟩ := hT
  exact ⟨z, hx.inv_str, hy.inv_fn, k _ H F _ (Same.refl F) R (.bl _) hT⟩
theorem ro_ixW : RO K ps (fun x y H Q => ∃ (z : Str) (v : V), x = .ref a ∧ y = .str z ∧ kvs.lookup z = some v ∧ Q v H) (oIxW a kvs) := by
  intro b σ H F ρ x y d e Φ Q R hx hy hT k
  obtain ⟨z, v, d, rfl, rfl, h1, h2, hT⟩ := hT
  exact ⟨z, v, hx.inv_fn, hy.inv_str, h1, k v H F d (Same.refl F) R (vD_ok h2) hT⟩
end
/-! ### draws -/
structure DrawAt (H : Hp) (d sc : Addr) : Prop where
  ex : ∃ (ns : List Int) (i : Nat) (b s : Int), H d = some (.lst [.ref sc, .int (i : Nat), .int b, .int s]) ∧ H sc = some (.lst (ns.map V.int)) ∧ sc ≠ d ∧ ns.length ≤ 63 ∧ 0 ≤ b ∧ 0 ≤ s ∧ s < 2147483648
/-- the making of a draw -/
def spDraw (K : PySem.W.Frag) : Sp := fun vs H Q _ => ∃ (a : Addr) (ns : List Int), vs = [.ref a] ∧ SqL K H a (ns.map V.int) ∧ ns.length ≤ 63 ∧ ∀ H' d sc, Same H H' → H d = none → H sc = none → DrawAt H' d sc → Q (.ref d) H'
section
variable [Tbs] {K : PySem.W.Frag}
def cDraw (i : Nat) : CE := fun ρ M Φ => ∃ ns, ρ[i]? = some (some (.scr ns)) ∧ ns.length ≤ 63 ∧ ∀ p, look M p = none → Φ (.fn p) ((p, .draw) :: M)
theorem xe_draw {i : Nat} {E : XK} : XE K (tCall (spDraw K) [] E (tCons (tVar i) tNil)) (cDraw i) := by
  intro b σ H F ρ M Φ Q R hT k
  obtain ⟨ns, e, hn, hT⟩ := hT
  obtain ⟨v, h1, h2⟩ := R.slot i _ e
  obtain ⟨a, rfl, hs⟩ := Dr.inv_scr h2
  refine ⟨_, h1, a, ns, rfl, sqL_same R.sub hs, hn, fun H' d sc sm hd hsc DA' => ?_⟩
  obtain ⟨ns', i', b', s', e1, e2, e3, e4, e5, e6, e7⟩ := DA'
  obtain ⟨hFd, h0d, hMd⟩ := R.fresh hd
  obtain ⟨hFs, h0s, hMs⟩ := R.fresh hsc
  have sF : Same F (upd F sc (.lst (ns'.map V.int))) := SX.same_upd hFs
  have R2 : Rep K b σ H' (upd F sc (.lst (ns'.map V.int))) ρ M := R.grown sm sF (fun x o eo => by
    by_cases hx : x = sc
    · subst hx
      rw [upd_same] at eo
      rw [e2]
      exact eo
    · rw [upd_ne hx] at eo
      exact sm _ _ (R.sub _ _ eo)) (fun x o eo => by
    by_cases hx : x = sc
    · subst hx
      exact .inr hsc
    · rw [upd_ne hx] at eo
      exact .inl eo) (fun x o eo => by
    by_cases hx : x = sc
    · subst hx
      rw [upd_same] at eo
      cases eo
      exact .inr (fun t z => by cases z)
    · rw [upd_ne hx] at eo
      exact .inl eo)
  have hF2 : upd F sc (.lst (ns'.map V.int)) d = none := by rw [upd_ne (Ne.symm e3)]; exact hFd
  exact k _ H' _ _ (.fn d) sF (R2.add (c := .draw) ⟨hF2, h0d, hMd⟩ ⟨hF2, sc, ns', i', b', s', e1, upd_same, e4, e5, e6, e7⟩) (.fn d) (hT d hMd)
@[simp] theorem cDraw_ (i : Nat) (ρ : HC.Env) (M : Cells) (Φ : D → Cells → Prop) : cDraw i ρ M Φ = ∃ ns, ρ[i]? = some (some (.scr ns)) ∧ ns.length ≤ 63 ∧ ∀ p, look M p = none → Φ (.fn p) ((p, .draw) :: M) := Eq.trans rfl rfl
/-- f(draw, ..), by a promise of the layer without cells -/
def cCallD (S : SD) (Ta : CLs) : CE := fun ρ M Φ => Ta ρ M fun ds M1 => ∃ p rest, ds = .fn p :: rest ∧ look M1 p = some .draw ∧ S (.draw :: rest.map .d) fun d os => os[0]? = some .draw ∧ Φ d M1
theorem xe_callD {S : SD} {t : TA} {Ta : CLs} {E : XK} (h : XV K t Ta) : XE K (tCall (spOf K S) [] E t) (cCallD S Ta) := by
  intro b σ H F ρ M Φ Q R0 hT k
  refine h b σ H F ρ M _ _ R0 hT fun vs H1 F1 M1 ds s1 R1 hr hT => ?_
  obtain ⟨p, rest, rfl, hp, hS⟩ := hT
  obtain ⟨v, r, rfl, hv, hr2⟩ := hr.inv
  cases hv.inv_fn
  have hc := (R1.cell p _ hp).1
  have rd : ∀ (i : Nat) (o : OV), (rest.map OV.d)[i]? = some o → o.own = true → False := fun i o e ho => by
    rw [List.getElem?_map] at e
    obtain ⟨d, _, rfl⟩ := Option.map_eq_some_iff.mp e
    cases ho
  have ow : ∀ a, OwnA (.ref p :: r) (.draw :: rest.map .d) a → a = p := fun a ⟨i, o, e1, e2, e3⟩ => by
    cases i with
    | zero => cases e3; rfl
    | succ i => exact (rd i o e1 e2).elim
  show spOf K S ((.ref p :: r) ++ []) H1 Q E
  rw [List.append_nil]
  refine ⟨F1, _, fun d os => os[0]? = some .draw ∧ Φ d M1, ⟨R1.sub, R1.nt, R1.tabs, R1.grow.b⟩, ⟨by rw [List.length_cons, List.length_cons, List.length_map, hr2.1], fun i v o e1 e2 => ?_, fun i j o u v n e1 o1 e2 o2 e3 e4 => ?_⟩, hS, fun F' H' v d os' s2 ⟨sub2, nt2, tb2⟩ kp th nw len2 hout hd ⟨h0, hΦ⟩ => ?_⟩
  · cases i with
    | zero =>
      cases e1
      cases e2
      exact Ok0.mk rfl rfl hc.1 hc.2
    | succ i =>
      rw [List.getElem?_cons_succ] at e1 e2
      rw [List.getElem?_map] at e2
      obtain ⟨d, hd, rfl⟩ := Option.map_eq_some_iff.mp e2
      exact hr2.2 i v d e1 hd
  · cases i with
    | zero =>
      cases j with
      | zero => exact n rfl
      | succ j => exact (rd j u e2 o2).elim
    | succ i => exact (rd i o e1 o1).elim
  · have hne : look M1 p ≠ none := by rw [hp]; exact fun z => (by cases z)
    refine k v H' F' M1 d (s1.trans s2) (R1.called s2 ⟨sub2, nt2, tb2⟩ (fun a o e n nz => kp a o e (fun z => hne (by rw [← ow a z]; exact n)) nz) th (fun a o e => (nw a o e).elim .inl fun h => h.elim (fun z => .inr (.inl z)) fun z => .inr (.inr (by rw [ow a z]; exact hne))) fun q c e => ?_) hd hΦ
    refine ⟨?_, .inl (by rw [e]; exact fun z => (by cases z))⟩
    by_cases hq : q = p
    · subst hq
      rw [hp] at e
      cases e
      obtain ⟨p', e1, e2, e3⟩ := (hout 0 .draw .draw (.ref q) rfl rfl h0 rfl).inv rfl
      cases e1
      exact ⟨e2, e3⟩
    · have h1 := (R1.cell q c e).1
      obtain ⟨u, eu, nu⟩ := h1.kind R1.sub R1.nt
      refine h1.up s2 ((kp q u eu (fun z => hq (ow q z)) nu).trans eu.symm) fun hF => ?_
      cases e' : F' q with
      | none => rfl
      | some o =>
        rcases nw q o e' with h | h | h
        · rw [hF] at h; cases h
        · rw [eu] at h; cases h
        · exact absurd (ow q h) hq
end
@[simp] theorem cCallD_ (S : SD) (Ta : CLs) (ρ : HC.Env) (M : Cells) (Φ : D → Cells → Prop) : cCallD S Ta ρ M Φ = Ta ρ M fun ds M1 => ∃ p rest, ds = .fn p :: rest ∧ look M1 p = some .draw ∧ S (.draw :: rest.map .d) fun d os => os[0]? = some .draw ∧ Φ d M1 := Eq.trans rfl rfl
@[simp] theorem dMakeH_ (C : Addr) (S : SC) (Ta : DLs) (ρ : DL.Env) (Φ : D → DL.Env → Prop) : dMakeH C S Ta ρ Φ = Ta ρ fun ds ρ1 => ∀ p, S (.fn p :: ds) [(p, .o C [])] fun d M2 => d = .non ∧ Φ (frzN 4 M2 (.fn p)).1 ρ1 := Eq.trans rfl rfl
@[simp] theorem dIEn_ (T : DE) (ρ : DL.Env) (Φ : List D → DL.Env → Prop) : dIEn T ρ Φ = T ρ fun x ρ' => ∃ ds, x = .lst ds ∧ Φ (enumD ds) ρ' := Eq.trans rfl rfl
end HC
/-! Families of numbered nodes: looks. Nothing of programs. -/
namespace MF
/-- numbers: the rows of numbers, what each one hangs on -/
structure Fam where
  rows : List (List Nat)
  par : List (Option Nat)
def Fam.n (F : Fam) : Nat := F.rows.length
def kids (F : Fam) (k : Nat) : List Nat := (F.rows[k]?).getD []
def par (F : Fam) (k : Nat) : Option Nat := (F.par[k]?).getD none
structure GF (F : Fam) : Prop where
  plen : F.par.length = F.n
  up : ∀ k c, c ∈ kids F k → k < c ∧ c < F.n
  pk : ∀ k c, c ∈ kids F k ↔ par F c = some k
  sorted : ∀ k, (kids F k).Pairwise (· < ·)
  has : ∀ k, 0 < k → k < F.n → ∃ p, par F k = some p
  pos : 0 < F.n
theorem GF.lt {F : Fam} (g : GF F) {k p : Nat} (h : par F k = some p) : p < k ∧ k < F.n := g.up p k ((g.pk p k).mpr h)
theorem GF.zero {F : Fam} (g : GF F) : par F 0 = none := by
  cases e : par F 0 with
  | none => rfl
  | some p => exact absurd (g.lt e).1 (Nat.not_lt_zero _)
theorem kids_out {F : Fam} {k : Nat} (h : F.n ≤ k) : kids F k = [] := by
  unfold kids
  rw [List.getElem?_eq_none h]
  rfl
theorem kids_get {F : Fam} {k : Nat} {r : List Nat} (h : F.rows[k]? = some r) : kids F k = r := by
  unfold kids
  rw [h]
  rfl
/-! ### looks -/
def bel (F : Fam) (h : Nat → Bool) : Nat → Nat → Bool
  | 0, _ => false
  | m + 1, k => (kids F k).any fun c => h c || bel F h m c
def abv (F : Fam) (h : Nat → Bool) : Nat → Nat → Bool
  | 0, _ => false
  | m + 1, k => match par F k with
    | some p => h p || abv F h m p
    | none => false
def prt (F : Fam) (h : Nat → Bool) (k : Nat) : Bool := match par F k with
  | some p => h p
  | none => false
def bef (rows : List (List Nat)) (h : Nat → Bool) (k : Nat) : Bool := match rows.find? fun r => decide (k ∈ r) with
  | some r => (r.takeWhile fun c => decide (c ≠ k)).any h
  | none => false
inductive Lk where
  | child | below | parent | above | earlier | later
def lk (F : Fam) : Lk → (Nat → Bool) → Nat → Bool
  | .child, h, k => (kids F k).any h
  | .below, h, k => bel F h F.n k
  | .parent, h, k => prt F h k
  | .above, h, k => abv F h F.n k
  | .earlier, h, k => bef F.rows h k
  | .later, h, k => bef (F.rows.map List.reverse) h k
theorem bel_fix {F : Fam} (g : GF F) (h : Nat → Bool) : ∀ (m k : Nat), F.n ≤ m + k → bel F h (m + 1) k = bel F h m k
  | 0, k, hm => by
    rw [bel, bel, kids_out (by omega)]
    rfl
  | m + 1, k, hm => by
    rw [bel, bel]
    refine Bool.eq_iff_iff.mpr ?_
    rw [List.any_eq_true, List.any_eq_true]
    constructor
    · rintro ⟨c, hc, e⟩
      refine ⟨c, hc, ?_⟩
      rwa [bel_fix g h m c (by have := g.up k c hc; omega)] at e
    · rintro ⟨c, hc, e⟩
      refine ⟨c, hc, ?_⟩
      rwa [bel_fix g h m c (by have := g.up k c hc; omega)]
theorem bel_n {F : Fam} (g : GF F) (h : Nat → Bool) (k : Nat) : bel F h F.n k = (kids F k).any fun c => h c || bel F h F.n c := by
  rw [← bel_fix g h F.n k (by omega), bel]
theorem abv_fix {F : Fam} (g : GF F) (h : Nat → Bool) : ∀ (m k : Nat), k ≤ m → abv F h (m + 1) k = abv F h m k
  | 0, k, hm => by
    rw [abv, abv, show k = 0 by omega, g.zero]
  | m + 1, k, hm => by
    rw [abv, abv]
    cases e : par F k with
    | none => rfl
    | some p =>
      have := (g.lt e).1
      show (h p || _) = (h p || _)
      rw [abv_fix g h m p (by omega)]
theorem abv_n {F : Fam} (g : GF F) (h : Nat → Bool) {k : Nat} (hk : k < F.n) : abv F h F.n k = match par F k with
    | some p => h p || abv F h F.n p
    | none => false := by
  conv => lhs; rw [← abv_fix g h F.n k (by omega), abv]
/-! ### as loops find them -/
def gb (l : List Bool) (k : Nat) : Bool := (l[k]?).getD false
theorem gb_set (l : List Bool) (i : Nat) (v : Bool) (k : Nat) : gb (l.set i v) k = if i = k ∧ k < l.length then v else gb l k := by
  unfold gb
  rw [List.getElem?_set]
  by_cases h : i = k
  · subst h
    by_cases hl : i < l.length
    · rw [if_pos rfl, if_pos hl, if_pos ⟨rfl, hl⟩]
      rfl
    · rw [if_pos rfl, if_neg hl, if_neg (fun z => hl z.2), List.getElem?_eq_none (by omega)]
  · rw [if_neg h, if_neg (fun z => h z.1)]
theorem gb_rep (n k : Nat) : gb (List.replicate n false) k = false := by
  unfold gb
  rw [List.getElem?_replicate]
  split <;> rfl
def vec (n : Nat) (f : Nat → Bool) : List Bool := (List.range n).map f
theorem vec_len (n : Nat) (f : Nat → Bool) : (vec n f).length = n := by unfold vec; rw [List.length_map, List.length_range]
theorem vec_get {n : Nat} {f : Nat → Bool} {k : Nat} (h : k < n) : (vec n f)[k]? = some (f k) := by
  unfold vec
  rw [List.getElem?_map, List.getElem?_range h]
  rfl
theorem vec_of {n : Nat} {f : Nat → Bool} {l : List Bool} (hl : l.length = n) (h : ∀ k, k < n → gb l k = f k) : l = vec n f := by
  apply List.ext_getElem?
  intro k
  by_cases hk : k < n
  · rw [vec_get hk, ← h k hk]
    unfold gb
    rw [List.getElem?_eq_getElem (by omega)]
    rfl
  · rw [List.getElem?_eq_none (by omega), List.getElem?_eq_none (by rw [vec_len]; omega)]
/-- below: after j turns -/
structure BelI (F : Fam) (h : Nat → Bool) (j : Nat) (l : List Bool) : Prop where
  len : l.length = F.n
  val : ∀ k, k < F.n → gb l k = (kids F k).any fun c => decide (F.n ≤ c + j) && (h c || bel F h F.n c)
theorem any_off {l : List Nat} {p : Nat → Bool} (h : ∀ c ∈ l, p c = false) : l.any p = false := by
  rw [List.any_eq_false]
  exact fun c hc => by rw [h c hc]; exact Bool.false_ne_true
theorem BelI.start {F : Fam} (g : GF F) (h : Nat → Bool) : BelI F h 0 (List.replicate F.n false) := by
  refine ⟨List.length_replicate, fun k hk => ?_⟩
  rw [gb_rep, any_off]
  intro c hc
  have := (g.up k c hc).2
  rw [decide_eq_false (by omega), Bool.false_and]
theorem BelI.at {F : Fam} {h : Nat → Bool} {j : Nat} {l : List Bool} (g : GF F) (I : BelI F h j l) {k : Nat} (hk : F.n ≤ k + j + 1) (hn : k < F.n) : gb l k = bel F h F.n k := by
  rw [I.val k hn, bel_n g]
  refine Bool.eq_iff_iff.mpr ?_
  rw [List.any_eq_true, List.any_eq_true]
  constructor
  · rintro ⟨c, hc, e⟩
    exact ⟨c, hc, (Bool.and_eq_true_iff.mp e).2⟩
  · rintro ⟨c, hc, e⟩
    have := (g.up k c hc).1
    exact ⟨c, hc, Bool.and_eq_true_iff.mpr ⟨decide_eq_true (by omega), e⟩⟩
theorem BelI.step {F : Fam} {h : Nat → Bool} {j c p : Nat} {l : List Bool} (g : GF F) (I : BelI F h j l) (hc : c + j + 1 = F.n) (hp : par F c = some p) : BelI F h (j + 1) (if (h c || bel F h F.n c) = true then l.set p true else l) := by
  have hpn := g.lt hp
  refine ⟨by split <;> simp [I.len], fun k hk => ?_⟩
  have key : ∀ x ∈ kids F k, decide (F.n ≤ x + (j + 1)) = (decide (F.n ≤ x + j) || decide (x = c)) := fun x hx => by
    by_cases e : x = c
    · subst e
      rw [decide_eq_true (show F.n ≤ x + (j + 1) by omega), decide_eq_true (show x = x from rfl), Bool.or_true]
    · rw [decide_eq_false e, Bool.or_false]
      by_cases e2 : F.n ≤ x + j
      · rw [decide_eq_true e2, decide_eq_true (by omega)]
      · rw [decide_eq_false e2, decide_eq_false (by omega)]
  have split : (kids F k).any (fun x => decide (F.n ≤ x + (j + 1)) && (h x || bel F h F.n x)) = ((kids F k).any (fun x => decide (F.n ≤ x + j) && (h x || bel F h F.n x)) || (decide (p = k) && (h c || bel F h F.n c))) := by
    refine Bool.eq_iff_iff.mpr ?_
    rw [Bool.or_eq_true_iff, List.any_eq_true, List.any_eq_true, Bool.and_eq_true_iff, decide_eq_true_iff]
    constructor
    · rintro ⟨x, hx, e⟩
      rw [key x hx] at e
      obtain ⟨e1, e2⟩ := Bool.and_eq_true_iff.mp e
      rcases Bool.or_eq_true_iff.mp e1 with z | z
      · exact .inl ⟨x, hx, Bool.and_eq_true_iff.mpr ⟨z, e2⟩⟩
      · have z := of_decide_eq_true z
        subst z
        have := (g.pk k x).mp hx
        rw [hp] at this
        cases this
        exact .inr ⟨rfl, e2⟩
    · rintro (⟨x, hx, e⟩ | ⟨rfl, e⟩)
      · obtain ⟨e1, e2⟩ := Bool.and_eq_true_iff.mp e
        exact ⟨x, hx, Bool.and_eq_true_iff.mpr ⟨by rw [key x hx, e1, Bool.true_or], e2⟩⟩
      · have hx := (g.pk p c).mpr hp
        exact ⟨c, hx, Bool.and_eq_true_iff.mpr ⟨decide_eq_true (by omega), e⟩⟩
  rw [split, ← I.val k hk]
  by_cases e : (h c || bel F h F.n c) = true
  · rw [if_pos e, e, Bool.and_true, gb_set, I.len]
    by_cases hk2 : p = k
    · subst hk2
      rw [if_pos ⟨rfl, hk⟩, decide_eq_true rfl, Bool.or_true]
    · rw [if_neg (fun z => hk2 z.1), decide_eq_false hk2, Bool.or_false]
  · rw [if_neg e]
    have e' : (h c || bel F h F.n c) = false := by
      cases q : (h c || bel F h F.n c) with
      | true => exact absurd q e
      | false => rfl
    rw [e', Bool.and_false, Bool.or_false]
theorem BelI.done {F : Fam} {h : Nat → Bool} {l : List Bool} (g : GF F) (I : BelI F h (F.n - 1) l) : l = vec F.n (lk F .below h) :=
  vec_of I.len fun k hk => I.at g (by have := g.pos; omega) hk
/-- above: after j turns -/
structure AbvI (F : Fam) (h : Nat → Bool) (j : Nat) (l : List Bool) : Prop where
  len : l.length = F.n
  val : ∀ k, k < F.n → gb l k = if k < j + 1 then abv F h F.n k else false
theorem AbvI.start {F : Fam} (g : GF F) (h : Nat → Bool) : AbvI F h 0 (List.replicate F.n false) := by
  refine ⟨List.length_replicate, fun k hk => ?_⟩
  rw [gb_rep]
  split
  · rw [abv_n g h hk, show k = 0 by omega, g.zero]
  · rfl
theorem AbvI.step {F : Fam} {h : Nat → Bool} {j p : Nat} {l : List Bool} (g : GF F) (I : AbvI F h j l) (hj : j + 1 < F.n) (hp : par F (j + 1) = some p) : AbvI F h (j + 1) (l.set (j + 1) (h p || gb l p)) := by
  have hpn := g.lt hp
  refine ⟨by simp [I.len], fun k hk => ?_⟩
  rw [gb_set, I.len]
  by_cases e : j + 1 = k
  · subst e
    rw [if_pos ⟨rfl, hk⟩, if_pos (by omega), abv_n g h hk, hp, I.val p (by omega), if_pos (by omega)]
  · rw [if_neg (fun z => e z.1), I.val k hk]
    by_cases h2 : k < j + 1
    · rw [if_pos h2, if_pos (by omega)]
    · rw [if_neg h2, if_neg (by omega)]
theorem AbvI.done {F : Fam} {h : Nat → Bool} {l : List Bool} (g : GF F) (I : AbvI F h (F.n - 1) l) : l = vec F.n (lk F .above h) :=
  vec_of I.len fun k hk => by rw [I.val k hk, if_pos (by have := g.pos; omega)]; rfl
/-! ### rows one after the other -/
/-- rows in which no number stands twice -/
def Apart (rows : List (List Nat)) : Prop := (∀ r ∈ rows, r.Nodup) ∧ rows.Pairwise fun r s => ∀ k, k ∈ r → k ∉ s
theorem bef_app {rows : List (List Nat)} {r : List Nat} {h : Nat → Bool} {k : Nat} (ap : Apart (rows ++ [r])) : bef (rows ++ [r]) h k = if k ∈ r then (r.takeWhile fun c => decide (c ≠ k)).any h else bef rows h k := by
  unfold bef
  rw [List.find?_append]
  by_cases hk : k ∈ r
  · rw [if_pos hk]
    have : rows.find? (fun r => decide (k ∈ r)) = none := by
      rw [List.find?_eq_none]
      intro s hs e
      have := (List.pairwise_append.mp ap.2).2.2 s hs r (List.mem_singleton.mpr rfl) k (of_decide_eq_true e)
      exact this hk
    rw [this]
    show (match [r].find? (fun r => decide (k ∈ r)) with | some r => (r.takeWhile fun c => decide (c ≠ k)).any h | none => false) = _
    rw [List.find?_cons, decide_eq_true hk]
  · rw [if_neg hk]
    have : [r].find? (fun r => decide (k ∈ r)) = none := by
      rw [List.find?_cons, decide_eq_false hk]
      rfl
    rw [this, Option.or_none]
theorem takeW {r : List Nat} (nd : r.Nodup) {m k : Nat} (e : r[m]? = some k) : r.takeWhile (fun c => decide (c ≠ k)) = r.take m := by
  induction r generalizing m with
  | nil => cases e
  | cons a r ih =>
    rw [List.nodup_cons] at nd
    cases m with
    | zero =>
      cases e
      rw [List.takeWhile_cons, decide_eq_false (by simp)]
      rfl
    | succ m =>
      have hm : k ∈ r := List.mem_of_getElem? e
      have ne : a ≠ k := fun z => nd.1 (by rw [z]; exact hm)
      rw [List.takeWhile_cons, decide_eq_true ne, if_pos rfl, ih nd.2 e]
      rfl
/-- in a row: after m turns -/
structure RowI (n : Nat) (r : List Nat) (h : Nat → Bool) (l0 : List Bool) (m : Nat) (l : List Bool) : Prop where
  len : l.length = n
  val : ∀ k, k < n → gb l k = if k ∈ r.take m then (r.takeWhile fun c => decide (c ≠ k)).any h else gb l0 k
theorem RowI.start {n : Nat} {r : List Nat} {h : Nat → Bool} {l0 : List Bool} (hl : l0.length = n) : RowI n r h l0 0 l0 := ⟨hl, fun k _ => by simp⟩
theorem RowI.step {n : Nat} {r : List Nat} {h : Nat → Bool} {l0 l : List Bool} {m c : Nat} (I : RowI n r h l0 m l) (nd : r.Nodup) (e : r[m]? = some c) (hc : c < n) : RowI n r h l0 (m + 1) (l.set c ((r.take m).any h)) := by
  refine ⟨by simp [I.len], fun k hk => ?_⟩
  have ht : r.take (m + 1) = r.take m ++ [c] := by rw [List.take_add_one, e]; rfl
  rw [gb_set, I.len, ht]
  by_cases hkc : c = k
  · subst hkc
    rw [if_pos ⟨rfl, hk⟩, if_pos (by simp), takeW nd e]
  · rw [if_neg (fun z => hkc z.1), I.val k hk]
    have : (k ∈ r.take m ++ [c]) ↔ k ∈ r.take m := by
      rw [List.mem_append, List.mem_singleton]
      exact ⟨fun z => z.elim id fun z => absurd z.symm hkc, .inl⟩
    by_cases h2 : k ∈ r.take m
    · rw [if_pos h2, if_pos (this.mpr h2)]
    · rw [if_neg h2, if_neg (fun z => h2 (this.mp z))]
structure BefI (n : Nat) (rows : List (List Nat)) (h : Nat → Bool) (j : Nat) (l : List Bool) : Prop where
  len : l.length = n
  val : ∀ k, k < n → gb l k = bef (rows.take j) h k
theorem BefI.start {n : Nat} {rows : List (List Nat)} {h : Nat → Bool} : BefI n rows h 0 (List.replicate n false) := ⟨List.length_replicate, fun k _ => gb_rep n k⟩
theorem Apart.take {rows : List (List Nat)} (h : Apart rows) (j : Nat) : Apart (rows.take j) := ⟨fun r hr => h.1 r (List.mem_of_mem_take hr), h.2.sublist (List.take_sublist _ _)⟩
theorem BefI.step {n : Nat} {rows : List (List Nat)} {h : Nat → Bool} {j : Nat} {l0 l : List Bool} {r : List Nat} (I : BefI n rows h j l0) (ap : Apart rows) (e : rows[j]? = some r) (J : RowI n r h l0 r.length l) : BefI n rows h (j + 1) l := by
  refine ⟨J.len, fun k hk => ?_⟩
  have ht : rows.take (j + 1) = rows.take j ++ [r] := by rw [List.take_add_one, e]; rfl
  have ap' := ap.take (j + 1)
  rw [ht] at ap' ⊢
  rw [bef_app ap', J.val k hk, List.take_length, I.val k hk]
theorem BefI.done {n : Nat} {rows : List (List Nat)} {h : Nat → Bool} {l : List Bool} (I : BefI n rows h rows.length l) : l = vec n (bef rows h) :=
  vec_of I.len fun k hk => by rw [I.val k hk, List.take_length]
theorem GF.apart {F : Fam} (g : GF F) : Apart F.rows := by
  refine ⟨fun r hr => ?_, ?_⟩
  · obtain ⟨i, hi, rfl⟩ := List.mem_iff_getElem.mp hr
    have := g.sorted i
    rw [kids_get (List.getElem?_eq_getElem hi)] at this
    exact this.imp fun {a b} h => by omega
  · rw [List.pairwise_iff_getElem]
    intro i j hi hj hij k h1 h2
    have e1 := (g.pk i k).mp (by rw [kids_get (List.getElem?_eq_getElem hi)]; exact h1)
    have e2 := (g.pk j k).mp (by rw [kids_get (List.getElem?_eq_getElem hj)]; exact h2)
    rw [e1] at e2
    cases e2
    omega
theorem Apart.rev {rows : List (List Nat)} (h : Apart rows) : Apart (rows.map List.reverse) := by
  refine ⟨fun r hr => ?_, ?_⟩
  · obtain ⟨s, hs, rfl⟩ := List.mem_map.mp hr
    exact List.pairwise_reverse.mpr ((h.1 s hs).imp fun h z => h z.symm)
  · rw [List.pairwise_map]
    exact h.2.imp fun {r s} h k h1 h2 => h k (List.mem_reverse.mp h1) (List.mem_reverse.mp h2)
theorem sorted_len {n : Nat} : ∀ (l : List Nat) (a : Nat), l.Pairwise (· < ·) → (∀ c ∈ l, a ≤ c ∧ c < n) → l.length ≤ n - a
  | [], a, _, _ => Nat.zero_le _
  | x :: l, a, h, hc => by
    obtain ⟨h1, h2⟩ := List.pairwise_cons.mp h
    have hx := hc x List.mem_cons_self
    have := sorted_len l (x + 1) h2 fun c hm => ⟨h1 c hm, (hc c (List.mem_cons_of_mem _ hm)).2⟩
    rw [List.length_cons]
    omega
theorem GF.row {F : Fam} (g : GF F) {r : List Nat} (hr : r ∈ F.rows) : r.length ≤ F.n ∧ ∀ c ∈ r, c < F.n := by
  obtain ⟨i, hi, rfl⟩ := List.mem_iff_getElem.mp hr
  have s := g.sorted i
  rw [kids_get (List.getElem?_eq_getElem hi)] at s
  have hu : ∀ c ∈ F.rows[i], c < F.n := fun c hc => (g.up i c (by rw [kids_get (List.getElem?_eq_getElem hi)]; exact hc)).2
  exact ⟨sorted_len _ 0 s fun c hc => ⟨Nat.zero_le _, hu c hc⟩, hu⟩
end MF
/-! Trees: by induction, folded, labelled with what hangs below. -/
namespace TR
variable {α β : Type}
mutual
theorem Tr.ind {P : Tr α → Prop} (h : ∀ d ks, (∀ k ∈ ks, P k) → P (.nd d ks)) : ∀ t, P t
  | .nd d ks => h d ks (Tr.inds h ks)
theorem Tr.inds {P : Tr α → Prop} (h : ∀ d ks, (∀ k ∈ ks, P k) → P (.nd d ks)) : ∀ ks : List (Tr α), (∀ k ∈ ks, P k)
  | [] => fun k hk => nomatch hk
  | x :: ks => by
    have h1 := Tr.ind h x
    have h2 := Tr.inds h ks
    intro k hk
    rcases List.mem_cons.mp hk with e | hk
    · rw [e]
      exact h1
    · exact h2 k hk
end
mutual
def fold (f : α → List β → β) : Tr α → β
  | .nd d ks => f d (folds f ks)
def folds (f : α → List β → β) : List (Tr α) → List β
  | [] => []
  | k :: ks => fold f k :: folds f ks
end
theorem folds_map (f : α → List β → β) (ks : List (Tr α)) : folds f ks = ks.map (fold f) := by
  induction ks with
  | nil => rw [folds]; rfl
  | cons k ks ih => rw [folds, ih]; rfl
theorem fold_nd (f : α → List β → β) (d : α) (ks : List (Tr α)) : fold f (.nd d ks) = f d (ks.map (fold f)) := by rw [fold, folds_map]
theorem fold_of (f : α → List β → β) (t : Tr α) : fold f t = f t.d (t.ks.map (fold f)) := by
  cases t with
  | nd d ks => rw [fold_nd]; rfl
mutual
/-- each node labelled with its tree -/
def subs : Tr α → Tr (Tr α)
  | .nd d ks => .nd (.nd d ks) (subss ks)
def subss : List (Tr α) → List (Tr (Tr α))
  | [] => []
  | k :: ks => subs k :: subss ks
end
theorem subss_map (ks : List (Tr α)) : subss ks = ks.map subs := by
  induction ks with
  | nil => rw [subss]; rfl
  | cons k ks ih => rw [subss, ih]; rfl
theorem subs_d (t : Tr α) : (subs t).d = t := by cases t; rw [subs]; rfl
theorem subs_ks (t : Tr α) : (subs t).ks = t.ks.map subs := by cases t; rw [subs, ks_nd, subss_map]; rfl
mutual
theorem subs_sz : ∀ t : Tr α, sz (subs t) = sz t
  | .nd d ks => by rw [subs, sz, sz, subss_sz ks]
theorem subss_sz : ∀ ks : List (Tr α), szs (subss ks) = szs ks
  | [] => by rw [subss, szs, szs]
  | k :: ks => by rw [subss, szs, szs, subs_sz k, subss_sz ks]
end
mutual
theorem subs_map : ∀ t : Tr α, mapT Tr.d (subs t) = t
  | .nd d ks => by rw [subs, mapT, subss_mapT ks]; rfl
theorem subss_mapT : ∀ ks : List (Tr α), mapTs Tr.d (subss ks) = ks
  | [] => by rw [subss, mapTs]
  | k :: ks => by rw [subss, mapTs, subs_map k, subss_mapT ks]
end
mutual
theorem subs_pre : ∀ (t : Tr α) (s : Tr (Tr α)), s ∈ pre (subs t) → s = subs s.d ∧ s.d ∈ pre t
  | .nd d ks, s, h => by
    rw [subs, pre] at h
    rcases List.mem_cons.mp h with rfl | h
    · refine ⟨by rw [d_nd, subs], ?_⟩
      rw [d_nd, pre]
      exact List.mem_cons_self
    · obtain ⟨h1, h2⟩ := subss_pre ks s h
      exact ⟨h1, by rw [pre]; exact List.mem_cons_of_mem _ h2⟩
theorem subss_pre : ∀ (ks : List (Tr α)) (s : Tr (Tr α)), s ∈ pres (subss ks) → s = subs s.d ∧ s.d ∈ pres ks
  | [], s, h => by rw [subss, pres] at h; cases h
  | k :: ks, s, h => by
    rw [subss, pres] at h
    rw [pres]
    rcases List.mem_append.mp h with h | h
    · obtain ⟨h1, h2⟩ := subs_pre k s h
      exact ⟨h1, List.mem_append_left _ h2⟩
    · obtain ⟨h1, h2⟩ := subss_pre ks s h
      exact ⟨h1, List.mem_append_right _ h2⟩
end
theorem pre_nd (d : α) (ks : List (Tr α)) : pre (.nd d ks) = .nd d ks :: ks.flatMap pre := by
  rw [pre]
  congr 1
  induction ks with
  | nil => rw [pres]; rfl
  | cons k ks ih => rw [pres, ih]; rfl
/-- what holds of a tree and goes down to its children holds of all in it -/
theorem pre_all {P : Tr α → Prop} (hk : ∀ t, P t → ∀ k ∈ t.ks, P k) : ∀ t, P t → ∀ s ∈ pre t, P s := by
  intro t
  refine Tr.ind (P := fun t => P t → ∀ s ∈ pre t, P s) (fun d ks ih hP s hs => ?_) t
  rw [pre_nd] at hs
  rcases List.mem_cons.mp hs with rfl | hs
  · exact hP
  · obtain ⟨k, hk', hs⟩ := List.mem_flatMap.mp hs
    exact ih k hk' (hk _ hP k hk') s hs
theorem sz_nd (d : α) (ks : List (Tr α)) : sz (.nd d ks) = 1 + (ks.map sz).sum := by
  rw [sz]
  congr 1
  induction ks with
  | nil => rw [szs]; rfl
  | cons k ks ih => rw [szs, ih]; rfl
end TR
/-! The family of a tree. -/
namespace MF
open TR
variable {α : Type}
mutual
def par1 : Tr α → Nat → Option Nat → List (Option Nat)
  | .nd _ ks, n, o => o :: par1s ks (n + 1) (some n)
def par1s : List (Tr α) → Nat → Option Nat → List (Option Nat)
  | [], _, _ => []
  | k :: ks, n, o => par1 k n o ++ par1s ks (n + sz k) o
end
def rws (l : List (α × List Nat)) : List (List Nat) := l.map (·.2)
def rowAt (l : List (List Nat)) (i : Nat) : List Nat := (l[i]?).getD []
def parAt (l : List (Option Nat)) (i : Nat) : Option Nat := (l[i]?).getD none
theorem rowAt_app {a b : List (List Nat)} {i : Nat} : rowAt (a ++ b) i = if i < a.length then rowAt a i else rowAt b (i - a.length) := by
  unfold rowAt
  split
  · rw [List.getElem?_append_left (by assumption)]
  · rw [List.getElem?_append_right (by omega)]
theorem parAt_app {a b : List (Option Nat)} {i : Nat} : parAt (a ++ b) i = if i < a.length then parAt a i else parAt b (i - a.length) := by
  unfold parAt
  split
  · rw [List.getElem?_append_left (by assumption)]
  · rw [List.getElem?_append_right (by omega)]
theorem rowAt_cons {r : List Nat} {b : List (List Nat)} {i : Nat} : rowAt (r :: b) (i + 1) = rowAt b i := rfl
theorem parAt_cons {r : Option Nat} {b : List (Option Nat)} {i : Nat} : parAt (r :: b) (i + 1) = parAt b i := rfl
theorem rowAt_lt {a : List (List Nat)} {i c : Nat} (h : c ∈ rowAt a i) : i < a.length := by
  unfold rowAt at h
  cases e : a[i]? with
  | none => rw [e] at h; cases h
  | some r => exact (List.getElem?_eq_some_iff.mp e).1
structure OkT (m n : Nat) (o : Option Nat) (R : List (List Nat)) (P : List (Option Nat)) : Prop where
  rl : R.length = m
  pl : P.length = m
  a : ∀ i c, c ∈ rowAt R i → n + i < c ∧ c < n + m
  b : ∀ i, 0 < i → i < m → ∃ k, k < i ∧ parAt P i = some (n + k) ∧ (n + i) ∈ rowAt R k
  c : ∀ k i, (n + i) ∈ rowAt R k → parAt P i = some (n + k)
  d : ∀ i, (rowAt R i).Pairwise (· < ·)
  e : parAt P 0 = o
structure OkF (m n : Nat) (o : Option Nat) (S : List Nat) (R : List (List Nat)) (P : List (Option Nat)) : Prop where
  rl : R.length = m
  pl : P.length = m
  a : ∀ i c, c ∈ rowAt R i → n + i < c ∧ c < n + m
  b : ∀ i, i < m → (parAt P i = o ∧ (n + i) ∈ S) ∨ ∃ k, k < i ∧ parAt P i = some (n + k) ∧ (n + i) ∈ rowAt R k
  c : ∀ k i, (n + i) ∈ rowAt R k → parAt P i = some (n + k)
  s : ∀ c, c ∈ S → n ≤ c ∧ c < n + m
  t : ∀ i, (n + i) ∈ S → parAt P i = o
  d : ∀ i, (rowAt R i).Pairwise (· < ·)
  e : S.Pairwise (· < ·)
mutual
theorem okT : ∀ (t : Tr α) (n : Nat) (o : Option Nat), OkT (sz t) n o (rws (num t n)) (par1 t n o)
  | .nd d ks, n, o => by
    have h := okF ks (n + 1) (some n)
    have eR : rws (num (.nd d ks) n) = starts ks (n + 1) :: rws (nums ks (n + 1)) := by rw [num]; rfl
    have eP : par1 (.nd d ks) n o = o :: par1s ks (n + 1) (some n) := by rw [par1]
    have eS : sz (.nd d ks) = szs ks + 1 := by rw [sz]; omega
    rw [eR, eP, eS]
    refine ⟨by rw [List.length_cons, h.rl], by rw [List.length_cons, h.pl], fun i c hc => ?_, fun i h0 hi => ?_, fun k i hk => ?_, fun i => ?_, rfl⟩
    · cases i with
      | zero => have := h.s c hc; omega
      | succ i =>
        rw [rowAt_cons] at hc
        have := h.a i c hc
        omega
    · obtain ⟨i, rfl⟩ : ∃ j, i = j + 1 := ⟨i - 1, by omega⟩
      rcases h.b i (by omega) with ⟨h1, h2⟩ | ⟨k, h1, h2, h3⟩
      · exact ⟨0, by omega, h1, by rw [show n + (i + 1) = n + 1 + i by omega]; exact h2⟩
      · exact ⟨k + 1, by omega, by rw [parAt_cons, h2]; congr 1; omega, by rw [rowAt_cons, show n + (i + 1) = n + 1 + i by omega]; exact h3⟩
    · cases k with
      | zero =>
        have h2 := h.s _ hk
        obtain ⟨i, rfl⟩ : ∃ j, i = j + 1 := ⟨i - 1, by omega⟩
        rw [parAt_cons]
        exact h.t i (by rw [show n + 1 + i = n + (i + 1) by omega]; exact hk)
      | succ k =>
        rw [rowAt_cons] at hk
        have h2 := h.a k _ hk
        obtain ⟨i, rfl⟩ : ∃ j, i = j + 1 := ⟨i - 1, by omega⟩
        rw [parAt_cons, h.c k i (by rw [show n + 1 + i = n + (i + 1) by omega]; exact hk)]
        congr 1
        omega
    · cases i with
      | zero => exact h.e
      | succ i => rw [rowAt_cons]; exact h.d i
theorem okF : ∀ (ks : List (Tr α)) (n : Nat) (o : Option Nat), OkF (szs ks) n o (starts ks n) (rws (nums ks n)) (par1s ks n o)
  | [], n, o => by
    rw [starts, nums, par1s, szs]
    have r0 : ∀ i, rowAt (rws ([] : List (α × List Nat))) i = [] := fun i => rfl
    refine ⟨rfl, rfl, fun i c h => ?_, fun i h => absurd h (Nat.not_lt_zero _), fun k i h => ?_, fun c h => ?_, fun i h => ?_, fun i => ?_, ?_⟩
    · rw [r0] at h; cases h
    · rw [r0] at h; cases h
    · cases h
    · cases h
    · rw [r0]; exact List.Pairwise.nil
    · exact List.Pairwise.nil
  | k :: ks, n, o => by
    have h := okT k n o
    have g := okF ks (n + sz k) o
    have hp := sz_pos k
    have eR : rws (nums (k :: ks) n) = rws (num k n) ++ rws (nums ks (n + sz k)) := by rw [nums]; exact List.map_append
    have eP : par1s (k :: ks) n o = par1 k n o ++ par1s ks (n + sz k) o := by rw [par1s]
    have eS : starts (k :: ks) n = n :: starts ks (n + sz k) := by rw [starts]
    have eZ : szs (k :: ks) = sz k + szs ks := by rw [szs]
    rw [eR, eP, eS, eZ]
    have rA : ∀ i, rowAt (rws (num k n) ++ rws (nums ks (n + sz k))) i = if i < sz k then rowAt (rws (num k n)) i else rowAt (rws (nums ks (n + sz k))) (i - sz k) := fun i => by rw [rowAt_app, h.rl]
    have pA : ∀ i, parAt (par1 k n o ++ par1s ks (n + sz k) o) i = if i < sz k then parAt (par1 k n o) i else parAt (par1s ks (n + sz k) o) (i - sz k) := fun i => by rw [parAt_app, h.pl]
    refine ⟨by rw [List.length_append, h.rl, g.rl], by rw [List.length_append, h.pl, g.pl], fun i c hc => ?_, fun i hi => ?_, fun j i hk => ?_, fun c hc => ?_, fun i hi => ?_, fun i => ?_, ?_⟩
    · rw [rA] at hc
      split at hc
      · have := h.a i c hc; omega
      · have := g.a _ c hc; omega
    · rw [pA]
      by_cases hl : i < sz k
      · rw [if_pos hl]
        by_cases h0 : i = 0
        · subst h0
          exact .inl ⟨h.e, List.mem_cons_self⟩
        · obtain ⟨j, h1, h2, h3⟩ := h.b i (by omega) hl
          exact .inr ⟨j, h1, h2, by rw [rA, if_pos (by omega)]; exact h3⟩
      · rw [if_neg hl]
        rcases g.b (i - sz k) (by omega) with ⟨h1, h2⟩ | ⟨j, h1, h2, h3⟩
        · exact .inl ⟨h1, List.mem_cons_of_mem _ (by rw [show n + i = n + sz k + (i - sz k) by omega]; exact h2)⟩
        · exact .inr ⟨j + sz k, by omega, by rw [h2]; congr 1; omega, by rw [rA, if_neg (by omega), Nat.add_sub_cancel, show n + i = n + sz k + (i - sz k) by omega]; exact h3⟩
    · rw [rA] at hk
      rw [pA]
      split at hk
      · have h2 := h.a j _ hk
        rw [if_pos (by omega)]
        exact h.c j i hk
      · have h2 := g.a _ _ hk
        rw [if_neg (by omega), g.c (j - sz k) (i - sz k) (by rw [show n + sz k + (i - sz k) = n + i by omega]; exact hk)]
        congr 1
        omega
    · rcases List.mem_cons.mp hc with rfl | hc
      · omega
      · have := g.s c hc; omega
    · rw [pA]
      rcases List.mem_cons.mp hi with hi | hi
      · rw [if_pos (by omega), show i = 0 by omega]
        exact h.e
      · have := g.s _ hi
        rw [if_neg (by omega)]
        exact g.t _ (by rw [show n + sz k + (i - sz k) = n + i by omega]; exact hi)
    · rw [rA]
      split
      · exact h.d i
      · exact g.d _
    · refine List.pairwise_cons.mpr ⟨fun c hc => ?_, g.e⟩
      have := g.s c hc
      omega
end
def famF (t : Tr α) : Fam := ⟨rws (num t 0), par1 t 0 none⟩
theorem famF_n (t : Tr α) : (famF t).n = sz t := (okT t 0 none).rl
theorem gf (t : Tr α) : GF (famF t) := by
  have h := okT t 0 none
  have hn := famF_n t
  refine ⟨h.pl.trans hn.symm, fun k c hc => ?_, fun k c => ⟨fun hc => ?_, fun hc => ?_⟩, fun k => h.d k, fun k h0 hk => ?_, by rw [hn]; exact sz_pos t⟩
  · have := h.a k c hc
    rw [hn]
    omega
  · have := h.c k c (by rw [Nat.zero_add]; exact hc)
    rw [Nat.zero_add] at this
    exact this
  · have hc' : parAt (par1 t 0 none) c = some k := hc
    have hlt : c < sz t := by
      unfold parAt at hc'
      cases e : (par1 t 0 none)[c]? with
      | none => rw [e] at hc'; cases hc'
      | some x => have := (List.getElem?_eq_some_iff.mp e).1; rwa [h.pl] at this
    have h0 : 0 < c := by
      rcases Nat.eq_zero_or_pos c with z | z
      · rw [z, h.e] at hc'; cases hc'
      · exact z
    obtain ⟨j, h1, h2, h3⟩ := h.b c h0 hlt
    rw [h2] at hc'
    cases hc'
    rw [Nat.zero_add] at h3 ⊢
    exact h3
  · obtain ⟨j, h1, h2, h3⟩ := h.b k h0 (by rw [← hn]; exact hk)
    exact ⟨_, h2⟩
end MF
/-! Rows as the law numbers them, over cells. -/
namespace MF
open TR
variable {α : Type}
abbrev RwP (α : Type) := α × Option Nat × List Nat
mutual
def numP : Tr α → Nat → Option Nat → List (RwP α)
  | .nd d ks, n, o => (d, o, starts ks (n + 1)) :: numPs ks (n + 1) (some n)
def numPs : List (Tr α) → Nat → Option Nat → List (RwP α)
  | [], _, _ => []
  | k :: ks, n, o => numP k n o ++ numPs ks (n + sz k) o
end
mutual
theorem numP_num : ∀ (t : Tr α) (n : Nat) (o : Option Nat), (numP t n o).map (fun r => (r.1, r.2.2)) = num t n
  | .nd d ks, n, o => by rw [numP, num, List.map_cons, numPs_num ks]
theorem numPs_num : ∀ (ks : List (Tr α)) (n : Nat) (o : Option Nat), (numPs ks n o).map (fun r => (r.1, r.2.2)) = nums ks n
  | [], n, o => by rw [numPs, nums]; rfl
  | k :: ks, n, o => by rw [numPs, nums, List.map_append, numP_num k, numPs_num ks]
end
mutual
theorem numP_par : ∀ (t : Tr α) (n : Nat) (o : Option Nat), (numP t n o).map (fun r => r.2.1) = par1 t n o
  | .nd d ks, n, o => by rw [numP, par1, List.map_cons, numPs_par ks]
theorem numPs_par : ∀ (ks : List (Tr α)) (n : Nat) (o : Option Nat), (numPs ks n o).map (fun r => r.2.1) = par1s ks n o
  | [], n, o => by rw [numPs, par1s]; rfl
  | k :: ks, n, o => by rw [numPs, par1s, List.map_append, numP_par k, numPs_par ks]
end
theorem numP_len (t : Tr α) (n : Nat) (o : Option Nat) : (numP t n o).length = sz t := by
  rw [← num_len t n, ← numP_num t n o, List.length_map]
theorem numPs_len (t : List (Tr α)) (n : Nat) (o : Option Nat) : (numPs t n o).length = szs t := by
  rw [← nums_len t n, ← numPs_num t n o, List.length_map]
theorem szs_app (a b : List (Tr α)) : szs (a ++ b) = szs a + szs b := by
  induction a with
  | nil => rw [List.nil_append, szs]; omega
  | cons k a ih => rw [List.cons_append, szs, szs, ih]; omega
theorem starts_app : ∀ (a b : List (Tr α)) (n : Nat), starts (a ++ b) n = starts a n ++ starts b (n + szs a)
  | [], b, n => by rw [List.nil_append, starts, szs]; rfl
  | k :: a, b, n => by rw [List.cons_append, starts, starts, starts_app a b, szs, List.cons_append, Nat.add_assoc]
theorem numPs_app : ∀ (a b : List (Tr α)) (n : Nat) (o : Option Nat), numPs (a ++ b) n o = numPs a n o ++ numPs b (n + szs a) o
  | [], b, n, o => by rw [List.nil_append, numPs, szs]; rfl
  | k :: a, b, n, o => by rw [List.cons_append, numPs, numPs, numPs_app a b, szs, List.append_assoc, Nat.add_assoc]
def addP (o : Option Nat) (k : Nat) (rs : List (RwP α)) : List (RwP α) := match o with
  | none => rs
  | some i => rs.modify i fun r => (r.1, r.2.1, r.2.2 ++ [k])
theorem addP_len (o : Option Nat) (k : Nat) (rs : List (RwP α)) : (addP o k rs).length = rs.length := by
  cases o with
  | none => rfl
  | some i => exact List.length_modify _ _ _
theorem addP_in (A B : List (RwP α)) (d : α) (o : Option Nat) (S : List Nat) (m : Nat) : addP (some A.length) m (A ++ (d, o, S) :: B) = A ++ (d, o, S ++ [m]) :: B := by
  unfold addP
  induction A with
  | nil => rfl
  | cons a A ih => show a :: _ = _; rw [List.cons_append]; congr 1
/-- o is a number of a row -/
def InO (o : Option Nat) (n : Nat) : Prop := ∀ i, o = some i → i < n
theorem addP_app {o : Option Nat} {rs : List (RwP α)} (h : InO o rs.length) (k : Nat) (r : RwP α) : addP o k (rs ++ [r]) = addP o k rs ++ [r] := by
  cases o with
  | none => rfl
  | some i =>
    have hi := h i rfl
    unfold addP
    apply List.ext_getElem?
    intro j
    rw [List.getElem?_modify]
    by_cases hj : j < rs.length
    · rw [List.getElem?_append_left hj, List.getElem?_append_left (by rw [List.length_modify]; exact hj), List.getElem?_modify]
    · rw [List.getElem?_append_right (by omega), List.getElem?_append_right (by rw [List.length_modify]; omega), List.length_modify]
      have ne : i ≠ j := by omega
      simp [ne]
/-! ### in cells -/
open HC DL PySem
def oI : Option Nat → Int
  | none => -1
  | some k => (k : Nat)
def nats (l : List Nat) : List D := l.map fun k => .int (k : Nat)
structure RA (M : Cells) (p : Addr) (as cs : List Addr) (rs : List (RwP Str)) : Prop where
  la : as.length = rs.length
  lc : cs.length = rs.length
  top : look M p = some (.l (as.map .fn))
  row : ∀ (i : Nat) a c r, as[i]? = some a → cs[i]? = some c → rs[i]? = some r → look M a = some (.l [.str r.1, .int (oI r.2.1), .fn c]) ∧ look M c = some (.l (nats r.2.2))
  na : as.Nodup
  nc : cs.Nodup
  dis : ∀ a, a ∈ as → a ∉ cs
  pa : p ∉ as
  pc : p ∉ cs
def RowsAt (M : Cells) (p : Addr) (rs : List (RwP Str)) : Prop := ∃ as cs, RA M p as cs rs
theorem nodup_get {β : Type} {l : List β} (nd : l.Nodup) {i j : Nat} {x : β} (h1 : l[i]? = some x) (h2 : l[j]? = some x) : i = j := by
  obtain ⟨a1, b1⟩ := List.getElem?_eq_some_iff.mp h1
  obtain ⟨a2, b2⟩ := List.getElem?_eq_some_iff.mp h2
  have pw := List.pairwise_iff_getElem.mp nd
  rcases Nat.lt_trichotomy i j with h | h | h
  · exact absurd (b1.trans b2.symm) (pw i j a1 a2 h)
  · exact h
  · exact absurd (b2.trans b1.symm) (pw j i a2 a1 h)
theorem RA.has {M : Cells} {p : Addr} {as cs : List Addr} {rs : List (RwP Str)} (h : RA M p as cs rs) {q : Addr} (hq : q = p ∨ q ∈ as ∨ q ∈ cs) : look M q ≠ none := by
  rcases hq with rfl | hq | hq
  · rw [h.top]; exact fun z => nomatch z
  · obtain ⟨i, hi, rfl⟩ := List.mem_iff_getElem.mp hq
    have h1 := List.getElem?_eq_getElem (show i < cs.length by rw [h.lc, ← h.la]; exact hi)
    have h2 := List.getElem?_eq_getElem (show i < rs.length by rw [← h.la]; exact hi)
    rw [(h.row i _ _ _ (List.getElem?_eq_getElem hi) h1 h2).1]
    exact fun z => nomatch z
  · obtain ⟨i, hi, rfl⟩ := List.mem_iff_getElem.mp hq
    have h1 := List.getElem?_eq_getElem (show i < as.length by rw [h.la, ← h.lc]; exact hi)
    have h2 := List.getElem?_eq_getElem (show i < rs.length by rw [← h.lc]; exact hi)
    rw [(h.row i _ _ _ h1 (List.getElem?_eq_getElem hi) h2).2]
    exact fun z => nomatch z
theorem RA.push {M : Cells} {p : Addr} {as cs : List Addr} {rs : List (RwP Str)} (h : RA M p as cs rs) {c a : Addr} {d : Str} {o : Option Nat} (hc : look M c = none) (ha : look ((c, .l []) :: M) a = none) :
    RA (put ((a, .l [.str d, .int (oI o), .fn c]) :: (c, .l []) :: M) p (.l (as.map .fn ++ [.fn a]))) p (as ++ [a]) (cs ++ [c]) (rs ++ [(d, o, [])]) := by
  have hca : c ≠ a := fun z => by rw [look_cons, if_pos z] at ha; cases ha
  rw [look_cons, if_neg hca] at ha
  have cp : ∀ q, (q = p ∨ q ∈ as ∨ q ∈ cs) → q ≠ c ∧ q ≠ a := fun q hq => ⟨fun z => h.has hq (by rw [z]; exact hc), fun z => h.has hq (by rw [z]; exact ha)⟩
  have hpc := cp p (.inl rfl)
  have lk : ∀ q, look (put ((a, .l [.str d, .int (oI o), .fn c]) :: (c, .l []) :: M) p (.l (as.map .fn ++ [.fn a]))) q = if q = p then some (.l (as.map .fn ++ [.fn a])) else if a = q then some (.l [.str d, .int (oI o), .fn c]) else if c = q then some (.l []) else look M q := fun q => by
    rw [look_put (by rw [look_cons, if_neg (Ne.symm hpc.2), look_cons, if_neg (Ne.symm hpc.1), h.top]; exact fun z => nomatch z)]
    rw [look_cons, look_cons]
  refine ⟨by simp [h.la], by simp [h.lc], by rw [lk, if_pos rfl]; simp, fun i x y r e1 e2 e3 => ?_, ?_, ?_, fun x hx hx2 => ?_, fun hx => ?_, fun hx => ?_⟩
  · by_cases hi : i < rs.length
    · rw [List.getElem?_append_left (by rw [h.la]; exact hi)] at e1
      rw [List.getElem?_append_left (by rw [h.lc]; exact hi)] at e2
      rw [List.getElem?_append_left hi] at e3
      obtain ⟨g1, g2⟩ := h.row i x y r e1 e2 e3
      have mx := List.mem_of_getElem? e1
      have my := List.mem_of_getElem? e2
      have hx := cp x (.inr (.inl mx))
      have hy := cp y (.inr (.inr my))
      refine ⟨?_, ?_⟩
      · rw [lk, if_neg (show ¬ x = p from fun z => h.pa (by rw [← z]; exact mx)), if_neg (show ¬ a = x from Ne.symm hx.2), if_neg (show ¬ c = x from Ne.symm hx.1)]
        exact g1
      · rw [lk, if_neg (show ¬ y = p from fun z => h.pc (by rw [← z]; exact my)), if_neg (show ¬ a = y from Ne.symm hy.2), if_neg (show ¬ c = y from Ne.symm hy.1)]
        exact g2
    · have hi2 : i < (rs ++ [(d, o, ([] : List Nat))]).length := (List.getElem?_eq_some_iff.mp e3).1
      rw [List.length_append, List.length_singleton] at hi2
      have ei : i = rs.length := by omega
      subst ei
      rw [List.getElem?_append_right (by rw [h.la]; exact Nat.le_refl _), h.la, Nat.sub_self] at e1
      rw [List.getElem?_append_right (by rw [h.lc]; exact Nat.le_refl _), h.lc, Nat.sub_self] at e2
      rw [List.getElem?_append_right (Nat.le_refl _), Nat.sub_self] at e3
      cases e1
      cases e2
      cases e3
      refine ⟨?_, ?_⟩
      · rw [lk, if_neg (show ¬ a = p from Ne.symm hpc.2), if_pos rfl]
      · rw [lk, if_neg (show ¬ c = p from Ne.symm hpc.1), if_neg (show ¬ a = c from Ne.symm hca), if_pos rfl]
        rfl
  · refine List.nodup_append.mpr ⟨h.na, List.nodup_cons.mpr ⟨List.not_mem_nil, List.nodup_nil⟩, fun x hx y hy => ?_⟩
    rw [List.mem_singleton.mp hy]
    exact (cp x (.inr (.inl hx))).2
  · refine List.nodup_append.mpr ⟨h.nc, List.nodup_cons.mpr ⟨List.not_mem_nil, List.nodup_nil⟩, fun x hx y hy => ?_⟩
    rw [List.mem_singleton.mp hy]
    exact (cp x (.inr (.inr hx))).1
  · rcases List.mem_append.mp hx with hx | hx
    · rcases List.mem_append.mp hx2 with hy | hy
      · exact h.dis x hx hy
      · exact (cp x (.inr (.inl hx))).1 (List.mem_singleton.mp hy)
    · rw [List.mem_singleton.mp hx] at hx2
      rcases List.mem_append.mp hx2 with hy | hy
      · exact (cp a (.inr (.inr hy))).2 rfl
      · exact hca (List.mem_singleton.mp hy).symm
  · rcases List.mem_append.mp hx with hx | hx
    · exact h.pa hx
    · exact hpc.2 (List.mem_singleton.mp hx)
  · rcases List.mem_append.mp hx with hx | hx
    · exact h.pc hx
    · exact hpc.1 (List.mem_singleton.mp hx)
theorem RA.add {M : Cells} {p : Addr} {as cs : List Addr} {rs : List (RwP Str)} (h : RA M p as cs rs) {i : Nat} {c : Addr} {r : RwP Str} {k : Nat} (hc : cs[i]? = .some c) (hr : rs[i]? = .some r) :
    RA (put M c (.l (nats (r.2.2 ++ [k])))) p as cs (addP (.some i) k rs) := by
  have mc := List.mem_of_getElem? hc
  have lk : ∀ q, look (put M c (.l (nats (r.2.2 ++ [k])))) q = if q = c then .some (.l (nats (r.2.2 ++ [k]))) else look M q := fun q => look_put (h.has (.inr (.inr mc)))
  refine ⟨by rw [addP_len, h.la], by rw [addP_len, h.lc], by rw [lk, if_neg (fun z => h.pc (by rw [z]; exact mc))]; exact h.top, fun j x y s e1 e2 e3 => ?_, h.na, h.nc, h.dis, h.pa, h.pc⟩
  unfold addP at e3
  rw [List.getElem?_modify] at e3
  have mx := List.mem_of_getElem? e1
  rw [lk, if_neg (fun z => h.dis x mx (by rw [z]; exact mc)), lk]
  by_cases hj : i = j
  · subst hj
    rw [hc] at e2
    cases e2
    rw [hr] at e3
    simp at e3
    subst e3
    obtain ⟨g1, g2⟩ := h.row i x c r e1 hc hr
    rw [if_pos rfl]
    exact ⟨g1, rfl⟩
  · simp [hj] at e3
    have ny : y ≠ c := fun z => by
      subst z
      exact hj (nodup_get h.nc hc e2)
    rw [if_neg ny]
    exact h.row j x y s e1 e2 e3
mutual
theorem numP_kids : ∀ (t : Tr α) (n : Nat) (o : Option Nat), ∀ r ∈ numP t n o, r.2.2.length ≤ sz t
  | .nd d ks, n, o => fun r h => by
    have ih := numPs_kids ks (n + 1) (some n)
    rw [numP] at h
    rw [sz]
    rcases List.mem_cons.mp h with rfl | h
    · show (starts ks (n + 1)).length ≤ _
      rw [starts_len]
      have := ks_szs ks
      omega
    · have := ih r h
      omega
theorem numPs_kids : ∀ (ks : List (Tr α)) (n : Nat) (o : Option Nat), ∀ r ∈ numPs ks n o, r.2.2.length ≤ szs ks
  | [], n, o => fun r h => by rw [numPs] at h; cases h
  | k :: ks, n, o => fun r h => by
    have h1 := numP_kids k n o
    have h2 := numPs_kids ks (n + sz k) o
    rw [numPs] at h
    rw [szs]
    rcases List.mem_append.mp h with h | h
    · have := h1 r h
      omega
    · have := h2 r h
      omega
end
theorem addP_kids {o : Option Nat} {k : Nat} {rs : List (RwP α)} {b : Nat} (h : ∀ r ∈ rs, r.2.2.length ≤ b) : ∀ r ∈ addP o k rs, r.2.2.length ≤ b + 1 := by
  intro r hr
  cases o with
  | none => exact Nat.le_succ_of_le (h r hr)
  | some i =>
    obtain ⟨j, e⟩ := List.mem_iff_getElem?.mp hr
    unfold addP at e
    rw [List.getElem?_modify] at e
    cases q : rs[j]? with
    | none => rw [q] at e; split at e <;> cases e
    | some s =>
      have hs := h s (List.mem_of_getElem? q)
      rw [q] at e
      split at e
      · cases e
        simp
        exact hs
      · cases e
        exact Nat.le_succ_of_le hs
end MF
/-! What the law sees from a number. -/
namespace MF
open TR
def belL (F : Fam) : Nat → Nat → List Nat
  | 0, _ => []
  | m + 1, k => (kids F k).flatMap fun c => c :: belL F m c
def abvL (F : Fam) : Nat → Nat → List Nat
  | 0, _ => []
  | m + 1, k => match par F k with
    | some p => p :: abvL F m p
    | none => []
def sib (F : Fam) (k : Nat) : List Nat := match par F k with
  | some p => kids F p
  | none => []
def seenL (F : Fam) : Lk → Nat → List Nat
  | .child, k => kids F k
  | .below, k => belL F F.n k
  | .parent, k => (par F k).toList
  | .above, k => abvL F F.n k
  | .earlier, k => (sib F k).filter fun o => decide (o ≠ k) && decide (o < k)
  | .later, k => (sib F k).filter fun o => decide (o ≠ k) && !decide (o < k)
theorem bel_any (F : Fam) (h : Nat → Bool) : ∀ (m k : Nat), (belL F m k).any h = bel F h m k
  | 0, k => rfl
  | m + 1, k => by
    rw [belL, bel, List.any_flatMap]
    congr 1
    funext c
    rw [List.any_cons, bel_any F h m c]
theorem abv_any (F : Fam) (h : Nat → Bool) : ∀ (m k : Nat), (abvL F m k).any h = abv F h m k
  | 0, k => rfl
  | m + 1, k => by
    rw [abvL, abv]
    cases par F k with
    | none => rfl
    | some p =>
      show (p :: abvL F m p).any h = _
      rw [List.any_cons, abv_any F h m p]
theorem abvL_fix {F : Fam} (g : GF F) : ∀ (m k : Nat), k ≤ m → abvL F (m + 1) k = abvL F m k
  | 0, k, hm => by
    rw [abvL, abvL, show k = 0 by omega, g.zero]
  | m + 1, k, hm => by
    rw [abvL, abvL]
    cases e : par F k with
    | none => rfl
    | some p =>
      have := (g.lt e).1
      show p :: _ = p :: _
      rw [abvL_fix g m p (by omega)]
theorem abvL_le {F : Fam} (g : GF F) {m k : Nat} (h : k ≤ m) : ∀ j, abvL F (m + j) k = abvL F m k
  | 0 => rfl
  | j + 1 => by rw [← Nat.add_assoc, abvL_fix g (m + j) k (by omega), abvL_le g h j]
theorem abvL_len {F : Fam} (g : GF F) : ∀ (m k : Nat), (abvL F m k).length ≤ k
  | 0, k => Nat.zero_le _
  | m + 1, k => by
    rw [abvL]
    cases e : par F k with
    | none => exact Nat.zero_le _
    | some p =>
      have h1 := (g.lt e).1
      have h2 := abvL_len g m p
      show (abvL F m p).length + 1 ≤ k
      omega
theorem abvL_lt {F : Fam} (g : GF F) : ∀ (m k : Nat), ∀ x ∈ abvL F m k, x < k
  | 0, k => fun x h => nomatch h
  | m + 1, k => by
    rw [abvL]
    cases e : par F k with
    | none => exact fun x h => nomatch h
    | some p =>
      have h1 := (g.lt e).1
      intro x hx
      rcases List.mem_cons.mp hx with rfl | hx
      · exact h1
      · have := abvL_lt g m p x hx
        omega
theorem belL_fix {F : Fam} (g : GF F) : ∀ (m k : Nat), F.n ≤ m + k → belL F (m + 1) k = belL F m k
  | 0, k, hm => by
    rw [belL, belL, kids_out (by omega)]
    rfl
  | m + 1, k, hm => by
    rw [belL, belL]
    have : ∀ l : List Nat, (∀ c ∈ l, k < c) → (l.flatMap fun c => c :: belL F (m + 1) c) = l.flatMap fun c => c :: belL F m c := by
      intro l hl
      induction l with
      | nil => rfl
      | cons c l ih =>
        rw [List.flatMap_cons, List.flatMap_cons, ih fun c hc => hl c (List.mem_cons_of_mem _ hc), belL_fix g m c (by have := hl c List.mem_cons_self; omega)]
    exact this _ fun c hc => (g.up k c hc).1
theorem belL_le {F : Fam} (g : GF F) {m k : Nat} (h : F.n ≤ m + k) : ∀ j, belL F (m + j) k = belL F m k
  | 0 => rfl
  | j + 1 => by rw [← Nat.add_assoc, belL_fix g (m + j) k (by omega), belL_le g h j]
theorem belL_lt {F : Fam} (g : GF F) : ∀ (m k : Nat), ∀ x ∈ belL F m k, x < F.n
  | 0, k => fun x h => nomatch h
  | m + 1, k => by
    rw [belL]
    intro x hx
    obtain ⟨c, hc, hx⟩ := List.mem_flatMap.mp hx
    rcases List.mem_cons.mp hx with rfl | hx
    · exact (g.up k x hc).2
    · exact belL_lt g m c x hx
/-- weights -/
def WT (F : Fam) (w : Nat → Nat) : Prop := ∀ k, ((kids F k).map w).sum + 1 ≤ w k
theorem belL_len {F : Fam} {w : Nat → Nat} (hw : WT F w) : ∀ (m k : Nat), (belL F m k).length + 1 ≤ w k
  | 0, k => by have := hw k; show 0 + 1 ≤ _; omega
  | m + 1, k => by
    rw [belL]
    have : ∀ l : List Nat, (l.flatMap fun c => c :: belL F m c).length ≤ (l.map w).sum := by
      intro l
      induction l with
      | nil => exact Nat.zero_le _
      | cons c l ih =>
        have h1 := belL_len hw m c
        rw [List.flatMap_cons, List.length_append, List.length_cons, List.map_cons, List.sum_cons]
        omega
    have h1 := this (kids F k)
    have h2 := hw k
    omega
theorem bef_at {rows : List (List Nat)} {h : Nat → Bool} {k : Nat} (ap : Apart rows) {r : List Nat} (hr : r ∈ rows) (hk : k ∈ r) : bef rows h k = (r.takeWhile fun c => decide (c ≠ k)).any h := by
  unfold bef
  have : rows.find? (fun r => decide (k ∈ r)) = some r := by
    induction rows with
    | nil => cases hr
    | cons s rows ih =>
      rw [List.find?_cons]
      have hp := List.pairwise_cons.mp ap.2
      rcases List.mem_cons.mp hr with rfl | hr
      · rw [decide_eq_true hk]
      · rw [decide_eq_false (fun z => hp.1 r hr k z hk)]
        exact ih ⟨fun x hx => ap.1 x (List.mem_cons_of_mem _ hx), hp.2⟩ hr
  rw [this]
theorem bef_no {rows : List (List Nat)} {h : Nat → Bool} {k : Nat} (hn : ∀ r ∈ rows, k ∉ r) : bef rows h k = false := by
  unfold bef
  have : rows.find? (fun r => decide (k ∈ r)) = none := by
    rw [List.find?_eq_none]
    exact fun r hr e => hn r hr (of_decide_eq_true e)
  rw [this]
theorem tw_lt : ∀ (l : List Nat) (k : Nat), l.Pairwise (· < ·) → k ∈ l → l.takeWhile (fun c => decide (c ≠ k)) = l.filter fun o => decide (o ≠ k) && decide (o < k)
  | [], k, _, h => nomatch h
  | a :: l, k, hp, h => by
    obtain ⟨h1, h2⟩ := List.pairwise_cons.mp hp
    rw [List.takeWhile_cons, List.filter_cons]
    by_cases e : a = k
    · subst e
      rw [decide_eq_false (by simp), if_neg Bool.false_ne_true, Bool.false_and, if_neg Bool.false_ne_true]
      symm
      rw [List.filter_eq_nil_iff]
      intro x hx z
      have := of_decide_eq_true (Bool.and_eq_true_iff.mp z).2
      have := h1 x hx
      omega
    · have hk : k ∈ l := (List.mem_cons.mp h).elim (fun z => absurd z.symm e) id
      rw [decide_eq_true e, decide_eq_true (h1 k hk), if_pos rfl, Bool.true_and, if_pos rfl, tw_lt l k h2 hk]
theorem tw_gt : ∀ (l : List Nat) (k : Nat), l.Pairwise (· > ·) → k ∈ l → l.takeWhile (fun c => decide (c ≠ k)) = l.filter fun o => decide (o ≠ k) && !decide (o < k)
  | [], k, _, h => nomatch h
  | a :: l, k, hp, h => by
    obtain ⟨h1, h2⟩ := List.pairwise_cons.mp hp
    rw [List.takeWhile_cons, List.filter_cons]
    by_cases e : a = k
    · subst e
      rw [decide_eq_false (by simp), if_neg Bool.false_ne_true, Bool.false_and, if_neg Bool.false_ne_true]
      symm
      rw [List.filter_eq_nil_iff]
      intro x hx z
      have z := (Bool.and_eq_true_iff.mp z).2
      have := h1 x hx
      rw [decide_eq_true this] at z
      cases z
    · have hk : k ∈ l := (List.mem_cons.mp h).elim (fun z => absurd z.symm e) id
      have := h1 k hk
      rw [decide_eq_true e, decide_eq_false (show ¬ a < k by omega), if_pos rfl, Bool.not_false, Bool.true_and, if_pos rfl, tw_gt l k h2 hk]
theorem seen_lk {F : Fam} (g : GF F) (q : Lk) (h : Nat → Bool) (k : Nat) : (seenL F q k).any h = lk F q h k := by
  cases q with
  | child => rfl
  | below => exact bel_any F h _ _
  | above => exact abv_any F h _ _
  | parent =>
    show (par F k).toList.any h = prt F h k
    unfold prt
    cases par F k with
    | none => rfl
    | some p => simp
  | earlier =>
    show ((sib F k).filter _).any h = bef F.rows h k
    unfold sib
    cases e : par F k with
    | none =>
      rw [bef_no]
      · rfl
      · intro r hr hk
        obtain ⟨i, hi, rfl⟩ := List.mem_iff_getElem.mp hr
        have := (g.pk i k).mp (by rw [kids_get (List.getElem?_eq_getElem hi)]; exact hk)
        rw [e] at this
        cases this
    | some p =>
      have hk := (g.pk p k).mpr e
      have hp : p < F.rows.length := by
        have := g.lt e
        show p < F.n
        omega
      have ek := kids_get (List.getElem?_eq_getElem hp)
      have hm : kids F p ∈ F.rows := by rw [ek]; exact List.getElem_mem hp
      rw [bef_at g.apart hm hk, tw_lt _ _ (g.sorted p) hk]
  | later =>
    show ((sib F k).filter _).any h = bef (F.rows.map List.reverse) h k
    unfold sib
    cases e : par F k with
    | none =>
      rw [bef_no]
      · rfl
      · intro r hr hk
        obtain ⟨s, hs, rfl⟩ := List.mem_map.mp hr
        obtain ⟨i, hi, rfl⟩ := List.mem_iff_getElem.mp hs
        have := (g.pk i k).mp (by rw [kids_get (List.getElem?_eq_getElem hi)]; exact List.mem_reverse.mp hk)
        rw [e] at this
        cases this
    | some p =>
      have hk := (g.pk p k).mpr e
      have hp : p < F.rows.length := by
        have := g.lt e
        show p < F.n
        omega
      have ek := kids_get (List.getElem?_eq_getElem hp)
      have hm : kids F p ∈ F.rows := by rw [ek]; exact List.getElem_mem hp
      rw [bef_at g.apart.rev (List.mem_map.mpr ⟨_, hm, rfl⟩) (List.mem_reverse.mpr hk), tw_gt _ _ (List.pairwise_reverse.mpr (g.sorted p)) (List.mem_reverse.mpr hk), List.filter_reverse, List.any_reverse]
theorem seen_lt {F : Fam} (g : GF F) (q : Lk) {k : Nat} (hk : k < F.n) : ∀ x ∈ seenL F q k, x < F.n := by
  have hs : ∀ x ∈ sib F k, x < F.n := by
    unfold sib
    cases e : par F k with
    | none => exact fun x h => nomatch h
    | some p => exact fun x h => (g.up p x h).2
  cases q with
  | child => exact fun x h => (g.up k x h).2
  | below => exact belL_lt g _ _
  | above => exact fun x h => Nat.lt_trans (abvL_lt g _ _ x h) hk
  | parent =>
    intro x h
    have h : x ∈ (par F k).toList := h
    cases e : par F k with
    | none => rw [e] at h; cases h
    | some p =>
      rw [e] at h
      have := g.lt e
      simp at h
      omega
  | earlier => exact fun x h => hs x (List.mem_filter.mp h).1
  | later => exact fun x h => hs x (List.mem_filter.mp h).1
/-- how much hangs on a number -/
def wt {α : Type} (t : Tr α) (k : Nat) : Nat := match (pre t)[k]? with
  | some s => sz s
  | none => 1
theorem wt_pos {α : Type} (t : Tr α) (k : Nat) : 1 ≤ wt t k := by
  unfold wt
  cases (pre t)[k]? with
  | none => exact Nat.le_refl _
  | some s => exact sz_pos s
theorem wt_le {α : Type} (t : Tr α) (k : Nat) : wt t k ≤ sz t := by
  unfold wt
  cases e : (pre t)[k]? with
  | none => exact sz_pos t
  | some s => exact pre_sz t s (List.mem_of_getElem? e)
theorem wt_ok {α : Type} (t : Tr α) : WT (famF t) (wt t) := by
  intro k
  cases e : (num t 0)[k]? with
  | none =>
    have : kids (famF t) k = [] := by
      unfold kids famF rws
      rw [List.getElem?_map, e]
      rfl
    rw [this]
    have := wt_pos t k
    show 0 + 1 ≤ _
    omega
  | some r =>
    obtain ⟨s, h1, h2, h3, h4⟩ := rows_ok t e
    have ek : kids (famF t) k = r.2 := by
      refine kids_get ?_
      unfold famF rws
      rw [List.getElem?_map, e]
      rfl
    have em : r.2.map (wt t) = s.ks.map sz := by
      apply List.ext_getElem?
      intro j
      rw [List.getElem?_map, List.getElem?_map]
      cases ej : r.2[j]? with
      | none =>
        have : r.2.length ≤ j := List.getElem?_eq_none_iff.mp ej
        rw [List.getElem?_eq_none (by omega)]
        rfl
      | some c =>
        obtain ⟨g1, g2⟩ := h4 j c ej
        have hj := (List.getElem?_eq_some_iff.mp ej).1
        rw [List.getElem?_eq_getElem (show j < s.ks.length by omega)] at g2 ⊢
        show some (wt t c) = some _
        unfold wt
        rw [g2]
    have ew : wt t k = sz s := by
      unfold wt
      rw [h1]
    rw [ek, em, ew]
    cases s with
    | nd d ks =>
      rw [sz_nd, ks_nd]
      omega
end MF
namespace K48
open PySem PySem.Spec PyProof.Rows L2 DL
def top (i : Nat) : Stmt := PySem.Challenge.pw_soonsettled_k48_conditions_hold.main.body.getD i (.Pass ⟨0, 0, 0, 0⟩)
abbrev s_parts_of : Stmt := top 1
theorem sc_parts_of : FnScope ["tree"] ["tree"] (defScope s_parts_of) := ⟨rfl, rfl, rfl, by decide +kernel, rfl, by decide +kernel, by decide +kernel⟩
abbrev s_children_of : Stmt := top 2
theorem sc_children_of : FnScope ["element"] ["element"] (defScope s_children_of) := ⟨rfl, rfl, rfl, by decide +kernel, rfl, by decide +kernel, by decide +kernel⟩
abbrev s_numbered : Stmt := top 3
theorem sc_numbered : FnScope ["root", "inner_of", "nodes", "waiting", "node", "outer", "number", "inner"] ["root", "inner_of"] (defScope s_numbered) := ⟨rfl, rfl, rfl, by decide +kernel, rfl, by decide +kernel, by decide +kernel⟩
abbrev s_folded : Stmt := top 4
theorem sc_folded : FnScope ["root", "inner_of", "tell", "nodes", "told", "number", "node", "numbers", "k"] ["root", "inner_of", "tell"] (defScope s_folded) := ⟨rfl, rfl, rfl, by decide +kernel, rfl, by decide +kernel, by decide +kernel⟩
abbrev s_Family___init__ : Stmt := inClass (top 6) 0
theorem sc_Family___init__ : FnScope ["self", "document", "nodes", "element", "_", "numbers", "number", "row", "child"] ["self", "document"] (defScope s_Family___init__) := ⟨rfl, rfl, rfl, by decide +kernel, rfl, by decide +kernel, by decide +kernel⟩
abbrev s_holds_child : Stmt := top 7
theorem sc_holds_child : FnScope ["family", "holds", "child", "row"] ["family", "holds"] (defScope s_holds_child) := ⟨rfl, rfl, rfl, by decide +kernel, rfl, by decide +kernel, by decide +kernel⟩
abbrev s_holds_below : Stmt := top 8
theorem sc_holds_below : FnScope ["family", "holds", "found", "number"] ["family", "holds"] (defScope s_holds_below) := ⟨rfl, rfl, rfl, by decide +kernel, rfl, by decide +kernel, by decide +kernel⟩
abbrev s_holds_parent : Stmt := top 9
theorem sc_holds_parent : FnScope ["family", "holds", "parent"] ["family", "holds"] (defScope s_holds_parent) := ⟨rfl, rfl, rfl, by decide +kernel, rfl, by decide +kernel, by decide +kernel⟩
abbrev s_holds_above : Stmt := top 10
theorem sc_holds_above : FnScope ["family", "holds", "found", "number", "parent"] ["family", "holds"] (defScope s_holds_above) := ⟨rfl, rfl, rfl, by decide +kernel, rfl, by decide +kernel, by decide +kernel⟩
abbrev s_holds_before : Stmt := top 11
theorem sc_holds_before : FnScope ["rows", "holds", "found", "row", "met", "number"] ["rows", "holds"] (defScope s_holds_before) := ⟨rfl, rfl, rfl, by decide +kernel, rfl, by decide +kernel, by decide +kernel⟩
abbrev s_holds_earlier : Stmt := top 12
theorem sc_holds_earlier : FnScope ["family", "holds"] ["family", "holds"] (defScope s_holds_earlier) := ⟨rfl, rfl, rfl, by decide +kernel, rfl, by decide +kernel, by decide +kernel⟩
abbrev s_holds_later : Stmt := top 13
theorem sc_holds_later : FnScope ["family", "holds", "row"] ["family", "holds"] (defScope s_holds_later) := ⟨rfl, rfl, rfl, by decide +kernel, rfl, by decide +kernel, by decide +kernel⟩
abbrev s_holds_without_looks : Stmt := top 15
theorem sc_holds_without_looks : FnScope ["names", "condition", "parts", "kind", "name", "held", "part", "number"] ["names", "condition", "parts"] (defScope s_holds_without_looks) := ⟨rfl, rfl, rfl, by decide +kernel, rfl, by decide +kernel, by decide +kernel⟩
abbrev s_holds_of : Stmt := top 16
theorem sc_holds_of : FnScope ["family", "condition", "parts", "kind", "finder"] ["family", "condition", "parts"] (defScope s_holds_of) := ⟨rfl, rfl, rfl, by decide +kernel, rfl, by decide +kernel, by decide +kernel⟩
abbrev s_holding : Stmt := top 17
theorem sc_holding : FnScope ["condition", "document", "family", "holds", "number", "held"] ["condition", "document"] (defScope s_holding) := ⟨rfl, rfl, rfl, by decide +kernel, rfl, by decide +kernel, by decide +kernel⟩
abbrev s_law_draw : Stmt := top 19
theorem sc_law_draw : FnScope ["script"] ["script"] (defScope s_law_draw) := ⟨rfl, rfl, rfl, by decide +kernel, rfl, by decide +kernel, by decide +kernel⟩
abbrev s_law_next : Stmt := top 20
theorem sc_law_next : FnScope ["draw", "many", "found", "cell"] ["draw", "many"] (defScope s_law_next) := ⟨rfl, rfl, rfl, by decide +kernel, rfl, by decide +kernel, by decide +kernel⟩
abbrev s_law_same : Stmt := top 21
theorem sc_law_same : FnScope ["actual", "due", "k"] ["actual", "due"] (defScope s_law_same) := ⟨rfl, rfl, rfl, by decide +kernel, rfl, by decide +kernel, by decide +kernel⟩
abbrev s_law_element : Stmt := top 22
theorem sc_law_element : FnScope ["draw", "depth", "children", "k"] ["draw", "depth"] (defScope s_law_element) := ⟨rfl, rfl, rfl, by decide +kernel, rfl, by decide +kernel, by decide +kernel⟩
abbrev s_law_tree : Stmt := top 24
theorem sc_law_tree : FnScope ["draw", "depth", "form", "shapes", "look", "kind", "parts", "k", "part"] ["draw", "depth"] (defScope s_law_tree) := ⟨rfl, rfl, rfl, by decide +kernel, rfl, by decide +kernel, by decide +kernel⟩
abbrev s_law_parts : Stmt := top 25
theorem sc_law_parts : FnScope ["tree", "inner", "part"] ["tree"] (defScope s_law_parts) := ⟨rfl, rfl, rfl, by decide +kernel, rfl, by decide +kernel, by decide +kernel⟩
abbrev s_law_looks : Stmt := top 26
theorem sc_law_looks : FnScope ["tree", "inner", "part"] ["tree"] (defScope s_law_looks) := ⟨rfl, rfl, rfl, by decide +kernel, rfl, by decide +kernel, by decide +kernel⟩
abbrev s_law_condition : Stmt := top 27
theorem sc_law_condition : FnScope ["draw", "depth", "tree"] ["draw", "depth"] (defScope s_law_condition) := ⟨rfl, rfl, rfl, by decide +kernel, rfl, by decide +kernel, by decide +kernel⟩
abbrev s_law_number : Stmt := top 28
theorem sc_law_number : FnScope ["element", "parent", "rows", "number", "child"] ["element", "parent", "rows"] (defScope s_law_number) := ⟨rfl, rfl, rfl, by decide +kernel, rfl, by decide +kernel, by decide +kernel⟩
abbrev s_law_below : Stmt := top 29
theorem sc_law_below : FnScope ["rows", "number", "found", "child"] ["rows", "number"] (defScope s_law_below) := ⟨rfl, rfl, rfl, by decide +kernel, rfl, by decide +kernel, by decide +kernel⟩
abbrev s_law_seen : Stmt := top 30
theorem sc_law_seen : FnScope ["rows", "look", "number", "parent", "siblings", "other"] ["rows", "look", "number"] (defScope s_law_seen) := ⟨rfl, rfl, rfl, by decide +kernel, rfl, by decide +kernel, by decide +kernel⟩
abbrev s_law_holds : Stmt := top 31
theorem sc_law_holds : FnScope ["rows", "tree", "number", "part", "other"] ["rows", "tree", "number"] (defScope s_law_holds) := ⟨rfl, rfl, rfl, by decide +kernel, rfl, by decide +kernel, by decide +kernel⟩
abbrev s_law : Stmt := top 32
theorem sc_law : FnScope ["script", "draw", "turn", "element", "rows", "tree", "due", "number"] ["script"] (defScope s_law) := ⟨rfl, rfl, rfl, by decide +kernel, rfl, by decide +kernel, by decide +kernel⟩
structure Txt (prog : Program) (K : PySem.W.Frag) (mg : Str → Option Value) (w : World) where
  a_parts_of : Addr
  fd_parts_of : FuncData
  F_parts_of : Fun K "parts_of" "parts_of" s_parts_of a_parts_of fd_parts_of
  g_parts_of : mg "parts_of" = some (.ref a_parts_of)
  a_children_of : Addr
  fd_children_of : FuncData
  F_children_of : Fun K "children_of" "children_of" s_children_of a_children_of fd_children_of
  g_children_of : mg "children_of" = some (.ref a_children_of)
  a_numbered : Addr
  fd_numbered : FuncData
  F_numbered : Fun K "numbered" "numbered" s_numbered a_numbered fd_numbered
  g_numbered : mg "numbered" = some (.ref a_numbered)
  a_folded : Addr
  fd_folded : FuncData
  F_folded : Fun K "folded" "folded" s_folded a_folded fd_folded
  g_folded : mg "folded" = some (.ref a_folded)
  a_Family___init__ : Addr
  fd_Family___init__ : FuncData
  F_Family___init__ : Fun K "__init__" "Family.__init__" s_Family___init__ a_Family___init__ fd_Family___init__
  a_holds_child : Addr
  fd_holds_child : FuncData
  F_holds_child : Fun K "holds_child" "holds_child" s_holds_child a_holds_child fd_holds_child
  g_holds_child : mg "holds_child" = some (.ref a_holds_child)
  a_holds_below : Addr
  fd_holds_below : FuncData
  F_holds_below : Fun K "holds_below" "holds_below" s_holds_below a_holds_below fd_holds_below
  g_holds_below : mg "holds_below" = some (.ref a_holds_below)
  a_holds_parent : Addr
  fd_holds_parent : FuncData
  F_holds_parent : Fun K "holds_parent" "holds_parent" s_holds_parent a_holds_parent fd_holds_parent
  g_holds_parent : mg "holds_parent" = some (.ref a_holds_parent)
  a_holds_above : Addr
  fd_holds_above : FuncData
  F_holds_above : Fun K "holds_above" "holds_above" s_holds_above a_holds_above fd_holds_above
  g_holds_above : mg "holds_above" = some (.ref a_holds_above)
  a_holds_before : Addr
  fd_holds_before : FuncData
  F_holds_before : Fun K "holds_before" "holds_before" s_holds_before a_holds_before fd_holds_before
  g_holds_before : mg "holds_before" = some (.ref a_holds_before)
  a_holds_earlier : Addr
  fd_holds_earlier : FuncData
  F_holds_earlier : Fun K "holds_earlier" "holds_earlier" s_holds_earlier a_holds_earlier fd_holds_earlier
  g_holds_earlier : mg "holds_earlier" = some (.ref a_holds_earlier)
  a_holds_later : Addr
  fd_holds_later : FuncData
  F_holds_later : Fun K "holds_later" "holds_later" s_holds_later a_holds_later fd_holds_later
  g_holds_later : mg "holds_later" = some (.ref a_holds_later)
  a_holds_without_looks : Addr
  fd_holds_without_looks : FuncData
  F_holds_without_looks : Fun K "holds_without_looks" "holds_without_looks" s_holds_without_looks a_holds_without_looks fd_holds_without_looks
  g_holds_without_looks : mg "holds_without_looks" = some (.ref a_holds_without_looks)
  a_holds_of : Addr
  fd_holds_of : FuncData
  F_holds_of : Fun K "holds_of" "holds_of" s_holds_of a_holds_of fd_holds_of
  g_holds_of : mg "holds_of" = some (.ref a_holds_of)
  a_holding : Addr
  fd_holding : FuncData
  F_holding : Fun K "holding" "holding" s_holding a_holding fd_holding
  g_holding : mg "holding" = some (.ref a_holding)
  a_law_draw : Addr
  fd_law_draw : FuncData
  F_law_draw : Fun K "_law_draw" "_law_draw" s_law_draw a_law_draw fd_law_draw
  g_law_draw : mg "_law_draw" = some (.ref a_law_draw)
  a_law_next : Addr
  fd_law_next : FuncData
  F_law_next : Fun K "_law_next" "_law_next" s_law_next a_law_next fd_law_next
  g_law_next : mg "_law_next" = some (.ref a_law_next)
  a_law_same : Addr
  fd_law_same : FuncData
  F_law_same : Fun K "_law_same" "_law_same" s_law_same a_law_same fd_law_same
  g_law_same : mg "_law_same" = some (.ref a_law_same)
  a_law_element : Addr
  fd_law_element : FuncData
  F_law_element : Fun K "_law_element" "_law_element" s_law_element a_law_element fd_law_element
  g_law_element : mg "_law_element" = some (.ref a_law_element)
  a_law_tree : Addr
  fd_law_tree : FuncData
  F_law_tree : Fun K "_law_tree" "_law_tree" s_law_tree a_law_tree fd_law_tree
  g_law_tree : mg "_law_tree" = some (.ref a_law_tree)
  a_law_parts : Addr
  fd_law_parts : FuncData
  F_law_parts : Fun K "_law_parts" "_law_parts" s_law_parts a_law_parts fd_law_parts
  g_law_parts : mg "_law_parts" = some (.ref a_law_parts)
  a_law_looks : Addr
  fd_law_looks : FuncData
  F_law_looks : Fun K "_law_looks" "_law_looks" s_law_looks a_law_looks fd_law_looks
  g_law_looks : mg "_law_looks" = some (.ref a_law_looks)
  a_law_condition : Addr
  fd_law_condition : FuncData
  F_law_condition : Fun K "_law_condition" "_law_condition" s_law_condition a_law_condition fd_law_condition
  g_law_condition : mg "_law_condition" = some (.ref a_law_condition)
  a_law_number : Addr
  fd_law_number : FuncData
  F_law_number : Fun K "_law_number" "_law_number" s_law_number a_law_number fd_law_number
  g_law_number : mg "_law_number" = some (.ref a_law_number)
  a_law_below : Addr
  fd_law_below : FuncData
  F_law_below : Fun K "_law_below" "_law_below" s_law_below a_law_below fd_law_below
  g_law_below : mg "_law_below" = some (.ref a_law_below)
  a_law_seen : Addr
  fd_law_seen : FuncData
  F_law_seen : Fun K "_law_seen" "_law_seen" s_law_seen a_law_seen fd_law_seen
  g_law_seen : mg "_law_seen" = some (.ref a_law_seen)
  a_law_holds : Addr
  fd_law_holds : FuncData
  F_law_holds : Fun K "_law_holds" "_law_holds" s_law_holds a_law_holds fd_law_holds
  g_law_holds : mg "_law_holds" = some (.ref a_law_holds)
  a_law : Addr
  fd_law : FuncData
  F_law : Fun K "law" "law" s_law a_law fd_law
  g_law : mg "law" = some (.ref a_law)
  C_Family : Addr
  cl_Family : Cls K C_Family
  g_Family : mg "Family" = some (.ref C_Family)
  M_Family : Mk K C_Family a_Family___init__
  n_Family_names : NoAttr K C_Family "names"
  n_Family_rows : NoAttr K C_Family "rows"
  n_Family_parents : NoAttr K C_Family "parents"
  d_FINDERS : Addr
  g_FINDERS : mg "FINDERS" = some (.ref d_FINDERS)
  D_FINDERS : SX.WD K w d_FINDERS [(("child" : Str), V.ref a_holds_child), (("below" : Str), V.ref a_holds_below), (("parent" : Str), V.ref a_holds_parent), (("above" : Str), V.ref a_holds_above), (("earlier" : Str), V.ref a_holds_earlier), (("later" : Str), V.ref a_holds_later)]
  n_isinstance : mg "isinstance" = none
  n_str : mg "str" = none
  n_len : mg "len" = none
  n_range : mg "range" = none
  n_enumerate : mg "enumerate" = none
  n_any : mg "any" = none
  n_all : mg "all" = none
  n_list : mg "list" = none
  n_abs : mg "abs" = none
  n_int : mg "int" = none
  n_tuple : mg "tuple" = none
  n_bool : mg "bool" = none
  n_sum : mg "sum" = none
  c_holding : Addr
  P_holding : Addr
  hc_holding : fd_holding.code = .ref c_holding
section
variable {prog : Program} {K : PySem.W.Frag} {mg : Str → Option Value} {w : World}
theorem Txt.b_parts_of (T : Txt prog K mg w) : Binds K T.fd_parts_of ["tree"] [] := T.F_parts_of.binds (ps := ["tree"]) fun _ _ _ _ _ _ us hl => match us, hl with | [_], _ => rfl
theorem Txt.b_children_of (T : Txt prog K mg w) : Binds K T.fd_children_of ["element"] [] := T.F_children_of.binds (ps := ["element"]) fun _ _ _ _ _ _ us hl => match us, hl with | [_], _ => rfl
theorem Txt.b_numbered (T : Txt prog K mg w) : Binds K T.fd_numbered ["root", "inner_of"] [] := T.F_numbered.binds (ps := ["root", "inner_of"]) fun _ _ _ _ _ _ us hl => match us, hl with | [_, _], _ => rfl
theorem Txt.b_folded (T : Txt prog K mg w) : Binds K T.fd_folded ["root", "inner_of", "tell"] [] := T.F_folded.binds (ps := ["root", "inner_of", "tell"]) fun _ _ _ _ _ _ us hl => match us, hl with | [_, _, _], _ => rfl
theorem Txt.b_Family___init__ (T : Txt prog K mg w) : Binds K T.fd_Family___init__ ["self", "document"] [] := T.F_Family___init__.binds (ps := ["self", "document"]) fun _ _ _ _ _ _ us hl => match us, hl with | [_, _], _ => rfl
theorem Txt.b_holds_child (T : Txt prog K mg w) : Binds K T.fd_holds_child ["family", "holds"] [] := T.F_holds_child.binds (ps := ["family", "holds"]) fun _ _ _ _ _ _ us hl => match us, hl with | [_, _], _ => rfl
theorem Txt.b_holds_below (T : Txt prog K mg w) : Binds K T.fd_holds_below ["family", "holds"] [] := T.F_holds_below.binds (ps := ["family", "holds"]) fun _ _ _ _ _ _ us hl => match us, hl with | [_, _], _ => rfl
theorem Txt.b_holds_parent (T : Txt prog K mg w) : Binds K T.fd_holds_parent ["family", "holds"] [] := T.F_holds_parent.binds (ps := ["family", "holds"]) fun _ _ _ _ _ _ us hl => match us, hl with | [_, _], _ => rfl
theorem Txt.b_holds_above (T : Txt prog K mg w) : Binds K T.fd_holds_above ["family", "holds"] [] := T.F_holds_above.binds (ps := ["family", "holds"]) fun _ _ _ _ _ _ us hl => match us, hl with | [_, _], _ => rfl
theorem Txt.b_holds_before (T : Txt prog K mg w) : Binds K T.fd_holds_before ["rows", "holds"] [] := T.F_holds_before.binds (ps := ["rows", "holds"]) fun _ _ _ _ _ _ us hl => match us, hl with | [_, _], _ => rfl
theorem Txt.b_holds_earlier (T : Txt prog K mg w) : Binds K T.fd_holds_earlier ["family", "holds"] [] := T.F_holds_earlier.binds (ps := ["family", "holds"]) fun _ _ _ _ _ _ us hl => match us, hl with | [_, _], _ => rfl
theorem Txt.b_holds_later (T : Txt prog K mg w) : Binds K T.fd_holds_later ["family", "holds"] [] := T.F_holds_later.binds (ps := ["family", "holds"]) fun _ _ _ _ _ _ us hl => match us, hl with | [_, _], _ => rfl
theorem Txt.b_holds_without_looks (T : Txt prog K mg w) : Binds K T.fd_holds_without_looks ["names", "condition", "parts"] [] := T.F_holds_without_looks.binds (ps := ["names", "condition", "parts"]) fun _ _ _ _ _ _ us hl => match us, hl with | [_, _, _], _ => rfl
theorem Txt.b_holds_of (T : Txt prog K mg w) : Binds K T.fd_holds_of ["family", "condition", "parts"] [] := T.F_holds_of.binds (ps := ["family", "condition", "parts"]) fun _ _ _ _ _ _ us hl => match us, hl with | [_, _, _], _ => rfl
theorem Txt.b_holding (T : Txt prog K mg w) : Binds K T.fd_holding ["condition", "document"] [] := T.F_holding.binds (ps := ["condition", "document"]) fun _ _ _ _ _ _ us hl => match us, hl with | [_, _], _ => rfl
theorem Txt.b_law_draw (T : Txt prog K mg w) : Binds K T.fd_law_draw ["script"] [] := T.F_law_draw.binds (ps := ["script"]) fun _ _ _ _ _ _ us hl => match us, hl with | [_], _ => rfl
theorem Txt.b_law_next (T : Txt prog K mg w) : Binds K T.fd_law_next ["draw", "many"] [] := T.F_law_next.binds (ps := ["draw", "many"]) fun _ _ _ _ _ _ us hl => match us, hl with | [_, _], _ => rfl
theorem Txt.b_law_same (T : Txt prog K mg w) : Binds K T.fd_law_same ["actual", "due"] [] := T.F_law_same.binds (ps := ["actual", "due"]) fun _ _ _ _ _ _ us hl => match us, hl with | [_, _], _ => rfl
theorem Txt.b_law_element (T : Txt prog K mg w) : Binds K T.fd_law_element ["draw", "depth"] [] := T.F_law_element.binds (ps := ["draw", "depth"]) fun _ _ _ _ _ _ us hl => match us, hl with | [_, _], _ => rfl
theorem Txt.b_law_tree (T : Txt prog K mg w) : Binds K T.fd_law_tree ["draw", "depth"] [] := T.F_law_tree.binds (ps := ["draw", "depth"]) fun _ _ _ _ _ _ us hl => match us, hl with | [_, _], _ => rfl
theorem Txt.b_law_parts (T : Txt prog K mg w) : Binds K T.fd_law_parts ["tree"] [] := T.F_law_parts.binds (ps := ["tree"]) fun _ _ _ _ _ _ us hl => match us, hl with | [_], _ => rfl
theorem Txt.b_law_looks (T : Txt prog K mg w) : Binds K T.fd_law_looks ["tree"] [] := T.F_law_looks.binds (ps := ["tree"]) fun _ _ _ _ _ _ us hl => match us, hl with | [_], _ => rfl
theorem Txt.b_law_condition (T : Txt prog K mg w) : Binds K T.fd_law_condition ["draw", "depth"] [] := T.F_law_condition.binds (ps := ["draw", "depth"]) fun _ _ _ _ _ _ us hl => match us, hl with | [_, _], _ => rfl
theorem Txt.b_law_number (T : Txt prog K mg w) : Binds K T.fd_law_number ["element", "parent", "rows"] [] := T.F_law_number.binds (ps := ["element", "parent", "rows"]) fun _ _ _ _ _ _ us hl => match us, hl with | [_, _, _], _ => rfl
theorem Txt.b_law_below (T : Txt prog K mg w) : Binds K T.fd_law_below ["rows", "number"] [] := T.F_law_below.binds (ps := ["rows", "number"]) fun _ _ _ _ _ _ us hl => match us, hl with | [_, _], _ => rfl
theorem Txt.b_law_seen (T : Txt prog K mg w) : Binds K T.fd_law_seen ["rows", "look", "number"] [] := T.F_law_seen.binds (ps := ["rows", "look", "number"]) fun _ _ _ _ _ _ us hl => match us, hl with | [_, _, _], _ => rfl
theorem Txt.b_law_holds (T : Txt prog K mg w) : Binds K T.fd_law_holds ["rows", "tree", "number"] [] := T.F_law_holds.binds (ps := ["rows", "tree", "number"]) fun _ _ _ _ _ _ us hl => match us, hl with | [_, _, _], _ => rfl
theorem Txt.b_law (T : Txt prog K mg w) : Binds K T.fd_law ["script"] [] := T.F_law.binds (ps := ["script"]) fun _ _ _ _ _ _ us hl => match us, hl with | [_], _ => rfl
end
end K48
namespace K48
open PySem PySem.Spec PyProof.Rows L2 DL
/-- the trees directly in a tree -/
inductive PartsT : D → List D → Prop
  | one (k : D) : PartsT (.tup [k]) []
  | str (k : D) (x : Str) : PartsT (.tup [k, .str x]) []
  | sub (k : D) (s : Str) (r : List D) : PartsT (.tup [k, .tup (.str s :: r)]) [.tup (.str s :: r)]
  | sq (k : D) (q : List D) (r : List D) : PartsT (.tup [k, .tup (.tup q :: r)]) (.tup q :: r)
def sParts : List D → (D → Prop) → Prop := fun ds Φ => ∃ t l, ds = [t] ∧ PartsT t l ∧ Φ (.tup l)
section
variable [Tbs] {P : Program} {w : World} {K : PySem.W.Frag} {mg : Str → Option Value} {base : Heap}
theorem ok_parts (T : Txt P K mg w) : FnOk P w K mg base CX0 1 T.a_parts_of T.fd_parts_of ["tree"] (spOf K (pureS sParts)) := by
  refine fnD T.F_parts_of sc_parts_of [] (k := 0) (fun cdv A outer s H E hr => ⟨_, (pss_cons (ps_if (PW.pt (pw_or (pt_cmpR op_eq (pe_callB call_len (by rfl) T.n_len boot_len (pa_cons (pv 0) pa_nil)) pe_int (nomark _)) (pw_or1 (pt_val (pe_callB call_isi (by rfl) T.n_isinstance (by decide +kernel) (pa_cons (pe_ix (show IxR _ (rIxT K) from ix_tup) (pv 0) pe_int (fun _ _ => rfl)) (pa_cons (pe_bltn (v := .ty "str") (by rfl) T.n_str (by decide +kernel) rfl) pa_nil))))))) (pss_one (ps_ret (pe_tup pa_nil))) pss_nil)
      (pss_cons (ps_if (pt_val (pe_callB call_isi (by rfl) T.n_isinstance (by decide +kernel) (pa_cons (pe_ix (show IxR _ (rIx K) from ix_seq) (pe_ix (show IxR _ (rIxT K) from ix_tup) (pv 0) pe_int (fun _ _ => rfl)) pe_int (fun _ _ => rfl)) (pa_cons (pe_bltn (v := .ty "str") (by rfl) T.n_str (by decide +kernel) rfl) pa_nil)))) (pss_one (ps_ret (pe_tup (pa_cons (pe_ix (show IxR _ (rIxT K) from ix_tup) (pv 0) pe_int (fun _ _ => rfl)) pa_nil)))) pss_nil)
      (pss_one (ps_ret (pe_ix (show IxR _ (rIxT K) from ix_tup) (pv 0) pe_int (fun _ _ => rfl)))))), (rs_seq (rs_if (rt_or (rt_test (re_op ro_eq (re_cb rc_len (rv_cons (re_var 0) rv_nil)) re_int)) (rt_B (re_cb rc_isi (rv_cons (re_op ro_ixT (re_var 0) re_int) (rv_cons re_ty rv_nil))))) (rs_ret (re_tup rv_nil)) rs_next)
      (rs_seq (rs_if (rt_B (re_cb rc_isi (rv_cons (re_op ro_ix (re_op ro_ixT (re_var 0) re_int) re_int) (rv_cons re_ty rv_nil)))) (rs_ret (re_tup (rv_cons (re_op ro_ixT (re_var 0) re_int) rv_nil))) rs_next)
      (rs_ret (re_op ro_ixT (re_var 0) re_int))))⟩) (pure_len fun ds Φ h => ?_) (fun os Φ h => ?_)
  · obtain ⟨t, l, rfl, _⟩ := h
    rfl
  · obtain ⟨ds, rfl, t, l, rfl, hp, hΦ⟩ := h
    cases hp <;> simp <;> exact hΦ
def sKids : List D → (D → Prop) → Prop := fun ds Φ => ∃ n l, ds = [.tup [n, .tup l]] ∧ Φ (.tup l)
theorem ok_children (T : Txt P K mg w) : FnOk P w K mg base CX0 1 T.a_children_of T.fd_children_of ["element"] (spOf K (pureS sKids)) := by
  refine fnD T.F_children_of sc_children_of [] (k := 0) (fun cdv A outer s H E hr => ⟨_, (pss_one (ps_ret (pe_ix (show IxR _ (rIxT K) from ix_tup) (pv 0) pe_int (fun _ _ => rfl)))), (rs_ret (re_op ro_ixT (re_var 0) re_int))⟩) (pure_len fun ds Φ h => ?_) (fun os Φ h => ?_)
  · obtain ⟨n, l, rfl, _⟩ := h
    rfl
  · obtain ⟨ds, rfl, n, l, rfl, hΦ⟩ := h
    simp
    exact hΦ
end
end K48
namespace K48
open PySem PySem.Spec PyProof.Rows L2 SX DL
open HC (DrawAt spDraw)
theorem tx_dummy : True := trivial
def But (d : Addr) (H H' : Hp) : Prop := ∀ x o, x ≠ d → H x = some o → H' x = some o
theorem small {n : Nat} (h : n ≤ 1100000) : n ≤ sizeLine := Nat.le_trans h (by decide)
/-! ### the law's draws: any number below the bound may come -/
def spNext : Sp := fun vs H Q _ => ∃ (d sc : Addr) (many : Nat), vs = [.ref d, .int (many : Nat)] ∧ DrawAt H d sc ∧ 0 < many ∧ many ≤ 1000000 ∧ ∀ (r : Nat) H', r < many → DrawAt H' d sc → But d H H' → Q (.int (r : Nat)) H'
section
variable [Tbs] {P : Program} {w : World} {K : PySem.W.Frag} {mg : Str → Option Value} {base : Heap}
theorem ok_draw (T : Txt P K mg w) : FnOk P w K mg base CX0 1 T.a_law_draw T.fd_law_draw ["script"] (spDraw K) := by
  refine T.F_law_draw.ok sc_law_draw (fun vs H Q E h => ?_) (fun cdv A outer s H vs Q E hr h => ?_)
  · obtain ⟨_, _, rfl, _⟩ := h
    rfl
  · obtain ⟨a, ns, rfl, hS, hn, q⟩ := h
    refine ⟨_, (pss_one (ps_ret (pe_lst (pa_cons (pe_callTy call_list_of (by rfl) T.n_list (by decide +kernel) (pa_cons (pv 0) pa_nil)) (pa_cons pe_int (pa_cons pe_int (pa_cons pe_int pa_nil))))))), ?_⟩
    refine ⟨_, rfl, a, _, rfl, .inl hS, fun sc nsc => ⟨small (show 4 ≤ 1100000 by decide), fun d nd => ?_⟩⟩
    have ne : sc ≠ d := ne_of_none upd_same nd
    have s1 : Same H (upd H sc (.lst (ns.map V.int))) := same_upd nsc
    have nHd : H d = none := by
      rw [upd_ne ne.symm] at nd
      exact nd
    refine q _ d sc (s1.trans (same_upd nd)) nHd nsc ⟨ns, 0, 0, 17, upd_same, (upd_ne ne).trans upd_same, ne, hn, by decide, by decide, by decide⟩
theorem mod_nat {x : Int} {m : Nat} (h : 0 < m) : ∃ r : Nat, r < m ∧ x.fmod (m : Int) = (r : Nat) := by
  have h1 : 0 ≤ x.fmod (m : Int) := Int.fmod_nonneg_of_pos x (by omega)
  have h2 : x.fmod (m : Int) < m := Int.fmod_lt_of_pos x (by omega)
  exact ⟨(x.fmod m).toNat, by omega, by omega⟩
theorem div_nn {x : Int} {m : Nat} (h : 0 < m) (hx : 0 ≤ x) : 0 ≤ x.fdiv (m : Int) := Int.fdiv_nonneg hx (by omega)
theorem at4 {α : Type} (a b c d : α) : atI [a, b, c, d] 0 = some a ∧ atI [a, b, c, d] 1 = some b ∧ atI [a, b, c, d] 2 = some c ∧ atI [a, b, c, d] 3 = some d := ⟨rfl, rfl, rfl, rfl⟩
theorem ok_next (T : Txt P K mg w) : FnOk P w K mg base CX0 1 T.a_law_next T.fd_law_next ["draw", "many"] spNext := by
  refine T.F_law_next.ok sc_law_next (fun vs H Q E h => ?_) (fun cdv A outer s H vs Q E hr h => ?_)
  · obtain ⟨_, _, _, rfl, _⟩ := h
    rfl
  · obtain ⟨d, sc, m, rfl, ⟨ns, i, b, sd, hd, hsc, nsd, hn, hb, hs0, hs1⟩, hm0, hm1, q⟩ := h
    refine ⟨_, (pss_cons (ps_if (pt_cmpR op_gt (pe_ix (show IxR _ (rIxL K) from ix_list) (pv 0) pe_int (fun _ _ => rfl)) pe_int (nomark _)) (pss_cons (ps_set (i := 2) sc_law_next.nd rfl (by first | exact Or.inl rfl | exact Or.inr rfl) (pe_op op_modN (pe_callTy call_int1 (by rfl) T.n_int (by decide +kernel) (pa_cons (pe_ix (show IxR _ (rIxL K) from ix_list) (pv 0) pe_int (fun _ _ => rfl)) pa_nil)) (pv 1)))
      (pss_cons (ps_asg (pe_op op_fdivN (pe_ix (show IxR _ (rIxL K) from ix_list) (pv 0) pe_int (fun _ _ => rfl)) (pv 1)) (pg_sub (pv 0) pe_int set_list))
      (pss_one (ps_ret (pv 2))))) pss_nil)
      (pss_cons (ps_if (pt_cmpR op_lt (pe_ix (show IxR _ (rIxL K) from ix_list) (pv 0) pe_int (fun _ _ => rfl)) (pe_callB call_len (by rfl) T.n_len boot_len (pa_cons (pe_ix (show IxR _ (rIxL K) from ix_list) (pv 0) pe_int (fun _ _ => rfl)) pa_nil)) (nomark _)) (pss_cons (ps_set (i := 3) sc_law_next.nd rfl (by first | exact Or.inl rfl | exact Or.inr rfl) (pe_callB call_abs (by rfl) T.n_abs (by decide +kernel) (pa_cons (pe_ix (show IxR _ (rIx K) from ix_seq) (pe_ix (show IxR _ (rIxL K) from ix_list) (pv 0) pe_int (fun _ _ => rfl)) (pe_ix (show IxR _ (rIxL K) from ix_list) (pv 0) pe_int (fun _ _ => rfl)) (fun _ _ => rfl)) pa_nil)))
      (pss_cons (ps_asg (pe_op op_add (pe_ix (show IxR _ (rIxL K) from ix_list) (pv 0) pe_int (fun _ _ => rfl)) pe_int) (pg_sub (pv 0) pe_int set_list))
      (pss_cons (ps_if (pt_cmpR op_ge (pv 3) (pe_op op_pow pe_int pe_int) (nomark _)) (pss_cons (ps_asg (pe_op op_fdivN (pv 3) (pv 1)) (pg_sub (pv 0) pe_int set_list))
      (pss_one (ps_ret (pe_op op_modN (pe_callTy call_int1 (by rfl) T.n_int (by decide +kernel) (pa_cons (pv 3) pa_nil)) (pv 1))))) pss_nil)
      (pss_one (ps_asg (pe_op op_modN (pe_callTy call_int1 (by rfl) T.n_int (by decide +kernel) (pa_cons (pe_op op_add (pe_op op_add (pe_op op_mul (pe_ix (show IxR _ (rIxL K) from ix_list) (pv 0) pe_int (fun _ _ => rfl)) pe_int) (pv 3)) pe_int) pa_nil)) pe_int) (pg_sub (pv 0) pe_int set_list)))))) (pss_one (ps_asg (pe_op op_modN (pe_callTy call_int1 (by rfl) T.n_int (by decide +kernel) (pa_cons (pe_op op_add (pe_op op_mul (pe_ix (show IxR _ (rIxL K) from ix_list) (pv 0) pe_int (fun _ _ => rfl)) pe_int) pe_int) pa_nil)) pe_int) (pg_sub (pv 0) pe_int set_list))))
      (pss_one (ps_ret (pe_op op_modN (pe_op op_fdivN (pe_callTy call_int1 (by rfl) T.n_int (by decide +kernel) (pa_cons (pe_op op_modN (pe_op op_mul (pe_ix (show IxR _ (rIxL K) from ix_list) (pv 0) pe_int (fun _ _ => rfl)) pe_int) pe_int) pa_nil)) pe_int) (pv 1)))))), ?_⟩
    have j0 : (m : Int) ≠ 0 := by omega
    have jd : (m : Int) ≠ 0 ∧ (m : Int).natAbs < 1073741824 := ⟨j0, by omega⟩
    -- if draw[2] > 0
    refine ⟨_, rfl, d, _, _, _, rfl, rfl, SqL.of hd, rfl, _, _, rfl, rfl, _, rfl, ?_⟩
    by_cases hb0 : 0 < b
    · refine iT (decide_eq_true hb0) ?_
      refine ⟨_, rfl, d, _, _, _, rfl, rfl, SqL.of hd, rfl, .inl ⟨_, rfl, _, rfl, _, _, rfl, rfl, j0, ?_⟩⟩
      refine ⟨_, rfl, d, _, _, _, rfl, rfl, SqL.of hd, rfl, _, rfl, _, _, rfl, rfl, jd, _, rfl, d, _, _, 2, rfl, rfl, hd, rfl, ?_⟩
      obtain ⟨r, hr1, er⟩ := mod_nat (x := b) hm0
      have qq := q r (upd H d (.lst [.ref sc, .int (i : Nat), .int (b.fmod (m : Int) * 0 + b.fdiv (m : Int)), .int sd])) hr1 ⟨ns, i, _, sd, upd_same, (upd_ne nsd).trans hsc, nsd, hn, by rw [Int.mul_zero, Int.zero_add]; exact div_nn hm0 hb, hs0, hs1⟩ fun x o hx h => (upd_ne hx).trans h
      rw [← er, Int.mul_zero, Int.zero_add] at qq
      exact ⟨_, rfl, qq⟩
    · refine iF (decide_eq_false hb0) ?_
      -- if draw[1] < len(draw[0])
      refine ⟨_, rfl, d, _, _, _, rfl, rfl, SqL.of hd, rfl, _, rfl, d, _, _, _, rfl, rfl, SqL.of hd, rfl, _, _, rfl, .inl ⟨_, SqL.of hsc, rfl⟩, _, _, rfl, rfl, _, rfl, ?_⟩
      have last : ∀ {s' : Int}, 0 ≤ s' → s' < 2147483648 → ∃ r : Nat, r < m ∧ (((s' * 69621).fmod 2147483629).fdiv 7).fmod (m : Int) = (r : Nat) := fun _ _ => mod_nat hm0
      have big : ∀ x : Int, 0 ≤ x.fmod 2147483647 ∧ x.fmod 2147483647 < 2147483648 := fun x => by
        have h1 := Int.fmod_nonneg_of_pos x (show (0 : Int) < 2147483647 by decide)
        have h2 := Int.fmod_lt_of_pos x (show (0 : Int) < 2147483647 by decide)
        omega
      have fits : ∀ {s' : Int}, 0 ≤ s' → s' < 2147483648 → -(2 ^ 64) < s' ∧ s' < 2 ^ 64 := fun h1 h2 => by
        constructor <;> omega
      by_cases hi : i < ns.length
      · refine iT (decide_eq_true (by rw [List.length_map]; omega)) ?_
        have ga : (ns.map V.int)[i]? = some (.int ns[i]) := by
          rw [List.getElem?_map, List.getElem?_eq_getElem hi]
          rfl
        -- cell = abs(draw[0][draw[1]])
        refine ⟨_, rfl, d, _, _, _, rfl, rfl, SqL.of hd, rfl, _, rfl, d, _, _, _, rfl, rfl, SqL.of hd, rfl, .inl ⟨sc, _, _, _, rfl, rfl, SqL.of hsc, atI_nat ga, _, rfl, ?_⟩⟩
        have hc0 : 0 ≤ (if ns[i] < 0 then -ns[i] else ns[i]) := by split <;> omega
        generalize (if ns[i] < 0 then -ns[i] else ns[i]) = c at hc0
        -- draw[1] = draw[1] + 1
        refine ⟨_, rfl, d, _, _, _, rfl, rfl, SqL.of hd, rfl, _, _, rfl, rfl, _, rfl, d, _, _, 1, rfl, rfl, hd, rfl, ?_⟩
        have sc1 : ∀ {o : HO}, upd H d o sc = some (.lst (ns.map V.int)) := fun {o} => (upd_ne nsd).trans hsc
        have e1 : ∀ {o : HO}, upd H d o d = some o := fun {o} => upd_same
        -- if cell >= 10 ** 18
        refine ⟨_, rfl, _, _, rfl, rfl, ⟨by decide, by decide, by decide⟩, _, _, rfl, rfl, _, rfl, ?_⟩
        refine ite2 (fun _ => ?_) (fun _ => ?_)
        · refine ⟨_, rfl, _, rfl, _, _, rfl, rfl, jd, _, rfl, d, _, _, 2, rfl, rfl, e1, rfl, ?_⟩
          obtain ⟨r, hr1, er⟩ := mod_nat (x := c) hm0
          have qq := q r (upd (upd H d (.lst [.ref sc, .int ((i : Int) + 1), .int b, .int sd])) d (.lst [.ref sc, .int ((i : Int) + 1), .int (c.fdiv (m : Int)), .int sd])) hr1 ⟨ns, i + 1, _, sd, upd_same, (upd_ne nsd).trans sc1, nsd, hn, div_nn hm0 hc0, hs0, hs1⟩
            fun x o hx h => (upd_ne hx).trans ((upd_ne hx).trans h)
          rw [← er] at qq
          exact ⟨_, rfl, .inl ⟨_, rfl, _, rfl, _, _, rfl, rfl, j0, qq⟩⟩
        · refine ⟨_, rfl, d, _, _, _, rfl, rfl, SqL.of e1, rfl, _, _, rfl, rfl, .inl (fits hs0 hs1), _, rfl, _, _, rfl, rfl, _, _, rfl, rfl, .inl ⟨_, rfl, _, _, rfl, rfl, (show (2147483647 : Int) ≠ 0 by decide), _, rfl, d, _, _, 3, rfl, rfl, e1, rfl, ?_⟩⟩
          obtain ⟨b1, b2⟩ := big (sd * 48271 + c + 11)
          obtain ⟨r, hr1, er⟩ := last b1 b2
          have qq := q r (upd (upd H d (.lst [.ref sc, .int ((i : Int) + 1), .int b, .int sd])) d (.lst [.ref sc, .int ((i : Int) + 1), .int b, .int ((sd * 48271 + c + 11).fmod 2147483647)])) hr1 ⟨ns, i + 1, _, _, upd_same, (upd_ne nsd).trans sc1, nsd, hn, hb, b1, b2⟩
            fun x o hx h => (upd_ne hx).trans ((upd_ne hx).trans h)
          rw [← er] at qq
          exact ⟨_, rfl, d, _, _, _, rfl, rfl, SqL.of upd_same, rfl, _, _, rfl, rfl, .inl (fits b1 b2), _, _, rfl, rfl, (show (2147483629 : Int) ≠ 0 by decide), .inl ⟨_, rfl, _, _, rfl, rfl, (show (7 : Int) ≠ 0 ∧ (7 : Int).natAbs < 1073741824 from ⟨by decide, by decide⟩), _, rfl, _, _, rfl, rfl, j0, qq⟩⟩
      · refine iF (decide_eq_false (by rw [List.length_map]; omega)) ?_
        have e1 : ∀ {o : HO}, upd H d o d = some o := fun {o} => upd_same
        refine ⟨_, rfl, d, _, _, _, rfl, rfl, SqL.of hd, rfl, _, _, rfl, rfl, .inl (fits hs0 hs1), _, _, rfl, rfl, .inl ⟨_, rfl, _, _, rfl, rfl, (show (2147483647 : Int) ≠ 0 by decide), _, rfl, d, _, _, 3, rfl, rfl, hd, rfl, ?_⟩⟩
        obtain ⟨b1, b2⟩ := big (sd * 48271 + 12345)
        obtain ⟨r, hr1, er⟩ := last b1 b2
        have qq := q r (upd H d (.lst [.ref sc, .int (i : Nat), .int b, .int ((sd * 48271 + 12345).fmod 2147483647)])) hr1 ⟨ns, i, _, _, upd_same, (upd_ne nsd).trans hsc, nsd, hn, hb, b1, b2⟩ fun x o hx h => (upd_ne hx).trans h
        rw [← er] at qq
        exact ⟨_, rfl, d, _, _, _, rfl, rfl, SqL.of upd_same, rfl, _, _, rfl, rfl, .inl (fits b1 b2), _, _, rfl, rfl, (show (2147483629 : Int) ≠ 0 by decide), .inl ⟨_, rfl, _, _, rfl, rfl, (show (7 : Int) ≠ 0 ∧ (7 : Int).natAbs < 1073741824 from ⟨by decide, by decide⟩), _, rfl, _, _, rfl, rfl, j0, qq⟩⟩
/-- a draw: any number below the bound -/
def sNext : SD := fun os Φ => ∃ many : Nat, os = [.draw, .d (.int (many : Nat))] ∧ 0 < many ∧ many ≤ 1000000 ∧ ∀ r : Nat, r < many → Φ (.int (r : Nat)) [.draw, .d (.int (many : Nat))]
theorem ok_nextD (T : Txt P K mg w) : FnOk P w K mg base CX0 1 T.a_law_next T.fd_law_next ["draw", "many"] (spOf K sNext) := by
  refine (ok_next T).imp ?_
  rintro vs H Q E ⟨F, os, Φ, ⟨hsub, hnt, htb, hB⟩, ha, ⟨many, rfl, h0, h1, hΦ⟩, q⟩
  match vs, ha.len with
  | [v1, v2], _ =>
    obtain ⟨d, rfl, hF, sc, ns, i, b, s, e1, e2, hn, hb, hs0, hs1⟩ := (ha.ok 0 v1 .draw rfl rfl).inv rfl
    have hv2 : Dr K F v2 (.int (many : Nat)) := ha.ok 1 v2 _ rfl rfl
    rw [hv2.inv_int]
    have nsd : sc ≠ d := fun z => by rw [z, hF] at e2; cases e2
    refine ⟨d, sc, many, rfl, ⟨ns, i, b, s, e1, hsub _ _ e2, nsd, hn, hb, hs0, hs1⟩, h0, h1, fun r H' hr D' b' => ?_⟩
    have keepF : Sub F H' := fun a o e => b' a o (fun z => by rw [z, hF] at e; cases e) (hsub a o e)
    obtain ⟨ns', i', b2, s2, g1, g2, g3, g4, g5, g6, g7⟩ := D'
    have own : ∀ {a : Addr}, ¬ OwnA [V.ref d, v2] [OV.draw, .d (.int (many : Nat))] a → a ≠ d := fun {a} n z => n ⟨0, .draw, rfl, rfl, by rw [z]; rfl⟩
    refine q F H' _ (.int (r : Nat)) [.draw, .d (.int (many : Nat))] (Same.refl F) ⟨keepF, hnt, tabs_but htb e1 (fun t z => by cases z) (lst_nc _) fun a u na e => b' a u na e⟩ (fun a o e n _ => b' a o (own n) e) (fun a o e => ?_) (fun a o e => .inl e) rfl (fun j o o' v z1 z2 z3 z4 => ?_) (.int _) (hΦ r hr)
    · by_cases z : a = d
      · rw [z]
        exact ⟨_, g1⟩
      · exact ⟨o, b' a o z e⟩
    · match j, z1, z3, z4 with
      | 0, z1, z3, z4 =>
        cases z3
        cases z4
        have e3 : some (HO.lst (ns'.map V.int)) = some (.lst (ns.map V.int)) := g2.symm.trans (keepF _ _ e2)
        have e4 : ns'.map V.int = ns.map V.int := HO.lst.inj (Option.some.inj e3)
        exact ⟨d, rfl, hF, sc, ns', i', b2, s2, g1, by rw [e4]; exact e2, g4, g5, g6, g7⟩
      | 1, z1, z3, z4 => cases z1; cases z2
/-- the draw is made -/
theorem ok_drawS (T : Txt P K mg w) : FnOk P w K mg base CX0 1 T.a_law_draw T.fd_law_draw ["script"] (spDraw K) := ok_draw T
end
end K48
namespace K48
open PySem PySem.Spec PyProof.Rows L2 DL
/-! ### _law_same -/
/-- numbers, texts, lists and tuples of these, below n deep -/
def plain : Nat → D → Prop
  | 0, _ => False
  | n + 1, d => match d with
    | .non => True
    | .bl _ => True
    | .int _ => True
    | .str _ => True
    | .lst l => l.length ≤ 1000000 ∧ ∀ x ∈ l, plain n x
    | .tup l => l.length ≤ 1000000 ∧ ∀ x ∈ l, plain n x
    | _ => False
def sSame (n : Nat) : List D → (D → Prop) → Prop := fun ds Φ => ∃ d, ds = [d, d] ∧ plain n d ∧ Φ (.bl true)
section
variable [Tbs] {P : Program} {w : World} {K : PySem.W.Frag} {mg : Str → Option Value} {base : Heap}
theorem bls_rep (n : Nat) : blsD (List.replicate n (.bl true)) = some (List.replicate n true) := by
  induction n with
  | zero => rfl
  | succ n ih =>
    show (blsD (List.replicate n (.bl true))).map (true :: ·) = _
    rw [ih]
    rfl
theorem ok_same (T : Txt P K mg w) : ∀ n : Nat, FnOk P w K mg base CX0 (n + 1) T.a_law_same T.fd_law_same ["actual", "due"] (spOf K (pureS (sSame n))) := by
  intro n
  induction n with
  | zero =>
    refine ⟨fun vs H Q E h => ?_, fun A outer s H args us vs Q E hr e0 hb r h => ?_⟩
    all_goals
      obtain ⟨F, os, Φ, _, _, ⟨ds, _, d, _, h, _⟩, _⟩ := h
      exact h.elim
  | succ n ih =>
    have G_law_same : FnOk P w K mg base CX0 (n + 1) T.a_law_same T.fd_law_same ["actual", "due"] (spOf K (pureS (sSame n))) := ih
    refine fnD T.F_law_same sc_law_same [] (k := n + 1) (fun cdv A outer s H E hr => ⟨_, (pss_cons (ps_if (pt_val (pe_callB call_isiT (by rfl) T.n_isinstance (by decide +kernel) (pa_cons (pv 1) (pa_cons (pe_tup (pa_cons (pe_bltn (v := .ty "list") (by rfl) T.n_list (by decide +kernel) rfl) (pa_cons (pe_bltn (v := .ty "tuple") (by rfl) T.n_tuple (by decide +kernel) rfl) pa_nil))) pa_nil)))) (pss_cons (ps_if (PW.pt (pw_or (pt_cmpR op_ne (pe_callB call_isi (by rfl) T.n_isinstance (by decide +kernel) (pa_cons (pv 1) (pa_cons (pe_bltn (v := .ty "list") (by rfl) T.n_list (by decide +kernel) rfl) pa_nil))) (pe_callB call_isi (by rfl) T.n_isinstance (by decide +kernel) (pa_cons (pv 0) (pa_cons (pe_bltn (v := .ty "list") (by rfl) T.n_list (by decide +kernel) rfl) pa_nil))) (nomark _)) (pw_or1 (pt_cmpR op_ne (pe_callB call_isi (by rfl) T.n_isinstance (by decide +kernel) (pa_cons (pv 1) (pa_cons (pe_bltn (v := .ty "tuple") (by rfl) T.n_tuple (by decide +kernel) rfl) pa_nil))) (pe_callB call_isi (by rfl) T.n_isinstance (by decide +kernel) (pa_cons (pv 0) (pa_cons (pe_bltn (v := .ty "tuple") (by rfl) T.n_tuple (by decide +kernel) rfl) pa_nil))) (nomark _))))) (pss_one (ps_ret pe_bl)) pss_nil)
      (pss_cons (ps_if (pt_cmpR op_ne (pe_callB call_len (by rfl) T.n_len boot_len (pa_cons (pv 0) pa_nil)) (pe_callB call_len (by rfl) T.n_len boot_len (pa_cons (pv 1) pa_nil)) (nomark _)) (pss_one (ps_ret pe_bl)) pss_nil)
      (pss_one (ps_ret (pe_callB (cr_all rfl) (by rfl) T.n_all (by decide +kernel) (pa_cons (pe_lc (own := [("k", 2)]) (g := gName 2) (by rfl) sc_law_same.nd  (pi_range1 (by rfl) T.n_range (pa_cons (pe_callB call_len (by rfl) T.n_len boot_len (pa_cons (pv 1) pa_nil)) pa_nil)) (blkOk_by (own := [("k", 2)]) (N := ["actual", "due", "k"]) (sc := defScope s_law_same) (by decide +kernel)) (fun _ _ _ _ _ => (pg_name (i := 2) sc_law_same.nd rfl (by first | exact Or.inl rfl | exact Or.inr rfl))) (fun _ _ _ _ _ => pts_nil) (fun _ _ _ _ _ => (pe_call G_law_same (hr.mono (by omega)) (by rfl) T.g_law_same T.F_law_same.kp T.b_law_same .nil pass0 (pa_cons (pe_ix (show IxR _ (rIx K) from ix_seq) (pv 0) (pv 2) (fun _ _ => rfl)) (pa_cons (pe_ix (show IxR _ (rIx K) from ix_seq) (pv 1) (pv 2) (fun _ _ => rfl)) pa_nil))))) pa_nil)))))) pss_nil)
      (pss_cons (ps_if (pt_cmpR op_isN (pv 1) pe_non (nomark _)) (pss_one (ps_ret (pe_cmpR op_isN (pv 0) pe_non (nomark _)))) pss_nil)
      (pss_cons (ps_if (pt_cmpR op_ne (pe_callB call_isi (by rfl) T.n_isinstance (by decide +kernel) (pa_cons (pv 1) (pa_cons (pe_bltn (v := .ty "bool") (by rfl) T.n_bool (by decide +kernel) rfl) pa_nil))) (pe_callB call_isi (by rfl) T.n_isinstance (by decide +kernel) (pa_cons (pv 0) (pa_cons (pe_bltn (v := .ty "bool") (by rfl) T.n_bool (by decide +kernel) rfl) pa_nil))) (nomark _)) (pss_one (ps_ret pe_bl)) pss_nil)
      (pss_cons (ps_if (pt_val (pe_callB call_isi (by rfl) T.n_isinstance (by decide +kernel) (pa_cons (pv 1) (pa_cons (pe_bltn (v := .ty "str") (by rfl) T.n_str (by decide +kernel) rfl) pa_nil)))) (pss_one (ps_ret (pe_and (pe_callB call_isi (by rfl) T.n_isinstance (by decide +kernel) (pa_cons (pv 0) (pa_cons (pe_bltn (v := .ty "str") (by rfl) T.n_str (by decide +kernel) rfl) pa_nil))) (pe_one (pe_cmpR op_eq (pv 0) (pv 1) (nomark _)))))) pss_nil)
      (pss_one (ps_ret (pe_and (pe_callB call_isi (by rfl) T.n_isinstance (by decide +kernel) (pa_cons (pv 0) (pa_cons (pe_bltn (v := .ty "int") (by rfl) T.n_int (by decide +kernel) rfl) pa_nil))) (pe_one (pe_cmpR op_eq (pv 0) (pv 1) (nomark _)))))))))), (rs_seq (rs_if (rt_B (re_isi2 (re_var 1))) (rs_seq (rs_if (rt_or (rt_test (re_op ro_ne (re_cb rc_isi (rv_cons (re_var 1) (rv_cons re_ty rv_nil))) (re_cb rc_isi (rv_cons (re_var 0) (rv_cons re_ty rv_nil))))) (rt_test (re_op ro_ne (re_cb rc_isi (rv_cons (re_var 1) (rv_cons re_ty rv_nil))) (re_cb rc_isi (rv_cons (re_var 0) (rv_cons re_ty rv_nil)))))) (rs_ret re_bl) rs_next)
      (rs_seq (rs_if (rt_test (re_op ro_ne (re_cb rc_len (rv_cons (re_var 0) rv_nil)) (re_cb rc_len (rv_cons (re_var 1) rv_nil)))) (rs_ret re_bl) rs_next)
      (rs_ret (re_cb rc_all (rv_cons (RL.re (rl_lc (ri_range1 (rv_cons (re_cb rc_len (rv_cons (re_var 1) rv_nil)) rv_nil)) rg_name rt_yes (re_callV (rv_cons (re_op ro_ix (re_var 0) (re_var 2)) (rv_cons (re_op ro_ix (re_var 1) (re_var 2)) rv_nil))))) rv_nil))))) rs_next)
      (rs_seq (rs_if (rt_test (re_op ro_isN (re_var 1) re_non)) (rs_ret (re_op ro_isN (re_var 0) re_non)) rs_next)
      (rs_seq (rs_if (rt_test (re_op ro_ne (re_cb rc_isi (rv_cons (re_var 1) (rv_cons re_ty rv_nil))) (re_cb rc_isi (rv_cons (re_var 0) (rv_cons re_ty rv_nil))))) (rs_ret re_bl) rs_next)
      (rs_seq (rs_if (rt_B (re_cb rc_isi (rv_cons (re_var 1) (rv_cons re_ty rv_nil)))) (rs_ret (re_and (re_cb rc_isi (rv_cons (re_var 0) (rv_cons re_ty rv_nil))) (re_op ro_eq (re_var 0) (re_var 1)))) rs_next)
      (rs_ret (re_and (re_cb rc_isi (rv_cons (re_var 0) (rv_cons re_ty rv_nil))) (re_op ro_eq (re_var 0) (re_var 1))))))))⟩) (pure_len fun ds Φ h => ?_) (fun os Φ h => ?_)
    · obtain ⟨d, rfl, _⟩ := h
      rfl
    · obtain ⟨ds, rfl, d, rfl, hp, hΦ⟩ := h
      have sq : ∀ (l : List D) (d : D) (Ω : List D → DL.Env → Prop), (d = .lst l ∨ d = .tup l) → l.length ≤ 1000000 → (∀ x ∈ l, plain n x) → Ω (List.replicate l.length (.bl true)) [some (.d d), some (.d d), none] →
          dLc (dIR1 (dCons (dCB oLen (dCons (dVar 1) dNil)) dNil)) (dName 2) dYes (dCallV (sSame n) (dCons (dOp oIx (dVar 0) (dVar 2)) (dCons (dOp oIx (dVar 1) (dVar 2)) dNil))) [2] [some (.d d), some (.d d), none] Ω := by
        intro l d Ω hd hl hx hE
        refine lc_f (rngD 0 l.length) [some (.d d), some (.d d), none] [some (.d d), some (.d d), none] (fun _ => .bl true) (fun Ψ h => ?_) rfl (by rw [rngD_len]; omega) (fun x hx' A hA => ?_) ?_
        · rcases hd with rfl | rfl <;> simp <;> exact ⟨by omega, h⟩
        · obtain ⟨i, hi, rfl⟩ := mem_rng hx'
          have g := List.getElem?_eq_getElem hi
          have hp := hx _ (List.getElem_mem hi)
          rcases hd with rfl | rfl <;> simp [g] <;> exact ⟨_, rfl, hp, hA _ rfl⟩
        · have e : (rngD 0 l.length).map (fun _ => D.bl true) = List.replicate l.length (.bl true) := by
            rw [List.map_const', rngD_len]
          rw [e]
          exact hE
      cases d <;> try exact hp.elim
      · simp; exact hΦ
      · simp; exact hΦ
      · simp; exact hΦ
      · simp; exact hΦ
      · obtain ⟨hl, hx⟩ := hp
        simp
        refine sq _ _ _ (.inr rfl) hl hx ?_
        simp [bls_rep]
        exact hΦ
      · obtain ⟨hl, hx⟩ := hp
        simp
        refine sq _ _ _ (.inl rfl) hl hx ?_
        simp [bls_rep]
        exact hΦ
end
end K48
namespace K48
open PySem PySem.Spec PyProof.Rows L2 DL
section
variable {P : Program} {w : World} {K : PySem.W.Frag} {mg : Str → Option Value} {base : Heap}
theorem ok_numbered [Tbs] (T : Txt P K mg w) (SI : Addr → Option NB.SV) (HA : ∀ f sp, NB.spA K SI f = some sp → Held P w K mg base 1 f sp) : FnOk P w K mg base CX0 2 T.a_numbered T.fd_numbered ["root", "inner_of"] (spOf K (pureS (FD.sNum SI))) := by
  refine fnD T.F_numbered sc_numbered [] (k := 1) (fun cdv A outer s H E hr => ⟨_, (pss_cons (ps_set (i := 2) sc_numbered.nd rfl (by first | exact Or.inl rfl | exact Or.inr rfl) (pe_lst pa_nil))
      (pss_cons (ps_set (i := 3) sc_numbered.nd rfl (by first | exact Or.inl rfl | exact Or.inr rfl) (pe_lst (pa_cons (pe_tup (pa_cons (pv 0) (pa_cons pe_non pa_nil))) pa_nil)))
      (pss_cons (ps_while PassesOwn.never (pt_truth (pv 3) (by intro _; rfl)) (pss_cons (ps_asg (pe_bm0 PySem.F.plainAttrs_list PySem.F.slot_list_pop PySem.F.type_list_pop mt_pop (pv 3)) (pg_tup (n := 2) (by rfl) (pgs_cons (pg_name (i := 4) sc_numbered.nd rfl (by first | exact Or.inl rfl | exact Or.inr rfl)) (pgs_cons (pg_name (i := 5) sc_numbered.nd rfl (by first | exact Or.inl rfl | exact Or.inr rfl)) pgs_nil))))
      (pss_cons (ps_set (i := 6) sc_numbered.nd rfl (by first | exact Or.inl rfl | exact Or.inr rfl) (pe_callB call_len (by rfl) T.n_len boot_len (pa_cons (pv 2) pa_nil)))
      (pss_cons (ps_expr (pe_bm PySem.F.plainAttrs_list PySem.F.slot_list_append PySem.F.type_list_append mt_append (pv 2) (pa_cons (pe_tup (pa_cons (pv 4) (pa_cons (pe_lst pa_nil) pa_nil))) pa_nil)))
      (pss_cons (ps_if (pt_cmpR op_notN (pv 5) pe_non (nomark _)) (pss_one (ps_expr (pe_bm PySem.F.plainAttrs_list PySem.F.slot_list_append PySem.F.type_list_append mt_append (pe_ix (show IxR _ (rIxT K) from ix_tup) (pe_ix (show IxR _ (rIxL K) from ix_list) (pv 2) (pv 5) (fun _ _ => rfl)) pe_int (fun _ _ => rfl)) (pa_cons (pv 6) pa_nil)))) pss_nil)
      (pss_one (ps_expr (pe_bm PySem.F.plainAttrs_list PySem.F.slot_list_extend PySem.F.type_list_extend mt_extend (pv 3) (pa_cons (pe_lc (own := [("inner", 7)]) (g := gName 7) (by rfl) sc_numbered.nd  (pi_tup (SX.pe_revT (pe_callA (i := 1) (S := NB.spA K SI) HA (hr.mono (by omega)) rfl (by first | exact Or.inl rfl | exact Or.inr (Or.inl rfl) | exact Or.inr (Or.inr rfl)) (pa_cons (pv 4) pa_nil)))) (blkOk_by (own := [("inner", 7)]) (N := ["root", "inner_of", "nodes", "waiting", "node", "outer", "number", "inner"]) (sc := defScope s_numbered) (by decide +kernel)) (fun _ _ _ _ _ => (pg_name (i := 7) sc_numbered.nd rfl (by first | exact Or.inl rfl | exact Or.inr rfl))) (fun _ _ _ _ _ => pts_nil) (fun _ _ _ _ _ => (pe_tup (pa_cons (pv 7) (pa_cons (pv 6) pa_nil))))) pa_nil)))))))))
      (pss_one (ps_ret (pv 2)))))), NB.rs_numbered⟩) (pure_len fun ds Φ h => ?_) (fun os Φ h => ?_)
  · obtain ⟨t, f, s, rfl, _⟩ := h
    rfl
  · obtain ⟨ds, rfl, t, f, s, rfl, h1, h2, h3, hΦ⟩ := h
    exact ⟨t, f, s, rfl, h1, h2, h3, fun o2 o4 o5 o6 o7 => ⟨fun i hi => (nomatch hi), hΦ⟩⟩
theorem gives_folded {X : Cx} (T : Txt X.prog X.K X.mg X.w) {I : Tbs} {SI : Addr → Option NB.SV} (HA : ∀ (J : Tbs) f sp, @NB.spA J X.K SI f = some sp → Held X.prog X.w X.K X.mg X.base 1 f sp) {cdg : Value} (m : Nat) (q : Str) :
    CLX.Gives X ["root", "inner_of", "tell", "nodes", "told", "number", "node", "numbers", "k"] "folded" (defScope s_folded) T.a_folded cdg (defBody s_folded) "tell" 2 2 (m + 2) q (FD.TTf I X.K SI) := by
  intro f c' s H Q vs tl hr HL hco hf hT
  refine FD.fold_run rfl hco hT fun J sL hJT HC HT => ?_
  let K : PySem.W.Frag := X.K
  have G_numbered : FnOk X.prog X.w X.K X.mg X.base CX0 2 T.a_numbered T.fd_numbered ["root", "inner_of"] (@spOf J X.K (pureS (FD.sNum SI))) := @ok_numbered _ _ _ _ _ J T SI (HA J)
  exact ⟨_, (pss_cons (ps_set (i := 3) sc_folded.nd rfl (by first | exact Or.inl rfl | exact Or.inr rfl) (pe_call G_numbered (hr.mono (by omega)) (by rfl) T.g_numbered T.F_numbered.kp T.b_numbered .nil pass0 (pa_cons (pv 0) (pa_cons (pv 1) pa_nil))))
      (pss_cons (ps_set (i := 4) sc_folded.nd rfl (by first | exact Or.inl rfl | exact Or.inr rfl) (pe_op op_rep (pe_lst (pa_cons pe_non pa_nil)) (pe_callB call_len (by rfl) T.n_len boot_len (pa_cons (pv 3) pa_nil))))
      (pss_cons (ps_for PassesOwn.never rfl (pi_range3 (by rfl) T.n_range (pa_cons (pe_op op_sub (pe_callB call_len (by rfl) T.n_len boot_len (pa_cons (pv 3) pa_nil)) pe_int) (pa_cons (pe_un un_neg pe_int) (pa_cons (pe_un un_neg pe_int) pa_nil)))) (pg_name (i := 5) sc_folded.nd rfl (by first | exact Or.inl rfl | exact Or.inr rfl)) (pss_cons (ps_asg (pe_ix (show IxR _ (rIxL K) from ix_list) (pv 3) (pv 5) (fun _ _ => rfl)) (pg_tup (n := 2) (by rfl) (pgs_cons (pg_name (i := 6) sc_folded.nd rfl (by first | exact Or.inl rfl | exact Or.inr rfl)) (pgs_cons (pg_name (i := 7) sc_folded.nd rfl (by first | exact Or.inl rfl | exact Or.inr rfl)) pgs_nil))))
      (pss_one (ps_asg (HL _ _ _ _ _ _ _ (pa_cons (pv 6) (pa_cons (pe_lc (own := [("k", 8)]) (g := gName 8) (by rfl) sc_folded.nd  (pi_list (pv 7)) (blkOk_by (own := [("k", 8)]) (N := ["root", "inner_of", "tell", "nodes", "told", "number", "node", "numbers", "k"]) (sc := defScope s_folded) (by decide +kernel)) (fun _ _ _ _ _ => (pg_name (i := 8) sc_folded.nd rfl (by first | exact Or.inl rfl | exact Or.inr rfl))) (fun _ _ _ _ _ => pts_nil) (fun _ _ _ _ _ => (pe_ix (show IxR _ (rIxL K) from ix_list) (pv 4) (pv 8) (fun _ _ => rfl)))) pa_nil)) rfl rfl) (pg_sub (pv 4) (pv 5) set_list)))))
      (pss_one (ps_ret (pe_ix (show IxR _ (rIxL K) from ix_list) (pv 4) pe_int (fun _ _ => rfl))))))), (rs_seq (rs_asg (re_callV (rv_cons (re_var 0) (rv_cons (re_var 1) rv_nil))) rg_name)
      (rs_seq (rs_setL (rl_op rol_rep (RL.re (rl_lst (rv_cons re_non rv_nil))) (re_lenS (i := 3))))
      (rs_seq (rs_for (ri_range3 (rv_cons (re_op ro_I0 (re_lenS (i := 3)) re_int) (rv_cons (re_neg re_int) (rv_cons (re_neg re_int) rv_nil)))) rg_name (rs_seq (rs_asg (re_ixS (i := 3) (re_var 5)) (rg_tup (rgs_cons rg_name (rgs_cons rg_name rgs_nil))))
      (rs_putL (i := 4) (FD.re_tell (i := 2) HC HT (rv_cons (re_var 6) (rv_cons (RL.re (rl_lc (ri_list (re_var 7)) rg_name rt_yes (re_ixS (i := 4) (re_var 8)))) rv_nil))) (re_var 5))))
      (rs_ret (re_ixS (i := 4) re_int)))))⟩
end
end K48
namespace K48
open PySem PySem.Spec PyProof.Rows L2 DL
/-! ### folded with a lambda; least_content -/
theorem pe_folded {X : Cx} (T : Txt X.prog X.K X.mg X.w) [I : Tbs] {SI : Addr → Option NB.SV} (HA : ∀ (J : Tbs) f sp, @NB.spA J X.K SI f = some sp → Held X.prog X.w X.K X.mg X.base 1 f sp) {m : Nat} {c Pt : Addr} {params : Arguments} {body : Expr} {scope : Scope}
    {t1 t2 tb : TE} {e1 e2 : Expr} {p lpos pos : Pos} {N ps fr : List Str} {js : List Nat} (hg : Gl X "folded") (TB : LamX.TabB X.base X.mg c Pt) (hcode : X.env.code = .ref c) (hmT : (Pt, X.env.qual ++ "<lambda>") ∈ Tbs.T) (hu : ∀ p ∈ Tbs.T, p.1 = Pt → p.2 = X.env.qual ++ "<lambda>")
    (hr : Room (m + 3) X.A) (S : NdefX.NScope N ps fr scope) (hfree : ∀ y ∈ scope.names, y.2 = .free → X.env.scope.names.lookup y.1 = some .cell ∨ X.env.scope.names.lookup y.1 = some .free) (hfr : ∀ y ∈ fr, (y, NameKind.free) ∈ scope.names) (hjs : js.map (fun j => X.N[j]?) = fr.map some) (hdef : defaultsOf params X.env = ([], []))
    (hbind : ∀ (q : Str) (cl : List (Str × Addr)) (pm cv ctv : Value) (us : List Value), us.length = ps.length → bindArgs (PySem.W.kla_fn "<lambda>" q params body scope cl pm cv ctv) ⟨us, []⟩ = pure (ps.zip us))
    (hbody : ∀ (A : Around) (outer : List PySem.Env) (s : Shared) (H : Hp) (f c' : Addr), Room (m + 1) (A.deeper (NdefX.envF (CLX.lamF (X.env.qual ++ "<lambda>") params scope (cloFrom X.env.cells scope.names []) c') f s.heap.objs.size)) →
      PE (NdefX.ncx C8.CX0 X.prog X.w X.K X.mg X.base N (CLX.lamF (X.env.qual ++ "<lambda>") params scope (cloFrom X.env.cells scope.names []) c') f A outer s H CLX.E0) body tb)
    (h1 : PE X e1 t1) (h2 : PE X e2 t2) (hp2 : ps.length = 2 := by rfl)
    (hs1 : starEach [e1, e2, .Lambda params body scope lpos] X.env = [(false, eval e1 X.env), (false, eval e2 X.env), (false, eval (.Lambda params body scope lpos) X.env)] := by rfl)
    (he : starEach [e1, e2, .Lambda params body scope lpos] X.env = (false, eval e1 X.env) :: starEach [e2, .Lambda params body scope lpos] X.env := by rfl) (hpl : (backTo pos (starEach [e2, .Lambda params body scope lpos] X.env)).any (·.1) = false := by rfl) :
    PE X (.Call (.Name "folded" p) [e1, e2, .Lambda params body scope lpos] [] pos) (CLX.tGive Tbs.T (FD.TTf I X.K SI) (tCons t1 (tCons t2 tNil)) fun σ vs HZ1 Q => tb (NdefX.startF N vs (js.map (NdefX.slotAt σ))) HZ1 Q) := by
  obtain ⟨oc, od, kV, doc, pm, an, cdg, ct, osl, efd, lkF, hcF⟩ := T.F_folded.ex
  have hb := T.b_folded
  rw [efd] at hb lkF
  exact CLX.pe_give (k := m + 1) hg T.g_folded T.F_folded.kp lkF hcF hb sc_folded rfl rfl (.inl rfl) (by rw [hp2]; exact gives_folded T HA m _) TB hcode hmT hu hr S hfree hfr hjs hdef hbind hbody h1 h2 (by decide) (by decide) (by decide) hs1 he hpl
end K48
namespace K48
open PySem PySem.Spec PyProof.Rows L2 DL FD MF
/-! ### the looks of the program -/
def bls (l : List Bool) : D := .lst (l.map .bl)
def natsD (l : List Nat) : D := .lst (l.map fun k => .int (k : Nat))
def rowsD (l : List (List Nat)) : D := .lst (l.map natsD)
def optD : Option Nat → D
  | none => .non
  | some k => .int (k : Nat)
def famD (C : Addr) (ns : List Str) (F : Fam) : D := .obj C [("names", .lst (ns.map .str)), ("rows", rowsD F.rows), ("parents", .lst (F.par.map optD))]
@[simp] theorem fam_1 (a b c : D) : valD [(("names" : Str), a), ("rows", b), ("parents", c)] "names" = some a := rfl
@[simp] theorem fam_2 (a b c : D) : valD [(("names" : Str), a), ("rows", b), ("parents", c)] "rows" = some b := rfl
@[simp] theorem fam_3 (a b c : D) : valD [(("names" : Str), a), ("rows", b), ("parents", c)] "parents" = some c := rfl
theorem vec_at {n : Nat} {h : Nat → Bool} {k : Nat} (hk : k < n) : ((vec n h).map D.bl)[k]? = some (.bl (h k)) := by
  rw [List.getElem?_map, vec_get hk]
  rfl
theorem any_id (l : List Nat) (h : Nat → Bool) : (l.map h).any id = l.any h := by
  rw [List.any_map]
  rfl
def sLk (C : Addr) (l : Lk) : NB.SV := fun ds Φ => ∃ (ns : List Str) (F : Fam) (h : Nat → Bool), ds = [famD C ns F, bls (vec F.n h)] ∧ GF F ∧ F.n ≤ 1000000 ∧ Φ (bls (vec F.n (lk F l h)))
section
variable [I : Tbs] {P : Program} {w : World} {K : PySem.W.Frag} {mg : Str → Option Value} {base : Heap}
theorem ok_child (T : Txt P K mg w) : FnOk P w K mg base CX0 1 T.a_holds_child T.fd_holds_child ["family", "holds"] (spOf K (pureS (sLk T.C_Family .child))) := by
  refine fnD T.F_holds_child sc_holds_child [] (k := 0) (fun cdv A outer s H E hr => ⟨_, (pss_one (ps_ret (pe_lc (own := [("row", 3)]) (g := gName 3) (by rfl) sc_holds_child.nd  (pi_list (pe_fld (pv 0) rfl)) (blkOk_by (own := [("row", 3)]) (N := ["family", "holds", "child", "row"]) (sc := defScope s_holds_child) (by decide +kernel)) (fun _ _ _ _ _ => (pg_name (i := 3) sc_holds_child.nd rfl (by first | exact Or.inl rfl | exact Or.inr rfl))) (fun _ _ _ _ _ => pts_nil) (fun _ _ _ _ _ => (pe_callB (cr_any rfl) (by rfl) T.n_any (by decide +kernel) (pa_cons (pe_lc (own := [("child", 2)]) (g := gName 2) (by rfl) sc_holds_child.nd  (pi_list (pv 3)) (by exact blkOk_by (own := [("child", 2)]) (by kernel_rfl)) (fun _ _ _ _ _ => (pg_name (i := 2) sc_holds_child.nd rfl (by first | exact Or.inl rfl | exact Or.inr rfl))) (fun _ _ _ _ _ => pts_nil) (fun _ _ _ _ _ => (pe_ix (show IxR _ (rIxL K) from ix_list) (pv 1) (pv 2) (fun _ _ => rfl)))) pa_nil)))))), (rs_ret (RL.re (rl_lc (ri_list (re_fld T.cl_Family T.n_Family_rows (re_var 0))) rg_name rt_yes (re_cb rc_any (rv_cons (RL.re (rl_lc (ri_list (re_var 3)) rg_name rt_yes (re_ixS (i := 1) (re_var 2)))) rv_nil)))))⟩) (pure_len fun ds Φ h => ?_) (fun os Φ h => ?_)
  · obtain ⟨ns, F, h, rfl, _⟩ := h
    rfl
  · obtain ⟨ds, rfl, ns, F, h, rfl, g, hn, hΦ⟩ := h
    simp [famD, bls, rowsD]
    generalize hfd : D.obj T.C_Family _ = fd
    generalize hvd : D.lst (List.map D.bl (vec F.n h)) = vd
    refine lc_z (F.rows.map natsD) ((vec F.n (lk F .child h)).map D.bl) [some (.d fd), some (.d vd), none, none] [some (.d fd), some (.d vd), none, none] (fun Ψ q => ?_) rfl (by rw [List.length_map]; exact Nat.le_trans hn (by decide)) (by rw [List.length_map, List.length_map, vec_len]; rfl) (fun k x e hx he A hA => ?_) ?_
    · subst hfd
      simpa using q
    · have hk : k < F.n := by
        have := (List.getElem?_eq_some_iff.mp hx).1
        rwa [List.length_map] at this
      rw [List.getElem?_map, List.getElem?_eq_getElem hk] at hx
      cases hx
      rw [vec_at hk] at he
      cases he
      have hr := List.getElem_mem hk
      have ek := kids_get (List.getElem?_eq_getElem hk)
      generalize F.rows[k] = r at hr ek
      obtain ⟨h1, h2⟩ := g.row hr
      simp [natsD]
      refine lc_z (r.map fun k => .int (k : Nat)) (r.map fun c => D.bl (h c)) [some (.d fd), some (.d vd), none, some (.d (natsD r))] [some (.d fd), some (.d vd), none, some (.d (natsD r))] (fun Ψ q => ?_) rfl (by rw [List.length_map]; exact Nat.le_trans h1 (Nat.le_trans hn (by decide))) (by rw [List.length_map, List.length_map]) (fun j x e hx he B hB => ?_) ?_
      · simpa [natsD] using q
      · rw [List.getElem?_map] at hx he
        cases hc : r[j]? with
        | none => rw [hc] at hx; cases hx
        | some c =>
          rw [hc] at hx he
          cases hx
          cases he
          subst hvd
          simp [vec_at (h2 c (List.mem_of_getElem? hc))]
          exact hB _ rfl
      · simp
        refine ⟨r.map h, ?_, ?_⟩
        · rw [← blsD_map (r.map h), List.map_map]
          rfl
        · rw [any_id]
          have e1 : (.bl (lk F .child h k) : D) = .bl (r.any h) := by rw [lk, ek]
          rw [e1] at hA
          exact hA _ rfl
    · simp
      subst hfd
      subst hvd
      exact hΦ
end
end K48
namespace K48
open PySem PySem.Spec PyProof.Rows L2 DL FD MF
theorem gb_at {l : List Bool} {k : Nat} (hk : k < l.length) : (l.map D.bl)[k]? = some (.bl (gb l k)) := by
  unfold gb
  rw [List.getElem?_map, List.getElem?_eq_getElem hk]
  rfl
theorem par_at {F : Fam} {k p : Nat} (h : par F k = some p) : (F.par.map optD)[k]? = some (.int (p : Nat)) := by
  unfold par at h
  rw [List.getElem?_map]
  cases e : F.par[k]? with
  | none => rw [e] at h; cases h
  | some o =>
    rw [e] at h
    cases h
    rfl
theorem rep_bl (n : Nat) : List.replicate n (D.bl false) = (List.replicate n false).map .bl := by rw [List.map_replicate]
theorem set_bl (l : List Bool) (i : Nat) (v : Bool) : (l.map D.bl).set i (.bl v) = (l.set i v).map .bl := by rw [List.map_set]
theorem ixN_nat {n k : Nat} (h : k < n) : ixN n (k : Int) = some k := by
  unfold ixN
  rw [if_pos (by omega), if_pos (by omega)]
  rfl
/-- the names of a look's loop -/
def LI (A : Nat → List Bool → Prop) (fd vd : D) (j : Nat) (ρ : DL.Env) : Prop := ∃ l o, ρ = [some (.d fd), some (.d vd), some (.l (l.map .bl)), o] ∧ A j l
theorem LI.mk {A : Nat → List Bool → Prop} {fd vd : D} {j : Nat} {x : List D} {l : List Bool} {o : Option OV} (e : x = l.map .bl) (h : A j l) : LI A fd vd j [some (.d fd), some (.d vd), some (.l x), o] := by
  subst e
  exact ⟨_, _, rfl, h⟩
def LJ (A : Nat → List Bool → Prop) (fd vd : D) (j : Nat) (ρ : DL.Env) : Prop := ∃ l o o', ρ = [some (.d fd), some (.d vd), some (.l (l.map .bl)), o, o'] ∧ A j l
theorem LJ.mk {A : Nat → List Bool → Prop} {fd vd : D} {j : Nat} {x : List D} {l : List Bool} {o o' : Option OV} (e : x = l.map .bl) (h : A j l) : LJ A fd vd j [some (.d fd), some (.d vd), some (.l x), o, o'] := by
  subst e
  exact ⟨_, _, _, rfl, h⟩
section
variable [I : Tbs] {P : Program} {w : World} {K : PySem.W.Frag} {mg : Str → Option Value} {base : Heap}
theorem ok_parent (T : Txt P K mg w) : FnOk P w K mg base CX0 1 T.a_holds_parent T.fd_holds_parent ["family", "holds"] (spOf K (pureS (sLk T.C_Family .parent))) := by
  refine fnD T.F_holds_parent sc_holds_parent [] (k := 0) (fun cdv A outer s H E hr => ⟨_, (pss_one (ps_ret (pe_lc (own := [("parent", 2)]) (g := gName 2) (by rfl) sc_holds_parent.nd  (pi_list (pe_fld (pv 0) rfl)) (blkOk_by (own := [("parent", 2)]) (N := ["family", "holds", "parent"]) (sc := defScope s_holds_parent) (by decide +kernel)) (fun _ _ _ _ _ => (pg_name (i := 2) sc_holds_parent.nd rfl (by first | exact Or.inl rfl | exact Or.inr rfl))) (fun _ _ _ _ _ => pts_nil) (fun _ _ _ _ _ => (pe_and (pe_cmpR op_notN (pv 2) pe_non (nomark _)) (pe_one (pe_ix (show IxR _ (rIxL K) from ix_list) (pv 1) (pv 2) (fun _ _ => rfl)))))))), (rs_ret (RL.re (rl_lc (ri_list (re_fld T.cl_Family T.n_Family_parents (re_var 0))) rg_name rt_yes (re_and (re_op ro_notN (re_var 2) re_non) (re_ixS (i := 1) (re_var 2))))))⟩) (pure_len fun ds Φ h => ?_) (fun os Φ h => ?_)
  · obtain ⟨ns, F, h, rfl, _⟩ := h
    rfl
  · obtain ⟨ds, rfl, ns, F, h, rfl, g, hn, hΦ⟩ := h
    simp [famD, bls, rowsD]
    generalize hfd : D.obj T.C_Family _ = fd
    generalize hvd : D.lst (List.map D.bl (vec F.n h)) = vd
    refine lc_z (F.par.map optD) ((vec F.n (lk F .parent h)).map D.bl) [some (.d fd), some (.d vd), none] [some (.d fd), some (.d vd), none] (fun Ψ q => ?_) rfl (by rw [List.length_map, g.plen]; exact Nat.le_trans hn (by decide)) (by rw [List.length_map, List.length_map, vec_len, g.plen]) (fun k x e hx he A hA => ?_) ?_
    · subst hfd
      simpa using q
    · have hk : k < F.par.length := by
        have := (List.getElem?_eq_some_iff.mp hx).1
        rwa [List.length_map] at this
      have hk2 : k < F.n := by rw [← g.plen]; exact hk
      have ep : par F k = F.par[k] := by unfold par; rw [List.getElem?_eq_getElem hk]; rfl
      rw [List.getElem?_map, List.getElem?_eq_getElem hk] at hx
      cases hx
      rw [vec_at hk2] at he
      cases he
      have e1 : lk F .parent h k = match F.par[k] with
          | some p => h p
          | none => false := by rw [← ep]; rfl
      rw [e1] at hA
      generalize F.par[k] = o at ep hA
      cases o with
      | none =>
        simp [optD]
        exact hA _ rfl
      | some p =>
        subst hvd
        have := g.lt ep
        simp [optD, vec_at (show p < F.n by omega)]
        exact hA _ rfl
    · simp
      subst hfd
      subst hvd
      exact hΦ
theorem ok_below (T : Txt P K mg w) : FnOk P w K mg base CX0 1 T.a_holds_below T.fd_holds_below ["family", "holds"] (spOf K (pureS (sLk T.C_Family .below))) := by
  refine fnD T.F_holds_below sc_holds_below [] (k := 0) (fun cdv A outer s H E hr => ⟨_, (pss_cons (ps_set (i := 2) sc_holds_below.nd rfl (by first | exact Or.inl rfl | exact Or.inr rfl) (pe_op op_rep (pe_lst (pa_cons pe_bl pa_nil)) (pe_callB call_len (by rfl) T.n_len boot_len (pa_cons (pv 1) pa_nil))))
      (pss_cons (ps_for PassesOwn.never rfl (pi_range3 (by rfl) T.n_range (pa_cons (pe_op op_sub (pe_callB call_len (by rfl) T.n_len boot_len (pa_cons (pv 1) pa_nil)) pe_int) (pa_cons pe_int (pa_cons (pe_un un_neg pe_int) pa_nil)))) (pg_name (i := 3) sc_holds_below.nd rfl (by first | exact Or.inl rfl | exact Or.inr rfl)) (pss_one (ps_if (PW.pt (pw_or (pt_val (pe_ix (show IxR _ (rIxL K) from ix_list) (pv 1) (pv 3) (fun _ _ => rfl))) (pw_or1 (pt_val (pe_ix (show IxR _ (rIxL K) from ix_list) (pv 2) (pv 3) (fun _ _ => rfl)))))) (pss_one (ps_asg pe_bl (pg_sub (pv 2) (pe_ix (show IxR _ (rIxL K) from ix_list) (pe_fld (pv 0) rfl) (pv 3) (fun _ _ => rfl)) set_list))) pss_nil)))
      (pss_one (ps_ret (pv 2))))), (rs_seq (rs_setL (rl_op rol_rep (RL.re (rl_lst (rv_cons re_bl rv_nil))) (re_lenS (i := 1))))
      (rs_seq (rs_for (ri_range3 (rv_cons (re_op ro_I0 (re_lenS (i := 1)) re_int) (rv_cons re_int (rv_cons (re_neg re_int) rv_nil)))) rg_name (rs_if (rt_or (rt_B (re_ixS (i := 1) (re_var 3))) (rt_B (re_ixS (i := 2) (re_var 3)))) (rs_putL (i := 2) re_bl (re_op ro_ixL (re_fld T.cl_Family T.n_Family_parents (re_var 0)) (re_var 3))) rs_next))
      (rs_ret (re_var 2))))⟩) (pure_len fun ds Φ h => ?_) (fun os Φ h => ?_)
  · obtain ⟨ns, F, h, rfl, _⟩ := h
    rfl
  · obtain ⟨ds, rfl, ns, F, h, rfl, g, hn, hΦ⟩ := h
    have hp := g.pos
    simp [famD, bls, rowsD, vec_len]
    refine ⟨by omega, by omega, ?_⟩
    generalize hfd : D.obj T.C_Family _ = fd
    generalize hvd : D.lst (List.map D.bl (vec F.n h)) = vd
    refine for_inv (rngDn ((F.n : Int) - 1) (F.n - 1)) [some (.d fd), some (.d vd), some (.l (List.replicate F.n (.bl false))), none] (LI (BelI F h) fd vd) (fun Ψ q => ?_) (.mk (rep_bl _) (BelI.start g h)) ?_ ?_
    · subst hvd
      simp [vec_len]
      refine ⟨_, _, ⟨rfl, rfl⟩, ⟨by omega, by omega, by omega, by omega⟩, ?_⟩
      rw [show ((F.n : Int) - 1 - 0).toNat = F.n - 1 by omega]
      exact q
    · rintro j x ρ hx ⟨l, o, rfl, J⟩
      have hj : j < F.n - 1 := by
        have := (List.getElem?_eq_some_iff.mp hx).1
        rwa [rngDn_len] at this
      rw [rngDn_get hj] at hx
      cases hx
      obtain ⟨c, hc⟩ : ∃ c, c = F.n - 1 - j := ⟨_, rfl⟩
      have ec : (F.n : Int) - 1 - (j : Nat) = (c : Nat) := by omega
      obtain ⟨p, ep⟩ := g.has c (by omega) (by omega)
      have hpl := g.lt ep
      have st := J.step g (show c + j + 1 = F.n by omega) ep
      have ev := J.at g (show F.n ≤ c + j + 1 by omega) (show c < F.n by omega)
      have el := gb_at (l := l) (k := c) (by rw [J.len]; omega)
      rw [ec]
      subst hvd
      simp [vec_at (show c < F.n by omega), el, ev]
      cases q1 : h c with
      | true =>
        rw [q1, Bool.true_or, if_pos rfl] at st
        subst hfd
        simp [par_at ep, J.len, ixN_nat (show p < F.n by omega)]
        exact .mk (set_bl _ _ _) st
      | false =>
        cases q2 : bel F h F.n c with
        | true =>
          rw [q1, q2, Bool.false_or, if_pos rfl] at st
          subst hfd
          simp [par_at ep, J.len, ixN_nat (show p < F.n by omega)]
          exact .mk (set_bl _ _ _) st
        | false =>
          rw [q1, q2, Bool.false_or, if_neg Bool.false_ne_true] at st
          simp
          exact .mk rfl st
    · rintro ρ ⟨l, o, rfl, J⟩
      rw [rngDn_len] at J
      rw [J.done g]
      simp
      subst hfd
      subst hvd
      exact hΦ
theorem ok_above (T : Txt P K mg w) : FnOk P w K mg base CX0 1 T.a_holds_above T.fd_holds_above ["family", "holds"] (spOf K (pureS (sLk T.C_Family .above))) := by
  refine fnD T.F_holds_above sc_holds_above [] (k := 0) (fun cdv A outer s H E hr => ⟨_, (pss_cons (ps_set (i := 2) sc_holds_above.nd rfl (by first | exact Or.inl rfl | exact Or.inr rfl) (pe_op op_rep (pe_lst (pa_cons pe_bl pa_nil)) (pe_callB call_len (by rfl) T.n_len boot_len (pa_cons (pv 1) pa_nil))))
      (pss_cons (ps_for PassesOwn.never rfl (pi_range2 (by rfl) T.n_range (pa_cons pe_int (pa_cons (pe_callB call_len (by rfl) T.n_len boot_len (pa_cons (pv 1) pa_nil)) pa_nil))) (pg_name (i := 3) sc_holds_above.nd rfl (by first | exact Or.inl rfl | exact Or.inr rfl)) (pss_cons (ps_set (i := 4) sc_holds_above.nd rfl (by first | exact Or.inl rfl | exact Or.inr rfl) (pe_ix (show IxR _ (rIxL K) from ix_list) (pe_fld (pv 0) rfl) (pv 3) (fun _ _ => rfl)))
      (pss_one (ps_asg (pe_or (pe_ix (show IxR _ (rIxL K) from ix_list) (pv 1) (pv 4) (fun _ _ => rfl)) (pe_one (pe_ix (show IxR _ (rIxL K) from ix_list) (pv 2) (pv 4) (fun _ _ => rfl)))) (pg_sub (pv 2) (pv 3) set_list)))))
      (pss_one (ps_ret (pv 2))))), (rs_seq (rs_setL (rl_op rol_rep (RL.re (rl_lst (rv_cons re_bl rv_nil))) (re_lenS (i := 1))))
      (rs_seq (rs_for (ri_range2 (rv_cons re_int (rv_cons (re_lenS (i := 1)) rv_nil))) rg_name (rs_seq (rs_asg (re_op ro_ixL (re_fld T.cl_Family T.n_Family_parents (re_var 0)) (re_var 3)) rg_name)
      (rs_putL (i := 2) (re_or (re_ixS (i := 1) (re_var 4)) (re_ixS (i := 2) (re_var 4))) (re_var 3))))
      (rs_ret (re_var 2))))⟩) (pure_len fun ds Φ h => ?_) (fun os Φ h => ?_)
  · obtain ⟨ns, F, h, rfl, _⟩ := h
    rfl
  · obtain ⟨ds, rfl, ns, F, h, rfl, g, hn, hΦ⟩ := h
    have hp := g.pos
    simp [famD, bls, rowsD, vec_len]
    refine ⟨by omega, by omega, ?_⟩
    generalize hfd : D.obj T.C_Family _ = fd
    generalize hvd : D.lst (List.map D.bl (vec F.n h)) = vd
    refine for_inv (rngD 1 (F.n - 1)) [some (.d fd), some (.d vd), some (.l (List.replicate F.n (.bl false))), none, none] (LJ (AbvI F h) fd vd) (fun Ψ q => ?_) (.mk (rep_bl _) (AbvI.start g h)) ?_ ?_
    · subst hvd
      simp [vec_len]
      refine ⟨_, _, ⟨rfl, rfl⟩, ⟨by omega, by omega, by omega, by omega⟩, ?_⟩
      rw [show ((F.n : Int) - 1).toNat = F.n - 1 by omega]
      exact q
    · rintro j x ρ hx ⟨l, o, o4, rfl, J⟩
      have hj : j < F.n - 1 := by
        have := (List.getElem?_eq_some_iff.mp hx).1
        rwa [rngD_len] at this
      rw [rngD_get hj] at hx
      cases hx
      obtain ⟨p, ep⟩ := g.has (j + 1) (by omega) (by omega)
      have hpl := g.lt ep
      have st := J.step g (by omega) ep
      have el := gb_at (l := l) (k := p) (by rw [J.len]; omega)
      rw [show (1 : Int) + (j : Nat) = ((j + 1 : Nat) : Int) by omega]
      generalize hc : j + 1 = c at *
      subst hvd
      subst hfd
      simp [par_at ep, vec_at (show p < F.n by omega), el, J.len, ixN_nat (show c < F.n by omega)]
      cases q1 : h p with
      | true =>
        rw [q1, Bool.true_or] at st
        simp [J.len, ixN_nat (show c < F.n by omega)]
        exact .mk (set_bl _ _ _) st
      | false =>
        rw [q1, Bool.false_or] at st
        simp [el, J.len, ixN_nat (show c < F.n by omega)]
        exact .mk (set_bl _ _ _) st
    · rintro ρ ⟨l, o, o4, rfl, J⟩
      rw [rngD_len] at J
      rw [J.done g]
      simp
      subst hfd
      subst hvd
      exact hΦ
end
end K48
namespace K48
open PySem PySem.Spec PyProof.Rows L2 DL FD MF
def sBef : NB.SV := fun ds Φ => ∃ (rows : List (List Nat)) (n : Nat) (h : Nat → Bool), ds = [rowsD rows, bls (vec n h)] ∧ Apart rows ∧ n ≤ 1000000 ∧ rows.length ≤ 1000000 ∧ (∀ r ∈ rows, r.length ≤ n ∧ ∀ c ∈ r, c < n) ∧ Φ (bls (vec n (bef rows h)))
/-- the names of the loop over rows -/
def LR (n : Nat) (rows : List (List Nat)) (h : Nat → Bool) (rd vd : D) (j : Nat) (ρ : DL.Env) : Prop := ∃ l o3 o4 o5, ρ = [some (.d rd), some (.d vd), some (.l (l.map .bl)), o3, o4, o5] ∧ BefI n rows h j l
theorem LR.mk {n : Nat} {rows : List (List Nat)} {h : Nat → Bool} {rd vd : D} {j : Nat} {x : List D} {l : List Bool} {o3 o4 o5 : Option OV} (e : x = l.map .bl) (q : BefI n rows h j l) : LR n rows h rd vd j [some (.d rd), some (.d vd), some (.l x), o3, o4, o5] := by
  subst e
  exact ⟨_, _, _, _, rfl, q⟩
/-- .. in a row -/
def LN (n : Nat) (r : List Nat) (h : Nat → Bool) (l0 : List Bool) (rd vd : D) (m : Nat) (ρ : DL.Env) : Prop := ∃ l o5, ρ = [some (.d rd), some (.d vd), some (.l (l.map .bl)), some (.d (natsD r)), some (.d (.bl ((r.take m).any h))), o5] ∧ RowI n r h l0 m l
theorem LN.mk {n : Nat} {r : List Nat} {h : Nat → Bool} {l0 : List Bool} {rd vd : D} {m : Nat} {x : List D} {b : Bool} {l : List Bool} {o5 : Option OV} (e : x = l.map .bl) (eb : b = (r.take m).any h) (q : RowI n r h l0 m l) : LN n r h l0 rd vd m [some (.d rd), some (.d vd), some (.l x), some (.d (natsD r)), some (.d (.bl b)), o5] := by
  subst e
  subst eb
  exact ⟨_, _, rfl, q⟩
section
variable [I : Tbs] {P : Program} {w : World} {K : PySem.W.Frag} {mg : Str → Option Value} {base : Heap}
theorem ok_before (T : Txt P K mg w) : FnOk P w K mg base CX0 1 T.a_holds_before T.fd_holds_before ["rows", "holds"] (spOf K (pureS sBef)) := by
  refine fnD T.F_holds_before sc_holds_before [] (k := 0) (fun cdv A outer s H E hr => ⟨_, (pss_cons (ps_set (i := 2) sc_holds_before.nd rfl (by first | exact Or.inl rfl | exact Or.inr rfl) (pe_op op_rep (pe_lst (pa_cons pe_bl pa_nil)) (pe_callB call_len (by rfl) T.n_len boot_len (pa_cons (pv 1) pa_nil))))
      (pss_cons (ps_for PassesOwn.never rfl (pi_list (pv 0)) (pg_name (i := 3) sc_holds_before.nd rfl (by first | exact Or.inl rfl | exact Or.inr rfl)) (pss_cons (ps_set (i := 4) sc_holds_before.nd rfl (by first | exact Or.inl rfl | exact Or.inr rfl) pe_bl)
      (pss_one (ps_for PassesOwn.never rfl (pi_list (pv 3)) (pg_name (i := 5) sc_holds_before.nd rfl (by first | exact Or.inl rfl | exact Or.inr rfl)) (pss_cons (ps_asg (pv 4) (pg_sub (pv 2) (pv 5) set_list))
      (pss_one (ps_set (i := 4) sc_holds_before.nd rfl (by first | exact Or.inl rfl | exact Or.inr rfl) (pe_or (pv 4) (pe_one (pe_ix (show IxR _ (rIxL K) from ix_list) (pv 1) (pv 5) (fun _ _ => rfl)))))))))))
      (pss_one (ps_ret (pv 2))))), (rs_seq (rs_setL (rl_op rol_rep (RL.re (rl_lst (rv_cons re_bl rv_nil))) (re_lenS (i := 1))))
      (rs_seq (rs_for (ri_list (re_var 0)) rg_name (rs_seq (rs_asg re_bl rg_name)
      (rs_for (ri_list (re_var 3)) rg_name (rs_seq (rs_putL (i := 2) (re_var 4) (re_var 5))
      (rs_asg (re_or (re_var 4) (re_ixS (i := 1) (re_var 5))) rg_name)))))
      (rs_ret (re_var 2))))⟩) (pure_len fun ds Φ h => ?_) (fun os Φ h => ?_)
  · obtain ⟨rows, n, h, rfl, _⟩ := h
    rfl
  · obtain ⟨ds, rfl, rows, n, h, rfl, ap, hn, hrl, hrr, hΦ⟩ := h
    simp [bls, vec_len]
    refine ⟨by omega, by omega, ?_⟩
    generalize hvd : D.lst (List.map D.bl (vec n h)) = vd
    generalize hrd : rowsD rows = rd
    refine for_inv (rows.map natsD) [some (.d rd), some (.d vd), some (.l (List.replicate n (.bl false))), none, none, none] (LR n rows h rd vd) (fun Ψ q => ?_) (.mk (rep_bl _) BefI.start) ?_ ?_
    · subst hrd
      simp [rowsD]
      exact q
    · rintro j x ρ hx ⟨l0, o3, o4, o5, rfl, J⟩
      rw [List.getElem?_map] at hx
      cases er : rows[j]? with
      | none => rw [er] at hx; cases hx
      | some r =>
        rw [er] at hx
        cases hx
        obtain ⟨h1, h2⟩ := hrr r (List.mem_of_getElem? er)
        have nd := ap.1 r (List.mem_of_getElem? er)
        simp
        refine for_inv (r.map fun k => .int (k : Nat)) [some (.d rd), some (.d vd), some (.l (l0.map .bl)), some (.d (natsD r)), some (.d (.bl false)), o5] (LN n r h l0 rd vd) (fun Ψ q => ?_) (.mk rfl rfl (.start J.len)) ?_ ?_
        · simp [natsD]
          exact q
        · rintro m x ρ hx ⟨l, o5, rfl, N⟩
          rw [List.getElem?_map] at hx
          cases ec : r[m]? with
          | none => rw [ec] at hx; cases hx
          | some c =>
            rw [ec] at hx
            cases hx
            have hc := h2 c (List.mem_of_getElem? ec)
            have st := N.step nd ec hc
            have et : (r.take (m + 1)).any h = ((r.take m).any h || h c) := by
              rw [List.take_add_one, ec]
              simp
            generalize hb : (r.take m).any h = bb at st et ⊢
            subst hvd
            simp [N.len, ixN_nat hc, vec_at hc]
            cases bb with
            | true =>
              simp
              exact .mk (set_bl _ _ _) (by rw [et, Bool.true_or]) st
            | false =>
              simp
              exact .mk (set_bl _ _ _) (by rw [et, Bool.false_or]) st
        · rintro ρ ⟨l, o5, rfl, N⟩
          rw [List.length_map] at N
          exact .mk rfl (J.step ap er N)
    · rintro ρ ⟨l, o3, o4, o5, rfl, J⟩
      rw [List.length_map] at J
      rw [J.done]
      simp
      subst hrd
      subst hvd
      exact hΦ
theorem ok_earlier (T : Txt P K mg w) : FnOk P w K mg base CX0 2 T.a_holds_earlier T.fd_holds_earlier ["family", "holds"] (spOf K (pureS (sLk T.C_Family .earlier))) := by
  have G_holds_before : FnOk P w K mg base CX0 1 T.a_holds_before T.fd_holds_before ["rows", "holds"] (spOf K (pureS sBef)) := ok_before T
  refine fnD T.F_holds_earlier sc_holds_earlier [] (k := 1) (fun cdv A outer s H E hr => ⟨_, (pss_one (ps_ret (pe_call G_holds_before (hr.mono (by omega)) (by rfl) T.g_holds_before T.F_holds_before.kp T.b_holds_before .nil pass0 (pa_cons (pe_fld (pv 0) rfl) (pa_cons (pv 1) pa_nil))))), (rs_ret (re_callV (rv_cons (re_fld T.cl_Family T.n_Family_rows (re_var 0)) (rv_cons (re_var 1) rv_nil))))⟩) (pure_len fun ds Φ h => ?_) (fun os Φ h => ?_)
  · obtain ⟨ns, F, h, rfl, _⟩ := h
    rfl
  · obtain ⟨ds, rfl, ns, F, h, rfl, g, hn, hΦ⟩ := h
    simp [famD]
    exact ⟨F.rows, F.n, h, rfl, g.apart, hn, hn, fun r hr => g.row hr, hΦ⟩
theorem ok_later (T : Txt P K mg w) : FnOk P w K mg base CX0 2 T.a_holds_later T.fd_holds_later ["family", "holds"] (spOf K (pureS (sLk T.C_Family .later))) := by
  have G_holds_before : FnOk P w K mg base CX0 1 T.a_holds_before T.fd_holds_before ["rows", "holds"] (spOf K (pureS sBef)) := ok_before T
  refine fnD T.F_holds_later sc_holds_later [] (k := 1) (fun cdv A outer s H E hr => ⟨_, (pss_one (ps_ret (pe_call G_holds_before (hr.mono (by omega)) (by rfl) T.g_holds_before T.F_holds_before.kp T.b_holds_before .nil pass0 (pa_cons (pe_lc (own := [("row", 2)]) (g := gName 2) (by rfl) sc_holds_later.nd  (pi_list (pe_fld (pv 0) rfl)) (blkOk_by (own := [("row", 2)]) (N := ["family", "holds", "row"]) (sc := defScope s_holds_later) (by decide +kernel)) (fun _ _ _ _ _ => (pg_name (i := 2) sc_holds_later.nd rfl (by first | exact Or.inl rfl | exact Or.inr rfl))) (fun _ _ _ _ _ => pts_nil) (fun _ _ _ _ _ => (pe_revL (pv 2)))) (pa_cons (pv 1) pa_nil))))), (rs_ret (re_callV (rv_cons (RL.re (rl_lc (ri_list (re_fld T.cl_Family T.n_Family_rows (re_var 0))) rg_name rt_yes (RL.re (rl_rev (re_var 2))))) (rv_cons (re_var 1) rv_nil))))⟩) (pure_len fun ds Φ h => ?_) (fun os Φ h => ?_)
  · obtain ⟨ns, F, h, rfl, _⟩ := h
    rfl
  · obtain ⟨ds, rfl, ns, F, h, rfl, g, hn, hΦ⟩ := h
    simp [famD, rowsD]
    generalize hfd : D.obj T.C_Family _ = fd
    refine lc_z (F.rows.map natsD) ((F.rows.map List.reverse).map natsD) [some (.d fd), some (.d (bls (vec F.n h))), none] [some (.d fd), some (.d (bls (vec F.n h))), none] (fun Ψ q => ?_) rfl (by rw [List.length_map]; exact Nat.le_trans hn (by decide)) (by rw [List.length_map, List.length_map, List.length_map]) (fun k x e hx he A hA => ?_) ?_
    · subst hfd
      simpa using q
    · rw [List.getElem?_map] at hx
      rw [List.getElem?_map, List.getElem?_map] at he
      cases er : F.rows[k]? with
      | none => rw [er] at hx; cases hx
      | some r =>
        rw [er] at hx he
        cases hx
        cases he
        simp [natsD]
        have := hA [some (.d fd), some (.d (bls (vec F.n h))), some (.d (natsD r))] rfl
        simpa [natsD] using this
    · simp
      refine ⟨F.rows.map List.reverse, F.n, h, ?_, g.apart.rev, hn, by rw [List.length_map]; exact hn, fun r hr => ?_, ?_⟩
      · simp [rowsD]
      · obtain ⟨s, hs, rfl⟩ := List.mem_map.mp hr
        obtain ⟨h1, h2⟩ := g.row hs
        exact ⟨by rw [List.length_reverse]; exact h1, fun c hc => h2 c (List.mem_reverse.mp hc)⟩
      · subst hfd
        exact hΦ
end
end K48
namespace K48
open PySem PySem.Spec PyProof.Rows L2 DL FD MF TR
/-! ### conditions -/
inductive CL where
  | all | none | is (x : Str) | not | look (l : Lk) | conj (b : Bool)
def lkS : Lk → Str
  | .child => "child" | .below => "below" | .parent => "parent" | .above => "above" | .earlier => "earlier" | .later => "later"
def wrap : CL → List D → D
  | .all, _ => .tup [.str "all"]
  | .none, _ => .tup [.str "none"]
  | .is x, _ => .tup [.str "is", .str x]
  | .not, l => .tup [.str "not", l.head?.getD .non]
  | .look k, l => .tup [.str (lkS k), l.head?.getD .non]
  | .conj b, l => .tup [.str (if b then "and" else "or"), .tup l]
def cnD : Tr CL → D := fold wrap
/-- how many parts a condition has -/
def Ar : CL → Nat → Prop
  | .all, m => m = 0
  | .none, m => m = 0
  | .is _, m => m = 0
  | .not, m => m = 1
  | .look _, m => m = 1
  | .conj _, m => m = 2
def evL (ns : List Str) (F : Fam) : CL → List (Nat → Bool) → Nat → Bool
  | .all, _, _ => true
  | .none, _, _ => false
  | .is x, _, k => decide (ns[k]? = some x)
  | .not, l, k => !(l.headD fun _ => false) k
  | .look q, l, k => lk F q (l.headD fun _ => false) k
  | .conj true, l, k => l.all fun f => f k
  | .conj false, l, k => l.any fun f => f k
def ev (ns : List Str) (F : Fam) : Tr CL → Nat → Bool := fold (evL ns F)
def isLook : CL → Bool
  | .look _ => true
  | _ => false
def vecs (n : Nat) (fs : List (Nat → Bool)) : D := .lst (fs.map fun f => bls (vec n f))
def sWl : NB.SV := fun ds Φ => ∃ (ns : List Str) (F : Fam) (c : CL) (l : List D) (fs : List (Nat → Bool)), ds = [.lst (ns.map .str), wrap c l, vecs ns.length fs] ∧ Ar c fs.length ∧ isLook c = false ∧ ns.length ≤ 1000000 ∧ Φ (bls (vec ns.length (evL ns F c fs)))
theorem vec_map {n : Nat} {f : Nat → Bool} : (vec n f).map D.bl = (List.range n).map fun k => .bl (f k) := by
  unfold vec
  rw [List.map_map]
  rfl
theorem is_vec (ns : List Str) (x : Str) : ns.map (fun n => decide (n = x)) = vec ns.length fun k => decide (ns[k]? = some x) := by
  refine vec_of (by rw [List.length_map]) fun k hk => ?_
  unfold gb
  rw [List.getElem?_map, List.getElem?_eq_getElem hk]
  simp
theorem not_vec (n : Nat) (f : Nat → Bool) : (vec n f).map (fun b => !b) = vec n fun k => !f k := by
  unfold vec
  rw [List.map_map]
  rfl
section
variable [I : Tbs] {P : Program} {w : World} {K : PySem.W.Frag} {mg : Str → Option Value} {base : Heap}
theorem ok_wl (T : Txt P K mg w) : FnOk P w K mg base CX0 1 T.a_holds_without_looks T.fd_holds_without_looks ["names", "condition", "parts"] (spOf K (pureS sWl)) := by
  refine fnD T.F_holds_without_looks sc_holds_without_looks [] (k := 0) (fun cdv A outer s H E hr => ⟨_, (pss_cons (ps_set (i := 3) sc_holds_without_looks.nd rfl (by first | exact Or.inl rfl | exact Or.inr rfl) (pe_ix (show IxR _ (rIxT K) from ix_tup) (pv 1) pe_int (fun _ _ => rfl)))
      (pss_cons (ps_if (pt_cmpR op_eq (pv 3) pe_str (nomark _)) (pss_one (ps_ret (pe_lc (own := [("name", 4)]) (g := gName 4) (by rfl) sc_holds_without_looks.nd  (pi_list (pv 0)) (blkOk_by (own := [("name", 4)]) (N := ["names", "condition", "parts", "kind", "name", "held", "part", "number"]) (sc := defScope s_holds_without_looks) (by decide +kernel)) (fun _ _ _ _ _ => (pg_name (i := 4) sc_holds_without_looks.nd rfl (by first | exact Or.inl rfl | exact Or.inr rfl))) (fun _ _ _ _ _ => pts_nil) (fun _ _ _ _ _ => (pe_cmpR op_eq (pv 4) (pe_ix (show IxR _ (rIxT K) from ix_tup) (pv 1) pe_int (fun _ _ => rfl)) (nomark _)))))) pss_nil)
      (pss_cons (ps_if (pt_cmpR op_eq (pv 3) pe_str (nomark _)) (pss_one (ps_ret (pe_lc (own := [("held", 5)]) (g := gName 5) (by rfl) sc_holds_without_looks.nd  (pi_list (pe_ix (show IxR _ (rIxL K) from ix_list) (pv 2) pe_int (fun _ _ => rfl))) (blkOk_by (own := [("held", 5)]) (N := ["names", "condition", "parts", "kind", "name", "held", "part", "number"]) (sc := defScope s_holds_without_looks) (by decide +kernel)) (fun _ _ _ _ _ => (pg_name (i := 5) sc_holds_without_looks.nd rfl (by first | exact Or.inl rfl | exact Or.inr rfl))) (fun _ _ _ _ _ => pts_nil) (fun _ _ _ _ _ => (pe_not (pv 5)))))) pss_nil)
      (pss_cons (ps_if (pt_cmpR op_in_seq (pv 3) (pe_tup (pa_cons pe_str (pa_cons pe_str pa_nil))) rfl) (pss_one (ps_ret (pe_lc (own := [("number", 7)]) (g := gName 7) (by rfl) sc_holds_without_looks.nd  (pi_range1 (by rfl) T.n_range (pa_cons (pe_callB call_len (by rfl) T.n_len boot_len (pa_cons (pv 0) pa_nil)) pa_nil)) (blkOk_by (own := [("number", 7)]) (N := ["names", "condition", "parts", "kind", "name", "held", "part", "number"]) (sc := defScope s_holds_without_looks) (by decide +kernel)) (fun _ _ _ _ _ => (pg_name (i := 7) sc_holds_without_looks.nd rfl (by first | exact Or.inl rfl | exact Or.inr rfl))) (fun _ _ _ _ _ => pts_nil) (fun _ _ _ _ _ => (pe_callB (cr_all rfl) (by rfl) T.n_all (by decide +kernel) (pa_cons (pe_lc (own := [("part", 6)]) (g := gName 6) (by rfl) sc_holds_without_looks.nd  (pi_list (pv 2)) (by exact blkOk_by (own := [("part", 6)]) (by kernel_rfl)) (fun _ _ _ _ _ => (pg_name (i := 6) sc_holds_without_looks.nd rfl (by first | exact Or.inl rfl | exact Or.inr rfl))) (fun _ _ _ _ _ => pts_nil) (fun _ _ _ _ _ => (pe_ix (show IxR _ (rIxL K) from ix_list) (pv 6) (pv 7) (fun _ _ => rfl)))) pa_nil)))))) pss_nil)
      (pss_one (ps_ret (pe_lc (own := [("number", 7)]) (g := gName 7) (by rfl) sc_holds_without_looks.nd  (pi_range1 (by rfl) T.n_range (pa_cons (pe_callB call_len (by rfl) T.n_len boot_len (pa_cons (pv 0) pa_nil)) pa_nil)) (blkOk_by (own := [("number", 7)]) (N := ["names", "condition", "parts", "kind", "name", "held", "part", "number"]) (sc := defScope s_holds_without_looks) (by decide +kernel)) (fun _ _ _ _ _ => (pg_name (i := 7) sc_holds_without_looks.nd rfl (by first | exact Or.inl rfl | exact Or.inr rfl))) (fun _ _ _ _ _ => pts_nil) (fun _ _ _ _ _ => (pe_callB (cr_any rfl) (by rfl) T.n_any (by decide +kernel) (pa_cons (pe_lc (own := [("part", 6)]) (g := gName 6) (by rfl) sc_holds_without_looks.nd  (pi_list (pv 2)) (by exact blkOk_by (own := [("part", 6)]) (by kernel_rfl)) (fun _ _ _ _ _ => (pg_name (i := 6) sc_holds_without_looks.nd rfl (by first | exact Or.inl rfl | exact Or.inr rfl))) (fun _ _ _ _ _ => pts_nil) (fun _ _ _ _ _ => (pe_ix (show IxR _ (rIxL K) from ix_list) (pv 6) (pv 7) (fun _ _ => rfl)))) pa_nil)))))))))), (rs_seq (rs_asg (re_op ro_ixT (re_var 1) re_int) rg_name)
      (rs_seq (rs_if (rt_test (re_op ro_eq (re_var 3) re_str)) (rs_ret (RL.re (rl_lc (ri_list (re_var 0)) rg_name rt_yes (re_op ro_eq (re_var 4) (re_op ro_ixT (re_var 1) re_int))))) rs_next)
      (rs_seq (rs_if (rt_test (re_op ro_eq (re_var 3) re_str)) (rs_ret (RL.re (rl_lc (ri_list (re_ixS (i := 2) re_int)) rg_name rt_yes (re_not (re_var 5))))) rs_next)
      (rs_seq (rs_if (rt_test (re_op ro_in (re_var 3) (re_tup (rv_cons re_str (rv_cons re_str rv_nil))))) (rs_ret (RL.re (rl_lc (ri_range1 (rv_cons (re_lenS (i := 0)) rv_nil)) rg_name rt_yes (re_cb rc_all (rv_cons (RL.re (rl_lc (ri_list (re_var 2)) rg_name rt_yes (re_ixS (i := 6) (re_var 7)))) rv_nil))))) rs_next)
      (rs_ret (RL.re (rl_lc (ri_range1 (rv_cons (re_lenS (i := 0)) rv_nil)) rg_name rt_yes (re_cb rc_any (rv_cons (RL.re (rl_lc (ri_list (re_var 2)) rg_name rt_yes (re_ixS (i := 6) (re_var 7)))) rv_nil)))))))))⟩) (pure_len fun ds Φ h => ?_) (fun os Φ h => ?_)
  · obtain ⟨ns, F, c, l, fs, rfl, _⟩ := h
    rfl
  · obtain ⟨ds, rfl, ns, F, c, l, fs, rfl, ha, hl, hn, hΦ⟩ := h
    have parts : ∀ (kd : D) (p : List Bool → Bool) (ro : List D → (D → Prop) → Prop) (Ω : List D → DL.Env → Prop), (∀ (m : List Bool) (Ψ : D → Prop), Ψ (.bl (p m)) → ro [.lst (m.map .bl)] Ψ) →
        (Ω ((vec ns.length fun k => p (fs.map fun f => f k)).map .bl) [some (.d (.lst (ns.map .str))), some (.d (wrap c l)), some (.d (vecs ns.length fs)), some (.d kd), none, none, none, none]) →
        dLc (dIR1 (dCons (dLenS 0) dNil)) (dName 7) dYes (dCB ro (dCons (dK (dLc (dIL (dVar 2)) (dName 6) dYes (dIxS 6 (dVar 7)) [6])) dNil)) [7] [some (.d (.lst (ns.map .str))), some (.d (wrap c l)), some (.d (vecs ns.length fs)), some (.d kd), none, none, none, none] Ω := by
      intro kd p ro Ω hro hΩ
      have hfl : fs.length ≤ 2 := by cases c <;> (simp only [Ar] at ha; omega)
      refine lc_z (rngD 0 ns.length) ((vec ns.length fun k => p (fs.map fun f => f k)).map .bl) [some (.d (.lst (ns.map .str))), some (.d (wrap c l)), some (.d (vecs ns.length fs)), some (.d kd), none, none, none, none]
        [some (.d (.lst (ns.map .str))), some (.d (wrap c l)), some (.d (vecs ns.length fs)), some (.d kd), none, none, none, none] (fun Ψ q => ?_) rfl (by rw [rngD_len]; omega) (by rw [List.length_map, vec_len, rngD_len]) (fun k x e hx he A hA => ?_) hΩ
      · simp
        exact ⟨by omega, q⟩
      · have hk : k < ns.length := by
          have := (List.getElem?_eq_some_iff.mp hx).1
          rwa [rngD_len] at this
        rw [rngD_get hk] at hx
        cases hx
        rw [vec_at hk] at he
        cases he
        simp
        refine lc_z (fs.map fun f => bls (vec ns.length f)) (fs.map fun f => .bl (f k)) [some (.d (.lst (ns.map .str))), some (.d (wrap c l)), some (.d (vecs ns.length fs)), some (.d kd), none, none, none, some (.d (.int (k : Nat)))]
          [some (.d (.lst (ns.map .str))), some (.d (wrap c l)), some (.d (vecs ns.length fs)), some (.d kd), none, none, none, some (.d (.int (k : Nat)))] (fun Ψ q => ?_) rfl (by rw [List.length_map]; omega) (by rw [List.length_map, List.length_map]) (fun j x e hx he B hB => ?_) ?_
        · simp [vecs]
          exact q
        · rw [List.getElem?_map] at hx he
          cases ef : fs[j]? with
          | none => rw [ef] at hx; cases hx
          | some f =>
            rw [ef] at hx he
            cases hx
            cases he
            simp [bls, vec_at hk]
            exact hB _ rfl
        · simp
          have e1 : fs.map (fun f => D.bl (f k)) = (fs.map fun f => f k).map .bl := by
            rw [List.map_map]
            rfl
          rw [e1]
          exact hro _ _ (hA _ rfl)
    have hall : ∀ (m : List Bool) (Ψ : D → Prop), Ψ (.bl (m.all id)) → oAll [.lst (m.map .bl)] Ψ := fun m Ψ q => ⟨_, _, rfl, blsD_map m, q⟩
    have hany : ∀ (m : List Bool) (Ψ : D → Prop), Ψ (.bl (m.any id)) → oAny [.lst (m.map .bl)] Ψ := fun m Ψ q => ⟨_, _, rfl, blsD_map m, q⟩
    cases c with
    | all =>
      cases List.length_eq_zero_iff.mp ha
      simp (decide := true) [wrap]
      refine parts (.str "all") (fun m => m.all id) oAll _ hall ?_
      simp
      exact hΦ
    | none =>
      cases List.length_eq_zero_iff.mp ha
      simp (decide := true) [wrap]
      refine parts (.str "none") (fun m => m.any id) oAny _ hany ?_
      simp
      exact hΦ
    | is x =>
      simp (decide := true) [wrap]
      refine lc_z (ns.map .str) ((vec ns.length fun k => decide (ns[k]? = some x)).map .bl) [some (.d (.lst (ns.map .str))), some (.d (wrap (.is x) l)), some (.d (vecs ns.length fs)), some (.d (.str "is")), none, none, none, none]
        [some (.d (.lst (ns.map .str))), some (.d (wrap (.is x) l)), some (.d (vecs ns.length fs)), some (.d (.str "is")), none, none, none, none] (fun Ψ q => ?_) rfl (by rw [List.length_map]; omega) (by rw [List.length_map, vec_len, List.length_map]) (fun k y e hx he A hA => ?_) ?_
      · simp
        exact q
      · have hk : k < ns.length := by
          have := (List.getElem?_eq_some_iff.mp hx).1
          rwa [List.length_map] at this
        rw [List.getElem?_map, List.getElem?_eq_getElem hk] at hx
        cases hx
        rw [vec_at hk] at he
        cases he
        have e1 : decide (ns[k]? = some x) = decide (ns[k] = x) := by rw [List.getElem?_eq_getElem hk]; simp
        rw [e1] at hA
        simp (decide := true) [wrap]
        exact hA _ rfl
      · simp
        exact hΦ
    | not =>
      obtain ⟨f, rfl⟩ : ∃ f, fs = [f] := by
        match fs, ha with
        | [f], _ => exact ⟨f, rfl⟩
      simp (decide := true) [wrap, vecs]
      refine lc_z ((vec ns.length f).map .bl) ((vec ns.length fun k => !f k).map .bl) [some (.d (.lst (ns.map .str))), some (.d (wrap .not l)), some (.d (vecs ns.length [f])), some (.d (.str "not")), none, none, none, none]
        [some (.d (.lst (ns.map .str))), some (.d (wrap .not l)), some (.d (vecs ns.length [f])), some (.d (.str "not")), none, none, none, none] (fun Ψ q => ?_) rfl (by rw [List.length_map, vec_len]; omega) (by rw [List.length_map, vec_len, List.length_map, vec_len]) (fun k y e hx he A hA => ?_) ?_
      · simpa [vecs, bls, wrap] using q
      · have hk : k < ns.length := by
          have := (List.getElem?_eq_some_iff.mp hx).1
          rwa [List.length_map, vec_len] at this
        rw [vec_at hk] at hx he
        cases hx
        cases he
        simp
        exact hA _ rfl
      · simp
        exact hΦ
    | look q => cases hl
    | conj b =>
      cases b with
      | true =>
        simp (decide := true) [wrap]
        refine parts (.str "and") (fun m => m.all id) oAll _ hall ?_
        simp
        have e1 : (vec ns.length fun k => (fs.map fun f => f k).all id) = vec ns.length (evL ns F (.conj true) fs) := by
          unfold vec
          congr 1
          funext k
          rw [List.all_map]
          rfl
        simp only [List.all_map] at e1 ⊢
        first | rw [e1]; exact hΦ | exact hΦ
      | false =>
        simp (decide := true) [wrap]
        refine parts (.str "or") (fun m => m.any id) oAny _ hany ?_
        simp
        exact hΦ
end
end K48
namespace K48
open PySem PySem.Spec PyProof.Rows L2 DL FD MF TR
def sHo (C : Addr) : NB.SV := fun ds Φ => ∃ (ns : List Str) (F : Fam) (c : CL) (l : List D) (fs : List (Nat → Bool)), ds = [famD C ns F, wrap c l, vecs F.n fs] ∧ GF F ∧ ns.length = F.n ∧ Ar c fs.length ∧ F.n ≤ 1000000 ∧ Φ (bls (vec F.n (evL ns F c fs)))
theorem fun_nm {K : PySem.W.Frag} {x q x' q' : Str} {st st' : Stmt} {a : Addr} {fd fd' : FuncData} (F : Fun K x q st a fd) (F' : Fun K x' q' st' a fd') : x = x' := by
  obtain ⟨oc, od, kV, doc, pm, an, cdg, ct, osl, efd, lkF, hcF⟩ := F.ex
  obtain ⟨oc', od', kV', doc', pm', an', cdg', ct', osl', efd', lkF', hcF'⟩ := F'.ex
  rw [lkF] at lkF'
  have h := Option.some.inj lkF'
  injection h with _ _ h _
  injection h with h
  have h := congrArg FuncData.name h
  rw [efd, efd'] at h
  exact h
theorem fun_ne {K : PySem.W.Frag} {x q x' q' : Str} {st st' : Stmt} {a a' : Addr} {fd fd' : FuncData} (F : Fun K x q st a fd) (F' : Fun K x' q' st' a' fd') (h : x ≠ x') : a ≠ a' := fun e => by
  subst e
  exact h (fun_nm F F')
/-- the looks by their defs -/
def SFT {prog : Program} {mg : Str → Option Value} {w : World} {K : PySem.W.Frag} (T : Txt prog K mg w) : Addr → Option NB.SV := fun a =>
  if a = T.a_holds_child then some (sLk T.C_Family .child) else if a = T.a_holds_below then some (sLk T.C_Family .below) else if a = T.a_holds_parent then some (sLk T.C_Family .parent)
  else if a = T.a_holds_above then some (sLk T.C_Family .above) else if a = T.a_holds_earlier then some (sLk T.C_Family .earlier) else if a = T.a_holds_later then some (sLk T.C_Family .later) else none
def adr {prog : Program} {mg : Str → Option Value} {w : World} {K : PySem.W.Frag} (T : Txt prog K mg w) : Lk → Addr
  | .child => T.a_holds_child | .below => T.a_holds_below | .parent => T.a_holds_parent | .above => T.a_holds_above | .earlier => T.a_holds_earlier | .later => T.a_holds_later
theorem sft {prog : Program} {mg : Str → Option Value} {w : World} {K : PySem.W.Frag} (T : Txt prog K mg w) (q : Lk) : SFT T (adr T q) = some (sLk T.C_Family q) := by
  unfold SFT
  cases q
  · exact if_pos rfl
  · exact (if_neg (fun_ne T.F_holds_below T.F_holds_child (by decide))).trans (if_pos rfl)
  · exact (if_neg (fun_ne T.F_holds_parent T.F_holds_child (by decide))).trans ((if_neg (fun_ne T.F_holds_parent T.F_holds_below (by decide))).trans (if_pos rfl))
  · exact (if_neg (fun_ne T.F_holds_above T.F_holds_child (by decide))).trans ((if_neg (fun_ne T.F_holds_above T.F_holds_below (by decide))).trans ((if_neg (fun_ne T.F_holds_above T.F_holds_parent (by decide))).trans (if_pos rfl)))
  · exact (if_neg (fun_ne T.F_holds_earlier T.F_holds_child (by decide))).trans ((if_neg (fun_ne T.F_holds_earlier T.F_holds_below (by decide))).trans ((if_neg (fun_ne T.F_holds_earlier T.F_holds_parent (by decide))).trans ((if_neg (fun_ne T.F_holds_earlier T.F_holds_above (by decide))).trans (if_pos rfl))))
  · exact (if_neg (fun_ne T.F_holds_later T.F_holds_child (by decide))).trans ((if_neg (fun_ne T.F_holds_later T.F_holds_below (by decide))).trans ((if_neg (fun_ne T.F_holds_later T.F_holds_parent (by decide))).trans ((if_neg (fun_ne T.F_holds_later T.F_holds_above (by decide))).trans ((if_neg (fun_ne T.F_holds_later T.F_holds_earlier (by decide))).trans (if_pos rfl)))))
section
variable [I : Tbs] {P : Program} {w : World} {K : PySem.W.Frag} {mg : Str → Option Value} {base : Heap}
theorem ok_ho (T : Txt P K mg w) : FnOk P w K mg base CX0 3 T.a_holds_of T.fd_holds_of ["family", "condition", "parts"] (spOf K (pureS (sHo T.C_Family))) := by
  have G_holds_without_looks : FnOk P w K mg base CX0 1 T.a_holds_without_looks T.fd_holds_without_looks ["names", "condition", "parts"] (spOf K (pureS sWl)) := ok_wl T
  let SF : Addr → Option NB.SV := SFT T
  have HA : ∀ f sp, NB.spA K SF f = some sp → Held P w K mg base 2 f sp := fun f sp e => by
    unfold NB.spA at e
    obtain ⟨s, hs, rfl⟩ := Option.map_eq_some_iff.mp e
    unfold SF SFT at hs
    by_cases h1 : f = T.a_holds_child
    · subst h1
      rw [if_pos rfl] at hs
      cases hs
      exact ⟨_, _, (ok_child T).mono (by decide), T.F_holds_child.kp, T.b_holds_child⟩
    rw [if_neg h1] at hs
    by_cases h1 : f = T.a_holds_below
    · subst h1
      rw [if_pos rfl] at hs
      cases hs
      exact ⟨_, _, (ok_below T).mono (by decide), T.F_holds_below.kp, T.b_holds_below⟩
    rw [if_neg h1] at hs
    by_cases h1 : f = T.a_holds_parent
    · subst h1
      rw [if_pos rfl] at hs
      cases hs
      exact ⟨_, _, (ok_parent T).mono (by decide), T.F_holds_parent.kp, T.b_holds_parent⟩
    rw [if_neg h1] at hs
    by_cases h1 : f = T.a_holds_above
    · subst h1
      rw [if_pos rfl] at hs
      cases hs
      exact ⟨_, _, (ok_above T).mono (by decide), T.F_holds_above.kp, T.b_holds_above⟩
    rw [if_neg h1] at hs
    by_cases h1 : f = T.a_holds_earlier
    · subst h1
      rw [if_pos rfl] at hs
      cases hs
      exact ⟨_, _, ok_earlier T, T.F_holds_earlier.kp, T.b_holds_earlier⟩
    rw [if_neg h1] at hs
    by_cases h1 : f = T.a_holds_later
    · subst h1
      rw [if_pos rfl] at hs
      cases hs
      exact ⟨_, _, ok_later T, T.F_holds_later.kp, T.b_holds_later⟩
    rw [if_neg h1] at hs
    cases hs
  refine fnD T.F_holds_of sc_holds_of [] (k := 2) (fun cdv A outer s H E hr => ⟨_, (pss_cons (ps_set (i := 3) sc_holds_of.nd rfl (by first | exact Or.inl rfl | exact Or.inr rfl) (pe_ix (show IxR _ (rIxT K) from ix_tup) (pv 1) pe_int (fun _ _ => rfl)))
      (pss_cons (ps_if (pt_cmpR (SX.op_in_wd T.D_FINDERS) (pv 3) (pe_glob (v := .ref T.d_FINDERS) (by rfl) T.g_FINDERS rfl) rfl) (pss_cons (ps_set (i := 4) sc_holds_of.nd rfl (by first | exact Or.inl rfl | exact Or.inr rfl) (pe_ix (SX.ix_wd T.D_FINDERS) (pe_glob (v := .ref T.d_FINDERS) (by rfl) T.g_FINDERS rfl) (pv 3) (fun _ _ => rfl)))
      (pss_one (ps_ret (pe_callA (i := 4) (S := NB.spA K SF) HA (hr.mono (by omega)) rfl (by first | exact Or.inl rfl | exact Or.inr (Or.inl rfl) | exact Or.inr (Or.inr rfl)) (pa_cons (pv 0) (pa_cons (pe_ix (show IxR _ (rIxL K) from ix_list) (pv 2) pe_int (fun _ _ => rfl)) pa_nil)))))) pss_nil)
      (pss_one (ps_ret (pe_call G_holds_without_looks (hr.mono (by omega)) (by rfl) T.g_holds_without_looks T.F_holds_without_looks.kp T.b_holds_without_looks .nil pass0 (pa_cons (pe_fld (pv 0) rfl) (pa_cons (pv 1) (pa_cons (pv 2) pa_nil)))))))), (rs_seq (rs_asg (re_op ro_ixT (re_var 1) re_int) rg_name)
      (rs_seq (rs_if (rt_test (re_op HC.ro_inW (re_var 3) re_fn)) (rs_seq (rs_asg (re_op HC.ro_ixW re_fn (re_var 3)) rg_name)
      (rs_ret (NB.re_callA (i := 4) (rv_cons (re_var 0) (rv_cons (re_ixS (i := 2) re_int) rv_nil))))) rs_next)
      (rs_ret (re_callV (rv_cons (re_fld T.cl_Family T.n_Family_names (re_var 0)) (rv_cons (re_var 1) (rv_cons (re_var 2) rv_nil)))))))⟩) (pure_len fun ds Φ h => ?_) (fun os Φ h => ?_)
  · obtain ⟨ns, F, c, l, fs, rfl, _⟩ := h
    rfl
  · obtain ⟨ds, rfl, ns, F, c, l, fs, rfl, g, hns, ha, hn, hΦ⟩ := h
    have wl : ∀ (c : CL) (Ω : D → Prop), isLook c = false → Ar c fs.length → Ω (bls (vec F.n (evL ns F c fs))) → sWl [.lst (ns.map .str), wrap c l, vecs F.n fs] Ω := fun c Ω h1 h2 h3 => ⟨ns, F, c, l, fs, by rw [hns], h2, h1, by rw [hns]; exact hn, by rw [hns]; exact h3⟩
    cases c with
    | look q =>
      obtain ⟨f, rfl⟩ : ∃ f, fs = [f] := by
        match fs, ha with
        | [f], _ => exact ⟨f, rfl⟩
      simp [wrap]
      have e1 : ([(("child" : Str), V.ref T.a_holds_child), ("below", V.ref T.a_holds_below), ("parent", V.ref T.a_holds_parent), ("above", V.ref T.a_holds_above), ("earlier", V.ref T.a_holds_earlier), ("later", V.ref T.a_holds_later)] : List (Str × V)).lookup (lkS q) = some (.ref (adr T q)) := by
        cases q <;> rfl
      refine ⟨_, rfl, rfl, ?_⟩
      rw [e1]
      simp
      refine ⟨_, _, _, rfl, rfl, e1, rfl, _, rfl, _, sft T q, _, rfl, _, atI_0 _ _, ns, F, f, rfl, g, hn, hΦ⟩
    | all =>
      simp [wrap]
      refine ⟨_, rfl, rfl, ?_⟩
      show blG (.bl false) _
      simp [famD]
      exact wl .all _ rfl ha hΦ
    | none =>
      simp [wrap]
      refine ⟨_, rfl, rfl, ?_⟩
      show blG (.bl false) _
      simp [famD]
      exact wl .none _ rfl ha hΦ
    | is x =>
      simp [wrap]
      refine ⟨_, rfl, rfl, ?_⟩
      show blG (.bl false) _
      simp [famD]
      exact wl (.is x) _ rfl ha hΦ
    | not =>
      simp [wrap]
      refine ⟨_, rfl, rfl, ?_⟩
      show blG (.bl false) _
      simp [famD]
      exact wl .not _ rfl ha hΦ
    | conj b =>
      cases b with
      | true =>
        simp [wrap]
        refine ⟨_, rfl, rfl, ?_⟩
        show blG (.bl false) _
        simp [famD]
        exact wl (.conj true) _ rfl ha hΦ
      | false =>
        simp [wrap]
        refine ⟨_, rfl, rfl, ?_⟩
        show blG (.bl false) _
        simp [famD]
        exact wl (.conj false) _ rfl ha hΦ
end
end K48
namespace K48
open PySem PySem.Spec PyProof.Rows L2 DL FD MF TR
/-! ### elements; the making of a family -/
def elW : Str → List D → D := fun n l => .tup [.str n, .tup l]
def elD : Tr Str → D := fold elW
theorem elD_of (t : Tr Str) : elD t = .tup [.str t.d, .tup (t.ks.map elD)] := fold_of elW t
theorem good_el (t : Tr Str) : NB.Good sKids (mapT elD (subs t)) := by
  refine Tr.ind (P := fun t => NB.Good sKids (mapT elD (subs t))) (fun d ks ih => ?_) t
  have e : mapT elD (subs (.nd d ks)) = .nd (elD (.nd d ks)) (ks.map fun k => mapT elD (subs k)) := by
    rw [subs, mapT, subss_map, mapTs_map, List.map_map]
    rfl
  rw [e]
  refine .nd (fun Φ h => ⟨.str d, ks.map elD, by rw [elD_of]; rfl, ?_⟩) (fun k hk => ?_)
  · rw [List.map_map] at h
    have e2 : ks.map (Tr.d ∘ fun k => mapT elD (subs k)) = ks.map elD := by
      refine List.map_congr_left fun k _ => ?_
      show (mapT elD (subs k)).d = _
      rw [mapT_d, subs_d]
    rw [e2] at h
    exact h
  · obtain ⟨k', hk', rfl⟩ := List.mem_map.mp hk
    exact ih k' hk'
def nmF (t : Tr Str) : List Str := (num t 0).map (·.1)
/-- the rows that numbered finds -/
def ndsD (t : Tr Str) : List D := (num (mapT elD (subs t)) 0).map NB.rowD
theorem nds_at (t : Tr Str) {k : Nat} {r : Str × List Nat} (h : (num t 0)[k]? = some r) : ∃ s, s.d = r.1 ∧ (ndsD t)[k]? = some (.tup [elD s, natsD r.2]) := by
  unfold ndsD
  rw [num_map, List.map_map, List.getElem?_map]
  have e := num_map Tr.d (subs t) 0
  rw [subs_map] at e
  rw [e, List.getElem?_map] at h
  cases q : (num (subs t) 0)[k]? with
  | none => rw [q] at h; cases h
  | some x =>
    rw [q] at h
    cases h
    exact ⟨x.1, rfl, rfl⟩
theorem nds_len (t : Tr Str) : (ndsD t).length = sz t := by
  unfold ndsD
  rw [List.length_map, num_len, sz_map, subs_sz]
/-- what hangs on the first j numbers -/
def pj (F : Fam) (j c : Nat) : Option Nat := match par F c with
  | some i => if i < j then some i else none
  | none => none
structure PI (F : Fam) (j : Nat) (l : List (Option Nat)) : Prop where
  len : l.length = F.n
  val : ∀ c, c < F.n → l[c]? = some (pj F j c)
structure PR (F : Fam) (j m : Nat) (l : List (Option Nat)) : Prop where
  len : l.length = F.n
  val : ∀ c, c < F.n → l[c]? = some (if c ∈ (kids F j).take m then some j else pj F j c)
theorem PI.start (F : Fam) : PI F 0 (List.replicate F.n none) := by
  refine ⟨List.length_replicate, fun c hc => ?_⟩
  rw [List.getElem?_replicate, if_pos hc]
  unfold pj
  cases par F c with
  | none => rfl
  | some i => rfl
theorem PI.row {F : Fam} {j : Nat} {l : List (Option Nat)} (h : PI F j l) : PR F j 0 l := ⟨h.len, fun c hc => by rw [h.val c hc]; simp⟩
theorem PR.step {F : Fam} {j m c : Nat} {l : List (Option Nat)} (h : PR F j m l) (e : (kids F j)[m]? = some c) : PR F j (m + 1) (l.set c (some j)) := by
  refine ⟨by rw [List.length_set]; exact h.len, fun x hx => ?_⟩
  have ht : (kids F j).take (m + 1) = (kids F j).take m ++ [c] := by rw [List.take_add_one, e]; rfl
  rw [List.getElem?_set, h.len, ht]
  by_cases hxc : c = x
  · subst hxc
    rw [if_pos rfl, if_pos hx, if_pos (by simp)]
  · rw [if_neg hxc, h.val x hx]
    have : (x ∈ (kids F j).take m ++ [c]) ↔ x ∈ (kids F j).take m := by
      rw [List.mem_append, List.mem_singleton]
      exact ⟨fun z => z.elim id fun z => absurd z.symm hxc, .inl⟩
    by_cases h2 : x ∈ (kids F j).take m
    · rw [if_pos h2, if_pos (this.mpr h2)]
    · rw [if_neg h2, if_neg (fun z => h2 (this.mp z))]
theorem PR.done {F : Fam} {j : Nat} {l : List (Option Nat)} (g : GF F) (h : PR F j (kids F j).length l) : PI F (j + 1) l := by
  refine ⟨h.len, fun c hc => ?_⟩
  rw [h.val c hc, List.take_length]
  congr 1
  unfold pj
  by_cases hk : c ∈ kids F j
  · rw [if_pos hk, (g.pk j c).mp hk]
    show _ = if j < j + 1 then _ else _
    rw [if_pos (by omega)]
  · rw [if_neg hk]
    cases e : par F c with
    | none => rfl
    | some i =>
      have ne : i ≠ j := fun z => hk ((g.pk j c).mpr (by rw [e, z]))
      show (if i < j then some i else none) = if i < j + 1 then some i else none
      by_cases h1 : i < j
      · rw [if_pos h1, if_pos (by omega)]
      · rw [if_neg h1, if_neg (by omega)]
theorem PI.done {F : Fam} {l : List (Option Nat)} (g : GF F) (h : PI F F.n l) : l = F.par := by
  apply List.ext_getElem?
  intro c
  by_cases hc : c < F.n
  · rw [h.val c hc, List.getElem?_eq_getElem (by rw [g.plen]; exact hc)]
    congr 1
    unfold pj
    have e : par F c = F.par[c]'(by rw [g.plen]; exact hc) := by
      unfold par
      rw [List.getElem?_eq_getElem (by rw [g.plen]; exact hc)]
      rfl
    rw [← e]
    cases q : par F c with
    | none => rfl
    | some i =>
      show (if i < F.n then some i else none) = some i
      have := g.lt q
      rw [if_pos (by omega)]
  · rw [List.getElem?_eq_none (by rw [h.len]; omega), List.getElem?_eq_none (by rw [g.plen]; omega)]
/-- the loop's names and cells -/
def FI (p : Addr) (el nd : D) (q : Addr) (M3 : HC.Cells) (A : List (Option Nat) → Prop) (ρ : HC.Env) (M : HC.Cells) : Prop := ∃ l o6 o7 o8, ρ = [some (.fn p), some el, some nd, none, none, none, o6, o7, o8] ∧ M = (q, .l (l.map optD)) :: M3 ∧ A l
theorem FI.mk {p : Addr} {el nd : D} {q : Addr} {M3 : HC.Cells} {A : List (Option Nat) → Prop} {x : List D} {l : List (Option Nat)} {o6 o7 o8 : Option D} (e : x = l.map optD) (h : A l) : FI p el nd q M3 A [some (.fn p), some el, some nd, none, none, none, o6, o7, o8] ((q, .l x) :: M3) := by
  subst e
  exact ⟨_, _, _, _, rfl, rfl, h⟩
def FR (p : Addr) (el nd : D) (q : Addr) (M3 : HC.Cells) (k : Nat) (r : List Nat) (A : List (Option Nat) → Prop) (ρ : HC.Env) (M : HC.Cells) : Prop := ∃ l o8, ρ = [some (.fn p), some el, some nd, none, none, none, some (.int (k : Nat)), some (natsD r), o8] ∧ M = (q, .l (l.map optD)) :: M3 ∧ A l
theorem FR.mk {p : Addr} {el nd : D} {q : Addr} {M3 : HC.Cells} {k : Nat} {r : List Nat} {A : List (Option Nat) → Prop} {x : List D} {l : List (Option Nat)} {o8 : Option D} (e : x = l.map optD) (h : A l) : FR p el nd q M3 k r A [some (.fn p), some el, some nd, none, none, none, some (.int (k : Nat)), some (natsD r), o8] ((q, .l x) :: M3) := by
  subst e
  exact ⟨_, _, rfl, rfl, h⟩
def sInit (C : Addr) : HC.SC := fun ds M Φ => ∃ (p : Addr) (t : Tr Str), ds = [.fn p, elD t] ∧ HC.look M p = some (.o C []) ∧ sz t ≤ 1000000 ∧ ∀ M', (HC.frzN 4 M' (.fn p)).1 = famD C (nmF t) (famF t) → Φ .non M'
section
variable [I : Tbs] {P : Program} {w : World} {K : PySem.W.Frag} {mg : Str → Option Value} {base : Heap}
theorem ok_init (T : Txt P K mg w) : FnOk P w K mg base CX0 3 T.a_Family___init__ T.fd_Family___init__ ["self", "document"] (HC.spH K (sInit T.C_Family)) := by
  let SI : Addr → Option NB.SV := fun a => if a = T.a_children_of then some sKids else none
  have hSI : SI T.a_children_of = some sKids := if_pos rfl
  have HA : ∀ f sp, NB.spA K SI f = some sp → Held P w K mg base 1 f sp := fun f sp e => by
    unfold NB.spA at e
    by_cases hf : f = T.a_children_of
    · subst hf
      rw [hSI] at e
      cases e
      exact ⟨_, _, ok_children T, T.F_children_of.kp, T.b_children_of⟩
    · rw [show SI f = none from if_neg hf] at e
      cases e
  have G_numbered : FnOk P w K mg base CX0 2 T.a_numbered T.fd_numbered ["root", "inner_of"] (spOf K (pureS (FD.sNum SI))) := ok_numbered T SI HA
  refine HC.fnC T.F_Family___init__ sc_Family___init__ (k := 2) (fun cdv A outer s H E hr => ⟨_, (pss_cons (ps_set (i := 2) sc_Family___init__.nd rfl (by first | exact Or.inl rfl | exact Or.inr rfl) (pe_call G_numbered (hr.mono (by omega)) (by rfl) T.g_numbered T.F_numbered.kp T.b_numbered .nil pass0 (pa_cons (pv 1) (pa_cons (pe_glob (v := .ref T.a_children_of) (by rfl) T.g_children_of rfl) pa_nil))))
      (pss_cons (ps_asg (pe_lc (own := [("element", 3), ("_", 4)]) (by rfl) sc_Family___init__.nd  (pi_list (pv 2)) (blkOk_by (own := [("element", 3), ("_", 4)]) (N := ["self", "document", "nodes", "element", "_", "numbers", "number", "row", "child"]) (sc := defScope s_Family___init__) (by decide +kernel)) (fun _ _ _ _ _ => (pg_tup (n := 2) (by rfl) (pgs_cons (pg_name (i := 3) sc_Family___init__.nd rfl (by first | exact Or.inl rfl | exact Or.inr rfl)) (pgs_cons (pg_name (i := 4) sc_Family___init__.nd rfl (by first | exact Or.inl rfl | exact Or.inr rfl)) pgs_nil)))) (fun _ _ _ _ _ => pts_nil) (fun _ _ _ _ _ => (pe_ix (show IxR _ (rIx K) from ix_seq) (pv 3) pe_int (fun _ _ => rfl)))) (SX.pg_fld (pv 0)))
      (pss_cons (ps_asg (pe_lc (own := [("_", 4), ("numbers", 5)]) (by rfl) sc_Family___init__.nd  (pi_list (pv 2)) (blkOk_by (own := [("_", 4), ("numbers", 5)]) (N := ["self", "document", "nodes", "element", "_", "numbers", "number", "row", "child"]) (sc := defScope s_Family___init__) (by decide +kernel)) (fun _ _ _ _ _ => (pg_tup (n := 2) (by rfl) (pgs_cons (pg_name (i := 4) sc_Family___init__.nd rfl (by first | exact Or.inl rfl | exact Or.inr rfl)) (pgs_cons (pg_name (i := 5) sc_Family___init__.nd rfl (by first | exact Or.inl rfl | exact Or.inr rfl)) pgs_nil)))) (fun _ _ _ _ _ => pts_nil) (fun _ _ _ _ _ => (pv 5))) (SX.pg_fld (pv 0)))
      (pss_cons (ps_asg (pe_op op_rep (pe_lst (pa_cons pe_non pa_nil)) (pe_callB call_len (by rfl) T.n_len boot_len (pa_cons (pv 2) pa_nil))) (SX.pg_fld (pv 0)))
      (pss_one (ps_for PassesOwn.never rfl (pi_enum (by rfl) T.n_enumerate (pa_cons (pe_fld (pv 0) rfl) pa_nil)) (pg_tup (n := 2) (by rfl) (pgs_cons (pg_name (i := 6) sc_Family___init__.nd rfl (by first | exact Or.inl rfl | exact Or.inr rfl)) (pgs_cons (pg_name (i := 7) sc_Family___init__.nd rfl (by first | exact Or.inl rfl | exact Or.inr rfl)) pgs_nil))) (pss_one (ps_for PassesOwn.never rfl (pi_list (pv 7)) (pg_name (i := 8) sc_Family___init__.nd rfl (by first | exact Or.inl rfl | exact Or.inr rfl)) (pss_one (ps_asg (pv 6) (pg_sub (pe_fld (pv 0) rfl) (pv 8) set_list))))))))))), (HC.xs_seq (HC.xs_asg (HC.xe_callO (HC.xv_cons (HC.xe_raw 1) (HC.xv_cons HC.xe_fn HC.xv_nil))) HC.xg_name)
      (HC.xs_seq (HC.xs_asg (HC.XL.re (HC.xl_lc (HC.xi_list (HC.xe_raw 2)) (HC.xg_tup (HC.xgs_cons HC.xg_name (HC.xgs_cons HC.xg_name HC.xgs_nil))) HC.xt_yes (HC.xe_ix (HC.xe_raw 3) HC.xe_int))) (HC.xg_fld T.cl_Family T.n_Family_names (HC.xe_raw 0)))
      (HC.xs_seq (HC.xs_asg (HC.XL.re (HC.xl_lc (HC.xi_list (HC.xe_raw 2)) (HC.xg_tup (HC.xgs_cons HC.xg_name (HC.xgs_cons HC.xg_name HC.xgs_nil))) HC.xt_yes (HC.xe_raw 5))) (HC.xg_fld T.cl_Family T.n_Family_rows (HC.xe_raw 0)))
      (HC.xs_seq (HC.xs_asg (HC.XL.ce (HC.xl_op rol_rep (HC.XL.re (HC.xl_lst (HC.xv_cons HC.xe_non HC.xv_nil))) (HC.xe_len (HC.xe_raw 2)))) (HC.xg_fld T.cl_Family T.n_Family_parents (HC.xe_raw 0)))
      (HC.xs_for (HC.xi_enum (HC.xe_fld T.cl_Family T.n_Family_rows (HC.xe_raw 0))) (HC.xg_tup (HC.xgs_cons HC.xg_name (HC.xgs_cons HC.xg_name HC.xgs_nil))) (HC.xs_for (HC.xi_list (HC.xe_raw 7)) HC.xg_name (HC.xs_asg (HC.xe_raw 6) (HC.xg_subL (HC.xe_fld T.cl_Family T.n_Family_parents (HC.xe_raw 0)) (HC.xe_raw 8)))))))))⟩) (fun ds M Φ h => ?_) (fun ds M Φ h => ?_)
  · obtain ⟨p, t, rfl, _⟩ := h
    rfl
  · obtain ⟨p, t, rfl, hp, hz, hΦ⟩ := h
    simp
    refine ⟨mapT elD (subs t), T.a_children_of, sKids, ?_, hSI, good_el t, by rw [sz_map, subs_sz]; exact hz, ?_⟩
    · rw [mapT_d, subs_d]
    have hl : (num (mapT elD (subs t)) 0).length = sz t := by rw [num_len, sz_map, subs_sz]
    have rowOf : ∀ {k : Nat} {x : D}, (ndsD t)[k]? = some x → ∃ s r, (num t 0)[k]? = some r ∧ s.d = r.1 ∧ x = .tup [elD s, natsD r.2] := fun {k x} hx => by
      have hk := (List.getElem?_eq_some_iff.mp hx).1
      rw [nds_len] at hk
      have e1 := List.getElem?_eq_getElem (show k < (num t 0).length by rw [num_len]; exact hk)
      obtain ⟨s, e2, e3⟩ := nds_at t e1
      rw [e3] at hx
      cases hx
      exact ⟨s, _, e1, e2, rfl⟩
    have hnz : (ndsD t).length ≤ 16000000 := by rw [nds_len]; omega
    simp
    simp only [← show ndsD t = List.map NB.rowD (num (mapT elD (subs t)) 0) from rfl, hl]
    refine HC.lc_z (ρw := [some (.fn p), some (elD t), some (.lst (ndsD t)), none, none, none, none, none, none]) (ndsD t) ((nmF t).map .str) M (fun Ψ q => ?_) rfl hnz (by rw [List.length_map, nds_len]; unfold nmF; rw [List.length_map, num_len]) (fun k x e hx he A hA => ?_) ?_
    · simp
      exact q
    · obtain ⟨s, r, h1, h2, rfl⟩ := rowOf hx
      unfold nmF at he
      rw [List.getElem?_map, List.getElem?_map, h1] at he
      cases he
      simp [elD_of s]
      rw [h2]
      exact hA
    simp [hp]
    generalize hM1 : HC.put M p _ = M1
    have e1 : HC.look M1 p = some (.o T.C_Family [("names", .lst ((nmF t).map .str))]) := by rw [← hM1]; exact HC.look_self hp
    refine HC.lc_z (ρw := [some (.fn p), some (elD t), some (.lst (ndsD t)), none, none, none, none, none, none]) (ndsD t) ((famF t).rows.map natsD) M1 (fun Ψ q => ?_) rfl hnz (by rw [List.length_map, nds_len]; exact famF_n t) (fun k x e hx he A hA => ?_) ?_
    · simp
      exact q
    · obtain ⟨s, r, h1, h2, rfl⟩ := rowOf hx
      unfold famF rws at he
      rw [List.getElem?_map, List.getElem?_map, h1] at he
      cases he
      simp
      exact hA
    simp [e1]
    refine ⟨by omega, by omega, fun q hq => ?_⟩
    generalize hM2 : HC.put M1 p _ = M2 at hq ⊢
    have e2 : HC.look M2 p = some (.o T.C_Family [("names", .lst ((nmF t).map .str)), ("rows", .lst ((famF t).rows.map natsD))]) := by rw [← hM2]; exact HC.look_self e1
    have ne : q ≠ p := fun z => by rw [z, e2] at hq; cases hq
    simp [ne, e2]
    refine ⟨by decide, ?_⟩
    generalize hM3 : HC.put M2 p _ = M3
    have e3 : HC.look M3 p = some (.o T.C_Family [("names", .lst ((nmF t).map .str)), ("rows", .lst ((famF t).rows.map natsD)), ("parents", .fn q)]) := by rw [← hM3]; exact HC.look_self e2
    have g := gf t
    have hn : (famF t).n ≤ 1000000 := by rw [famF_n]; exact hz
    have e4 : List.replicate (sz t) D.non = (List.replicate (famF t).n none).map optD := by rw [List.map_replicate, famF_n]; rfl
    rw [e4]
    clear hM1 hM2 hM3 e1 e2 hp hl rowOf hnz e4
    generalize hnm : nmF t = nm at *
    generalize hF : famF t = F at *
    refine HC.for_inv (HC.enumD (F.rows.map natsD)) ((q, .l ((List.replicate F.n none).map optD)) :: M3) (fun j => FI p (elD t) (.lst (ndsD t)) q M3 (PI F j)) (fun Ψ h => ?_) (.mk rfl (PI.start F)) ?_ ?_
    · simp [ne, e3]
      rw [List.map_replicate] at h
      exact h
    · rintro k x ρ M hx ⟨l, o6, o7, o8, rfl, rfl, J⟩
      have hk : k < F.rows.length := by
        have := (List.getElem?_eq_some_iff.mp hx).1
        rwa [HC.enumD_len, List.length_map] at this
      have hr := List.getElem?_eq_getElem hk
      have ek := kids_get hr
      have hm := g.row (List.getElem_mem hk)
      generalize F.rows[k] = r at hr ek hm
      have hx2 := HC.enumD_get (ds := F.rows.map natsD) (i := k) (d := natsD r) (by rw [List.getElem?_map, hr]; rfl)
      rw [hx2] at hx
      cases hx
      simp
      refine HC.for_inv (r.map fun k => .int (k : Nat)) _ (fun m => FR p (elD t) (.lst (ndsD t)) q M3 k r (PR F k m)) (fun Ψ h => ?_) (.mk rfl J.row) ?_ ?_
      · simp [natsD]
        exact h
      · rintro m y ρ M hy ⟨l, o8, rfl, rfl, N⟩
        rw [List.getElem?_map] at hy
        cases ec : r[m]? with
        | none => rw [ec] at hy; cases hy
        | some c =>
          rw [ec] at hy
          cases hy
          have hc := hm.2 c (List.mem_of_getElem? ec)
          have st := N.step (c := c) (by rw [ek]; exact ec)
          simp [ne, e3, N.len, ixN_nat hc]
          exact .mk (by rw [List.map_set]; rfl) st
      · rintro ρ M ⟨l, o8, rfl, rfl, N⟩
        rw [List.length_map, ← ek] at N
        exact .mk rfl (N.done g)
    · rintro ρ M ⟨l, o6, o7, o8, rfl, rfl, J⟩
      rw [HC.enumD_len, List.length_map] at J
      refine ⟨_, HC.Fewer.refl _, hΦ _ ?_⟩
      have el : l = F.par := PI.done g J
      subst el
      have flat : ∀ d ∈ F.par.map optD, ∀ M, HC.frzN 2 M d = (d, M) := fun d hd M => by
        obtain ⟨o, _, rfl⟩ := List.mem_map.mp hd
        cases o <;> rfl
      have c1 : HC.frzN 3 ((q, .l (F.par.map optD)) :: M3) (.fn q) = (.lst (F.par.map optD), (q, .z (.lst (F.par.map optD))) :: M3) := by
        rw [HC.frzN_cl (l := F.par.map optD) (by simp), HC.frzL_flat flat, HC.zL_l (l := F.par.map optD) (by simp)]
        simp
      rw [HC.frzN_co (C := T.C_Family) (l := [("names", .lst (nm.map .str)), ("rows", .lst (F.rows.map natsD)), ("parents", .fn q)]) (by simp [ne, e3])]
      simp only [HC.frzF_cons, HC.frzF_nil, HC.frzN_l, c1]
      rw [HC.zO_o (C := T.C_Family) (l := [("names", .lst (nm.map .str)), ("rows", .lst (F.rows.map natsD)), ("parents", .fn q)]) (by simp [ne, e3])]
      rfl
end
end K48
namespace K48
open PySem PySem.Spec PyProof.Rows L2 DL FD MF TR
/-! ### holding -/
inductive WC : Nat → Tr CL → Prop
  | nd {n : Nat} {d : CL} {ks : List (Tr CL)} (ha : Ar d ks.length) (hk : ∀ k ∈ ks, WC n k) : WC (n + 1) (.nd d ks)
theorem WC.up {n : Nat} {c : Tr CL} (h : WC n c) : WC (n + 1) c := by
  induction h with
  | nd ha hk ih => exact .nd ha ih
theorem WC.le {n m : Nat} {c : Tr CL} (h : WC n c) (hm : n ≤ m) : WC m c := by
  induction hm with
  | refl => exact h
  | step _ ih => exact ih.up
theorem Ar.le {d : CL} {m : Nat} (h : Ar d m) : m ≤ 2 := by cases d <;> (simp only [Ar] at h; omega)
theorem WC.sz {n : Nat} {c : Tr CL} (h : WC n c) : TR.sz c + 1 ≤ 2 ^ n := by
  induction h with
  | @nd n d ks ha hk ih =>
    rw [sz_nd, Nat.pow_succ]
    match ks, ha.le, ih with
    | [], _, _ =>
      have : 0 < 2 ^ n := Nat.pow_pos (by decide)
      simp
      omega
    | [a], _, ih =>
      have := ih a (by simp)
      simp
      omega
    | [a, b], _, ih =>
      have h1 := ih a (by simp)
      have h2 := ih b (by simp)
      simp
      omega
    | a :: b :: c :: r, hl, _ => simp only [List.length_cons] at hl; omega
theorem WC.ar {n : Nat} {c : Tr CL} (h : WC n c) : Ar c.d c.ks.length ∧ ∀ k ∈ c.ks, ∃ m, WC m k := by
  cases h with
  | nd ha hk => exact ⟨ha, fun k hm => ⟨_, hk k hm⟩⟩
theorem WC.pre {n : Nat} {c : Tr CL} (h : WC n c) : ∀ s ∈ TR.pre c, Ar s.d s.ks.length := fun s hs => by
  obtain ⟨m, hm⟩ := pre_all (P := fun c => ∃ n, WC n c) (fun t ⟨n, ht⟩ k hk => ht.ar.2 k hk) c ⟨n, h⟩ s hs
  exact hm.ar.1
theorem cn_of (c : Tr CL) : cnD c = wrap c.d (c.ks.map cnD) := fold_of wrap c
theorem cn_tup (c : Tr CL) : ∃ s r, cnD c = .tup (.str s :: r) := by
  rw [cn_of]
  cases c.d <;> exact ⟨_, _, rfl⟩
theorem parts_cn {c : Tr CL} (h : Ar c.d c.ks.length) : PartsT (cnD c) (c.ks.map cnD) := by
  rw [cn_of]
  cases c with
  | nd d ks =>
    rw [d_nd, ks_nd] at *
    cases d with
    | all => cases List.length_eq_zero_iff.mp h; exact .one _
    | none => cases List.length_eq_zero_iff.mp h; exact .one _
    | is x => cases List.length_eq_zero_iff.mp h; exact .str _ _
    | not =>
      match ks, h with
      | [k], _ =>
        obtain ⟨s, r, e⟩ := cn_tup k
        show PartsT (.tup [.str "not", cnD k]) [cnD k]
        rw [e]
        exact .sub _ _ _
    | look q =>
      match ks, h with
      | [k], _ =>
        obtain ⟨s, r, e⟩ := cn_tup k
        show PartsT (.tup [.str (lkS q), cnD k]) [cnD k]
        rw [e]
        exact .sub _ _ _
    | conj b =>
      match ks, h with
      | [k, k2], _ =>
        obtain ⟨s, r, e⟩ := cn_tup k
        show PartsT (.tup [_, .tup [cnD k, cnD k2]]) [cnD k, cnD k2]
        rw [e]
        exact .sq _ _ _
theorem good_cn {n : Nat} {c : Tr CL} (h : WC n c) : NB.Good sParts (mapT cnD (subs c)) := by
  induction h with
  | @nd n d ks ha hk ih =>
    have e : mapT cnD (subs (.nd d ks)) = .nd (cnD (.nd d ks)) (ks.map fun k => mapT cnD (subs k)) := by
      rw [subs, mapT, subss_map, mapTs_map, List.map_map]
      rfl
    rw [e]
    refine .nd (fun Φ h => ⟨_, ks.map cnD, rfl, parts_cn (c := .nd d ks) ha, ?_⟩) (fun k hm => ?_)
    · rw [List.map_map] at h
      have e2 : ks.map (Tr.d ∘ fun k => mapT cnD (subs k)) = ks.map cnD := by
        refine List.map_congr_left fun k _ => ?_
        show (mapT cnD (subs k)).d = _
        rw [mapT_d, subs_d]
      rw [e2] at h
      exact h
    · obtain ⟨k', hk', rfl⟩ := List.mem_map.mp hm
      exact ih k' hk'
theorem ev_of (ns : List Str) (F : Fam) (c : Tr CL) : ev ns F c = evL ns F c.d (c.ks.map (ev ns F)) := fold_of _ c
def heldB : D → Bool
  | .tup [_, .bl b] => b
  | _ => false
def heldN : D → D
  | .tup [k, _] => k
  | _ => .non
theorem enum_vec (n : Nat) (f : Nat → Bool) : ((HC.enumD ((vec n f).map D.bl)).filter heldB).map heldN = ((List.range n).filter f).map fun k => .int (k : Nat) := by
  have e : HC.enumD ((vec n f).map D.bl) = (List.range n).map fun k => .tup [.int (k : Nat), .bl (f k)] := by
    unfold HC.enumD
    rw [List.length_map, vec_len]
    refine List.map_congr_left fun k hk => ?_
    have := vec_at (h := f) (List.mem_range.mp hk)
    rw [List.getD_eq_getElem?_getD, this]
    rfl
  rw [e, List.filter_map, List.map_map]
  rfl
def sHold : NB.SV := fun ds Φ => ∃ (c : Tr CL) (t : Tr Str) (n : Nat), ds = [cnD c, elD t] ∧ WC n c ∧ n ≤ 15 ∧ sz t ≤ 1000000 ∧ Φ (natsD ((List.range (sz t)).filter (ev (nmF t) (famF t) c)))
section
variable [I : Tbs] {P : Program} {w : World} {K : PySem.W.Frag} {mg : Str → Option Value} {base : Heap}
theorem ok_holding (T : Txt P K mg w) (TB : LamX.TabB base mg T.c_holding T.P_holding) (HM : (T.P_holding, (envOfC "holding" (defScope s_holding) 0 0 .none).qual ++ "<lambda>") ∈ Tbs.T) (HU : ∀ p ∈ Tbs.T, p.1 = T.P_holding → p.2 = (envOfC "holding" (defScope s_holding) 0 0 .none).qual ++ "<lambda>") :
    FnOk P w K mg base CX0 6 T.a_holding T.fd_holding ["condition", "document"] (spOf K (pureS sHold)) := by
  let SI : Addr → Option NB.SV := fun a => if a = T.a_parts_of then some sParts else none
  have hSI : SI T.a_parts_of = some sParts := if_pos rfl
  have HA : ∀ (J : Tbs) f sp, @NB.spA J K SI f = some sp → Held P w K mg base 1 f sp := fun J f sp e => by
    unfold NB.spA at e
    by_cases hf : f = T.a_parts_of
    · subst hf
      rw [hSI] at e
      cases e
      exact ⟨_, _, @ok_parts J _ _ _ _ _ T, T.F_parts_of.kp, T.b_parts_of⟩
    · rw [show SI f = none from if_neg hf] at e
      cases e
  have G_holds_of : FnOk P w K mg base CX0 3 T.a_holds_of T.fd_holds_of ["family", "condition", "parts"] (spOf K (pureS (sHo T.C_Family))) := ok_ho T
  have G_Family___init__ : FnOk P w K mg base CX0 3 T.a_Family___init__ T.fd_Family___init__ ["self", "document"] (HC.spH K (sInit T.C_Family)) := ok_init T
  let LAM : List D → NB.SV := fun caps ds Φ => ds.length = 2 ∧ sHo T.C_Family (caps ++ ds) Φ
  have HSEM : ∀ caps ds Φ, caps.length = 1 → LAM caps ds Φ → ds.length = 2 ∧ (dCallV (sHo T.C_Family) (dCons (dVar 2) (dCons (dVar 0) (dCons (dVar 1) dNil)))) (FD.startL ds caps 0) (fun d _ => Φ d) := fun caps ds Φ hc ⟨h1, h2⟩ => by
    match caps, ds, hc, h1, h2 with
    | [c], [a, b], _, _, h2 =>
      refine ⟨rfl, ?_⟩
      simp [FD.startL]
      exact h2
  refine fnDC T.F_holding T.hc_holding sc_holding [] (k := 5) (fun A outer s H E hr => ⟨_, (pss_cons (ps_set (i := 2) sc_holding.nd rfl (by first | exact Or.inl rfl | exact Or.inr rfl) (pe_make T.M_Family G_Family___init__ (hr.mono (by omega)) (by rfl) T.g_Family T.b_Family___init__ .nil pass0 (pa_cons (pv 1) pa_nil)))
      (pss_cons (ps_set (i := 3) sc_holding.nd rfl (by first | exact Or.inl rfl | exact Or.inr rfl) (pe_folded T HA (m := 2) (N := ["part", "parts", "family"]) (ps := ["part", "parts"]) (fr := ["family"]) (js := [2]) (by rfl) TB rfl HM HU (hr.mono (by omega)) (NdefX.nscope_by (by decide +kernel)) (FD.free_by (so := defScope s_holding) (by decide +kernel)) (by decide +kernel) (by rfl) (by rfl) (fun _ _ _ _ _ us hl => match us, hl with | [_, _], _ => rfl) (fun A outer s H f c' hr => (pe_call G_holds_of (hr.mono (by omega)) (by rfl) T.g_holds_of T.F_holds_of.kp T.b_holds_of .nil pass0 (pa_cons (pv 2) (pa_cons (pv 0) (pa_cons (pv 1) pa_nil))))) (pv 0) (pe_glob (v := .ref T.a_parts_of) (by rfl) T.g_parts_of rfl)))
      (pss_one (ps_ret (pe_lc (own := [("number", 4), ("held", 5)]) (by rfl) sc_holding.nd  (pi_enum (by rfl) T.n_enumerate (pa_cons (pv 3) pa_nil)) (blkOk_by (own := [("number", 4), ("held", 5)]) (N := ["condition", "document", "family", "holds", "number", "held"]) (sc := defScope s_holding) (by decide +kernel)) (fun _ _ _ _ _ => (pg_tup (n := 2) (by rfl) (pgs_cons (pg_name (i := 4) sc_holding.nd rfl (by first | exact Or.inl rfl | exact Or.inr rfl)) (pgs_cons (pg_name (i := 5) sc_holding.nd rfl (by first | exact Or.inl rfl | exact Or.inr rfl)) pgs_nil)))) (fun _ _ _ _ _ => (pts_one (pt_val (pv 5)))) (fun _ _ _ _ _ => (pv 4))))))), (rs_seq (rs_asg (HC.re_makeH (rv_cons (re_var 1) rv_nil)) rg_name)
      (rs_seq (rs_asg (FD.re_give (I := inferInstance) (nl := 2) (N := ["part", "parts", "family"]) (js := [2]) (Lam := LAM) (rv_cons (re_var 0) (rv_cons re_fn rv_nil)) (re_callV (rv_cons (re_var 2) (rv_cons (re_var 0) (rv_cons (re_var 1) rv_nil)))) HSEM) rg_name)
      (rs_ret (RL.re (rl_lc (HC.ri_enum (re_var 3)) (rg_tup (rgs_cons rg_name (rgs_cons rg_name rgs_nil))) (rt_B (re_var 5)) (re_var 4))))))⟩) (pure_len fun ds Φ h => ?_) (fun os Φ h => ?_)
  · obtain ⟨c, t, n, rfl, _⟩ := h
    rfl
  · obtain ⟨ds, rfl, c, t, n, rfl, hc, hn, hz, hΦ⟩ := h
    simp
    intro p
    refine ⟨p, t, rfl, by simp, hz, fun M' hM => ⟨rfl, ?_⟩⟩
    rw [hM]
    have g := gf t
    have hFn := famF_n t
    have hlen : (nmF t).length = (famF t).n := by unfold nmF; rw [List.length_map, num_len, hFn]
    rw [← hFn] at hz hΦ
    generalize nmF t = nm at *
    generalize famF t = F at *
    refine FD.give_at (α := Tr CL) [some (.d (cnD c)), some (.d (elD t)), some (.d (famD T.C_Family nm F)), none, none, none] cnD (subs c) T.a_parts_of sParts (fun s => bls (vec F.n (ev nm F s.d))) [famD T.C_Family nm F] (fun Ψ h => ?_) hSI (good_cn hc) (by rw [subs_sz]; have := hc.sz; have : 2 ^ n ≤ 2 ^ 15 := Nat.pow_le_pow_right (by decide) hn; omega) rfl (fun s hs Φ' h' => ?_) ?_
    · rw [subs_d] at h
      simpa using h
    · obtain ⟨e1, e2⟩ := subs_pre c s hs
      refine ⟨rfl, nm, F, s.d.d, s.d.ks.map cnD, s.d.ks.map (ev nm F), ?_, g, hlen, ?_, hz, ?_⟩
      · have ek : s.ks = s.d.ks.map subs := by
          have := subs_ks s.d
          rwa [← e1] at this
        rw [ek, cn_of s.d]
        unfold vecs
        rw [List.map_map, List.map_map]
        have e3 : s.d.ks.map ((fun s : Tr (Tr CL) => bls (vec F.n (ev nm F s.d))) ∘ subs) = s.d.ks.map ((fun f => bls (vec F.n f)) ∘ ev nm F) := by
          refine List.map_congr_left fun k _ => ?_
          show bls (vec F.n (ev nm F (subs k).d)) = _
          rw [subs_d]
          rfl
        rw [e3]
        rfl
      · rw [List.length_map]
        exact hc.pre _ e2
      · rw [← ev_of]
        exact h'
    · rw [subs_d]
      simp
      refine lc_fp (HC.enumD ((vec F.n (ev nm F c)).map D.bl)) [some (.d (cnD c)), some (.d (elD t)), some (.d (famD T.C_Family nm F)), some (.d (bls (vec F.n (ev nm F c)))), none, none] [some (.d (cnD c)), some (.d (elD t)), some (.d (famD T.C_Family nm F)), some (.d (bls (vec F.n (ev nm F c)))), none, none] heldB heldN (fun Ψ q => ?_) rfl (by rw [HC.enumD_len, List.length_map, vec_len]; omega) (fun x hx A B hA hB => ?_) ?_
      · simp [bls]
        exact q
      · obtain ⟨k, hk, rfl⟩ := List.mem_map.mp hx
        have hk' := List.mem_range.mp hk
        rw [List.length_map, vec_len] at hk'
        rw [List.getD_eq_getElem?_getD, vec_at hk'] at hA hB ⊢
        simp
        cases q : ev nm F c k with
        | true => simp; exact hA q _ rfl
        | false => simp; exact hB q _ rfl
      · rw [enum_vec]
        simp
        exact hΦ
end
end K48
namespace K48
open PySem PySem.Spec PyProof.Rows L2 DL FD MF TR
/-! ### what the law draws -/
theorem draw_len {n : Nat} {S : SD} (h : ∀ os Φ, S os Φ → ∃ ds : List D, os = .draw :: ds.map .d ∧ ds.length + 1 = n) : ∀ os Φ, S os Φ → os.length = n ∧ (∀ (i : Nat) o, os[i]? = some o → o.own = true → i ∈ [0]) ∧ ∀ i ∈ [0], i < os.length := by
  intro os Φ hS
  obtain ⟨ds, rfl, hl⟩ := h os Φ hS
  refine ⟨by simpa using hl, fun i o e ho => ?_, fun i hi => by rw [List.mem_singleton.mp hi]; simp⟩
  match i, e with
  | 0, _ => simp
  | i + 1, e =>
    have e : (ds.map OV.d)[i]? = some o := e
    rw [List.getElem?_map] at e
    obtain ⟨d, _, rfl⟩ := Option.map_eq_some_iff.mp e
    cases ho
inductive EL : Nat → Tr Str → Prop
  | nd {n : Nat} {d : Str} {ks : List (Tr Str)} (hl : ks.length ≤ 3) (hk : ∀ k ∈ ks, EL n k) : EL (n + 1) (.nd d ks)
theorem EL.sz {n : Nat} {t : Tr Str} (h : EL n t) : 2 * TR.sz t + 1 ≤ 3 ^ n := by
  induction h with
  | @nd n d ks hl hk ih =>
    rw [sz_nd, Nat.pow_succ]
    have hp : 0 < 3 ^ n := Nat.pow_pos (by decide)
    match ks, hl, ih with
    | [], _, _ => simp; omega
    | [a], _, ih =>
      have := ih a (by simp)
      simp
      omega
    | [a, b], _, ih =>
      have h1 := ih a (by simp)
      have h2 := ih b (by simp)
      simp
      omega
    | [a, b, c], _, ih =>
      have h1 := ih a (by simp)
      have h2 := ih b (by simp)
      have h3 := ih c (by simp)
      simp
      omega
    | a :: b :: c :: e :: r, hl, _ => simp only [List.length_cons] at hl; omega
def sElem (n : Nat) : SD := fun os Φ => ∃ k : Nat, os = [.draw, .d (.int (k : Nat))] ∧ k < n ∧ ∀ t, EL n t → Φ (elD t) [.draw, .d (.int (k : Nat))]
section
variable [Tbs] {P : Program} {w : World} {K : PySem.W.Frag} {mg : Str → Option Value} {base : Heap}
theorem ok_elem (T : Txt P K mg w) : ∀ n : Nat, FnOk P w K mg base CX0 (n + 2) T.a_law_element T.fd_law_element ["draw", "depth"] (spOf K (sElem n)) := by
  intro n
  induction n with
  | zero =>
    refine ⟨fun vs H Q E h => ?_, fun A outer s H args us vs Q E hr e0 hb r h => ?_⟩
    all_goals
      obtain ⟨F, os, Φ, _, _, ⟨k, _, h, _⟩, _⟩ := h
      exact absurd h (Nat.not_lt_zero _)
  | succ n ih =>
    have G_law_element : FnOk P w K mg base CX0 (n + 2) T.a_law_element T.fd_law_element ["draw", "depth"] (spOf K (sElem n)) := ih
    have G_law_next : FnOk P w K mg base CX0 1 T.a_law_next T.fd_law_next ["draw", "many"] (spOf K sNext) := ok_nextD T
    refine fnD T.F_law_element sc_law_element [0] (k := n + 2) (fun cdv A outer s H E hr => ⟨_, (pss_cons (ps_set (i := 2) sc_law_element.nd rfl (by first | exact Or.inl rfl | exact Or.inr rfl) (pe_lst pa_nil))
      (pss_cons (ps_if (pt_cmpR op_gt (pv 1) pe_int (nomark _)) (pss_one (ps_for PassesOwn.never rfl (pi_range1 (by rfl) T.n_range (pa_cons (pe_call G_law_next (hr.mono (by omega)) (by rfl) T.g_law_next T.F_law_next.kp T.b_law_next .nil pass0 (pa_cons (pv 0) (pa_cons pe_int pa_nil))) pa_nil)) (pg_name (i := 3) sc_law_element.nd rfl (by first | exact Or.inl rfl | exact Or.inr rfl)) (pss_one (ps_expr (pe_bm PySem.F.plainAttrs_list PySem.F.slot_list_append PySem.F.type_list_append mt_append (pv 2) (pa_cons (pe_call G_law_element (hr.mono (by omega)) (by rfl) T.g_law_element T.F_law_element.kp T.b_law_element .nil pass0 (pa_cons (pv 0) (pa_cons (pe_op op_sub (pv 1) pe_int) pa_nil))) pa_nil)))))) pss_nil)
      (pss_one (ps_ret (pe_tup (pa_cons (pe_ix (show IxR _ (rIxL K) from ix_list) (pe_lst (pa_cons pe_str (pa_cons pe_str (pa_cons pe_str pa_nil)))) (pe_call G_law_next (hr.mono (by omega)) (by rfl) T.g_law_next T.F_law_next.kp T.b_law_next .nil pass0 (pa_cons (pv 0) (pa_cons pe_int pa_nil))) (fun _ _ => rfl)) (pa_cons (pe_callTy call_tuple_of (by rfl) T.n_tuple (by decide +kernel) (pa_cons (pv 2) pa_nil)) pa_nil))))))), (rs_seq (rs_setL (rl_lst rv_nil))
      (rs_seq (rs_if (rt_test (re_op ro_B0 (re_var 1) re_int)) (rs_for (ri_range1 (rv_cons (re_call (ra_slot (i := 0) (ra_cons re_int ra_nil))) rv_nil)) rg_name (rs_app (i := 2) (re_call (ra_slot (i := 0) (ra_cons (re_op ro_I0 (re_var 1) re_int) ra_nil))))) rs_next)
      (rs_ret (re_tup (rv_cons (re_op ro_ixL (RL.re (rl_lst (rv_cons re_str (rv_cons re_str (rv_cons re_str rv_nil))))) (re_call (ra_slot (i := 0) (ra_cons re_int ra_nil)))) (rv_cons (re_cb rc_tuple (rv_cons (re_var 2) rv_nil)) rv_nil))))))⟩) (draw_len fun os Φ h => ?_) (fun os Φ h => ?_)
    · obtain ⟨k, rfl, _⟩ := h
      exact ⟨[_], rfl, rfl⟩
    · obtain ⟨k, rfl, hk, hΦ⟩ := h
      simp
      have fin : ∀ (cs : List (Tr Str)) (o3 : Option OV), cs.length ≤ 3 → (∀ c ∈ cs, EL n c) → ∀ r : Nat, r < 3 → ∃ x, atI ([.str "a", .str "b", .str "ab"] : List D) (r : Int) = some x ∧ Φ (.tup [x, .tup (cs.map elD)]) [.draw, .d (.int (k : Nat))] := by
        intro cs o3 hl hc r hr
        match r, hr with
        | 0, _ => exact ⟨_, rfl, by have := hΦ (.nd "a" cs) (.nd hl hc); rwa [elD_of] at this⟩
        | 1, _ => exact ⟨_, rfl, by have := hΦ (.nd "b" cs) (.nd hl hc); rwa [elD_of] at this⟩
        | 2, _ => exact ⟨_, rfl, by have := hΦ (.nd "ab" cs) (.nd hl hc); rwa [elD_of] at this⟩
      by_cases h0 : 0 < k
      · rw [if_pos h0]
        unfold dFor
        simp
        refine ⟨4, rfl, by decide, by decide, fun r hr => ?_⟩
        simp
        refine ⟨by omega, fun j ρ => ∃ (cs : List (Tr Str)) (o3 : Option OV), ρ = [some .draw, some (.d (.int (k : Nat))), some (.l (cs.map elD)), o3] ∧ cs.length = j ∧ ∀ c ∈ cs, EL n c, ⟨[], none, rfl, rfl, fun c h => nomatch h⟩, ?_, ?_⟩
        · rintro j x ρ hx ⟨cs, o3, rfl, hl, hc⟩
          have hj : j < r := by
            have := (List.getElem?_eq_some_iff.mp hx).1
            rwa [rngD_len] at this
          simp
          refine ⟨k - 1, by rw [show ((k : Int) - 1) = ((k - 1 : Nat) : Int) by omega], by omega, fun t ht => ?_⟩
          simp
          refine ⟨by omega, cs ++ [t], by simp, by simp [hl], fun c h => ?_⟩
          rcases List.mem_append.mp h with h | h
          · exact hc c h
          · rw [List.mem_singleton.mp h]
            exact ht
        · rintro ρ ⟨cs, o3, rfl, hl, hc⟩
          rw [rngD_len] at hl
          simp
          refine ⟨3, rfl, by decide, by decide, fun r2 hr2 => ?_⟩
          obtain ⟨x, hx, hX⟩ := fin cs none (by omega) hc r2 hr2
          rw [atI_nat'] at hx
          simp [hx]
          exact hX
      · rw [if_neg h0]
        refine ⟨3, rfl, by decide, by decide, fun r2 hr2 => ?_⟩
        obtain ⟨x, hx, hX⟩ := fin [] none (by decide) (fun c h => nomatch h) r2 hr2
        rw [atI_nat'] at hx
        simp [hx]
        exact hX
end
end K48
namespace K48
open PySem PySem.Spec PyProof.Rows L2 DL FD MF TR
def sTree (n : Nat) : SD := fun os Φ => ∃ k : Nat, os = [.draw, .d (.int (k : Nat))] ∧ k < n ∧ ∀ c, WC (2 * n) c → Φ (cnD c) [.draw, .d (.int (k : Nat))]
theorem cn_nd (d : CL) (ks : List (Tr CL)) : cnD (.nd d ks) = wrap d (ks.map cnD) := fold_nd wrap d ks
def cjS (b : Bool) : Str := if b then "and" else "or"
section
variable [Tbs] {P : Program} {w : World} {K : PySem.W.Frag} {mg : Str → Option Value} {base : Heap}
theorem ok_tree (T : Txt P K mg w) : ∀ n : Nat, FnOk P w K mg base CX0 (n + 2) T.a_law_tree T.fd_law_tree ["draw", "depth"] (spOf K (sTree n)) := by
  intro n
  induction n with
  | zero =>
    refine ⟨fun vs H Q E h => ?_, fun A outer s H args us vs Q E hr e0 hb r h => ?_⟩
    all_goals
      obtain ⟨F, os, Φ, _, _, ⟨k, _, h, _⟩, _⟩ := h
      exact absurd h (Nat.not_lt_zero _)
  | succ n ih =>
    have G_law_tree : FnOk P w K mg base CX0 (n + 2) T.a_law_tree T.fd_law_tree ["draw", "depth"] (spOf K (sTree n)) := ih
    have G_law_next : FnOk P w K mg base CX0 1 T.a_law_next T.fd_law_next ["draw", "many"] (spOf K sNext) := ok_nextD T
    refine fnD T.F_law_tree sc_law_tree [0] (k := n + 2) (fun cdv A outer s H E hr => ⟨_, (pss_cons (ps_set (i := 2) sc_law_tree.nd rfl (by first | exact Or.inl rfl | exact Or.inr rfl) (pe_call G_law_next (hr.mono (by omega)) (by rfl) T.g_law_next T.F_law_next.kp T.b_law_next .nil pass0 (pa_cons (pv 0) (pa_cons pe_int pa_nil))))
      (pss_cons (ps_if (PW.pt (pw_or (pt_cmpR op_eq (pv 1) pe_int (nomark _)) (pw_or1 (pt_cmpR op_lt (pv 2) pe_int (nomark _))))) (pss_cons (ps_set (i := 3) sc_law_tree.nd rfl (by first | exact Or.inl rfl | exact Or.inr rfl) (pe_lst (pa_cons (pe_tup (pa_cons pe_str pa_nil)) (pa_cons (pe_tup (pa_cons pe_str pa_nil)) (pa_cons (pe_tup (pa_cons pe_str (pa_cons pe_str pa_nil))) (pa_cons (pe_tup (pa_cons pe_str (pa_cons pe_str pa_nil))) (pa_cons (pe_tup (pa_cons pe_str (pa_cons pe_str pa_nil))) (pa_cons (pe_tup (pa_cons pe_str (pa_cons pe_str pa_nil))) pa_nil))))))))
      (pss_one (ps_ret (pe_ix (show IxR _ (rIxL K) from ix_list) (pv 3) (pe_call G_law_next (hr.mono (by omega)) (by rfl) T.g_law_next T.F_law_next.kp T.b_law_next .nil pass0 (pa_cons (pv 0) (pa_cons pe_int pa_nil))) (fun _ _ => rfl))))) pss_nil)
      (pss_cons (ps_if (pt_cmpR op_lt (pv 2) pe_int (nomark _)) (pss_one (ps_ret (pe_tup (pa_cons pe_str (pa_cons (pe_call G_law_tree (hr.mono (by omega)) (by rfl) T.g_law_tree T.F_law_tree.kp T.b_law_tree .nil pass0 (pa_cons (pv 0) (pa_cons (pe_op op_sub (pv 1) pe_int) pa_nil))) pa_nil))))) pss_nil)
      (pss_cons (ps_if (pt_cmpR op_gt (pv 2) pe_int (nomark _)) (pss_cons (ps_set (i := 4) sc_law_tree.nd rfl (by first | exact Or.inl rfl | exact Or.inr rfl) (pe_ix (show IxR _ (rIxL K) from ix_list) (pe_lst (pa_cons pe_str (pa_cons pe_str (pa_cons pe_str (pa_cons pe_str (pa_cons pe_str (pa_cons pe_str pa_nil))))))) (pe_call G_law_next (hr.mono (by omega)) (by rfl) T.g_law_next T.F_law_next.kp T.b_law_next .nil pass0 (pa_cons (pv 0) (pa_cons pe_int pa_nil))) (fun _ _ => rfl)))
      (pss_one (ps_ret (pe_tup (pa_cons (pv 4) (pa_cons (pe_call G_law_tree (hr.mono (by omega)) (by rfl) T.g_law_tree T.F_law_tree.kp T.b_law_tree .nil pass0 (pa_cons (pv 0) (pa_cons (pe_op op_sub (pv 1) pe_int) pa_nil))) pa_nil)))))) pss_nil)
      (pss_cons (ps_set (i := 5) sc_law_tree.nd rfl (by first | exact Or.inl rfl | exact Or.inr rfl) (pe_ix (show IxR _ (rIxL K) from ix_list) (pe_lst (pa_cons pe_str (pa_cons pe_str pa_nil))) (pe_op op_modN (pv 2) pe_int) (fun _ _ => rfl)))
      (pss_cons (ps_set (i := 6) sc_law_tree.nd rfl (by first | exact Or.inl rfl | exact Or.inr rfl) (pe_lst pa_nil))
      (pss_cons (ps_for PassesOwn.never rfl (pi_range1 (by rfl) T.n_range (pa_cons pe_int pa_nil)) (pg_name (i := 7) sc_law_tree.nd rfl (by first | exact Or.inl rfl | exact Or.inr rfl)) (pss_cons (ps_set (i := 8) sc_law_tree.nd rfl (by first | exact Or.inl rfl | exact Or.inr rfl) (pe_call G_law_tree (hr.mono (by omega)) (by rfl) T.g_law_tree T.F_law_tree.kp T.b_law_tree .nil pass0 (pa_cons (pv 0) (pa_cons (pe_op op_sub (pv 1) pe_int) pa_nil))))
      (pss_one (ps_expr (pe_bm PySem.F.plainAttrs_list PySem.F.slot_list_append PySem.F.type_list_append mt_append (pv 6) (pa_cons (pe_ifExp (pt_cmpR op_eq (pe_ix (show IxR _ (rIxT K) from ix_tup) (pv 8) pe_int (fun _ _ => rfl)) (pv 5) (nomark _)) (pe_tup (pa_cons pe_str (pa_cons (pv 8) pa_nil))) (pv 8)) pa_nil))))))
      (pss_one (ps_ret (pe_tup (pa_cons (pv 5) (pa_cons (pe_callTy call_tuple_of (by rfl) T.n_tuple (by decide +kernel) (pa_cons (pv 6) pa_nil)) pa_nil)))))))))))), (rs_seq (rs_asg (re_call (ra_slot (i := 0) (ra_cons re_int ra_nil))) rg_name)
      (rs_seq (rs_if (rt_or (rt_test (re_op ro_eq (re_var 1) re_int)) (rt_test (re_op ro_B0 (re_var 2) re_int))) (rs_seq (rs_setL (rl_lst (rv_cons (re_tup (rv_cons re_str rv_nil)) (rv_cons (re_tup (rv_cons re_str rv_nil)) (rv_cons (re_tup (rv_cons re_str (rv_cons re_str rv_nil))) (rv_cons (re_tup (rv_cons re_str (rv_cons re_str rv_nil))) (rv_cons (re_tup (rv_cons re_str (rv_cons re_str rv_nil))) (rv_cons (re_tup (rv_cons re_str (rv_cons re_str rv_nil))) rv_nil))))))))
      (rs_ret (re_ixS (i := 3) (re_call (ra_slot (i := 0) (ra_cons re_int ra_nil)))))) rs_next)
      (rs_seq (rs_if (rt_test (re_op ro_B0 (re_var 2) re_int)) (rs_ret (re_tup (rv_cons re_str (rv_cons (re_call (ra_slot (i := 0) (ra_cons (re_op ro_I0 (re_var 1) re_int) ra_nil))) rv_nil)))) rs_next)
      (rs_seq (rs_if (rt_test (re_op ro_B0 (re_var 2) re_int)) (rs_seq (rs_asg (re_op ro_ixL (RL.re (rl_lst (rv_cons re_str (rv_cons re_str (rv_cons re_str (rv_cons re_str (rv_cons re_str (rv_cons re_str rv_nil)))))))) (re_call (ra_slot (i := 0) (ra_cons re_int ra_nil)))) rg_name)
      (rs_ret (re_tup (rv_cons (re_var 4) (rv_cons (re_call (ra_slot (i := 0) (ra_cons (re_op ro_I0 (re_var 1) re_int) ra_nil))) rv_nil))))) rs_next)
      (rs_seq (rs_asg (re_op ro_ixL (RL.re (rl_lst (rv_cons re_str (rv_cons re_str rv_nil)))) (re_op ro_I (re_var 2) re_int)) rg_name)
      (rs_seq (rs_setL (rl_lst rv_nil))
      (rs_seq (rs_for (ri_range1 (rv_cons re_int rv_nil)) rg_name (rs_seq (rs_asg (re_call (ra_slot (i := 0) (ra_cons (re_op ro_I0 (re_var 1) re_int) ra_nil))) rg_name)
      (rs_app (i := 6) (re_if (rt_test (re_op ro_eq (re_op ro_ixT (re_var 8) re_int) (re_var 5))) (re_tup (rv_cons re_str (rv_cons (re_var 8) rv_nil))) (re_var 8)))))
      (rs_ret (re_tup (rv_cons (re_var 5) (rv_cons (re_cb rc_tuple (rv_cons (re_var 6) rv_nil)) rv_nil)))))))))))⟩) (draw_len fun os Φ h => ?_) (fun os Φ h => ?_)
    · obtain ⟨k, rfl, _⟩ := h
      exact ⟨[_], rfl, rfl⟩
    · obtain ⟨k, rfl, hk, hΦ⟩ := h
      simp
      refine ⟨13, rfl, by decide, by decide, fun form hf => ?_⟩
      simp
      have lf : ∀ d : CL, Ar d 0 → Φ (wrap d []) [.draw, .d (.int (k : Nat))] := fun d hd => by
        have := hΦ (.nd d []) ((WC.nd (n := 0) hd (fun k h => (List.not_mem_nil h).elim)).le (by omega))
        rwa [cn_nd] at this
      have leaf : ∀ r : Nat, r < 6 → ∃ x, ([.tup [.str "all"], .tup [.str "none"], .tup [.str "is", .str "a"], .tup [.str "is", .str "b"], .tup [.str "is", .str "ab"], .tup [.str "is", .str "is"]] : List D)[r]? = some x ∧ Φ x [.draw, .d (.int (k : Nat))] := fun r hr => by
        match r, hr with
        | 0, _ => exact ⟨_, rfl, lf .all rfl⟩
        | 1, _ => exact ⟨_, rfl, lf .none rfl⟩
        | 2, _ => exact ⟨_, rfl, lf (.is "a") rfl⟩
        | 3, _ => exact ⟨_, rfl, lf (.is "b") rfl⟩
        | 4, _ => exact ⟨_, rfl, lf (.is "ab") rfl⟩
        | 5, _ => exact ⟨_, rfl, lf (.is "is") rfl⟩
      have un : ∀ (d : CL) (c : Tr CL), Ar d 1 → WC (2 * n) c → Φ (wrap d [cnD c]) [.draw, .d (.int (k : Nat))] := fun d c hd hc => by
        have := hΦ (.nd d [c]) ((WC.nd (n := 2 * n) hd (fun k h => by rw [List.mem_singleton.mp h]; exact hc)).le (by omega))
        rwa [cn_nd] at this
      refine (fun (leafs : ?X) => ?main) ?sec
      case main =>
        by_cases h0 : k = 0
        · rw [if_pos h0]
          exact leafs
        · rw [if_neg h0]
          by_cases h3 : form < 3
          · rw [if_pos (by omega)]
            exact leafs
          · rw [if_neg (by omega)]
            have sub : ((k : Int) - 1) = ((k - 1 : Nat) : Int) := by omega
            by_cases h6 : form < 6
            · rw [if_pos (by omega)]
              refine ⟨k - 1, by rw [sub], by omega, fun c hc => ?_⟩
              have := un .not c rfl hc
              simpa [wrap] using this
            · rw [if_neg (by omega)]
              by_cases h8 : 8 < form
              · rw [if_pos (by omega)]
                refine ⟨6, rfl, by decide, by decide, fun r hr => ?_⟩
                obtain ⟨q, hq⟩ : ∃ q : Lk, ([.str "child", .str "below", .str "parent", .str "above", .str "earlier", .str "later"] : List D)[r]? = some (.str (lkS q)) := by
                  match r, hr with
                  | 0, _ => exact ⟨.child, rfl⟩
                  | 1, _ => exact ⟨.below, rfl⟩
                  | 2, _ => exact ⟨.parent, rfl⟩
                  | 3, _ => exact ⟨.above, rfl⟩
                  | 4, _ => exact ⟨.earlier, rfl⟩
                  | 5, _ => exact ⟨.later, rfl⟩
                simp [hq]
                refine ⟨k - 1, by rw [sub], by omega, fun c hc => ?_⟩
                have := un (.look q) c rfl hc
                simpa [wrap] using this
              · rw [if_neg (by omega)]
                have rest : ∀ (b : Bool) (E : DEn), (∀ cs : List (Tr CL), cs.length = 2 → (∀ c ∈ cs, WC (2 * n + 1) c) → ∀ o7 o8, E.nx [some .draw, some (.d (.int (k : Nat))), some (.d (.int (form : Nat))), none, none, some (.d (.str (cjS b))), some (.l (cs.map cnD)), o7, o8]) →
                    dFor (dIR1 (dCons (dC (D.int 2)) dNil)) (dName 7) (dSeq (dAsg (dCall (sTree n) (dASlot 0 (dACons (dOp (oI0 fun i j => D.int (i - j)) (dVar 1) (dC (D.int 1))) dANil))) (dName 8))
                      (dApp 6 (dIf (dTest (dOp oEq (dOp oIxT (dVar 8) (dC (D.int 0))) (dVar 5))) (dTup (dCons (dC (D.str "not")) (dCons (dVar 8) dNil))) (dVar 8)))) E
                      [some .draw, some (.d (.int (k : Nat))), some (.d (.int (form : Nat))), none, none, some (.d (.str (cjS b))), some (.l []), none, none] := by
                  intro b E hE
                  refine for_inv (rngD 0 2) _ (fun j ρ => ∃ (cs : List (Tr CL)) (o7 o8 : Option OV), ρ = [some .draw, some (.d (.int (k : Nat))), some (.d (.int (form : Nat))), none, none, some (.d (.str (cjS b))), some (.l (cs.map cnD)), o7, o8] ∧ cs.length = j ∧ ∀ c ∈ cs, WC (2 * n + 1) c)
                    (fun Ψ h => ?_) ⟨[], none, none, rfl, rfl, fun c h => (List.not_mem_nil h).elim⟩ ?_ ?_
                  · simp
                    exact h
                  · rintro j x ρ hx ⟨cs, o7, o8, rfl, hl, hc⟩
                    have hj : j < 2 := by
                      have := (List.getElem?_eq_some_iff.mp hx).1
                      rwa [rngD_len] at this
                    simp
                    refine ⟨k - 1, by rw [sub], by omega, fun c hc1 => ?_⟩
                    obtain ⟨s, r, hr⟩ := cn_tup c
                    simp [hr]
                    by_cases hk : s = cjS b
                    · simp [hk]
                      refine ⟨by omega, cs ++ [.nd .not [c]], ?_, by simp [hl], ?_⟩
                      · simp [cn_nd, wrap, hr, hk]
                      · intro c' h
                        rcases List.mem_append.mp h with h | h
                        · exact hc c' h
                        · rw [List.mem_singleton.mp h]
                          exact .nd rfl (fun x h => by rw [List.mem_singleton.mp h]; exact hc1)
                    · simp [hk]
                      refine ⟨by omega, cs ++ [c], ?_, by simp [hl], ?_⟩
                      · simp [hr]
                      · intro c' h
                        rcases List.mem_append.mp h with h | h
                        · exact hc c' h
                        · rw [List.mem_singleton.mp h]
                          exact hc1.up
                  · rintro ρ ⟨cs, o7, o8, rfl, hl, hc⟩
                    rw [rngD_len] at hl
                    exact hE cs hl hc o7 o8
                have fin : ∀ (b : Bool) (cs : List (Tr CL)), cs.length = 2 → (∀ c ∈ cs, WC (2 * n + 1) c) → Φ (.tup [.str (cjS b), .tup (cs.map cnD)]) [.draw, .d (.int (k : Nat))] := fun b cs hl hc => by
                  have := hΦ (.nd (.conj b) cs) ((WC.nd (n := 2 * n + 1) (d := .conj b) hl hc).le (by omega))
                  rwa [cn_nd] at this
                have go : ∃ b, atI ([.str "and", .str "or"] : List D) ((form : Int).fmod 2) = some (.str (cjS b)) := by
                  obtain rfl | rfl | rfl : form = 6 ∨ form = 7 ∨ form = 8 := by omega
                  · exact ⟨true, rfl⟩
                  · exact ⟨false, rfl⟩
                  · exact ⟨true, rfl⟩
                obtain ⟨b, hb⟩ := go
                refine ⟨_, hb, ?_⟩
                refine rest b _ fun cs hl hc o7 o8 => ?_
                simp
                exact fin b cs hl hc
      case sec =>
        refine ⟨6, rfl, by decide, by decide, fun r hr => ?_⟩
        obtain ⟨x, hx, hX⟩ := leaf r hr
        simp [hx]
        exact hX
end
end K48
namespace K48
open PySem PySem.Spec PyProof.Rows L2 DL FD MF TR
def sInt (n : Nat) : NB.SV := fun ds Φ => ∃ c : Tr CL, ds = [cnD c] ∧ WC n c ∧ ∀ i : Int, Φ (.int i)
section
variable [Tbs] {P : Program} {w : World} {K : PySem.W.Frag} {mg : Str → Option Value} {base : Heap}
theorem cmp_int {n : Nat} (tree : D) (ls : List (Tr CL)) (hl : ls.length ≤ 2) (hc : ∀ c ∈ ls, WC n c) (Ω : List D → DL.Env → Prop) (h : ∀ is : List Int, Ω (is.map .int) [some (.d tree), some (.d (.tup (ls.map cnD))), none]) :
    dLc (dIT (dVar 1)) (dName 2) dYes (dCallV (sInt n) (dCons (dVar 2) dNil)) [2] [some (.d tree), some (.d (.tup (ls.map cnD))), none] Ω := by
  refine lc_inv (ls.map cnD) [some (.d tree), some (.d (.tup (ls.map cnD))), none] (fun k acc ρ => ρ = [some (.d tree), some (.d (.tup (ls.map cnD))), none] ∧ acc.length = k ∧ ∃ is : List Int, acc = is.map .int) (fun Ψ q => ?_) ⟨rfl, rfl, [], rfl⟩ ?_ ?_
  · simp
    exact q
  · rintro k x acc ρ hx ⟨rfl, hk, is, rfl⟩
    rw [List.getElem?_map] at hx
    obtain ⟨c, ec, rfl⟩ := Option.map_eq_some_iff.mp hx
    have hlt := (List.getElem?_eq_some_iff.mp ec).1
    simp
    refine ⟨c, rfl, hc c (List.mem_of_getElem? ec), fun i => ?_⟩
    simp
    rw [List.length_map] at hk
    exact ⟨by omega, hk, is ++ [i], by simp⟩
  · rintro acc ρ ⟨rfl, _, is, rfl⟩
    simp
    exact h is
theorem ok_lparts (T : Txt P K mg w) : ∀ n : Nat, FnOk P w K mg base CX0 (n + 1) T.a_law_parts T.fd_law_parts ["tree"] (spOf K (pureS (sInt n))) := by
  intro n
  induction n with
  | zero =>
    refine ⟨fun vs H Q E h => ?_, fun A outer s H args us vs Q E hr e0 hb r h => ?_⟩
    all_goals
      obtain ⟨F, os, Φ, _, _, ⟨ds, _, c, _, h, _⟩, _⟩ := h
      cases h
  | succ n ih =>
    have G_law_parts : FnOk P w K mg base CX0 (n + 1) T.a_law_parts T.fd_law_parts ["tree"] (spOf K (pureS (sInt n))) := ih
    refine fnD T.F_law_parts sc_law_parts [] (k := n + 1) (fun cdv A outer s H E hr => ⟨_, (pss_cons (ps_if (pt_cmpR op_in_seq (pe_ix (show IxR _ (rIxT K) from ix_tup) (pv 0) pe_int (fun _ _ => rfl)) (pe_tup (pa_cons pe_str (pa_cons pe_str (pa_cons pe_str pa_nil)))) rfl) (pss_one (ps_ret pe_int)) pss_nil)
      (pss_cons (ps_set (i := 1) sc_law_parts.nd rfl (by first | exact Or.inl rfl | exact Or.inr rfl) (pe_ifExp (pt_cmpR op_in_seq (pe_ix (show IxR _ (rIxT K) from ix_tup) (pv 0) pe_int (fun _ _ => rfl)) (pe_tup (pa_cons pe_str (pa_cons pe_str pa_nil))) rfl) (pe_ix (show IxR _ (rIxT K) from ix_tup) (pv 0) pe_int (fun _ _ => rfl)) (pe_tup (pa_cons (pe_ix (show IxR _ (rIxT K) from ix_tup) (pv 0) pe_int (fun _ _ => rfl)) pa_nil))))
      (pss_one (ps_ret (pe_op op_add pe_int (pe_callB (cr_sum rfl) (by rfl) T.n_sum (by decide +kernel) (pa_cons (pe_lc (own := [("part", 2)]) (g := gName 2) (by rfl) sc_law_parts.nd  (pi_tup (pv 1)) (blkOk_by (own := [("part", 2)]) (N := ["tree", "inner", "part"]) (sc := defScope s_law_parts) (by decide +kernel)) (fun _ _ _ _ _ => (pg_name (i := 2) sc_law_parts.nd rfl (by first | exact Or.inl rfl | exact Or.inr rfl))) (fun _ _ _ _ _ => pts_nil) (fun _ _ _ _ _ => (pe_call G_law_parts (hr.mono (by omega)) (by rfl) T.g_law_parts T.F_law_parts.kp T.b_law_parts .nil pass0 (pa_cons (pv 2) pa_nil)))) pa_nil))))))), (rs_seq (rs_if (rt_test (re_op ro_in (re_op ro_ixT (re_var 0) re_int) (re_tup (rv_cons re_str (rv_cons re_str (rv_cons re_str rv_nil)))))) (rs_ret re_int) rs_next)
      (rs_seq (rs_asg (re_if (rt_test (re_op ro_in (re_op ro_ixT (re_var 0) re_int) (re_tup (rv_cons re_str (rv_cons re_str rv_nil))))) (re_op ro_ixT (re_var 0) re_int) (re_tup (rv_cons (re_op ro_ixT (re_var 0) re_int) rv_nil))) rg_name)
      (rs_ret (re_op ro_I0 re_int (re_cb rc_sum (rv_cons (RL.re (rl_lc (ri_tup (re_var 1)) rg_name rt_yes (re_callV (rv_cons (re_var 2) rv_nil)))) rv_nil))))))⟩) (pure_len fun ds Φ h => ?_) (fun os Φ h => ?_)
    · obtain ⟨c, rfl, _⟩ := h
      rfl
    · obtain ⟨ds, rfl, c, rfl, hw, hΦ⟩ := h
      cases hw with
      | @nd n d ks ha hk =>
        simp only [cn_nd] at hΦ ⊢
        cases d with
        | all => simp (decide := true) [wrap]; exact hΦ _
        | none => simp (decide := true) [wrap]; exact hΦ _
        | is x => simp (decide := true) [wrap]; exact hΦ _
        | not =>
          match ks, ha, hk with
          | [k], _, hk =>
            simp (decide := true) [wrap]
            refine cmp_int _ [k] (by simp) hk _ fun is => ?_
            simp
            exact ⟨is, intsD_map is, hΦ _⟩
        | look q =>
          match ks, ha, hk with
          | [k], _, hk =>
            cases q <;>
              (simp (decide := true) [wrap, lkS]
               refine cmp_int _ [k] (by simp) hk _ fun is => ?_
               simp
               exact ⟨is, intsD_map is, hΦ _⟩)
        | conj b =>
          cases b <;>
            (simp (decide := true) [wrap]
             refine cmp_int _ ks ha.le hk _ fun is => ?_
             simp
             exact ⟨is, intsD_map is, hΦ _⟩)
theorem ok_llooks (T : Txt P K mg w) : ∀ n : Nat, FnOk P w K mg base CX0 (n + 1) T.a_law_looks T.fd_law_looks ["tree"] (spOf K (pureS (sInt n))) := by
  intro n
  induction n with
  | zero =>
    refine ⟨fun vs H Q E h => ?_, fun A outer s H args us vs Q E hr e0 hb r h => ?_⟩
    all_goals
      obtain ⟨F, os, Φ, _, _, ⟨ds, _, c, _, h, _⟩, _⟩ := h
      cases h
  | succ n ih =>
    have G_law_looks : FnOk P w K mg base CX0 (n + 1) T.a_law_looks T.fd_law_looks ["tree"] (spOf K (pureS (sInt n))) := ih
    refine fnD T.F_law_looks sc_law_looks [] (k := n + 1) (fun cdv A outer s H E hr => ⟨_, (pss_cons (ps_if (pt_cmpR op_in_seq (pe_ix (show IxR _ (rIxT K) from ix_tup) (pv 0) pe_int (fun _ _ => rfl)) (pe_tup (pa_cons pe_str (pa_cons pe_str (pa_cons pe_str pa_nil)))) rfl) (pss_one (ps_ret pe_int)) pss_nil)
      (pss_cons (ps_set (i := 1) sc_law_looks.nd rfl (by first | exact Or.inl rfl | exact Or.inr rfl) (pe_ifExp (pt_cmpR op_in_seq (pe_ix (show IxR _ (rIxT K) from ix_tup) (pv 0) pe_int (fun _ _ => rfl)) (pe_tup (pa_cons pe_str (pa_cons pe_str pa_nil))) rfl) (pe_ix (show IxR _ (rIxT K) from ix_tup) (pv 0) pe_int (fun _ _ => rfl)) (pe_tup (pa_cons (pe_ix (show IxR _ (rIxT K) from ix_tup) (pv 0) pe_int (fun _ _ => rfl)) pa_nil))))
      (pss_one (ps_ret (pe_op op_add (pe_callB (cr_sum rfl) (by rfl) T.n_sum (by decide +kernel) (pa_cons (pe_lc (own := [("part", 2)]) (g := gName 2) (by rfl) sc_law_looks.nd  (pi_tup (pv 1)) (blkOk_by (own := [("part", 2)]) (N := ["tree", "inner", "part"]) (sc := defScope s_law_looks) (by decide +kernel)) (fun _ _ _ _ _ => (pg_name (i := 2) sc_law_looks.nd rfl (by first | exact Or.inl rfl | exact Or.inr rfl))) (fun _ _ _ _ _ => pts_nil) (fun _ _ _ _ _ => (pe_call G_law_looks (hr.mono (by omega)) (by rfl) T.g_law_looks T.F_law_looks.kp T.b_law_looks .nil pass0 (pa_cons (pv 2) pa_nil)))) pa_nil)) (pe_ifExp (pt_cmpR op_in_seq (pe_ix (show IxR _ (rIxT K) from ix_tup) (pv 0) pe_int (fun _ _ => rfl)) (pe_tup (pa_cons pe_str (pa_cons pe_str (pa_cons pe_str pa_nil)))) rfl) pe_int pe_int)))))), (rs_seq (rs_if (rt_test (re_op ro_in (re_op ro_ixT (re_var 0) re_int) (re_tup (rv_cons re_str (rv_cons re_str (rv_cons re_str rv_nil)))))) (rs_ret re_int) rs_next)
      (rs_seq (rs_asg (re_if (rt_test (re_op ro_in (re_op ro_ixT (re_var 0) re_int) (re_tup (rv_cons re_str (rv_cons re_str rv_nil))))) (re_op ro_ixT (re_var 0) re_int) (re_tup (rv_cons (re_op ro_ixT (re_var 0) re_int) rv_nil))) rg_name)
      (rs_ret (re_op ro_I0 (re_cb rc_sum (rv_cons (RL.re (rl_lc (ri_tup (re_var 1)) rg_name rt_yes (re_callV (rv_cons (re_var 2) rv_nil)))) rv_nil)) (re_if (rt_test (re_op ro_in (re_op ro_ixT (re_var 0) re_int) (re_tup (rv_cons re_str (rv_cons re_str (rv_cons re_str rv_nil)))))) re_int re_int)))))⟩) (pure_len fun ds Φ h => ?_) (fun os Φ h => ?_)
    · obtain ⟨c, rfl, _⟩ := h
      rfl
    · obtain ⟨ds, rfl, c, rfl, hw, hΦ⟩ := h
      cases hw with
      | @nd n d ks ha hk =>
        simp only [cn_nd] at hΦ ⊢
        cases d with
        | all => simp (decide := true) [wrap]; exact hΦ _
        | none => simp (decide := true) [wrap]; exact hΦ _
        | is x => simp (decide := true) [wrap]; exact hΦ _
        | not =>
          match ks, ha, hk with
          | [k], _, hk =>
            simp (decide := true) [wrap]
            refine cmp_int _ [k] (by simp) hk _ fun is => ?_
            simp (decide := true)
            exact ⟨is, intsD_map is, hΦ _⟩
        | look q =>
          match ks, ha, hk with
          | [k], _, hk =>
            cases q <;>
              (simp (decide := true) [wrap, lkS]
               refine cmp_int _ [k] (by simp) hk _ fun is => ?_
               simp (decide := true)
               exact ⟨is, intsD_map is, hΦ _⟩)
        | conj b =>
          cases b <;>
            (simp (decide := true) [wrap]
             refine cmp_int _ ks ha.le hk _ fun is => ?_
             simp (decide := true)
             exact ⟨is, intsD_map is, hΦ _⟩)
/-- any condition of this height may come -/
def sCond : SD := fun os Φ => ∃ k : Nat, os = [.draw, .d (.int (k : Nat))] ∧ k < 4 ∧ ∀ c, WC 8 c → Φ (cnD c) [.draw, .d (.int (k : Nat))]
theorem ok_cond (T : Txt P K mg w) : FnOk P w K mg base CX0 10 T.a_law_condition T.fd_law_condition ["draw", "depth"] (spOf K sCond) := by
  have G_law_tree : FnOk P w K mg base CX0 6 T.a_law_tree T.fd_law_tree ["draw", "depth"] (spOf K (sTree 4)) := ok_tree T 4
  have G_law_parts : FnOk P w K mg base CX0 9 T.a_law_parts T.fd_law_parts ["tree"] (spOf K (pureS (sInt 8))) := ok_lparts T 8
  have G_law_looks : FnOk P w K mg base CX0 9 T.a_law_looks T.fd_law_looks ["tree"] (spOf K (pureS (sInt 8))) := ok_llooks T 8
  refine fnD T.F_law_condition sc_law_condition [0] (k := 9) (fun cdv A outer s H E hr => ⟨_, (pss_cons (ps_set (i := 2) sc_law_condition.nd rfl (by first | exact Or.inl rfl | exact Or.inr rfl) (pe_call G_law_tree (hr.mono (by omega)) (by rfl) T.g_law_tree T.F_law_tree.kp T.b_law_tree .nil pass0 (pa_cons (pv 0) (pa_cons (pv 1) pa_nil))))
      (pss_one (ps_ret (pe_ifExp (PW.pt (pw_and (pt_cmpR op_le (pe_call G_law_parts (hr.mono (by omega)) (by rfl) T.g_law_parts T.F_law_parts.kp T.b_law_parts .nil pass0 (pa_cons (pv 2) pa_nil)) pe_int (nomark _)) (pw_and1 (pt_cmpR op_le (pe_call G_law_looks (hr.mono (by omega)) (by rfl) T.g_law_looks T.F_law_looks.kp T.b_law_looks .nil pass0 (pa_cons (pv 2) pa_nil)) pe_int (nomark _))))) (pv 2) (pe_tup (pa_cons pe_str (pa_cons (pe_tup (pa_cons pe_str (pa_cons pe_str pa_nil))) pa_nil))))))), (rs_seq (rs_asg (re_call (ra_slot (i := 0) (ra_cons (re_var 1) ra_nil))) rg_name)
      (rs_ret (re_if (rt_and (rt_test (re_op ro_B0 (re_callV (rv_cons (re_var 2) rv_nil)) re_int)) (rt_test (re_op ro_B0 (re_callV (rv_cons (re_var 2) rv_nil)) re_int))) (re_var 2) (re_tup (rv_cons re_str (rv_cons (re_tup (rv_cons re_str (rv_cons re_str rv_nil))) rv_nil))))))⟩) (draw_len fun os Φ h => ?_) (fun os Φ h => ?_)
  · obtain ⟨k, rfl, _⟩ := h
    exact ⟨[_], rfl, rfl⟩
  · obtain ⟨k, rfl, hk, hΦ⟩ := h
    simp
    refine ⟨k, rfl, hk, fun c hc => ?_⟩
    have dflt : Φ (.tup [.str "below", .tup [.str "is", .str "a"]]) [.draw, .d (.int (k : Nat))] := by
      have := hΦ (.nd (.look .below) [.nd (.is "a") []]) ((WC.nd (n := 1) (d := .look .below) (ks := [.nd (.is "a") []]) (show Ar (.look .below) 1 from rfl) (fun x hx => by
        rw [List.mem_singleton.mp hx]
        exact .nd (n := 0) (d := .is "a") (ks := []) (show Ar (.is "a") 0 from rfl) (fun k h => (List.not_mem_nil h).elim))).le (by decide))
      rw [cn_nd] at this
      exact this
    simp
    refine ⟨c, rfl, hc, fun i => ?_⟩
    by_cases h1 : i ≤ 12
    · simp [h1]
      refine ⟨c, rfl, hc, fun j => ?_⟩
      by_cases h2 : j ≤ 4
      · simp [h2]
        exact hΦ c hc
      · simp [h2]
        exact dflt
    · simp [h1]
      exact dflt
end
end K48
namespace K48
open PySem PySem.Spec PyProof.Rows L2 DL FD MF TR
/-! ### the law's numbering -/
def Dk (M M' : HC.Cells) : Prop := ∀ q, HC.look M q = some .draw → HC.look M' q = some .draw
def sNumb (n : Nat) : HC.SC := fun ds M Φ => ∃ (p : Addr) (t : Tr Str) (o : Option Nat) (rs : List (RwP Str)), ds = [elD t, .int (oI o), .fn p] ∧ EL n t ∧ RowsAt M p rs ∧ InO o rs.length ∧ rs.length + sz t ≤ 1000000 ∧ (∀ r ∈ rs, r.2.2.length ≤ rs.length) ∧
  ∀ M', RowsAt M' p (addP o rs.length rs ++ numP t rs.length o) → Dk M M' → Φ .non M'
section
variable [I : Tbs] {P : Program} {w : World} {K : PySem.W.Frag} {mg : Str → Option Value} {base : Heap}
theorem ok_number (T : Txt P K mg w) : ∀ n : Nat, FnOk P w K mg base CX0 (n + 1) T.a_law_number T.fd_law_number ["element", "parent", "rows"] (HC.spH K (sNumb n)) := by
  intro n
  induction n with
  | zero =>
    refine ⟨fun vs H Q E h => ?_, fun A outer s H args us vs Q E hr e0 hb r h => ?_⟩
    all_goals
      obtain ⟨F, M, ds, Φ, _, _, _, ⟨p, t, o, rs, _, h, _⟩, _⟩ := h
      cases h
  | succ n ih =>
    have G_law_number : FnOk P w K mg base CX0 (n + 1) T.a_law_number T.fd_law_number ["element", "parent", "rows"] (HC.spH K (sNumb n)) := ih
    refine HC.fnC T.F_law_number sc_law_number (k := n + 1) (fun cdv A outer s H E hr => ⟨_, (pss_cons (ps_set (i := 3) sc_law_number.nd rfl (by first | exact Or.inl rfl | exact Or.inr rfl) (pe_callB call_len (by rfl) T.n_len boot_len (pa_cons (pv 2) pa_nil)))
      (pss_cons (ps_expr (pe_bm PySem.F.plainAttrs_list PySem.F.slot_list_append PySem.F.type_list_append mt_append (pv 2) (pa_cons (pe_lst (pa_cons (pe_ix (show IxR _ (rIxT K) from ix_tup) (pv 0) pe_int (fun _ _ => rfl)) (pa_cons (pv 1) (pa_cons (pe_lst pa_nil) pa_nil)))) pa_nil)))
      (pss_cons (ps_if (pt_cmpR op_ge (pv 1) pe_int (nomark _)) (pss_one (ps_expr (pe_bm PySem.F.plainAttrs_list PySem.F.slot_list_append PySem.F.type_list_append mt_append (pe_ix (show IxR _ (rIxL K) from ix_list) (pe_ix (show IxR _ (rIxL K) from ix_list) (pv 2) (pv 1) (fun _ _ => rfl)) pe_int (fun _ _ => rfl)) (pa_cons (pv 3) pa_nil)))) pss_nil)
      (pss_one (ps_for PassesOwn.never rfl (pi_tup (pe_ix (show IxR _ (rIxT K) from ix_tup) (pv 0) pe_int (fun _ _ => rfl))) (pg_name (i := 4) sc_law_number.nd rfl (by first | exact Or.inl rfl | exact Or.inr rfl)) (pss_one (ps_expr (pe_call G_law_number (hr.mono (by omega)) (by rfl) T.g_law_number T.F_law_number.kp T.b_law_number .nil pass0 (pa_cons (pv 4) (pa_cons (pv 3) (pa_cons (pv 2) pa_nil))))))))))), (HC.xs_seq (HC.xs_asg (HC.xe_len (HC.xe_raw 2)) HC.xg_name)
      (HC.xs_seq (HC.xs_app (HC.xe_raw 2) (HC.XL.ce (HC.xl_lst (HC.xv_cons (HC.xe_op ro_ixT (HC.xe_raw 0) HC.xe_int) (HC.xv_cons (HC.xe_raw 1) (HC.xv_cons (HC.XL.ce (HC.xl_lst HC.xv_nil)) HC.xv_nil))))))
      (HC.xs_seq (HC.xs_if (HC.xt_test (HC.xe_op ro_B0 (HC.xe_raw 1) HC.xe_int)) (HC.xs_app (HC.xe_ixL (HC.xe_ixL (HC.xe_raw 2) (HC.xe_raw 1)) HC.xe_int) (HC.xe_raw 3)) HC.xs_next)
      (HC.xs_for (HC.xi_tup (HC.xe_op ro_ixT (HC.xe_raw 0) HC.xe_int)) HC.xg_name (HC.xs_drop (HC.xe_call (HC.xv_cons (HC.xe_raw 4) (HC.xv_cons (HC.xe_raw 3) (HC.xv_cons (HC.xe_raw 2) HC.xv_nil)))))))))⟩) (fun ds M Φ h => ?_) (fun ds M Φ h => ?_)
    · obtain ⟨p, t, o, rs, rfl, _⟩ := h
      rfl
    · obtain ⟨p, t, o, rs, rfl, ht, ⟨as, cs, hR⟩, ho, hz, hB, hΦ⟩ := h
      cases ht with
      | @nd n d ks hl hk =>
        have hA : (addP o rs.length rs).length = rs.length := addP_len _ _ _
        rw [TR.sz] at hz
        have hAk := addP_kids (o := o) (k := rs.length) hB
        have loop : ∀ M1, RowsAt M1 p (addP o rs.length rs ++ [(d, o, [])]) → Dk M M1 → ∀ E : HC.CEn, (∀ ρ M', RowsAt M' p (addP o rs.length rs ++ numP (.nd d ks) rs.length o) → Dk M M' → E.nx ρ M') →
            HC.cFor (HC.cIT (HC.cOp oIxT (HC.cRaw 0) (HC.cC (.int 1)))) (HC.cName 4) (HC.cDrop (HC.cCall (sNumb n) (HC.cCons (HC.cRaw 4) (HC.cCons (HC.cRaw 3) (HC.cCons (HC.cRaw 2) HC.cNil))))) E
              [some (.tup [.str d, .tup (ks.map elD)]), some (.int (oI o)), some (.fn p), some (.int (rs.length : Nat)), none] M1 := by
          intro M1 hR1 hd1 E hE
          generalize hm : rs.length = m at *
          generalize addP o m rs = A at *
          refine HC.for_inv (ks.map elD) M1 (fun j ρ M' => ∃ o4, ρ = [some (.tup [.str d, .tup (ks.map elD)]), some (.int (oI o)), some (.fn p), some (.int (m : Nat)), o4] ∧ RowsAt M' p (A ++ (d, o, starts (ks.take j) (m + 1)) :: numPs (ks.take j) (m + 1) (some m)) ∧ Dk M M') (fun Ψ q => ?_) ⟨none, rfl, ?_, hd1⟩ ?_ ?_
          · simp
            exact q
          · rw [List.take_zero, starts, numPs]
            exact hR1
          · rintro j x ρ M' hx ⟨o4, rfl, hR2, hd2⟩
            rw [List.getElem?_map] at hx
            obtain ⟨k, ek, rfl⟩ := Option.map_eq_some_iff.mp hx
            have hj := (List.getElem?_eq_some_iff.mp ek).1
            have ht : ks.take (j + 1) = ks.take j ++ [k] := by rw [List.take_add_one, ek]; rfl
            have hs : szs (ks.take j) + sz k ≤ szs ks := by
              have e1 : ks = ks.take (j + 1) ++ ks.drop (j + 1) := (List.take_append_drop _ _).symm
              have e2 : szs ks = szs (ks.take (j + 1)) + szs (ks.drop (j + 1)) := by rw [← szs_app, ← e1]
              rw [ht, szs_app, szs, szs] at e2
              omega
            have hlen : (A ++ (d, o, starts (ks.take j) (m + 1)) :: numPs (ks.take j) (m + 1) (some m)).length = m + 1 + szs (ks.take j) := by
              rw [List.length_append, List.length_cons, numPs_len, hA]
              omega
            simp
            refine ⟨p, k, some m, _, rfl, hk k (List.mem_of_getElem? ek), hR2, fun i hi => ?_, by rw [hlen]; omega, fun r hr => ?_, fun M2 hR3 hd3 => ⟨?_, fun q hq => hd3 q (hd2 q hq)⟩⟩
            · cases hi
              rw [hlen]
              omega
            · rw [hlen]
              rcases List.mem_append.mp hr with hr | hr
              · have := hAk r hr
                omega
              · rcases List.mem_cons.mp hr with rfl | hr
                · have h1 : (starts (ks.take j) (m + 1)).length ≤ szs (ks.take j) := by rw [starts_len]; exact ks_szs _
                  show (starts (ks.take j) (m + 1)).length ≤ _
                  omega
                · have := numPs_kids (ks.take j) (m + 1) (some m) r hr
                  omega
            · rw [hlen] at hR3
              have e3 := addP_in A (numPs (ks.take j) (m + 1) (some m)) d o (starts (ks.take j) (m + 1)) (m + 1 + szs (ks.take j))
              rw [hA] at e3
              rw [e3] at hR3
              rw [ht, starts_app, numPs_app, starts, starts, numPs, numPs, List.append_nil]
              rw [List.append_assoc, List.cons_append] at hR3
              exact hR3
          · rintro ρ M' ⟨o4, rfl, hR2, hd2⟩
            rw [List.length_map, List.take_length] at hR2
            refine hE _ _ ?_ hd2
            rw [numP]
            exact hR2
        simp [-HC.put_cons, -HC.look_cons, hR.top, hR.la, elD_of]
        intro c hc a ha
        have R1 := hR.push (d := d) (o := o) hc ha
        have hca : c ≠ a := fun z => by rw [HC.look_cons, if_pos z] at ha; cases ha
        have hpa : a ≠ p := fun z => by
          rw [HC.look_cons, if_neg hca, z, hR.top] at ha
          cases ha
        have hpc : c ≠ p := fun z => by rw [z, hR.top] at hc; cases hc
        have hp2 : ∀ x, HC.look ((a, x) :: (c, .l []) :: M) p = some (.l (as.map .fn)) := fun x => by rw [HC.look_cons, if_neg hpa, HC.look_cons, if_neg hpc]; exact hR.top
        have d1 : Dk M (HC.put ((a, .l [.str d, .int (oI o), .fn c]) :: (c, .l []) :: M) p (.l (as.map .fn ++ [.fn a]))) := fun q hq => by
          have n1 : q ≠ p := fun z => by rw [z, hR.top] at hq; cases hq
          have n2 : c ≠ q := fun z => by rw [← z, hc] at hq; cases hq
          have n3 : a ≠ q := fun z => by
            rw [HC.look_cons, if_neg hca, z, hq] at ha
            cases ha
          rw [HC.look_other (hp2 _) n1, HC.look_cons, if_neg n3, HC.look_cons, if_neg n2]
          exact hq
        refine ⟨_, hp2 _, by rw [List.length_map, hR.la]; omega, ?_⟩
        generalize HC.put _ p _ = M1 at R1 d1 ⊢
        have fin : ∀ (ρ : HC.Env) (M' : HC.Cells), RowsAt M' p (addP o rs.length rs ++ numP (.nd d ks) rs.length o) → Dk M M' → ∃ M2, HC.Fewer M2 M' ∧ Φ .non M2 := fun ρ M' h1 h2 => ⟨M', HC.Fewer.refl _, hΦ M' h1 h2⟩
        cases o with
        | none =>
          rw [if_neg (by show ¬ (0 : Int) ≤ -1; decide)]
          exact loop M1 ⟨_, _, R1⟩ d1 _ fin
        | some i =>
          have hi := ho i rfl
          rw [if_pos (by show (0 : Int) ≤ (i : Nat); omega)]
          have l1 : i < (as ++ [a]).length := by rw [List.length_append, hR.la]; omega
          have l2 : i < (cs ++ [c]).length := by rw [List.length_append, hR.lc]; omega
          have l3 : i < (rs ++ [(d, some i, ([] : List Nat))]).length := by rw [List.length_append]; omega
          have g1 := List.getElem?_eq_getElem l1
          have g2 := List.getElem?_eq_getElem l2
          have g3 := List.getElem?_eq_getElem l3
          generalize (as ++ [a])[i] = ai at g1
          generalize (cs ++ [c])[i] = ci at g2
          generalize (rs ++ [(d, some i, ([] : List Nat))])[i] = r at g3
          obtain ⟨w1, w2⟩ := R1.row i _ _ _ g1 g2 g3
          have R2 := R1.add (k := rs.length) g2 g3
          rw [addP_app ho] at R2
          have tp := R1.top
          refine ⟨_, by rw [tp]; rfl, .fn ai, ?_, _, by rw [HC.lstOf_f, w1]; rfl, _, atI_2 _ _ _ _, ⟨_, by rw [HC.lstOf_f, w2]; rfl⟩, ci, rfl, _, w2, ?_, ?_⟩
          · show atI _ ((i : Nat) : Int) = _
            rw [atI_nat', List.getElem?_map, g1]
            rfl
          · rw [nats, List.length_map]
            rcases List.mem_append.mp (List.mem_of_getElem? g3) with hr | hr
            · have := hB r hr
              omega
            · rw [List.mem_singleton.mp hr]
              exact (show 0 < 16777216 by decide)
          · have e1 : nats r.2.2 ++ [.int (rs.length : Nat)] = nats (r.2.2 ++ [rs.length]) := by simp [nats]
            rw [e1]
            refine loop _ ⟨_, _, R2⟩ (fun q hq => ?_) _ fin
            have n1 : q ≠ ci := fun z => by
              have := d1 q hq
              rw [z, w2] at this
              cases this
            rw [HC.look_other w2 n1]
            exact d1 q hq
end
end K48
namespace K48
open PySem PySem.Spec PyProof.Rows L2 DL FD MF TR
/-! ### what the law sees, what the law holds -/
def rdl (ns : List Str) (F : Fam) : List D := (List.range F.n).map fun k => .lst [.str (ns.getD k ""), .int (oI (par F k)), natsD (kids F k)]
theorem rdl_at {ns : List Str} {F : Fam} {k : Nat} (hk : k < F.n) : (rdl ns F)[k]? = some (.lst [.str (ns.getD k ""), .int (oI (par F k)), natsD (kids F k)]) := by
  unfold rdl
  rw [List.getElem?_map, List.getElem?_range hk]
  rfl
theorem rdl_len (ns : List Str) (F : Fam) : (rdl ns F).length = F.n := by
  unfold rdl
  rw [List.length_map, List.length_range]
/-- a family that is not too big -/
structure FW (F : Fam) (w : Nat → Nat) : Prop where
  g : GF F
  wk : WT F w
  bb : ∀ k, w k ≤ 1000000
  nn : F.n ≤ 40
def sLB (m : Nat) : NB.SV := fun ds Φ => ∃ (ns : List Str) (F : Fam) (w : Nat → Nat) (k : Nat), ds = [.lst (rdl ns F), .int (k : Nat)] ∧ FW F w ∧ k < F.n ∧ F.n ≤ m + k ∧ Φ (natsD (belL F m k))
section
variable [I : Tbs] {P : Program} {w : World} {K : PySem.W.Frag} {mg : Str → Option Value} {base : Heap}
theorem ok_lbelow (T : Txt P K mg w) : ∀ m : Nat, FnOk P w K mg base CX0 (m + 1) T.a_law_below T.fd_law_below ["rows", "number"] (spOf K (pureS (sLB m))) := by
  intro m
  induction m with
  | zero =>
    refine ⟨fun vs H Q E h => ?_, fun A outer s H args us vs Q E hr e0 hb r h => ?_⟩
    all_goals
      obtain ⟨F, os, Φ, _, _, ⟨ds, _, ns, F', w', k, _, _, h1, h2, _⟩, _⟩ := h
      omega
  | succ m ih =>
    have G_law_below : FnOk P w K mg base CX0 (m + 1) T.a_law_below T.fd_law_below ["rows", "number"] (spOf K (pureS (sLB m))) := ih
    refine fnD T.F_law_below sc_law_below [] (k := m + 1) (fun cdv A outer s H E hr => ⟨_, (pss_cons (ps_set (i := 2) sc_law_below.nd rfl (by first | exact Or.inl rfl | exact Or.inr rfl) (pe_lst pa_nil))
      (pss_cons (ps_for PassesOwn.never rfl (pi_list (pe_ix (show IxR _ (rIxL K) from ix_list) (pe_ix (show IxR _ (rIxL K) from ix_list) (pv 0) (pv 1) (fun _ _ => rfl)) pe_int (fun _ _ => rfl))) (pg_name (i := 3) sc_law_below.nd rfl (by first | exact Or.inl rfl | exact Or.inr rfl)) (pss_one (ps_set (i := 2) sc_law_below.nd rfl (by first | exact Or.inl rfl | exact Or.inr rfl) (pe_op op_cat (pe_op op_cat (pv 2) (pe_lst (pa_cons (pv 3) pa_nil))) (pe_call G_law_below (hr.mono (by omega)) (by rfl) T.g_law_below T.F_law_below.kp T.b_law_below .nil pass0 (pa_cons (pv 0) (pa_cons (pv 3) pa_nil)))))))
      (pss_one (ps_ret (pv 2))))), (rs_seq (rs_setL (rl_lst rv_nil))
      (rs_seq (rs_for (ri_list (re_op ro_ixL (re_ixS (i := 0) (re_var 1)) re_int)) rg_name (rs_setL (rl_op rol_cat (RL.re (rl_op rol_cat (re_var 2) (RL.re (rl_lst (rv_cons (re_var 3) rv_nil))))) (re_callV (rv_cons (re_var 0) (rv_cons (re_var 3) rv_nil))))))
      (rs_ret (re_var 2))))⟩) (pure_len fun ds Φ h => ?_) (fun os Φ h => ?_)
    · obtain ⟨ns, F, w', k, rfl, _⟩ := h
      rfl
    · obtain ⟨ds, rfl, ns, F, w', k, rfl, hF, hk, hm, hΦ⟩ := h
      simp
      have hw := hF.wk k
      have hb := hF.bb k
      refine for_inv ((kids F k).map fun c => .int (c : Nat)) [some (.d (.lst (rdl ns F))), some (.d (.int (k : Nat))), some (.l []), none] (fun j ρ => ∃ o3, ρ = [some (.d (.lst (rdl ns F))), some (.d (.int (k : Nat))), some (.l ((((kids F k).take j).flatMap fun c => c :: belL F m c).map fun c => .int (c : Nat))), o3]) (fun Ψ q => ?_) ⟨none, rfl⟩ ?_ ?_
      · simp [rdl_at hk, natsD]
        exact q
      · rintro j x ρ hx ⟨o3, rfl⟩
        rw [List.getElem?_map] at hx
        obtain ⟨c, ec, rfl⟩ := Option.map_eq_some_iff.mp hx
        have hc := hF.g.up k c (List.mem_of_getElem? ec)
        have ht : (kids F k).take (j + 1) = (kids F k).take j ++ [c] := by rw [List.take_add_one, ec]; rfl
        have hl : ∀ l : List Nat, (l.flatMap fun c => c :: belL F m c).length ≤ (l.map w').sum := by
          intro l
          induction l with
          | nil => exact Nat.zero_le _
          | cons c l ih =>
            have h1 := belL_len hF.wk m c
            rw [List.flatMap_cons, List.length_append, List.length_cons, List.map_cons, List.sum_cons]
            omega
        have hs : (((kids F k).take (j + 1)).map w').sum ≤ ((kids F k).map w').sum := by
          have e1 : ((kids F k).map w').sum = (((kids F k).take (j + 1)).map w').sum + (((kids F k).drop (j + 1)).map w').sum := by
            rw [← List.sum_append, ← List.map_append, List.take_append_drop]
          omega
        have h1 := hl ((kids F k).take (j + 1))
        have h2 : (((kids F k).take (j + 1)).flatMap fun c => c :: belL F m c).length = (((kids F k).take j).flatMap fun c => c :: belL F m c).length + (1 + (belL F m c).length) := by
          rw [ht, List.flatMap_append, List.length_append]
          simp
          omega
        have e3 : ((((kids F k).take (j + 1)).flatMap fun c => c :: belL F m c).map fun c => D.int (c : Nat)) = ((((kids F k).take j).flatMap fun c => c :: belL F m c).map fun c => D.int (c : Nat)) ++ (.int (c : Nat) :: (belL F m c).map fun c => .int (c : Nat)) := by
          rw [ht, List.flatMap_append, List.map_append]
          simp
        generalize hX : ((((kids F k).take j).flatMap fun c => c :: belL F m c).map fun c => D.int (c : Nat)) = X at e3 ⊢
        have hXl : X.length = (((kids F k).take j).flatMap fun c => c :: belL F m c).length := by rw [← hX, List.length_map]
        simp
        refine ⟨by omega, ns, F, w', c, rfl, hF, hc.2, by omega, ?_⟩
        simp [natsD]
        refine ⟨by omega, ?_⟩
        rw [e3]
      · rintro ρ ⟨o3, rfl⟩
        rw [List.length_map, List.take_length]
        simp
        exact hΦ
end
end K48
namespace K48
open PySem PySem.Spec PyProof.Rows L2 DL FD MF TR
def sSeen (m : Nat) : NB.SV := fun ds Φ => ∃ (ns : List Str) (F : Fam) (w : Nat → Nat) (q : Lk) (k : Nat), ds = [.lst (rdl ns F), .str (lkS q), .int (k : Nat)] ∧ FW F w ∧ k < F.n ∧ k < m ∧ Φ (natsD (seenL F q k))
theorem FW.row {F : Fam} {w : Nat → Nat} (h : FW F w) (k : Nat) : (kids F k).length ≤ 40 := by
  by_cases hk : k < F.n
  · have e := kids_get (List.getElem?_eq_getElem hk)
    rw [e]
    exact Nat.le_trans (h.g.row (List.getElem_mem hk)).1 h.nn
  · rw [kids_out (by omega)]
    exact Nat.zero_le _
def pO (k : Nat) (b : Bool) : D → Bool
  | .int i => decide (i ≠ (k : Int)) && (decide (i < (k : Int)) == b)
  | _ => false
theorem cmp_sib (rd pd : D) (s : Str) (b : Bool) (k : Nat) (ls : List Nat) (hs : decide (s = "earlier") = b) (hl : ls.length ≤ 40) (Ω : List D → DL.Env → Prop)
    (h : Ω ((ls.filter fun o => decide (o ≠ k) && (decide (o < k) == b)).map fun k => .int (k : Nat)) [some (.d rd), some (.d (.str s)), some (.d (.int (k : Nat))), some (.d pd), some (.d (natsD ls)), none]) :
    dLc (dIL (dVar 4)) (dName 5) (dAnd (dTest (dOp oNe (dVar 5) (dVar 2))) (dTest (dOp oEq (dOp (oI0 fun i j => D.bl (decide (i < j))) (dVar 5) (dVar 2)) (dOp oEq (dVar 1) (dC (D.str "earlier")))))) (dVar 5) [5]
      [some (.d rd), some (.d (.str s)), some (.d (.int (k : Nat))), some (.d pd), some (.d (natsD ls)), none] Ω := by
  refine lc_fp (ls.map fun k => .int (k : Nat)) [some (.d rd), some (.d (.str s)), some (.d (.int (k : Nat))), some (.d pd), some (.d (natsD ls)), none] [some (.d rd), some (.d (.str s)), some (.d (.int (k : Nat))), some (.d pd), some (.d (natsD ls)), none] (pO k b) id (fun Ψ q => ?_) rfl (by rw [List.length_map]; omega) (fun x hx A B hA hB => ?_) ?_
  · simp [natsD]
    exact q
  · obtain ⟨c, _, rfl⟩ := List.mem_map.mp hx
    simp
    have e0 : (((c : Nat) : Int) = (k : Int)) ↔ c = k := by omega
    have hb : (decide (c < k) == b) = decide (c < k ↔ s = "earlier") := by
      subst hs
      by_cases z1 : c < k <;> by_cases z2 : s = "earlier" <;> simp [z1, z2]
    by_cases h1 : c = k
    · rw [if_pos (e0.mpr h1)]
      refine hB ?_ _ rfl
      simp [pO, h1]
    · rw [if_neg (fun z => h1 (e0.mp z))]
      by_cases h2 : (c < k ↔ s = "earlier")
      · rw [if_pos h2]
        refine hA ?_ _ rfl
        rw [decide_eq_true h2] at hb
        simp only [pO]
        rw [show decide (((c : Nat) : Int) < (k : Int)) = decide (c < k) by simp, hb]
        simp [e0, h1]
      · rw [if_neg h2]
        refine hB ?_ _ rfl
        rw [decide_eq_false h2] at hb
        simp only [pO]
        rw [show decide (((c : Nat) : Int) < (k : Int)) = decide (c < k) by simp, hb]
        simp
  · have e1 : ((ls.map fun k => D.int (k : Nat)).filter (pO k b)).map id = (ls.filter fun o => decide (o ≠ k) && (decide (o < k) == b)).map fun k => .int (k : Nat) := by
      rw [List.map_id, List.filter_map]
      congr 1
      refine List.filter_congr fun o _ => ?_
      have e : (((o : Nat) : Int) = (k : Int)) ↔ o = k := by omega
      simp [pO, e]
    rw [e1]
    simp
    simpa using h
section
variable [I : Tbs] {P : Program} {w : World} {K : PySem.W.Frag} {mg : Str → Option Value} {base : Heap}
theorem ok_lseen (T : Txt P K mg w) : ∀ m : Nat, FnOk P w K mg base CX0 (m + 41) T.a_law_seen T.fd_law_seen ["rows", "look", "number"] (spOf K (pureS (sSeen m))) := by
  intro m
  induction m with
  | zero =>
    refine ⟨fun vs H Q E h => ?_, fun A outer s H args us vs Q E hr e0 hb r h => ?_⟩
    all_goals
      obtain ⟨F, os, Φ, _, _, ⟨ds, _, ns, F', w', q, k, _, _, h1, h2, _⟩, _⟩ := h
      omega
  | succ m ih =>
    have G_law_seen : FnOk P w K mg base CX0 (m + 41) T.a_law_seen T.fd_law_seen ["rows", "look", "number"] (spOf K (pureS (sSeen m))) := ih
    have G_law_below : FnOk P w K mg base CX0 41 T.a_law_below T.fd_law_below ["rows", "number"] (spOf K (pureS (sLB 40))) := ok_lbelow T 40
    refine fnD T.F_law_seen sc_law_seen [] (k := m + 41) (fun cdv A outer s H E hr => ⟨_, (pss_cons (ps_if (pt_cmpR op_eq (pv 1) pe_str (nomark _)) (pss_one (ps_ret (pe_ix (show IxR _ (rIxL K) from ix_list) (pe_ix (show IxR _ (rIxL K) from ix_list) (pv 0) (pv 2) (fun _ _ => rfl)) pe_int (fun _ _ => rfl)))) pss_nil)
      (pss_cons (ps_if (pt_cmpR op_eq (pv 1) pe_str (nomark _)) (pss_one (ps_ret (pe_call G_law_below (hr.mono (by omega)) (by rfl) T.g_law_below T.F_law_below.kp T.b_law_below .nil pass0 (pa_cons (pv 0) (pa_cons (pv 2) pa_nil))))) pss_nil)
      (pss_cons (ps_set (i := 3) sc_law_seen.nd rfl (by first | exact Or.inl rfl | exact Or.inr rfl) (pe_ix (show IxR _ (rIxL K) from ix_list) (pe_ix (show IxR _ (rIxL K) from ix_list) (pv 0) (pv 2) (fun _ _ => rfl)) pe_int (fun _ _ => rfl)))
      (pss_cons (ps_if (pt_cmpR op_in_seq (pv 1) (pe_tup (pa_cons pe_str (pa_cons pe_str pa_nil))) rfl) (pss_cons (ps_if (pt_cmpR op_lt (pv 3) pe_int (nomark _)) (pss_one (ps_ret (pe_lst pa_nil))) pss_nil)
      (pss_one (ps_ret (pe_op op_cat (pe_lst (pa_cons (pv 3) pa_nil)) (pe_ifExp (pt_cmpR op_eq (pv 1) pe_str (nomark _)) (pe_call G_law_seen (hr.mono (by omega)) (by rfl) T.g_law_seen T.F_law_seen.kp T.b_law_seen .nil pass0 (pa_cons (pv 0) (pa_cons pe_str (pa_cons (pv 3) pa_nil)))) (pe_lst pa_nil)))))) pss_nil)
      (pss_cons (ps_set (i := 4) sc_law_seen.nd rfl (by first | exact Or.inl rfl | exact Or.inr rfl) (pe_ifExp (pt_cmpR op_ge (pv 3) pe_int (nomark _)) (pe_ix (show IxR _ (rIxL K) from ix_list) (pe_ix (show IxR _ (rIxL K) from ix_list) (pv 0) (pv 3) (fun _ _ => rfl)) pe_int (fun _ _ => rfl)) (pe_lst pa_nil)))
      (pss_one (ps_ret (pe_lc (own := [("other", 5)]) (g := gName 5) (by rfl) sc_law_seen.nd  (pi_list (pv 4)) (blkOk_by (own := [("other", 5)]) (N := ["rows", "look", "number", "parent", "siblings", "other"]) (sc := defScope s_law_seen) (by decide +kernel)) (fun _ _ _ _ _ => (pg_name (i := 5) sc_law_seen.nd rfl (by first | exact Or.inl rfl | exact Or.inr rfl))) (fun _ _ _ _ _ => (pts_one (PW.pt (pw_and (pt_cmpR op_ne (pv 5) (pv 2) (nomark _)) (pw_and1 (pt_cmpR op_eq (pe_cmpR op_lt (pv 5) (pv 2) (nomark _)) (pe_cmpR op_eq (pv 1) pe_str (nomark _)) (nomark _))))))) (fun _ _ _ _ _ => (pv 5)))))))))), (rs_seq (rs_if (rt_test (re_op ro_eq (re_var 1) re_str)) (rs_ret (re_op ro_ixL (re_ixS (i := 0) (re_var 2)) re_int)) rs_next)
      (rs_seq (rs_if (rt_test (re_op ro_eq (re_var 1) re_str)) (rs_ret (re_callV (rv_cons (re_var 0) (rv_cons (re_var 2) rv_nil)))) rs_next)
      (rs_seq (rs_asg (re_op ro_ixL (re_ixS (i := 0) (re_var 2)) re_int) rg_name)
      (rs_seq (rs_if (rt_test (re_op ro_in (re_var 1) (re_tup (rv_cons re_str (rv_cons re_str rv_nil))))) (rs_seq (rs_if (rt_test (re_op ro_B0 (re_var 3) re_int)) (rs_ret (RL.re (rl_lst rv_nil))) rs_next)
      (rs_ret (RL.re (rl_op rol_cat (RL.re (rl_lst (rv_cons (re_var 3) rv_nil))) (re_if (rt_test (re_op ro_eq (re_var 1) re_str)) (re_callV (rv_cons (re_var 0) (rv_cons re_str (rv_cons (re_var 3) rv_nil)))) (RL.re (rl_lst rv_nil))))))) rs_next)
      (rs_seq (rs_asg (re_if (rt_test (re_op ro_B0 (re_var 3) re_int)) (re_op ro_ixL (re_ixS (i := 0) (re_var 3)) re_int) (RL.re (rl_lst rv_nil))) rg_name)
      (rs_ret (RL.re (rl_lc (ri_list (re_var 4)) rg_name (rt_and (rt_test (re_op ro_ne (re_var 5) (re_var 2))) (rt_test (re_op ro_eq (re_op ro_B0 (re_var 5) (re_var 2)) (re_op ro_eq (re_var 1) re_str)))) (re_var 5)))))))))⟩) (pure_len fun ds Φ h => ?_) (fun os Φ h => ?_)
    · obtain ⟨ns, F, w', q, k, rfl, _⟩ := h
      rfl
    · obtain ⟨ds, rfl, ns, F, w', q, k, rfl, hF, hk, hm, hΦ⟩ := h
      have hn := hF.nn
      have sibs : ∀ (b : Bool) (o3 : DL.Env) (Ω : List D → DL.Env → Prop), True := fun _ _ _ => trivial
      cases q with
      | child =>
        simp (decide := true) [lkS, rdl_at hk]
        exact hΦ
      | below =>
        simp (decide := true) [lkS, rdl_at hk]
        refine ⟨ns, F, w', k, rfl, hF, hk, by omega, ?_⟩
        have e : belL F 40 k = belL F F.n k := by
          have := belL_le hF.g (m := F.n) (k := k) (by omega) (40 - F.n)
          rwa [show F.n + (40 - F.n) = 40 by omega] at this
        rw [e]
        exact hΦ
      | parent =>
        simp (decide := true) [lkS, rdl_at hk]
        cases e : par F k with
        | none =>
          have hΦ : Φ (natsD (par F k).toList) _ := hΦ
          rw [e] at hΦ
          rw [if_pos (by show (-1 : Int) < 0; decide)]
          exact hΦ
        | some p =>
          have hΦ : Φ (natsD (par F k).toList) _ := hΦ
          rw [e] at hΦ
          rw [if_neg (by show ¬ ((p : Nat) : Int) < 0; omega)]
          exact hΦ
      | above =>
        simp (decide := true) [lkS, rdl_at hk]
        have hΦ : Φ (natsD (abvL F F.n k)) _ := hΦ
        obtain ⟨n1, en⟩ : ∃ n1, F.n = n1 + 1 := ⟨F.n - 1, by omega⟩
        cases e : par F k with
        | none =>
          rw [en, abvL, e] at hΦ
          rw [if_pos (by show (-1 : Int) < 0; decide)]
          exact hΦ
        | some p =>
          have hp := hF.g.lt e
          have e2 : abvL F F.n k = p :: abvL F F.n p := by
            rw [en, abvL, e]
            show p :: abvL F n1 p = p :: abvL F (n1 + 1) p
            rw [abvL_fix hF.g n1 p (by omega)]
          rw [e2] at hΦ
          rw [if_neg (by show ¬ ((p : Nat) : Int) < 0; omega)]
          refine ⟨ns, F, w', .above, p, rfl, hF, by omega, by omega, ?_⟩
          have hl : (abvL F F.n p).length ≤ p := abvL_len hF.g _ _
          have el : seenL F .above p = abvL F F.n p := rfl
          rw [el]
          simp [natsD]
          refine ⟨by omega, ?_⟩
          have hΦ : Φ (.lst (.int (p : Nat) :: (abvL F F.n p).map fun k => .int (k : Nat))) _ := hΦ
          exact hΦ
      | earlier =>
        simp (decide := true) [lkS, rdl_at hk]
        have hΦ : Φ (natsD ((sib F k).filter fun o => decide (o ≠ k) && decide (o < k))) _ := hΦ
        unfold sib at hΦ
        cases e : par F k with
        | none =>
          rw [e] at hΦ
          rw [if_neg (by show ¬ (0 : Int) ≤ -1; decide)]
          refine cmp_sib _ _ _ true k [] (by decide) (by decide) _ ?_
          simp
          exact hΦ
        | some p =>
          rw [e] at hΦ
          have hp := hF.g.lt e
          rw [if_pos (by show (0 : Int) ≤ (p : Nat); omega)]
          refine ⟨_, (atI_nat' _ p).trans (rdl_at (by omega)), ?_⟩
          simp
          refine cmp_sib _ _ _ true k (kids F p) (by decide) (hF.row p) _ ?_
          simp
          simpa [natsD, lkS] using hΦ
      | later =>
        simp (decide := true) [lkS, rdl_at hk]
        have hΦ : Φ (natsD ((sib F k).filter fun o => decide (o ≠ k) && !decide (o < k))) _ := hΦ
        unfold sib at hΦ
        cases e : par F k with
        | none =>
          rw [e] at hΦ
          rw [if_neg (by show ¬ (0 : Int) ≤ -1; decide)]
          refine cmp_sib _ _ _ false k [] (by decide) (by decide) _ ?_
          simp
          exact hΦ
        | some p =>
          rw [e] at hΦ
          have hp := hF.g.lt e
          rw [if_pos (by show (0 : Int) ≤ (p : Nat); omega)]
          refine ⟨_, (atI_nat' _ p).trans (rdl_at (by omega)), ?_⟩
          simp
          refine cmp_sib _ _ _ false k (kids F p) (by decide) (hF.row p) _ ?_
          simp
          simpa [natsD, lkS] using hΦ
end
end K48
namespace K48
open PySem PySem.Spec PyProof.Rows L2 DL FD MF TR
def sLH (n : Nat) : NB.SV := fun ds Φ => ∃ (ns : List Str) (F : Fam) (w : Nat → Nat) (c : Tr CL) (k : Nat), ds = [.lst (rdl ns F), cnD c, .int (k : Nat)] ∧ FW F w ∧ ns.length = F.n ∧ WC n c ∧ k < F.n ∧ Φ (.bl (ev ns F c k))
theorem ev_nd (ns : List Str) (F : Fam) (d : CL) (ks : List (Tr CL)) : ev ns F (.nd d ks) = evL ns F d (ks.map (ev ns F)) := fold_nd _ d ks
section
variable [I : Tbs] {P : Program} {w : World} {K : PySem.W.Frag} {mg : Str → Option Value} {base : Heap}
theorem ok_lholds (T : Txt P K mg w) : ∀ n : Nat, FnOk P w K mg base CX0 (n + 82) T.a_law_holds T.fd_law_holds ["rows", "tree", "number"] (spOf K (pureS (sLH n))) := by
  intro n
  induction n with
  | zero =>
    refine ⟨fun vs H Q E h => ?_, fun A outer s H args us vs Q E hr e0 hb r h => ?_⟩
    all_goals
      obtain ⟨F, os, Φ, _, _, ⟨ds, _, ns, F', w', c, k, _, _, _, h, _⟩, _⟩ := h
      cases h
  | succ n ih =>
    have G_law_holds : FnOk P w K mg base CX0 (n + 82) T.a_law_holds T.fd_law_holds ["rows", "tree", "number"] (spOf K (pureS (sLH n))) := ih
    have G_law_seen : FnOk P w K mg base CX0 81 T.a_law_seen T.fd_law_seen ["rows", "look", "number"] (spOf K (pureS (sSeen 40))) := ok_lseen T 40
    refine fnD T.F_law_holds sc_law_holds [] (k := n + 82) (fun cdv A outer s H E hr => ⟨_, (pss_cons (ps_if (pt_cmpR op_in_seq (pe_ix (show IxR _ (rIxT K) from ix_tup) (pv 1) pe_int (fun _ _ => rfl)) (pe_tup (pa_cons pe_str (pa_cons pe_str pa_nil))) rfl) (pss_one (ps_ret (pe_cmpR op_eq (pe_ix (show IxR _ (rIxT K) from ix_tup) (pv 1) pe_int (fun _ _ => rfl)) pe_str (nomark _)))) pss_nil)
      (pss_cons (ps_if (pt_cmpR op_eq (pe_ix (show IxR _ (rIxT K) from ix_tup) (pv 1) pe_int (fun _ _ => rfl)) pe_str (nomark _)) (pss_one (ps_ret (pe_cmpR op_eq (pe_ix (show IxR _ (rIxL K) from ix_list) (pe_ix (show IxR _ (rIxL K) from ix_list) (pv 0) (pv 2) (fun _ _ => rfl)) pe_int (fun _ _ => rfl)) (pe_ix (show IxR _ (rIxT K) from ix_tup) (pv 1) pe_int (fun _ _ => rfl)) (nomark _)))) pss_nil)
      (pss_cons (ps_if (pt_cmpR op_eq (pe_ix (show IxR _ (rIxT K) from ix_tup) (pv 1) pe_int (fun _ _ => rfl)) pe_str (nomark _)) (pss_one (ps_ret (pe_not (pe_call G_law_holds (hr.mono (by omega)) (by rfl) T.g_law_holds T.F_law_holds.kp T.b_law_holds .nil pass0 (pa_cons (pv 0) (pa_cons (pe_ix (show IxR _ (rIxT K) from ix_tup) (pv 1) pe_int (fun _ _ => rfl)) (pa_cons (pv 2) pa_nil))))))) pss_nil)
      (pss_cons (ps_if (pt_cmpR op_eq (pe_ix (show IxR _ (rIxT K) from ix_tup) (pv 1) pe_int (fun _ _ => rfl)) pe_str (nomark _)) (pss_one (ps_ret (pe_callB (cr_all rfl) (by rfl) T.n_all (by decide +kernel) (pa_cons (pe_lc (own := [("part", 3)]) (g := gName 3) (by rfl) sc_law_holds.nd  (pi_tup (pe_ix (show IxR _ (rIxT K) from ix_tup) (pv 1) pe_int (fun _ _ => rfl))) (blkOk_by (own := [("part", 3)]) (N := ["rows", "tree", "number", "part", "other"]) (sc := defScope s_law_holds) (by decide +kernel)) (fun _ _ _ _ _ => (pg_name (i := 3) sc_law_holds.nd rfl (by first | exact Or.inl rfl | exact Or.inr rfl))) (fun _ _ _ _ _ => pts_nil) (fun _ _ _ _ _ => (pe_call G_law_holds (hr.mono (by omega)) (by rfl) T.g_law_holds T.F_law_holds.kp T.b_law_holds .nil pass0 (pa_cons (pv 0) (pa_cons (pv 3) (pa_cons (pv 2) pa_nil)))))) pa_nil)))) pss_nil)
      (pss_cons (ps_if (pt_cmpR op_eq (pe_ix (show IxR _ (rIxT K) from ix_tup) (pv 1) pe_int (fun _ _ => rfl)) pe_str (nomark _)) (pss_one (ps_ret (pe_callB (cr_any rfl) (by rfl) T.n_any (by decide +kernel) (pa_cons (pe_lc (own := [("part", 3)]) (g := gName 3) (by rfl) sc_law_holds.nd  (pi_tup (pe_ix (show IxR _ (rIxT K) from ix_tup) (pv 1) pe_int (fun _ _ => rfl))) (blkOk_by (own := [("part", 3)]) (N := ["rows", "tree", "number", "part", "other"]) (sc := defScope s_law_holds) (by decide +kernel)) (fun _ _ _ _ _ => (pg_name (i := 3) sc_law_holds.nd rfl (by first | exact Or.inl rfl | exact Or.inr rfl))) (fun _ _ _ _ _ => pts_nil) (fun _ _ _ _ _ => (pe_call G_law_holds (hr.mono (by omega)) (by rfl) T.g_law_holds T.F_law_holds.kp T.b_law_holds .nil pass0 (pa_cons (pv 0) (pa_cons (pv 3) (pa_cons (pv 2) pa_nil)))))) pa_nil)))) pss_nil)
      (pss_one (ps_ret (pe_callB (cr_any rfl) (by rfl) T.n_any (by decide +kernel) (pa_cons (pe_lc (own := [("other", 4)]) (g := gName 4) (by rfl) sc_law_holds.nd  (pi_list (pe_call G_law_seen (hr.mono (by omega)) (by rfl) T.g_law_seen T.F_law_seen.kp T.b_law_seen .nil pass0 (pa_cons (pv 0) (pa_cons (pe_ix (show IxR _ (rIxT K) from ix_tup) (pv 1) pe_int (fun _ _ => rfl)) (pa_cons (pv 2) pa_nil))))) (blkOk_by (own := [("other", 4)]) (N := ["rows", "tree", "number", "part", "other"]) (sc := defScope s_law_holds) (by decide +kernel)) (fun _ _ _ _ _ => (pg_name (i := 4) sc_law_holds.nd rfl (by first | exact Or.inl rfl | exact Or.inr rfl))) (fun _ _ _ _ _ => pts_nil) (fun _ _ _ _ _ => (pe_call G_law_holds (hr.mono (by omega)) (by rfl) T.g_law_holds T.F_law_holds.kp T.b_law_holds .nil pass0 (pa_cons (pv 0) (pa_cons (pe_ix (show IxR _ (rIxT K) from ix_tup) (pv 1) pe_int (fun _ _ => rfl)) (pa_cons (pv 4) pa_nil)))))) pa_nil))))))))), (rs_seq (rs_if (rt_test (re_op ro_in (re_op ro_ixT (re_var 1) re_int) (re_tup (rv_cons re_str (rv_cons re_str rv_nil))))) (rs_ret (re_op ro_eq (re_op ro_ixT (re_var 1) re_int) re_str)) rs_next)
      (rs_seq (rs_if (rt_test (re_op ro_eq (re_op ro_ixT (re_var 1) re_int) re_str)) (rs_ret (re_op ro_eq (re_op ro_ixL (re_ixS (i := 0) (re_var 2)) re_int) (re_op ro_ixT (re_var 1) re_int))) rs_next)
      (rs_seq (rs_if (rt_test (re_op ro_eq (re_op ro_ixT (re_var 1) re_int) re_str)) (rs_ret (re_not (re_callV (rv_cons (re_var 0) (rv_cons (re_op ro_ixT (re_var 1) re_int) (rv_cons (re_var 2) rv_nil)))))) rs_next)
      (rs_seq (rs_if (rt_test (re_op ro_eq (re_op ro_ixT (re_var 1) re_int) re_str)) (rs_ret (re_cb rc_all (rv_cons (RL.re (rl_lc (ri_tup (re_op ro_ixT (re_var 1) re_int)) rg_name rt_yes (re_callV (rv_cons (re_var 0) (rv_cons (re_var 3) (rv_cons (re_var 2) rv_nil)))))) rv_nil))) rs_next)
      (rs_seq (rs_if (rt_test (re_op ro_eq (re_op ro_ixT (re_var 1) re_int) re_str)) (rs_ret (re_cb rc_any (rv_cons (RL.re (rl_lc (ri_tup (re_op ro_ixT (re_var 1) re_int)) rg_name rt_yes (re_callV (rv_cons (re_var 0) (rv_cons (re_var 3) (rv_cons (re_var 2) rv_nil)))))) rv_nil))) rs_next)
      (rs_ret (re_cb rc_any (rv_cons (RL.re (rl_lc (ri_list (re_callV (rv_cons (re_var 0) (rv_cons (re_op ro_ixT (re_var 1) re_int) (rv_cons (re_var 2) rv_nil))))) rg_name rt_yes (re_callV (rv_cons (re_var 0) (rv_cons (re_op ro_ixT (re_var 1) re_int) (rv_cons (re_var 4) rv_nil)))))) rv_nil))))))))⟩) (pure_len fun ds Φ h => ?_) (fun os Φ h => ?_)
    · obtain ⟨ns, F, w', c, k, rfl, _⟩ := h
      rfl
    · obtain ⟨ds, rfl, ns, F, w', c, k, rfl, hF, hns, hw, hk, hΦ⟩ := h
      have hn := hF.nn
      cases hw with
      | @nd n d ks ha hkk =>
        simp only [cn_nd, ev_nd] at hΦ ⊢
        have parts : ∀ (td : D) (Ω : List D → DL.Env → Prop), Ω ((ks.map fun c => ev ns F c k).map .bl) [some (.d (.lst (rdl ns F))), some (.d td), some (.d (.int (k : Nat))), none, none] → ∀ Ti : DLs, (∀ Ψ : List D → DL.Env → Prop, Ψ (ks.map cnD) [some (.d (.lst (rdl ns F))), some (.d td), some (.d (.int (k : Nat))), none, none] → Ti [some (.d (.lst (rdl ns F))), some (.d td), some (.d (.int (k : Nat))), none, none] Ψ) →
            dLc Ti (dName 3) dYes (dCallV (sLH n) (dCons (dVar 0) (dCons (dVar 3) (dCons (dVar 2) dNil)))) [3] [some (.d (.lst (rdl ns F))), some (.d td), some (.d (.int (k : Nat))), none, none] Ω := by
          intro td Ω hΩ Ti hTi
          refine lc_z (ks.map cnD) ((ks.map fun c => ev ns F c k).map .bl) [some (.d (.lst (rdl ns F))), some (.d td), some (.d (.int (k : Nat))), none, none] [some (.d (.lst (rdl ns F))), some (.d td), some (.d (.int (k : Nat))), none, none] hTi rfl (by rw [List.length_map]; have := ha.le; omega) (by simp) (fun j x e hx he A hA => ?_) ?_
          · rw [List.getElem?_map] at hx
            obtain ⟨c, ec, rfl⟩ := Option.map_eq_some_iff.mp hx
            rw [List.getElem?_map, List.getElem?_map, ec] at he
            cases he
            simp
            exact ⟨ns, F, w', c, k, rfl, hF, hns, hkk c (List.mem_of_getElem? ec), hk, hA _ rfl⟩
          · simp
            simpa using hΩ
        cases d with
        | all => simp (decide := true) [wrap]; exact hΦ
        | none => simp (decide := true) [wrap]; exact hΦ
        | is x =>
          simp (decide := true) [wrap, rdl_at hk]
          have e1 : decide (ns.getD k "" = x) = decide (ns[k]? = some x) := by
            rw [List.getD_eq_getElem?_getD, List.getElem?_eq_getElem (show k < ns.length by omega)]
            simp
          rw [List.getD_eq_getElem?_getD] at e1
          rw [e1]
          exact hΦ
        | not =>
          match ks, ha, hkk with
          | [c], _, hkk =>
            simp (decide := true) [wrap]
            refine ⟨ns, F, w', c, k, rfl, hF, hns, hkk c (by simp), hk, ?_⟩
            simp
            exact hΦ
        | look q =>
          match ks, ha, hkk with
          | [c], _, hkk =>
            have look : ∀ td : D, td = .tup [.str (lkS q), cnD c] → dLc (dIL (dCallV (sSeen 40) (dCons (dVar 0) (dCons (dOp oIxT (dVar 1) (dC (D.int 0))) (dCons (dVar 2) dNil))))) (dName 4) dYes (dCallV (sLH n) (dCons (dVar 0) (dCons (dOp oIxT (dVar 1) (dC (D.int 1))) (dCons (dVar 4) dNil)))) [4]
                [some (.d (.lst (rdl ns F))), some (.d td), some (.d (.int (k : Nat))), none, none] fun ds ρ' => ∃ ns, blsD ds = some ns ∧ Φ (.bl (ns.any id)) (outs 3 ρ') := by
              rintro td rfl
              have hsl := seen_lt hF.g q hk
              have hlen : (seenL F q k).length ≤ 1000000 := by
                cases q with
                | child => exact Nat.le_trans (hF.row k) (by decide)
                | below =>
                  have h1 := belL_len hF.wk F.n k
                  have h2 := hF.bb k
                  show (belL F F.n k).length ≤ _
                  omega
                | above =>
                  have h1 := abvL_len hF.g F.n k
                  show (abvL F F.n k).length ≤ _
                  omega
                | parent =>
                  show (par F k).toList.length ≤ _
                  cases par F k <;> simp
                | earlier =>
                  refine Nat.le_trans (List.length_filter_le _ _) ?_
                  unfold sib
                  cases par F k with
                  | none => exact Nat.zero_le _
                  | some p => exact Nat.le_trans (hF.row p) (by decide)
                | later =>
                  refine Nat.le_trans (List.length_filter_le _ _) ?_
                  unfold sib
                  cases par F k with
                  | none => exact Nat.zero_le _
                  | some p => exact Nat.le_trans (hF.row p) (by decide)
              refine lc_z ((seenL F q k).map fun k => .int (k : Nat)) (((seenL F q k).map (ev ns F c)).map .bl) [some (.d (.lst (rdl ns F))), some (.d (.tup [.str (lkS q), cnD c])), some (.d (.int (k : Nat))), none, none] [some (.d (.lst (rdl ns F))), some (.d (.tup [.str (lkS q), cnD c])), some (.d (.int (k : Nat))), none, none] (fun Ψ hq => ?_) rfl (by rw [List.length_map]; omega) (by simp) (fun j x e hx he A hA => ?_) ?_
              · simp
                exact ⟨ns, F, w', q, k, rfl, hF, hk, by omega, _, rfl, hq⟩
              · rw [List.getElem?_map] at hx
                obtain ⟨o, eo, rfl⟩ := Option.map_eq_some_iff.mp hx
                rw [List.getElem?_map, List.getElem?_map, eo] at he
                cases he
                simp
                exact ⟨ns, F, w', c, o, rfl, hF, hns, hkk c (by simp), hsl o (List.mem_of_getElem? eo), hA _ rfl⟩
              · refine ⟨_, blsD_map _, ?_⟩
                have e1 : ((seenL F q k).map (ev ns F c)).any id = evL ns F (.look q) [ev ns F c] k := by
                  rw [List.any_map]
                  exact seen_lk hF.g q (ev ns F c) k
                rw [e1]
                exact hΦ
            cases q <;>
              (simp (decide := true) [wrap, lkS]
               exact look _ rfl)
        | conj b =>
          cases b with
          | true =>
            simp (decide := true) [wrap]
            refine parts (.tup [.str "and", .tup (ks.map cnD)]) _ ?_ _ (fun Ψ q => ?_)
            · refine ⟨_, blsD_map _, ?_⟩
              have e1 : (ks.map fun c => ev ns F c k).all id = evL ns F (.conj true) (ks.map (ev ns F)) k := by
                show _ = (ks.map (ev ns F)).all fun f => f k
                rw [List.all_map, List.all_map]
                rfl
              rw [e1]
              exact hΦ
            · simp
              exact q
          | false =>
            simp (decide := true) [wrap]
            refine parts (.tup [.str "or", .tup (ks.map cnD)]) _ ?_ _ (fun Ψ q => ?_)
            · refine ⟨_, blsD_map _, ?_⟩
              have e1 : (ks.map fun c => ev ns F c k).any id = evL ns F (.conj false) (ks.map (ev ns F)) k := by
                show _ = (ks.map (ev ns F)).any fun f => f k
                rw [List.any_map, List.any_map]
                rfl
              rw [e1]
              exact hΦ
            · simp
              exact q
end
end K48
namespace K48
open PySem PySem.Spec PyProof.Rows L2 DL FD MF TR
/-! ### the rows as data -/
def rowD3 (r : RwP Str) : D := .lst [.str r.1, .int (oI r.2.1), .lst (nats r.2.2)]
theorem frz_list : ∀ (as cs : List Addr) (rs : List (RwP Str)) (M : HC.Cells), as.length = rs.length → cs.length = rs.length → (∀ (i : Nat) a c r, as[i]? = some a → cs[i]? = some c → rs[i]? = some r → HC.look M a = some (.l [.str r.1, .int (oI r.2.1), .fn c]) ∧ HC.look M c = some (.l (nats r.2.2))) →
    as.Nodup → cs.Nodup → (∀ a, a ∈ as → a ∉ cs) → ∃ M', HC.frzL (HC.frzN 3) M (as.map .fn) = (rs.map rowD3, M') ∧ ∀ q, q ∉ as → q ∉ cs → HC.look M' q = HC.look M q
  | [], cs, rs, M, h1, h2, h, na, nc, dis => by
    have : rs = [] := List.length_eq_zero_iff.mp h1.symm
    subst this
    exact ⟨M, rfl, fun _ _ _ => rfl⟩
  | a :: as, [], rs, M, h1, h2, h, na, nc, dis => by
    rw [← h2] at h1
    cases h1
  | a :: as, c :: cs, [], M, h1, h2, h, na, nc, dis => by cases h1
  | a :: as, c :: cs, r :: rs, M, h1, h2, h, na, nc, dis => by
    obtain ⟨e1, e2⟩ := h 0 a c r rfl rfl rfl
    have hac : a ≠ c := fun z => dis a List.mem_cons_self (by rw [z]; exact List.mem_cons_self)
    obtain ⟨na1, na2⟩ := List.nodup_cons.mp na
    obtain ⟨nc1, nc2⟩ := List.nodup_cons.mp nc
    have flat : ∀ d ∈ nats r.2.2, ∀ M, HC.frzN 1 M d = (d, M) := fun d hd M => by
      obtain ⟨k, _, rfl⟩ := List.mem_map.mp hd
      rfl
    have s1 : HC.frzN 2 M (.fn c) = (.lst (nats r.2.2), HC.put M c (.z (.lst (nats r.2.2)))) := by
      rw [HC.frzN_cl e2, HC.frzL_flat flat, HC.zL_l (l := nats r.2.2) e2]
    have e3 : HC.look (HC.put M c (.z (.lst (nats r.2.2)))) a = some (.l [.str r.1, .int (oI r.2.1), .fn c]) := by rw [HC.look_other e2 hac]; exact e1
    have s2 : HC.frzN 3 M (.fn a) = (rowD3 r, HC.put (HC.put M c (.z (.lst (nats r.2.2)))) a (.z (rowD3 r))) := by
      rw [HC.frzN_cl e1]
      simp only [HC.frzL_cons, HC.frzL_nil, HC.frzN_s, HC.frzN_i, s1]
      rw [HC.zL_l e3]
      rfl
    have lk : ∀ q, q ≠ a → q ≠ c → HC.look (HC.put (HC.put M c (.z (.lst (nats r.2.2)))) a (.z (rowD3 r))) q = HC.look M q := fun q h1 h2 => by rw [HC.look_other e3 h1, HC.look_other e2 h2]
    obtain ⟨M', f1, f2⟩ := frz_list as cs rs (HC.put (HC.put M c (.z (.lst (nats r.2.2)))) a (.z (rowD3 r))) (Nat.succ.inj h1) (Nat.succ.inj h2) (fun i x y s g1 g2 g3 => by
      obtain ⟨w1, w2⟩ := h (i + 1) x y s g1 g2 g3
      have mx := List.mem_of_getElem? g1
      have my := List.mem_of_getElem? g2
      rw [lk x (fun z => na1 (by rw [← z]; exact mx)) (fun z => dis x (List.mem_cons_of_mem _ mx) (by rw [z]; exact List.mem_cons_self)), lk y (fun z => dis a List.mem_cons_self (by rw [← z]; exact List.mem_cons_of_mem _ my)) (fun z => nc1 (by rw [← z]; exact my))]
      exact ⟨w1, w2⟩) na2 nc2 (fun x hx hy => dis x (List.mem_cons_of_mem _ hx) (List.mem_cons_of_mem _ hy))
    refine ⟨M', ?_, fun q hq hq2 => ?_⟩
    · rw [List.map_cons, HC.frzL_cons, s2, f1]
      rfl
    · rw [f2 q (fun z => hq (List.mem_cons_of_mem _ z)) (fun z => hq2 (List.mem_cons_of_mem _ z)), lk q (fun z => hq (by rw [z]; exact List.mem_cons_self)) (fun z => hq2 (by rw [z]; exact List.mem_cons_self))]
theorem frz_rows {M : HC.Cells} {p : Addr} {rs : List (RwP Str)} (h : RowsAt M p rs) : ∃ M', HC.frzN 4 M (.fn p) = (.lst (rs.map rowD3), M') ∧ HC.look M' p = some (.z (.lst (rs.map rowD3))) ∧ Dk M M' := by
  obtain ⟨as, cs, R⟩ := h
  obtain ⟨M', f1, f2⟩ := frz_list as cs rs M R.la R.lc R.row R.na R.nc R.dis
  have tp : HC.look M' p = some (.l (as.map .fn)) := by rw [f2 p R.pa R.pc]; exact R.top
  refine ⟨HC.put M' p (.z (.lst (rs.map rowD3))), ?_, HC.look_self tp, fun q hq => ?_⟩
  · rw [HC.frzN_cl R.top, f1, HC.zL_l (l := as.map .fn) tp]
  · have n1 : q ≠ p := fun z => by rw [z, R.top] at hq; cases hq
    have n2 : q ∉ as := fun z => by
      obtain ⟨i, hi, rfl⟩ := List.mem_iff_getElem.mp z
      have g1 := List.getElem?_eq_getElem (show i < cs.length by rw [R.lc, ← R.la]; exact hi)
      have g2 := List.getElem?_eq_getElem (show i < rs.length by rw [← R.la]; exact hi)
      rw [(R.row i _ _ _ (List.getElem?_eq_getElem hi) g1 g2).1] at hq
      cases hq
    have n3 : q ∉ cs := fun z => by
      obtain ⟨i, hi, rfl⟩ := List.mem_iff_getElem.mp z
      have g1 := List.getElem?_eq_getElem (show i < as.length by rw [R.la, ← R.lc]; exact hi)
      have g2 := List.getElem?_eq_getElem (show i < rs.length by rw [← R.lc]; exact hi)
      rw [(R.row i _ _ _ g1 (List.getElem?_eq_getElem hi) g2).2] at hq
      cases hq
    rw [HC.look_other tp n1, f2 q n2 n3]
    exact hq
theorem rows_rdl (t : Tr Str) : (numP t 0 none).map rowD3 = rdl (nmF t) (famF t) := by
  have hl : (numP t 0 none).length = sz t := numP_len t 0 none
  have hn := famF_n t
  apply List.ext_getElem?
  intro k
  by_cases hk : k < sz t
  · rw [rdl_at (by rw [hn]; exact hk), List.getElem?_map]
    have g := List.getElem?_eq_getElem (show k < (numP t 0 none).length by rw [hl]; exact hk)
    rw [g]
    generalize (numP t 0 none)[k] = r at g
    have e1 : (num t 0)[k]? = some (r.1, r.2.2) := by rw [← numP_num t 0 none, List.getElem?_map, g]; rfl
    have e2 : (par1 t 0 none)[k]? = some r.2.1 := by rw [← numP_par t 0 none, List.getElem?_map, g]; rfl
    have e3 : (nmF t).getD k "" = r.1 := by
      unfold nmF
      rw [List.getD_eq_getElem?_getD, List.getElem?_map, e1]
      rfl
    have e4 : par (famF t) k = r.2.1 := by
      unfold par famF
      show ((par1 t 0 none)[k]?).getD none = _
      rw [e2]
      rfl
    have e5 : kids (famF t) k = r.2.2 := by
      refine kids_get ?_
      unfold famF rws
      rw [List.getElem?_map, e1]
      rfl
    rw [e3, e4, e5]
    rfl
  · rw [List.getElem?_eq_none (by rw [List.length_map, hl]; omega), List.getElem?_eq_none (by rw [rdl_len, hn]; omega)]
theorem plain_nats (l : List Nat) (h : l.length ≤ 1000000) : plain 2 (natsD l) := by
  refine ⟨by rw [List.length_map]; exact h, fun x hx => ?_⟩
  obtain ⟨k, _, rfl⟩ := List.mem_map.mp hx
  exact trivial
def sLaw : NB.SV := fun ds Φ => ∃ ns, ds = [.scr ns] ∧ ns.length ≤ 63 ∧ Φ (.bl true)
/-- the names of the law between two turns -/
def LW (ns : List Int) (dr : Addr) (ρ : HC.Env) (M : HC.Cells) : Prop := ∃ o2 o3 o4 o5 o6 o7 : Option D, ρ = [some (.scr ns), some (.fn dr), o2, o3, o4, o5, o6, o7] ∧ HC.look M dr = some .draw
theorem LW.mk {ns : List Int} {dr : Addr} {o2 o3 o4 o5 o6 o7 : Option D} {M : HC.Cells} (h : HC.look M dr = some .draw) : LW ns dr [some (.scr ns), some (.fn dr), o2, o3, o4, o5, o6, o7] M := ⟨_, _, _, _, _, _, rfl, h⟩
def sLawH : HC.SC := fun ds M Φ => sLaw ds fun d => Φ d []
theorem ofH [Tbs] {K : PySem.W.Frag} {vs : List V} {H : Hp} {Q : VK} {E : XK} (h : spOf K (pureS sLaw) vs H Q E) : HC.spH K sLawH vs H Q E := by
  obtain ⟨F, os, Φ, ⟨hsub, hnt, htb, hB⟩, ha, ⟨ds, rfl, hs⟩, q⟩ := h
  have nO : ∀ a, ¬ OwnA vs (ds.map .d) a := fun a ⟨i, o, e1, e2, _⟩ => by
    rw [List.getElem?_map] at e1
    obtain ⟨d, _, rfl⟩ := Option.map_eq_some_iff.mp e1
    cases e2
  refine ⟨F, [], ds, fun d _ => Φ d (ds.map .d), ⟨hsub, hnt, htb, hB⟩, fun p c e => (nomatch e), ⟨by have := ha.len; rwa [List.length_map] at this, fun i v d e1 e2 => ha.ok i v (.d d) e1 (by rw [List.getElem?_map, e2]; rfl)⟩, hs, fun F' H' v M' d s x kp dom nw cl hdr hΦ => ?_⟩
  refine q F' H' v d (ds.map .d) s x (fun a o e n nz => kp a o e rfl nz) dom (fun a o e => (nw a o e).elim .inl fun z => z.elim (fun z => .inr (.inl z)) fun z => absurd rfl z) rfl (fun i o o' v e1 e2 => ?_) hdr hΦ
  rw [List.getElem?_map] at e1
  obtain ⟨d, _, rfl⟩ := Option.map_eq_some_iff.mp e1
  cases e2
def heldAt (f : Nat → Bool) : D → Bool
  | .int i => f i.toNat
  | _ => false
section
variable [I : Tbs] {P : Program} {w : World} {K : PySem.W.Frag} {mg : Str → Option Value} {base : Heap}
theorem ok_lawH (T : Txt P K mg w) (TB : LamX.TabB base mg T.c_holding T.P_holding) (HM : (T.P_holding, (envOfC "holding" (defScope s_holding) 0 0 .none).qual ++ "<lambda>") ∈ Tbs.T) (HU : ∀ p ∈ Tbs.T, p.1 = T.P_holding → p.2 = (envOfC "holding" (defScope s_holding) 0 0 .none).qual ++ "<lambda>") :
    FnOk P w K mg base CX0 91 T.a_law T.fd_law ["script"] (HC.spH K sLawH) := by
  have G_law_draw : FnOk P w K mg base CX0 1 T.a_law_draw T.fd_law_draw ["script"] (HC.spDraw K) := ok_draw T
  have G_law_next : FnOk P w K mg base CX0 1 T.a_law_next T.fd_law_next ["draw", "many"] (spOf K sNext) := ok_nextD T
  have G_law_element : FnOk P w K mg base CX0 6 T.a_law_element T.fd_law_element ["draw", "depth"] (spOf K (sElem 4)) := ok_elem T 4
  have G_law_number : FnOk P w K mg base CX0 5 T.a_law_number T.fd_law_number ["element", "parent", "rows"] (HC.spH K (sNumb 4)) := ok_number T 4
  have G_law_condition : FnOk P w K mg base CX0 10 T.a_law_condition T.fd_law_condition ["draw", "depth"] (spOf K sCond) := ok_cond T
  have G_law_holds : FnOk P w K mg base CX0 90 T.a_law_holds T.fd_law_holds ["rows", "tree", "number"] (spOf K (pureS (sLH 8))) := ok_lholds T 8
  have G_holding : FnOk P w K mg base CX0 6 T.a_holding T.fd_holding ["condition", "document"] (spOf K (pureS sHold)) := ok_holding T TB HM HU
  have G_law_same : FnOk P w K mg base CX0 3 T.a_law_same T.fd_law_same ["actual", "due"] (spOf K (pureS (sSame 2))) := ok_same T 2
  refine HC.fnC T.F_law sc_law (k := 90) (fun cdv A outer s H E hr => ⟨_, (pss_cons (ps_set (i := 1) sc_law.nd rfl (by first | exact Or.inl rfl | exact Or.inr rfl) (pe_call G_law_draw (hr.mono (by omega)) (by rfl) T.g_law_draw T.F_law_draw.kp T.b_law_draw .nil pass0 (pa_cons (pv 0) pa_nil)))
      (pss_cons (ps_for PassesOwn.never rfl (pi_range1 (by rfl) T.n_range (pa_cons pe_int pa_nil)) (pg_name (i := 2) sc_law.nd rfl (by first | exact Or.inl rfl | exact Or.inr rfl)) (pss_cons (ps_set (i := 3) sc_law.nd rfl (by first | exact Or.inl rfl | exact Or.inr rfl) (pe_call G_law_element (hr.mono (by omega)) (by rfl) T.g_law_element T.F_law_element.kp T.b_law_element .nil pass0 (pa_cons (pv 1) (pa_cons (pe_op op_add pe_int (pe_call G_law_next (hr.mono (by omega)) (by rfl) T.g_law_next T.F_law_next.kp T.b_law_next .nil pass0 (pa_cons (pv 1) (pa_cons pe_int pa_nil)))) pa_nil))))
      (pss_cons (ps_set (i := 4) sc_law.nd rfl (by first | exact Or.inl rfl | exact Or.inr rfl) (pe_lst pa_nil))
      (pss_cons (ps_expr (pe_call G_law_number (hr.mono (by omega)) (by rfl) T.g_law_number T.F_law_number.kp T.b_law_number .nil pass0 (pa_cons (pv 3) (pa_cons (pe_un un_neg pe_int) (pa_cons (pv 4) pa_nil)))))
      (pss_cons (ps_set (i := 5) sc_law.nd rfl (by first | exact Or.inl rfl | exact Or.inr rfl) (pe_call G_law_condition (hr.mono (by omega)) (by rfl) T.g_law_condition T.F_law_condition.kp T.b_law_condition .nil pass0 (pa_cons (pv 1) (pa_cons (pe_op op_add pe_int (pe_call G_law_next (hr.mono (by omega)) (by rfl) T.g_law_next T.F_law_next.kp T.b_law_next .nil pass0 (pa_cons (pv 1) (pa_cons pe_int pa_nil)))) pa_nil))))
      (pss_cons (ps_setLc (i := 6) (own := [("number", 7)]) (g := gName 7) (by rfl) sc_law.nd rfl rfl (sw_true rfl rfl rfl (by decide +kernel)) (pi_range1 (by rfl) T.n_range (pa_cons (pe_callB call_len (by rfl) T.n_len boot_len (pa_cons (pv 4) pa_nil)) pa_nil)) (blkOk_by (own := [("number", 7)]) (N := ["script", "draw", "turn", "element", "rows", "tree", "due", "number"]) (sc := defScope s_law) (by decide +kernel)) (fun _ _ _ _ _ => (pg_name (i := 7) sc_law.nd rfl (by first | exact Or.inl rfl | exact Or.inr rfl))) (fun _ _ _ _ _ => (pts_one (pt_val (pe_call G_law_holds (hr.mono (by omega)) (by rfl) T.g_law_holds T.F_law_holds.kp T.b_law_holds .nil pass0 (pa_cons (pv 4) (pa_cons (pv 5) (pa_cons (pv 7) pa_nil))))))) (fun _ _ _ _ _ => (pv 7)))
      (pss_one (ps_if (pt_not (pt_val (pe_call G_law_same (hr.mono (by omega)) (by rfl) T.g_law_same T.F_law_same.kp T.b_law_same .nil pass0 (pa_cons (pe_call G_holding (hr.mono (by omega)) (by rfl) T.g_holding T.F_holding.kp T.b_holding .nil pass0 (pa_cons (pv 5) (pa_cons (pv 3) pa_nil))) (pa_cons (pv 6) pa_nil))))) (pss_one (ps_ret pe_bl)) pss_nil))))))))
      (pss_one (ps_ret pe_bl)))), (HC.xs_seq (HC.xs_asg (HC.xe_draw (i := 0)) HC.xg_name)
      (HC.xs_seq (HC.xs_for (HC.xi_range1 (HC.xv_cons HC.xe_int HC.xv_nil)) HC.xg_name (HC.xs_seq (HC.xs_asg (HC.xe_callD (HC.xv_cons (HC.xe_raw 1) (HC.xv_cons (HC.xe_op ro_I0 HC.xe_int (HC.xe_callD (HC.xv_cons (HC.xe_raw 1) (HC.xv_cons HC.xe_int HC.xv_nil)))) HC.xv_nil))) HC.xg_name)
      (HC.xs_seq (HC.xs_asg (HC.XL.ce (HC.xl_lst HC.xv_nil)) HC.xg_name)
      (HC.xs_seq (HC.xs_drop (HC.xe_call (HC.xv_cons (HC.xe_raw 3) (HC.xv_cons (HC.xe_neg HC.xe_int) (HC.xv_cons (HC.xe_raw 4) HC.xv_nil)))))
      (HC.xs_seq (HC.xs_asg (HC.xe_callD (HC.xv_cons (HC.xe_raw 1) (HC.xv_cons (HC.xe_op ro_I0 HC.xe_int (HC.xe_callD (HC.xv_cons (HC.xe_raw 1) (HC.xv_cons HC.xe_int HC.xv_nil)))) HC.xv_nil))) HC.xg_name)
      (HC.xs_seq (HC.xs_asg (HC.XL.re (HC.xl_lc (HC.xi_range1 (HC.xv_cons (HC.xe_len (HC.xe_deep (n := 4) (HC.xe_raw 4))) HC.xv_nil)) HC.xg_name (HC.xt_B (HC.xe_callO (HC.xv_cons (HC.xe_deep (n := 4) (HC.xe_raw 4)) (HC.xv_cons (HC.xe_raw 5) (HC.xv_cons (HC.xe_raw 7) HC.xv_nil))))) (HC.xe_raw 7))) HC.xg_name)
      (HC.xs_if (HC.xt_not (HC.xt_B (HC.xe_callO (HC.xv_cons (HC.xe_callO (HC.xv_cons (HC.xe_raw 5) (HC.xv_cons (HC.xe_raw 3) HC.xv_nil))) (HC.xv_cons (HC.xe_raw 6) HC.xv_nil))))) (HC.xs_ret HC.xe_bl) HC.xs_next)))))))
      (HC.xs_ret HC.xe_bl)))⟩) (fun ds M Φ h => ?_) (fun ds M Φ h => ?_)
  · obtain ⟨ns, rfl, _⟩ := h
    rfl
  · obtain ⟨ns, rfl, hn, hΦ⟩ := h
    simp
    refine ⟨hn, fun dr hdr => ?_⟩
    have d0 : HC.look ((dr, HC.Cell.draw) :: M) dr = some .draw := by simp
    generalize ((dr, HC.Cell.draw) :: M) = M0 at d0 ⊢
    refine HC.for_inv (rngD 0 4) M0 (fun k => LW ns dr) (fun Ψ h => ?_) (.mk d0) ?_ ?_
    · simp
      exact h
    · rintro k x ρ M1 hx ⟨o2, o3, o4, o5, o6, o7, rfl, d1⟩
      simp [d1]
      refine ⟨dr, _, ⟨rfl, rfl⟩, d1, 3, rfl, by decide, by decide, fun r1 hr1 => ⟨rfl, ?_⟩⟩
      simp
      refine ⟨dr, _, ⟨rfl, rfl⟩, d1, 1 + r1, by simp, by omega, fun t ht => ⟨rfl, fun p hp => ?_⟩⟩
      have hpd : p ≠ dr := fun z => by rw [z, d1] at hp; cases hp
      have hsz : sz t ≤ 40 := by
        have := ht.sz
        have e : 3 ^ 4 = 81 := rfl
        omega
      refine ⟨p, t, none, [], rfl, ht, ⟨[], [], ⟨rfl, rfl, by simp, fun i a c r h => (nomatch h), List.nodup_nil, List.nodup_nil, fun a h => (List.not_mem_nil h).elim, List.not_mem_nil, List.not_mem_nil⟩⟩, fun i h => (nomatch h), by simp; omega, fun r h => (List.not_mem_nil h).elim, fun M2 hR hd => ?_⟩
      have hR : RowsAt M2 p (numP t 0 none) := hR
      have d2 : HC.look M2 dr = some .draw := hd dr (by simp [hpd, d1])
      refine ⟨dr, _, ⟨rfl, rfl⟩, d2, 3, rfl, by decide, by decide, fun r2 hr2 => ⟨rfl, ?_⟩⟩
      simp
      refine ⟨dr, _, ⟨rfl, rfl⟩, d2, 1 + r2, by simp, by omega, fun c hc => ⟨rfl, ?_⟩⟩
      obtain ⟨M3, f1, f2, d3⟩ := frz_rows hR
      rw [rows_rdl] at f1 f2
      have f4 : HC.frzN 4 M3 (.fn p) = (.lst (rdl (nmF t) (famF t)), M3) := HC.frzN_cz f2
      have d4 := d3 dr d2
      have hFn := famF_n t
      have hFW : FW (famF t) (wt t) := ⟨gf t, wt_ok t, fun k => Nat.le_trans (wt_le t k) (by omega), by rw [hFn]; exact hsz⟩
      have hns : (nmF t).length = (famF t).n := by unfold nmF; rw [List.length_map, num_len, hFn]
      refine HC.lc_fp (ρw := [some (.scr ns), some (.fn dr), some x, some (elD t), some (.fn p), some (cnD c), o6, none]) (rngD 0 (sz t)) M3 (heldAt (ev (nmF t) (famF t) c)) id (fun Ψ q => ?_) rfl (by rw [rngD_len]; omega) (fun y hy A B hA hB => ?_) ?_
      · simp [f1, rdl_len, hFn]
        exact ⟨by omega, q⟩
      · obtain ⟨i, hi, rfl⟩ := mem_rng hy
        rw [Int.zero_add] at *
        simp [f4]
        refine ⟨nmF t, famF t, wt t, c, i, rfl, hFW, hns, hc, by rw [hFn]; exact hi, ?_⟩
        have e1 : heldAt (ev (nmF t) (famF t) c) (.int (i : Nat)) = ev (nmF t) (famF t) c i := rfl
        simp
        cases q : ev (nmF t) (famF t) c i with
        | true => simp; exact hA (e1.trans q)
        | false => simp; exact hB (e1.trans q)
      · have e1 : ((rngD 0 (sz t)).filter (heldAt (ev (nmF t) (famF t) c))).map id = ((List.range (sz t)).filter (ev (nmF t) (famF t) c)).map fun k => .int (k : Nat) := by
          unfold rngD
          rw [List.map_id, List.filter_map]
          have e2 : (heldAt (ev (nmF t) (famF t) c) ∘ fun i : Nat => D.int (0 + (i : Nat))) = ev (nmF t) (famF t) c := by
            funext i
            show ev _ _ c (0 + ((i : Nat) : Int)).toNat = _
            rw [Int.zero_add, Int.toNat_natCast]
          rw [e2]
          refine List.map_congr_left fun k _ => ?_
          rw [Int.zero_add]
        rw [e1]
        refine ⟨c, t, 8, rfl, hc, by decide, by omega, ?_⟩
        simp
        refine ⟨natsD ((List.range (sz t)).filter (ev (nmF t) (famF t) c)), rfl, plain_nats _ ?_, ?_⟩
        · refine Nat.le_trans (List.length_filter_le _ _) ?_
          rw [List.length_range]
          omega
        · simp
          exact .mk d4
    · rintro ρ M1 ⟨o2, o3, o4, o5, o6, o7, rfl, d1⟩
      simp
      exact ⟨[], fun p c e => (nomatch e), hΦ⟩
theorem ok_law' (T : Txt P K mg w) (TB : LamX.TabB base mg T.c_holding T.P_holding) (HM : (T.P_holding, (envOfC "holding" (defScope s_holding) 0 0 .none).qual ++ "<lambda>") ∈ Tbs.T) (HU : ∀ p ∈ Tbs.T, p.1 = T.P_holding → p.2 = (envOfC "holding" (defScope s_holding) 0 0 .none).qual ++ "<lambda>") :
    FnOk P w K mg base CX0 91 T.a_law T.fd_law ["script"] (spOf K (pureS sLaw)) := (ok_lawH T TB HM HU).imp fun vs H Q E h => ofH h
end
end K48
namespace K48
open PySem PySem.Spec PyProof.Rows L2 DL
theorem law_at {l : PySem.W.OpenLaw} {w : World} {K : PySem.W.Frag} {mg : Str → Option Value} {h : Heap} (T : Txt l.prog K mg w) (hb : ∀ (s : Shared) (v : Value), BindsTo s T.fd_law ⟨[v], []⟩ [("script", v)])
    (t : h.get? T.P_holding = some { cls := .none, data := .fields #[] } ∧ PySem.W.CodeHd h T.c_holding T.P_holding) (n : K.lookup T.P_holding = none) : LamX.LawAtS l w K CX0 91 63 "script" mg T.a_law h := by
  refine ⟨T.fd_law, [(T.c_holding, T.P_holding)], @spOf ⟨[(T.P_holding, (envOfC "holding" (defScope s_holding) 0 0 .none).qual ++ "<lambda>")], fun _ => none⟩ K (pureS sLaw), fun p hp => ?_, fun p hp => ?_, fun p hp => ?_, hb, fun H a ns hl _ hH hS => ?_, fun base _ _ hT => ?_⟩
  · rw [List.mem_singleton.mp hp]
    exact t.1
  · rw [List.mem_singleton.mp hp]
    exact n
  · rw [List.mem_singleton.mp hp]
    exact t.2
  · refine FE.law_entry (fun p hp => ?_) hS fun Φ h => ⟨ns, rfl, hl, h⟩
    rw [List.mem_singleton.mp hp]
    exact hH _ (List.mem_singleton.mpr rfl)
  · refine @ok_law' ⟨[(T.P_holding, (envOfC "holding" (defScope s_holding) 0 0 .none).qual ++ "<lambda>")], fun _ => none⟩ _ _ _ _ _ T (hT _ (List.mem_singleton.mpr rfl)) (List.mem_singleton.mpr rfl) fun p hp _ => ?_
    rw [List.mem_singleton.mp hp]
theorem all_mk {l : PySem.W.OpenLaw} {w : World} {K : PySem.W.Frag} {h : Heap} {mg : Str → Option Value} {fa : Addr} (X : K.In h) (G : h.Ns mainGlobals mg) (hfa : mg "law" = some (.ref fa)) (tbs : ∀ x ∈ [("holding" : Str)], FE.TabAt mg h x)
    {prog : Program} (hprog : prog = l.prog)
    {C_Family : Addr}
    {f_parts_of : Addr} {od_parts_of an_parts_of : Option Addr} {sl_parts_of : Array (Option Value)} {oc_parts_of kV_parts_of dc_parts_of pm_parts_of cd_parts_of ct_parts_of : Value}
    {f_children_of : Addr} {od_children_of an_children_of : Option Addr} {sl_children_of : Array (Option Value)} {oc_children_of kV_children_of dc_children_of pm_children_of cd_children_of ct_children_of : Value}
    {f_numbered : Addr} {od_numbered an_numbered : Option Addr} {sl_numbered : Array (Option Value)} {oc_numbered kV_numbered dc_numbered pm_numbered cd_numbered ct_numbered : Value}
    {f_folded : Addr} {od_folded an_folded : Option Addr} {sl_folded : Array (Option Value)} {oc_folded kV_folded dc_folded pm_folded cd_folded ct_folded : Value}
    {f_Family___init__ : Addr} {od_Family___init__ an_Family___init__ : Option Addr} {sl_Family___init__ : Array (Option Value)} {oc_Family___init__ kV_Family___init__ dc_Family___init__ pm_Family___init__ cd_Family___init__ ct_Family___init__ : Value}
    {f_holds_child : Addr} {od_holds_child an_holds_child : Option Addr} {sl_holds_child : Array (Option Value)} {oc_holds_child kV_holds_child dc_holds_child pm_holds_child cd_holds_child ct_holds_child : Value}
    {f_holds_below : Addr} {od_holds_below an_holds_below : Option Addr} {sl_holds_below : Array (Option Value)} {oc_holds_below kV_holds_below dc_holds_below pm_holds_below cd_holds_below ct_holds_below : Value}
    {f_holds_parent : Addr} {od_holds_parent an_holds_parent : Option Addr} {sl_holds_parent : Array (Option Value)} {oc_holds_parent kV_holds_parent dc_holds_parent pm_holds_parent cd_holds_parent ct_holds_parent : Value}
    {f_holds_above : Addr} {od_holds_above an_holds_above : Option Addr} {sl_holds_above : Array (Option Value)} {oc_holds_above kV_holds_above dc_holds_above pm_holds_above cd_holds_above ct_holds_above : Value}
    {f_holds_before : Addr} {od_holds_before an_holds_before : Option Addr} {sl_holds_before : Array (Option Value)} {oc_holds_before kV_holds_before dc_holds_before pm_holds_before cd_holds_before ct_holds_before : Value}
    {f_holds_earlier : Addr} {od_holds_earlier an_holds_earlier : Option Addr} {sl_holds_earlier : Array (Option Value)} {oc_holds_earlier kV_holds_earlier dc_holds_earlier pm_holds_earlier cd_holds_earlier ct_holds_earlier : Value}
    {f_holds_later : Addr} {od_holds_later an_holds_later : Option Addr} {sl_holds_later : Array (Option Value)} {oc_holds_later kV_holds_later dc_holds_later pm_holds_later cd_holds_later ct_holds_later : Value}
    {f_holds_without_looks : Addr} {od_holds_without_looks an_holds_without_looks : Option Addr} {sl_holds_without_looks : Array (Option Value)} {oc_holds_without_looks kV_holds_without_looks dc_holds_without_looks pm_holds_without_looks cd_holds_without_looks ct_holds_without_looks : Value}
    {f_holds_of : Addr} {od_holds_of an_holds_of : Option Addr} {sl_holds_of : Array (Option Value)} {oc_holds_of kV_holds_of dc_holds_of pm_holds_of cd_holds_of ct_holds_of : Value}
    {f_holding : Addr} {od_holding an_holding : Option Addr} {sl_holding : Array (Option Value)} {oc_holding kV_holding dc_holding pm_holding ct_holding : Value}
    {ca_holding Pa_holding : Addr} {e_holding : Value} {dd_holding : Option Addr} {vs_holding : Array Value} {sc_holding' : Array (Option Value)}
    {f_law_draw : Addr} {od_law_draw an_law_draw : Option Addr} {sl_law_draw : Array (Option Value)} {oc_law_draw kV_law_draw dc_law_draw pm_law_draw cd_law_draw ct_law_draw : Value}
    {f_law_next : Addr} {od_law_next an_law_next : Option Addr} {sl_law_next : Array (Option Value)} {oc_law_next kV_law_next dc_law_next pm_law_next cd_law_next ct_law_next : Value}
    {f_law_same : Addr} {od_law_same an_law_same : Option Addr} {sl_law_same : Array (Option Value)} {oc_law_same kV_law_same dc_law_same pm_law_same cd_law_same ct_law_same : Value}
    {f_law_element : Addr} {od_law_element an_law_element : Option Addr} {sl_law_element : Array (Option Value)} {oc_law_element kV_law_element dc_law_element pm_law_element cd_law_element ct_law_element : Value}
    {f_law_tree : Addr} {od_law_tree an_law_tree : Option Addr} {sl_law_tree : Array (Option Value)} {oc_law_tree kV_law_tree dc_law_tree pm_law_tree cd_law_tree ct_law_tree : Value}
    {f_law_parts : Addr} {od_law_parts an_law_parts : Option Addr} {sl_law_parts : Array (Option Value)} {oc_law_parts kV_law_parts dc_law_parts pm_law_parts cd_law_parts ct_law_parts : Value}
    {f_law_looks : Addr} {od_law_looks an_law_looks : Option Addr} {sl_law_looks : Array (Option Value)} {oc_law_looks kV_law_looks dc_law_looks pm_law_looks cd_law_looks ct_law_looks : Value}
    {f_law_condition : Addr} {od_law_condition an_law_condition : Option Addr} {sl_law_condition : Array (Option Value)} {oc_law_condition kV_law_condition dc_law_condition pm_law_condition cd_law_condition ct_law_condition : Value}
    {f_law_number : Addr} {od_law_number an_law_number : Option Addr} {sl_law_number : Array (Option Value)} {oc_law_number kV_law_number dc_law_number pm_law_number cd_law_number ct_law_number : Value}
    {f_law_below : Addr} {od_law_below an_law_below : Option Addr} {sl_law_below : Array (Option Value)} {oc_law_below kV_law_below dc_law_below pm_law_below cd_law_below ct_law_below : Value}
    {f_law_seen : Addr} {od_law_seen an_law_seen : Option Addr} {sl_law_seen : Array (Option Value)} {oc_law_seen kV_law_seen dc_law_seen pm_law_seen cd_law_seen ct_law_seen : Value}
    {f_law_holds : Addr} {od_law_holds an_law_holds : Option Addr} {sl_law_holds : Array (Option Value)} {oc_law_holds kV_law_holds dc_law_holds pm_law_holds cd_law_holds ct_law_holds : Value}
    {f_law : Addr} {od_law an_law : Option Addr} {sl_law : Array (Option Value)} {oc_law kV_law dc_law pm_law cd_law ct_law : Value}
    {d_FINDERS : Addr} {es_FINDERS : Array DictEntry} {n_FINDERS : Nat}
    (g_Family : PySem.W.nsIn K mainGlobals "Family" = some (some (.ref C_Family)))
    (p1_Family : PySem.W.plainGet K C_Family Str.empty = true)
    (p2_Family : PySem.W.hasDictIn K C_Family = true)
    (p3_Family : PySem.W.plainOver K C_Family = true)
    (p4_Family : PySem.W.findIn K (.ref C_Family) "__setattr__" = some (some (.builtin "object.__setattr__")))
    (p5_Family : PySem.W.makesIn K C_Family = true)
    (p6_Family : PySem.W.keepIn K (.ref C_Family) = true)
    (n_Family_names : PySem.W.findIn K (.ref C_Family) "names" = some none)
    (n_Family_rows : PySem.W.findIn K (.ref C_Family) "rows" = some none)
    (n_Family_parents : PySem.W.findIn K (.ref C_Family) "parents" = some none)
    (a_parts_of : PySem.W.nsIn K mainGlobals "parts_of" = some (some (.ref f_parts_of)))
    (l_parts_of : K.lookup f_parts_of = some ⟨oc_parts_of, od_parts_of, .func (PySem.W.fnOf "parts_of" "parts_of" (defArgs s_parts_of) (defBody s_parts_of) (defScope s_parts_of) .none kV_parts_of dc_parts_of pm_parts_of an_parts_of cd_parts_of ct_parts_of), sl_parts_of⟩)
    (c_parts_of : PySem.W.codeIn K cd_parts_of "parts_of" = true)
    (k_parts_of : PySem.W.keepIn K (.ref f_parts_of) = true)
    (a_children_of : PySem.W.nsIn K mainGlobals "children_of" = some (some (.ref f_children_of)))
    (l_children_of : K.lookup f_children_of = some ⟨oc_children_of, od_children_of, .func (PySem.W.fnOf "children_of" "children_of" (defArgs s_children_of) (defBody s_children_of) (defScope s_children_of) .none kV_children_of dc_children_of pm_children_of an_children_of cd_children_of ct_children_of), sl_children_of⟩)
    (c_children_of : PySem.W.codeIn K cd_children_of "children_of" = true)
    (k_children_of : PySem.W.keepIn K (.ref f_children_of) = true)
    (a_numbered : PySem.W.nsIn K mainGlobals "numbered" = some (some (.ref f_numbered)))
    (l_numbered : K.lookup f_numbered = some ⟨oc_numbered, od_numbered, .func (PySem.W.fnOf "numbered" "numbered" (defArgs s_numbered) (defBody s_numbered) (defScope s_numbered) .none kV_numbered dc_numbered pm_numbered an_numbered cd_numbered ct_numbered), sl_numbered⟩)
    (c_numbered : PySem.W.codeIn K cd_numbered "numbered" = true)
    (k_numbered : PySem.W.keepIn K (.ref f_numbered) = true)
    (a_folded : PySem.W.nsIn K mainGlobals "folded" = some (some (.ref f_folded)))
    (l_folded : K.lookup f_folded = some ⟨oc_folded, od_folded, .func (PySem.W.fnOf "folded" "folded" (defArgs s_folded) (defBody s_folded) (defScope s_folded) .none kV_folded dc_folded pm_folded an_folded cd_folded ct_folded), sl_folded⟩)
    (c_folded : PySem.W.codeIn K cd_folded "folded" = true)
    (k_folded : PySem.W.keepIn K (.ref f_folded) = true)
    (a_Family___init__ : PySem.W.findIn K (.ref C_Family) "__init__" = some (some (.ref f_Family___init__)))
    (fn_Family___init__ : PySem.W.isFn K (.ref f_Family___init__) = true)
    (l_Family___init__ : K.lookup f_Family___init__ = some ⟨oc_Family___init__, od_Family___init__, .func (PySem.W.fnOf "__init__" "Family.__init__" (defArgs s_Family___init__) (defBody s_Family___init__) (defScope s_Family___init__) .none kV_Family___init__ dc_Family___init__ pm_Family___init__ an_Family___init__ cd_Family___init__ ct_Family___init__), sl_Family___init__⟩)
    (c_Family___init__ : PySem.W.codeIn K cd_Family___init__ "Family.__init__" = true)
    (k_Family___init__ : PySem.W.keepIn K (.ref f_Family___init__) = true)
    (a_holds_child : PySem.W.nsIn K mainGlobals "holds_child" = some (some (.ref f_holds_child)))
    (l_holds_child : K.lookup f_holds_child = some ⟨oc_holds_child, od_holds_child, .func (PySem.W.fnOf "holds_child" "holds_child" (defArgs s_holds_child) (defBody s_holds_child) (defScope s_holds_child) .none kV_holds_child dc_holds_child pm_holds_child an_holds_child cd_holds_child ct_holds_child), sl_holds_child⟩)
    (c_holds_child : PySem.W.codeIn K cd_holds_child "holds_child" = true)
    (k_holds_child : PySem.W.keepIn K (.ref f_holds_child) = true)
    (a_holds_below : PySem.W.nsIn K mainGlobals "holds_below" = some (some (.ref f_holds_below)))
    (l_holds_below : K.lookup f_holds_below = some ⟨oc_holds_below, od_holds_below, .func (PySem.W.fnOf "holds_below" "holds_below" (defArgs s_holds_below) (defBody s_holds_below) (defScope s_holds_below) .none kV_holds_below dc_holds_below pm_holds_below an_holds_below cd_holds_below ct_holds_below), sl_holds_below⟩)
    (c_holds_below : PySem.W.codeIn K cd_holds_below "holds_below" = true)
    (k_holds_below : PySem.W.keepIn K (.ref f_holds_below) = true)
    (a_holds_parent : PySem.W.nsIn K mainGlobals "holds_parent" = some (some (.ref f_holds_parent)))
    (l_holds_parent : K.lookup f_holds_parent = some ⟨oc_holds_parent, od_holds_parent, .func (PySem.W.fnOf "holds_parent" "holds_parent" (defArgs s_holds_parent) (defBody s_holds_parent) (defScope s_holds_parent) .none kV_holds_parent dc_holds_parent pm_holds_parent an_holds_parent cd_holds_parent ct_holds_parent), sl_holds_parent⟩)
    (c_holds_parent : PySem.W.codeIn K cd_holds_parent "holds_parent" = true)
    (k_holds_parent : PySem.W.keepIn K (.ref f_holds_parent) = true)
    (a_holds_above : PySem.W.nsIn K mainGlobals "holds_above" = some (some (.ref f_holds_above)))
    (l_holds_above : K.lookup f_holds_above = some ⟨oc_holds_above, od_holds_above, .func (PySem.W.fnOf "holds_above" "holds_above" (defArgs s_holds_above) (defBody s_holds_above) (defScope s_holds_above) .none kV_holds_above dc_holds_above pm_holds_above an_holds_above cd_holds_above ct_holds_above), sl_holds_above⟩)
    (c_holds_above : PySem.W.codeIn K cd_holds_above "holds_above" = true)
    (k_holds_above : PySem.W.keepIn K (.ref f_holds_above) = true)
    (a_holds_before : PySem.W.nsIn K mainGlobals "holds_before" = some (some (.ref f_holds_before)))
    (l_holds_before : K.lookup f_holds_before = some ⟨oc_holds_before, od_holds_before, .func (PySem.W.fnOf "holds_before" "holds_before" (defArgs s_holds_before) (defBody s_holds_before) (defScope s_holds_before) .none kV_holds_before dc_holds_before pm_holds_before an_holds_before cd_holds_before ct_holds_before), sl_holds_before⟩)
    (c_holds_before : PySem.W.codeIn K cd_holds_before "holds_before" = true)
    (k_holds_before : PySem.W.keepIn K (.ref f_holds_before) = true)
    (a_holds_earlier : PySem.W.nsIn K mainGlobals "holds_earlier" = some (some (.ref f_holds_earlier)))
    (l_holds_earlier : K.lookup f_holds_earlier = some ⟨oc_holds_earlier, od_holds_earlier, .func (PySem.W.fnOf "holds_earlier" "holds_earlier" (defArgs s_holds_earlier) (defBody s_holds_earlier) (defScope s_holds_earlier) .none kV_holds_earlier dc_holds_earlier pm_holds_earlier an_holds_earlier cd_holds_earlier ct_holds_earlier), sl_holds_earlier⟩)
    (c_holds_earlier : PySem.W.codeIn K cd_holds_earlier "holds_earlier" = true)
    (k_holds_earlier : PySem.W.keepIn K (.ref f_holds_earlier) = true)
    (a_holds_later : PySem.W.nsIn K mainGlobals "holds_later" = some (some (.ref f_holds_later)))
    (l_holds_later : K.lookup f_holds_later = some ⟨oc_holds_later, od_holds_later, .func (PySem.W.fnOf "holds_later" "holds_later" (defArgs s_holds_later) (defBody s_holds_later) (defScope s_holds_later) .none kV_holds_later dc_holds_later pm_holds_later an_holds_later cd_holds_later ct_holds_later), sl_holds_later⟩)
    (c_holds_later : PySem.W.codeIn K cd_holds_later "holds_later" = true)
    (k_holds_later : PySem.W.keepIn K (.ref f_holds_later) = true)
    (a_holds_without_looks : PySem.W.nsIn K mainGlobals "holds_without_looks" = some (some (.ref f_holds_without_looks)))
    (l_holds_without_looks : K.lookup f_holds_without_looks = some ⟨oc_holds_without_looks, od_holds_without_looks, .func (PySem.W.fnOf "holds_without_looks" "holds_without_looks" (defArgs s_holds_without_looks) (defBody s_holds_without_looks) (defScope s_holds_without_looks) .none kV_holds_without_looks dc_holds_without_looks pm_holds_without_looks an_holds_without_looks cd_holds_without_looks ct_holds_without_looks), sl_holds_without_looks⟩)
    (c_holds_without_looks : PySem.W.codeIn K cd_holds_without_looks "holds_without_looks" = true)
    (k_holds_without_looks : PySem.W.keepIn K (.ref f_holds_without_looks) = true)
    (a_holds_of : PySem.W.nsIn K mainGlobals "holds_of" = some (some (.ref f_holds_of)))
    (l_holds_of : K.lookup f_holds_of = some ⟨oc_holds_of, od_holds_of, .func (PySem.W.fnOf "holds_of" "holds_of" (defArgs s_holds_of) (defBody s_holds_of) (defScope s_holds_of) .none kV_holds_of dc_holds_of pm_holds_of an_holds_of cd_holds_of ct_holds_of), sl_holds_of⟩)
    (c_holds_of : PySem.W.codeIn K cd_holds_of "holds_of" = true)
    (k_holds_of : PySem.W.keepIn K (.ref f_holds_of) = true)
    (a_holding : PySem.W.nsIn K mainGlobals "holding" = some (some (.ref f_holding)))
    (l_holding : K.lookup f_holding = some ⟨oc_holding, od_holding, .func (PySem.W.fnOf "holding" "holding" (defArgs s_holding) (defBody s_holding) (defScope s_holding) .none kV_holding dc_holding pm_holding an_holding (.ref ca_holding) ct_holding), sl_holding⟩)
    (c_holding : PySem.W.codeIn K (.ref ca_holding) "holding" = true)
    (k_holding : PySem.W.keepIn K (.ref f_holding) = true)
    (lc_holding : K.lookup ca_holding = some ⟨e_holding, dd_holding, .fields vs_holding, sc_holding'⟩)
    (pv_holding : vs_holding[11]? = some (.ref Pa_holding))
    (pn_holding : K.lookup Pa_holding = none)
    (a_law_draw : PySem.W.nsIn K mainGlobals "_law_draw" = some (some (.ref f_law_draw)))
    (l_law_draw : K.lookup f_law_draw = some ⟨oc_law_draw, od_law_draw, .func (PySem.W.fnOf "_law_draw" "_law_draw" (defArgs s_law_draw) (defBody s_law_draw) (defScope s_law_draw) .none kV_law_draw dc_law_draw pm_law_draw an_law_draw cd_law_draw ct_law_draw), sl_law_draw⟩)
    (c_law_draw : PySem.W.codeIn K cd_law_draw "_law_draw" = true)
    (k_law_draw : PySem.W.keepIn K (.ref f_law_draw) = true)
    (a_law_next : PySem.W.nsIn K mainGlobals "_law_next" = some (some (.ref f_law_next)))
    (l_law_next : K.lookup f_law_next = some ⟨oc_law_next, od_law_next, .func (PySem.W.fnOf "_law_next" "_law_next" (defArgs s_law_next) (defBody s_law_next) (defScope s_law_next) .none kV_law_next dc_law_next pm_law_next an_law_next cd_law_next ct_law_next), sl_law_next⟩)
    (c_law_next : PySem.W.codeIn K cd_law_next "_law_next" = true)
    (k_law_next : PySem.W.keepIn K (.ref f_law_next) = true)
    (a_law_same : PySem.W.nsIn K mainGlobals "_law_same" = some (some (.ref f_law_same)))
    (l_law_same : K.lookup f_law_same = some ⟨oc_law_same, od_law_same, .func (PySem.W.fnOf "_law_same" "_law_same" (defArgs s_law_same) (defBody s_law_same) (defScope s_law_same) .none kV_law_same dc_law_same pm_law_same an_law_same cd_law_same ct_law_same), sl_law_same⟩)
    (c_law_same : PySem.W.codeIn K cd_law_same "_law_same" = true)
    (k_law_same : PySem.W.keepIn K (.ref f_law_same) = true)
    (a_law_element : PySem.W.nsIn K mainGlobals "_law_element" = some (some (.ref f_law_element)))
    (l_law_element : K.lookup f_law_element = some ⟨oc_law_element, od_law_element, .func (PySem.W.fnOf "_law_element" "_law_element" (defArgs s_law_element) (defBody s_law_element) (defScope s_law_element) .none kV_law_element dc_law_element pm_law_element an_law_element cd_law_element ct_law_element), sl_law_element⟩)
    (c_law_element : PySem.W.codeIn K cd_law_element "_law_element" = true)
    (k_law_element : PySem.W.keepIn K (.ref f_law_element) = true)
    (a_law_tree : PySem.W.nsIn K mainGlobals "_law_tree" = some (some (.ref f_law_tree)))
    (l_law_tree : K.lookup f_law_tree = some ⟨oc_law_tree, od_law_tree, .func (PySem.W.fnOf "_law_tree" "_law_tree" (defArgs s_law_tree) (defBody s_law_tree) (defScope s_law_tree) .none kV_law_tree dc_law_tree pm_law_tree an_law_tree cd_law_tree ct_law_tree), sl_law_tree⟩)
    (c_law_tree : PySem.W.codeIn K cd_law_tree "_law_tree" = true)
    (k_law_tree : PySem.W.keepIn K (.ref f_law_tree) = true)
    (a_law_parts : PySem.W.nsIn K mainGlobals "_law_parts" = some (some (.ref f_law_parts)))
    (l_law_parts : K.lookup f_law_parts = some ⟨oc_law_parts, od_law_parts, .func (PySem.W.fnOf "_law_parts" "_law_parts" (defArgs s_law_parts) (defBody s_law_parts) (defScope s_law_parts) .none kV_law_parts dc_law_parts pm_law_parts an_law_parts cd_law_parts ct_law_parts), sl_law_parts⟩)
    (c_law_parts : PySem.W.codeIn K cd_law_parts "_law_parts" = true)
    (k_law_parts : PySem.W.keepIn K (.ref f_law_parts) = true)
    (a_law_looks : PySem.W.nsIn K mainGlobals "_law_looks" = some (some (.ref f_law_looks)))
    (l_law_looks : K.lookup f_law_looks = some ⟨oc_law_looks, od_law_looks, .func (PySem.W.fnOf "_law_looks" "_law_looks" (defArgs s_law_looks) (defBody s_law_looks) (defScope s_law_looks) .none kV_law_looks dc_law_looks pm_law_looks an_law_looks cd_law_looks ct_law_looks), sl_law_looks⟩)
    (c_law_looks : PySem.W.codeIn K cd_law_looks "_law_looks" = true)
    (k_law_looks : PySem.W.keepIn K (.ref f_law_looks) = true)
    (a_law_condition : PySem.W.nsIn K mainGlobals "_law_condition" = some (some (.ref f_law_condition)))
    (l_law_condition : K.lookup f_law_condition = some ⟨oc_law_condition, od_law_condition, .func (PySem.W.fnOf "_law_condition" "_law_condition" (defArgs s_law_condition) (defBody s_law_condition) (defScope s_law_condition) .none kV_law_condition dc_law_condition pm_law_condition an_law_condition cd_law_condition ct_law_condition), sl_law_condition⟩)
    (c_law_condition : PySem.W.codeIn K cd_law_condition "_law_condition" = true)
    (k_law_condition : PySem.W.keepIn K (.ref f_law_condition) = true)
    (a_law_number : PySem.W.nsIn K mainGlobals "_law_number" = some (some (.ref f_law_number)))
    (l_law_number : K.lookup f_law_number = some ⟨oc_law_number, od_law_number, .func (PySem.W.fnOf "_law_number" "_law_number" (defArgs s_law_number) (defBody s_law_number) (defScope s_law_number) .none kV_law_number dc_law_number pm_law_number an_law_number cd_law_number ct_law_number), sl_law_number⟩)
    (c_law_number : PySem.W.codeIn K cd_law_number "_law_number" = true)
    (k_law_number : PySem.W.keepIn K (.ref f_law_number) = true)
    (a_law_below : PySem.W.nsIn K mainGlobals "_law_below" = some (some (.ref f_law_below)))
    (l_law_below : K.lookup f_law_below = some ⟨oc_law_below, od_law_below, .func (PySem.W.fnOf "_law_below" "_law_below" (defArgs s_law_below) (defBody s_law_below) (defScope s_law_below) .none kV_law_below dc_law_below pm_law_below an_law_below cd_law_below ct_law_below), sl_law_below⟩)
    (c_law_below : PySem.W.codeIn K cd_law_below "_law_below" = true)
    (k_law_below : PySem.W.keepIn K (.ref f_law_below) = true)
    (a_law_seen : PySem.W.nsIn K mainGlobals "_law_seen" = some (some (.ref f_law_seen)))
    (l_law_seen : K.lookup f_law_seen = some ⟨oc_law_seen, od_law_seen, .func (PySem.W.fnOf "_law_seen" "_law_seen" (defArgs s_law_seen) (defBody s_law_seen) (defScope s_law_seen) .none kV_law_seen dc_law_seen pm_law_seen an_law_seen cd_law_seen ct_law_seen), sl_law_seen⟩)
    (c_law_seen : PySem.W.codeIn K cd_law_seen "_law_seen" = true)
    (k_law_seen : PySem.W.keepIn K (.ref f_law_seen) = true)
    (a_law_holds : PySem.W.nsIn K mainGlobals "_law_holds" = some (some (.ref f_law_holds)))
    (l_law_holds : K.lookup f_law_holds = some ⟨oc_law_holds, od_law_holds, .func (PySem.W.fnOf "_law_holds" "_law_holds" (defArgs s_law_holds) (defBody s_law_holds) (defScope s_law_holds) .none kV_law_holds dc_law_holds pm_law_holds an_law_holds cd_law_holds ct_law_holds), sl_law_holds⟩)
    (c_law_holds : PySem.W.codeIn K cd_law_holds "_law_holds" = true)
    (k_law_holds : PySem.W.keepIn K (.ref f_law_holds) = true)
    (a_law : PySem.W.nsIn K mainGlobals "law" = some (some (.ref f_law)))
    (l_law : K.lookup f_law = some ⟨oc_law, od_law, .func (PySem.W.fnOf "law" "law" (defArgs s_law) (defBody s_law) (defScope s_law) .none kV_law dc_law pm_law an_law cd_law ct_law), sl_law⟩)
    (c_law : PySem.W.codeIn K cd_law "law" = true)
    (k_law : PySem.W.keepIn K (.ref f_law) = true)
    (g_FINDERS : PySem.W.nsIn K mainGlobals "FINDERS" = some (some (.ref d_FINDERS)))
    (kdl_FINDERS : K.lookup d_FINDERS = some ⟨.type "dict", none, .dict es_FINDERS n_FINDERS, #[]⟩)
    (kdk_FINDERS : PySem.W.KeysLit w.params es_FINDERS.toList)
    (kds_FINDERS : (d_FINDERS == sysModules) = false)
    (kde_FINDERS : SX.Ents es_FINDERS.toList [(("child" : Str), V.ref f_holds_child), (("below" : Str), V.ref f_holds_below), (("parent" : Str), V.ref f_holds_parent), (("above" : Str), V.ref f_holds_above), (("earlier" : Str), V.ref f_holds_earlier), (("later" : Str), V.ref f_holds_later)])
    (n_isinstance : PySem.W.nsIn K mainGlobals "isinstance" = some none)
    (n_str : PySem.W.nsIn K mainGlobals "str" = some none)
    (n_len : PySem.W.nsIn K mainGlobals "len" = some none)
    (n_range : PySem.W.nsIn K mainGlobals "range" = some none)
    (n_enumerate : PySem.W.nsIn K mainGlobals "enumerate" = some none)
    (n_any : PySem.W.nsIn K mainGlobals "any" = some none)
    (n_all : PySem.W.nsIn K mainGlobals "all" = some none)
    (n_list : PySem.W.nsIn K mainGlobals "list" = some none)
    (n_abs : PySem.W.nsIn K mainGlobals "abs" = some none)
    (n_int : PySem.W.nsIn K mainGlobals "int" = some none)
    (n_tuple : PySem.W.nsIn K mainGlobals "tuple" = some none)
    (n_bool : PySem.W.nsIn K mainGlobals "bool" = some none)
    (n_sum : PySem.W.nsIn K mainGlobals "sum" = some none) :
    LamX.LawAtS l w K CX0 91 63 "script" mg fa h := by
  have e := hfa.symm.trans (PySem.W.mg_of X G a_law)
  cases e
  subst hprog
  let T : Txt l.prog K mg w := {
    a_parts_of := f_parts_of, fd_parts_of := _, F_parts_of := fun_mk (st := s_parts_of) l_parts_of c_parts_of k_parts_of, g_parts_of := PySem.W.mg_of X G a_parts_of,
    a_children_of := f_children_of, fd_children_of := _, F_children_of := fun_mk (st := s_children_of) l_children_of c_children_of k_children_of, g_children_of := PySem.W.mg_of X G a_children_of,
    a_numbered := f_numbered, fd_numbered := _, F_numbered := fun_mk (st := s_numbered) l_numbered c_numbered k_numbered, g_numbered := PySem.W.mg_of X G a_numbered,
    a_folded := f_folded, fd_folded := _, F_folded := fun_mk (st := s_folded) l_folded c_folded k_folded, g_folded := PySem.W.mg_of X G a_folded,
    a_Family___init__ := f_Family___init__, fd_Family___init__ := _, F_Family___init__ := fun_mk (st := s_Family___init__) l_Family___init__ c_Family___init__ k_Family___init__,
    a_holds_child := f_holds_child, fd_holds_child := _, F_holds_child := fun_mk (st := s_holds_child) l_holds_child c_holds_child k_holds_child, g_holds_child := PySem.W.mg_of X G a_holds_child,
    a_holds_below := f_holds_below, fd_holds_below := _, F_holds_below := fun_mk (st := s_holds_below) l_holds_below c_holds_below k_holds_below, g_holds_below := PySem.W.mg_of X G a_holds_below,
    a_holds_parent := f_holds_parent, fd_holds_parent := _, F_holds_parent := fun_mk (st := s_holds_parent) l_holds_parent c_holds_parent k_holds_parent, g_holds_parent := PySem.W.mg_of X G a_holds_parent,
    a_holds_above := f_holds_above, fd_holds_above := _, F_holds_above := fun_mk (st := s_holds_above) l_holds_above c_holds_above k_holds_above, g_holds_above := PySem.W.mg_of X G a_holds_above,
    a_holds_before := f_holds_before, fd_holds_before := _, F_holds_before := fun_mk (st := s_holds_before) l_holds_before c_holds_before k_holds_before, g_holds_before := PySem.W.mg_of X G a_holds_before,
    a_holds_earlier := f_holds_earlier, fd_holds_earlier := _, F_holds_earlier := fun_mk (st := s_holds_earlier) l_holds_earlier c_holds_earlier k_holds_earlier, g_holds_earlier := PySem.W.mg_of X G a_holds_earlier,
    a_holds_later := f_holds_later, fd_holds_later := _, F_holds_later := fun_mk (st := s_holds_later) l_holds_later c_holds_later k_holds_later, g_holds_later := PySem.W.mg_of X G a_holds_later,
    a_holds_without_looks := f_holds_without_looks, fd_holds_without_looks := _, F_holds_without_looks := fun_mk (st := s_holds_without_looks) l_holds_without_looks c_holds_without_looks k_holds_without_looks, g_holds_without_looks := PySem.W.mg_of X G a_holds_without_looks,
    a_holds_of := f_holds_of, fd_holds_of := _, F_holds_of := fun_mk (st := s_holds_of) l_holds_of c_holds_of k_holds_of, g_holds_of := PySem.W.mg_of X G a_holds_of,
    a_holding := f_holding, fd_holding := _, F_holding := fun_mk (st := s_holding) l_holding c_holding k_holding, g_holding := PySem.W.mg_of X G a_holding,
    a_law_draw := f_law_draw, fd_law_draw := _, F_law_draw := fun_mk (st := s_law_draw) l_law_draw c_law_draw k_law_draw, g_law_draw := PySem.W.mg_of X G a_law_draw,
    a_law_next := f_law_next, fd_law_next := _, F_law_next := fun_mk (st := s_law_next) l_law_next c_law_next k_law_next, g_law_next := PySem.W.mg_of X G a_law_next,
    a_law_same := f_law_same, fd_law_same := _, F_law_same := fun_mk (st := s_law_same) l_law_same c_law_same k_law_same, g_law_same := PySem.W.mg_of X G a_law_same,
    a_law_element := f_law_element, fd_law_element := _, F_law_element := fun_mk (st := s_law_element) l_law_element c_law_element k_law_element, g_law_element := PySem.W.mg_of X G a_law_element,
    a_law_tree := f_law_tree, fd_law_tree := _, F_law_tree := fun_mk (st := s_law_tree) l_law_tree c_law_tree k_law_tree, g_law_tree := PySem.W.mg_of X G a_law_tree,
    a_law_parts := f_law_parts, fd_law_parts := _, F_law_parts := fun_mk (st := s_law_parts) l_law_parts c_law_parts k_law_parts, g_law_parts := PySem.W.mg_of X G a_law_parts,
    a_law_looks := f_law_looks, fd_law_looks := _, F_law_looks := fun_mk (st := s_law_looks) l_law_looks c_law_looks k_law_looks, g_law_looks := PySem.W.mg_of X G a_law_looks,
    a_law_condition := f_law_condition, fd_law_condition := _, F_law_condition := fun_mk (st := s_law_condition) l_law_condition c_law_condition k_law_condition, g_law_condition := PySem.W.mg_of X G a_law_condition,
    a_law_number := f_law_number, fd_law_number := _, F_law_number := fun_mk (st := s_law_number) l_law_number c_law_number k_law_number, g_law_number := PySem.W.mg_of X G a_law_number,
    a_law_below := f_law_below, fd_law_below := _, F_law_below := fun_mk (st := s_law_below) l_law_below c_law_below k_law_below, g_law_below := PySem.W.mg_of X G a_law_below,
    a_law_seen := f_law_seen, fd_law_seen := _, F_law_seen := fun_mk (st := s_law_seen) l_law_seen c_law_seen k_law_seen, g_law_seen := PySem.W.mg_of X G a_law_seen,
    a_law_holds := f_law_holds, fd_law_holds := _, F_law_holds := fun_mk (st := s_law_holds) l_law_holds c_law_holds k_law_holds, g_law_holds := PySem.W.mg_of X G a_law_holds,
    a_law := fa, fd_law := _, F_law := fun_mk (st := s_law) l_law c_law k_law, g_law := PySem.W.mg_of X G a_law,
    C_Family := C_Family, cl_Family := ⟨p1_Family, p2_Family, p3_Family, p4_Family⟩, g_Family := PySem.W.mg_of X G g_Family, M_Family := ⟨p5_Family, a_Family___init__, fn_Family___init__, p6_Family⟩,
    n_Family_names := n_Family_names, n_Family_rows := n_Family_rows, n_Family_parents := n_Family_parents,
    d_FINDERS := d_FINDERS, g_FINDERS := PySem.W.mg_of X G g_FINDERS, D_FINDERS := SX.wd_of kdl_FINDERS kdk_FINDERS kds_FINDERS kde_FINDERS,
    n_isinstance := PySem.W.mg_none_of X G n_isinstance, n_str := PySem.W.mg_none_of X G n_str, n_len := PySem.W.mg_none_of X G n_len, n_range := PySem.W.mg_none_of X G n_range, n_enumerate := PySem.W.mg_none_of X G n_enumerate, n_any := PySem.W.mg_none_of X G n_any, n_all := PySem.W.mg_none_of X G n_all, n_list := PySem.W.mg_none_of X G n_list, n_abs := PySem.W.mg_none_of X G n_abs, n_int := PySem.W.mg_none_of X G n_int, n_tuple := PySem.W.mg_none_of X G n_tuple, n_bool := PySem.W.mg_none_of X G n_bool, n_sum := PySem.W.mg_none_of X G n_sum,
    c_holding := ca_holding, P_holding := Pa_holding, hc_holding := rfl }
  exact law_at T (fun s v => .of_eq rfl) (FE.tab_at X (PySem.W.mg_of X G a_holding) l_holding rfl lc_holding pv_holding (tbs _ (by simp))) pn_holding
end K48
open PySem PySem.W PyProof.Rows
set_option maxHeartbeats 0 in
theorem PySem.Challenge.cw_soonsettled_k48_conditions_hold_holds : PySem.Challenge.rw_soonsettled_k48_conditions_hold.Holds := by
  w_on; o_law; k_head; (case hw => w_witness2)
  k_fill
  refine FE.walk_tab (l := PySem.Challenge.rw_soonsettled_k48_conditions_hold) (n := 63) (k := 91) (x := "script") (CX := fun _ => L2.CX0) ["holding"] rfl (by decide) rfl ⟨rfl, by decide, by decide⟩ (by decide +kernel) (fun w h Y => PySem.W.km_in_of Y) ?F (fun _ _ _ _ _ z => z)
  case F =>
    intro w mg fa h KX G hmg tbs
    refine' K48.all_mk (prog := PySem.Challenge.rw_soonsettled_k48_conditions_hold.prog) KX G hmg tbs rfl ?g_Family ?p1_Family ?p2_Family ?p3_Family ?p4_Family ?p5_Family ?p6_Family ?n_Family_names ?n_Family_rows ?n_Family_parents ?a_parts_of ?l_parts_of ?c_parts_of ?k_parts_of ?a_children_of ?l_children_of ?c_children_of ?k_children_of ?a_numbered ?l_numbered ?c_numbered ?k_numbered ?a_folded ?l_folded ?c_folded ?k_folded ?a_Family___init__ ?fn_Family___init__ ?l_Family___init__ ?c_Family___init__ ?k_Family___init__ ?a_holds_child ?l_holds_child ?c_holds_child ?k_holds_child ?a_holds_below ?l_holds_below ?c_holds_below ?k_holds_below ?a_holds_parent ?l_holds_parent ?c_holds_parent ?k_holds_parent ?a_holds_above ?l_holds_above ?c_holds_above ?k_holds_above ?a_holds_before ?l_holds_before ?c_holds_before ?k_holds_before ?a_holds_earlier ?l_holds_earlier ?c_holds_earlier ?k_holds_earlier ?a_holds_later ?l_holds_later ?c_holds_later ?k_holds_later ?a_holds_without_looks ?l_holds_without_looks ?c_holds_without_looks ?k_holds_without_looks ?a_holds_of ?l_holds_of ?c_holds_of ?k_holds_of ?a_holding ?l_holding ?c_holding ?k_holding ?lc_holding ?pv_holding ?pn_holding ?a_law_draw ?l_law_draw ?c_law_draw ?k_law_draw ?a_law_next ?l_law_next ?c_law_next ?k_law_next ?a_law_same ?l_law_same ?c_law_same ?k_law_same ?a_law_element ?l_law_element ?c_law_element ?k_law_element ?a_law_tree ?l_law_tree ?c_law_tree ?k_law_tree ?a_law_parts ?l_law_parts ?c_law_parts ?k_law_parts ?a_law_looks ?l_law_looks ?c_law_looks ?k_law_looks ?a_law_condition ?l_law_condition ?c_law_condition ?k_law_condition ?a_law_number ?l_law_number ?c_law_number ?k_law_number ?a_law_below ?l_law_below ?c_law_below ?k_law_below ?a_law_seen ?l_law_seen ?c_law_seen ?k_law_seen ?a_law_holds ?l_law_holds ?c_law_holds ?k_law_holds ?a_law ?l_law ?c_law ?k_law ?g_FINDERS ?kdl_FINDERS ?kdk_FINDERS ?kds_FINDERS ?kde_FINDERS ?n_isinstance ?n_str ?n_len ?n_range ?n_enumerate ?n_any ?n_all ?n_list ?n_abs ?n_int ?n_tuple ?n_bool ?n_sum
    (case g_Family => k_is); (case p1_Family => k_is); (case p2_Family => k_is); (case p3_Family => k_is); (case p4_Family => k_is); (case p5_Family => k_is); (case p6_Family => k_is); (case n_Family_names => k_is); (case n_Family_rows => k_is); (case n_Family_parents => k_is); (case a_parts_of => k_is); (case l_parts_of => k_is); (case c_parts_of => k_is); (case k_parts_of => k_is); (case a_children_of => k_is); (case l_children_of => k_is); (case c_children_of => k_is); (case k_children_of => k_is); (case a_numbered => k_is); (case l_numbered => k_is); (case c_numbered => k_is); (case k_numbered => k_is); (case a_folded => k_is); (case l_folded => k_is); (case c_folded => k_is); (case k_folded => k_is); (case a_Family___init__ => k_is); (case fn_Family___init__ => k_is); (case l_Family___init__ => k_is); (case c_Family___init__ => k_is); (case k_Family___init__ => k_is); (case a_holds_child => k_is); (case l_holds_child => k_is); (case c_holds_child => k_is); (case k_holds_child => k_is); (case a_holds_below => k_is); (case l_holds_below => k_is); (case c_holds_below => k_is); (case k_holds_below => k_is); (case a_holds_parent => k_is); (case l_holds_parent => k_is); (case c_holds_parent => k_is); (case k_holds_parent => k_is); (case a_holds_above => k_is); (case l_holds_above => k_is); (case c_holds_above => k_is); (case k_holds_above => k_is); (case a_holds_before => k_is); (case l_holds_before => k_is); (case c_holds_before => k_is); (case k_holds_before => k_is); (case a_holds_earlier => k_is); (case l_holds_earlier => k_is); (case c_holds_earlier => k_is); (case k_holds_earlier => k_is); (case a_holds_later => k_is); (case l_holds_later => k_is); (case c_holds_later => k_is); (case k_holds_later => k_is); (case a_holds_without_looks => k_is); (case l_holds_without_looks => k_is); (case c_holds_without_looks => k_is); (case k_holds_without_looks => k_is); (case a_holds_of => k_is); (case l_holds_of => k_is); (case c_holds_of => k_is); (case k_holds_of => k_is); (case a_holding => k_is); (case l_holding => k_is); (case c_holding => k_is); (case k_holding => k_is); (case lc_holding => k_is); (case pv_holding => first | rfl | kernel_rfl); (case pn_holding => first | rfl | kernel_rfl); (case a_law_draw => k_is); (case l_law_draw => k_is); (case c_law_draw => k_is); (case k_law_draw => k_is); (case a_law_next => k_is); (case l_law_next => k_is); (case c_law_next => k_is); (case k_law_next => k_is); (case a_law_same => k_is); (case l_law_same => k_is); (case c_law_same => k_is); (case k_law_same => k_is); (case a_law_element => k_is); (case l_law_element => k_is); (case c_law_element => k_is); (case k_law_element => k_is); (case a_law_tree => k_is); (case l_law_tree => k_is); (case c_law_tree => k_is); (case k_law_tree => k_is); (case a_law_parts => k_is); (case l_law_parts => k_is); (case c_law_parts => k_is); (case k_law_parts => k_is); (case a_law_looks => k_is); (case l_law_looks => k_is); (case c_law_looks => k_is); (case k_law_looks => k_is); (case a_law_condition => k_is); (case l_law_condition => k_is); (case c_law_condition => k_is); (case k_law_condition => k_is); (case a_law_number => k_is); (case l_law_number => k_is); (case c_law_number => k_is); (case k_law_number => k_is); (case a_law_below => k_is); (case l_law_below => k_is); (case c_law_below => k_is); (case k_law_below => k_is); (case a_law_seen => k_is); (case l_law_seen => k_is); (case c_law_seen => k_is); (case k_law_seen => k_is); (case a_law_holds => k_is); (case l_law_holds => k_is); (case c_law_holds => k_is); (case k_law_holds => k_is); (case a_law => k_is); (case l_law => k_is); (case c_law => k_is); (case k_law => k_is); (case g_FINDERS => k_is); (case kdl_FINDERS => k_is); (case kdk_FINDERS => (repeat' (first | exact True.intro | refine ⟨⟨_, _, rfl, rfl⟩, ?_⟩))); (case kds_FINDERS => first | rfl | decide | kernel_rfl); (case kde_FINDERS => (repeat' (first | exact True.intro | refine ⟨⟨_, rfl⟩, ⟨_, rfl⟩, ?_⟩ | refine ⟨⟨_, rfl⟩, rfl, ?_⟩))); (case n_isinstance => k_is); (case n_str => k_is); (case n_len => k_is); (case n_range => k_is); (case n_enumerate => k_is); (case n_any => k_is); (case n_all => k_is); (case n_list => k_is); (case n_abs => k_is); (case n_int => k_is); (case n_tuple => k_is); (case n_bool => k_is); (case n_sum => k_is)
