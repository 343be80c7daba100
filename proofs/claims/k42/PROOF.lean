import PyProof.Rows.All
import Wide.All
import OpenK.AllK
import Wide.FinOn
import HandS.ForMost
import HandS.ForExc
import HandS.ExcCtx
import HandS.ExcInit
import HandS.ExcSuper
import HandS.FStr
import KE.KExcSuper
import KE.KExcMore
import KE.KExcIs
import HandS.IsInst
import PySem.Challenge.RW_soonsettled_k42_errors_of_events
set_option Elab.async false
set_option linter.all false
set_option maxRecDepth 100000
set_option maxHeartbeats 4000000
/-! TextError: an own error of two generations below ValueError, whose __init__ tells a text to super() and keeps two fields. Part 1: over the heap. -/
namespace TE
open PySem PySem.W PySem.Calls PyProof.Rows PySem.HandSPX
/-- "MESSAGE at PLACE" -/
def says (m : Str) (p : Int) : Str := Str.empty ++ m ++ (" at " : Str) ++ (toString p : Str)
/-! ### the text of __init__ -/
def iArgs : Arguments :=
  { posonlyargs := [], args := [{ arg := "self", annotation := none, pos := ⟨9, 17, 9, 21⟩ }, { arg := "place", annotation := none, pos := ⟨9, 23, 9, 28⟩ }, { arg := "message", annotation := none, pos := ⟨9, 30, 9, 37⟩ }],
    vararg := none, kwonlyargs := [], kw_defaults := [], kwarg := none, defaults := [] }
def iBody : List Stmt :=
  [.Expr (.Call (.Attribute (.Call (.Name "super" ⟨10, 8, 10, 13⟩) [] [] ⟨10, 8, 10, 15⟩) "__init__" ⟨10, 8, 10, 24⟩)
      [.JoinedStr [.FormattedValue (.Name "message" ⟨10, 28, 10, 35⟩) (-1) none ⟨10, 27, 10, 36⟩, .Constant (.str " at ") 0 ⟨10, 36, 10, 40⟩,
        .FormattedValue (.Name "place" ⟨10, 41, 10, 46⟩) (-1) none ⟨10, 40, 10, 47⟩] ⟨10, 25, 10, 48⟩] [] ⟨10, 8, 10, 49⟩) ⟨10, 8, 10, 49⟩,
   .Assign [.Attribute (.Name "self" ⟨11, 8, 11, 12⟩) "place" ⟨11, 8, 11, 18⟩] (.Name "place" ⟨11, 21, 11, 26⟩) ⟨11, 8, 11, 26⟩,
   .Assign [.Attribute (.Name "self" ⟨12, 8, 12, 12⟩) "message" ⟨12, 8, 12, 20⟩] (.Name "message" ⟨12, 23, 12, 30⟩) ⟨12, 8, 12, 30⟩]
def iScope : Scope :=
  { kind := .function, names := [(Str.ofString "self", .local), (Str.ofString "place", .local), (Str.ofString "message", .local), (Str.ofString "__class__", .free), (Str.ofString "super", .globalImplicit)],
    isGenerator := false, isCoroutine := false, more := [] }
/-- what the written part says of TextError, at C, and of its __init__, at fI -/
structure Txt (prog : Program) (K : Frag) (mg : Str → Option Value) (C fI : Addr) : Prop where
  gC : mg "TextError" = some (.ref C)
  cls : ∃ nm q N bs bm sn sub ab col dd k0 k1 k2 k3 k5, K.lookup C = some (excClassObj nm q C N bs bm true sn sub ab col dd k0 k1 k2 k3 k5 "ValueError.__new__") ∧ refsVE bm = true
  sup : ks_superIn K C C "__init__" = some (some (.builtin "ValueError.__init__"))
  ini : excInitIn K C [.type "ValueError", .type "Exception", .type "BaseException", .type "object"] "ValueError.__new__" = true
  subV : subIn K (.ref C) (.type "ValueError") = some true
  opq : nsIn K cStatics "thirdparty.any" = some none
  noS : nsIn K mainGlobals "super" = some none
  topS : (prog.main.scope.names.lookup ("super" : Str)).isSome = false
  sa : findIn K (.ref C) "__setattr__" = some (some (.builtin "object.__setattr__"))
  noP : findIn K (.ref C) "place" = some none
  noM : findIn K (.ref C) "message" = some none
  iC : findIn K (.ref C) "__init__" = some (some (.ref fI))
  tI : typeIn K (.ref fI) = some (.type "function")
  kC : keepIn K (.ref C) = true
  exC : subIn K (.ref C) (.type "BaseException") = some true
  tyC : typeIn K (.ref C) = some (.type "type")
  fn : ∃ (oc : Value) (od : Option Addr) (kV doc pm : Value) (an : Option Addr) (cda : Addr) (ct : Value) (cc : Addr) (osl : Array (Option Value))
      (ccl : Value) (cdd : Option Addr) (vs : Array Value) (ccs : Array (Option Value)) (file : Str) (tf : Tok) (cl : Value) (cld : Option Addr) (csl : Array (Option Value)),
    K.lookup fI = some ⟨oc, od, .func (ksFn "__init__" "TextError.__init__" iArgs iBody iScope .none kV doc pm an (.ref cda) ct cc), osl⟩ ∧
    codeIn K (.ref cda) "TextError.__init__" = true ∧ K.lookup cda = some ⟨ccl, cdd, .fields vs, ccs⟩ ∧ vs[2]? = some (.str file tf) ∧ ((prog.main.file : Str) == file) = true ∧
    K.lookup cc = some ⟨cl, cld, .cell (some (.ref C)), csl⟩
/-- what __init__ leaves of a fresh error at x -/
structure InitEnd (h h' : Heap) (x C dx t1 : Addr) (p : Int) (tp : Tok) (m : Str) (tm : Tok) : Prop where
  keep : ∀ b o, b ≠ x → h.get? b = some o → h'.get? b = some o
  obj : h'.get? x = some (excObj C t1 (some dx) .none)
  tup : ∃ tk, h'.get? t1 = some (excTup [.str (says m p) tk])
  dbig : h.objs.size ≤ dx
  dne : dx ≠ x
  tbig : h.objs.size ≤ t1
  tne : t1 ≠ x
  td : t1 ≠ dx
  ns : h'.Ns1 dx (fun y => if y = "message" then some (.str m tm) else if y = "place" then some (.int p tp) else none)
section
variable {prog : Program} {w : World} {A : Around} {R : Result → Shared → Prop} {s : Shared} {K : Frag} {mg : Str → Option Value} {base : Heap} {C fI : Addr}
theorem init (T : Txt prog K mg C fI) (Md : L2.Mod K mg base) (kb : ∀ b o, base.get? b = some o → s.heap.get? b = some o) {x t0 : Addr} {p : Int} {m : Str} {tp tm : Tok} (hx : s.heap.get? x = some (excO C t0)) (hnx : base.get? x = none)
    (hlim : s.heap.NoLimit) (hroom : A.depth < recursionLimit) (hp : p.natAbs.log2 < 1920) (hm : m.length ≤ 1000000)
    (hq : ∀ h' tk dx t1, InitEnd s.heap h' x C dx t1 p tp m tm → R (.ok (.ret .none)) { s with heap := h', toks := tk }) :
    codeAny (model prog w) A (.call (.ref fI) ⟨[.ref x, .int p tp, .str m tm], []⟩) R s := by
  obtain ⟨oc, od, kV, doc, pm, an, cda, ct, cc, osl, ccl, cdd, vs, ccs, file, tf, cl, cld, csl, ho, hcd, hcode, hvs, hfile, hcell⟩ := T.fn
  have X : K.In s.heap := Md.kin.keeps kb
  refine ks_codeAny_call_defAt (binds := [(("self" : Str), .ref x), (("place" : Str), .int p tp), (("message" : Str), .str m tm)]) hroom (X _ _ ho) rfl hlim (codeRec_of X hcd) rfl (BindsTo.of_eq (by first | rfl | with_unfolding_all rfl)) (show ∀ x ∈ iScope.names, x.2 ≠ .cell by decide) ?loc (fun h₁ hns hk => ?_) rfl rfl rfl
  case loc =>
    intro y hy
    rcases List.mem_cons.mp hy with rfl | hy
    · rfl
    rcases List.mem_cons.mp hy with rfl | hy
    · rfl
    rcases List.mem_cons.mp hy with rfl | hy
    · rfl
    cases hy
  -- super().__init__(f'{message} at {place}')
  refine ks_wpAt_execs_cons (ks_wpAt_Expr_any (ks_wpAt_MethodCall ?_))
  obtain ⟨nm, q, N, bs, bm, sn, sub, ab, col, dd, k0, k1, k2, k3, k5, hC, hbm⟩ := T.cls
  obtain ⟨mb, hbl, hbb⟩ := Md.blt
  have kb1 : ∀ b o, base.get? b = some o → h₁.get? b = some o := fun b o e => hk b o (kb b o e)
  have X₁ : K.In h₁ := X.keeps hk
  have hC₁ := X₁ _ _ hC
  have hx₁ := hk _ _ hx
  have hsuper : mg ("super" : Str) = none := mg_none_of Md.kin Md.glob T.noS
  have hboot : mb ("super" : Str) = some (.type "super") := (hbb _ (by decide)).trans (by decide +kernel)
  have hcl : clsIn K C = some { name := nm, bases := bs, mro := .ref C :: bm, ns := N, qualname := q, hasDict := true, slotNames := sn, subclasses := sub, abstract := ab, collection := col, hasDel := false } := by
    unfold clsIn
    rw [hC] <;> rfl
  refine ks_wpAt_super_base (vs := vs) rfl rfl (by decide) rfl (X₁ _ _ ho) rfl rfl rfl (X₁ _ _ hcode) rfl hvs hfile T.topS ?_
  refine ks_loadName_global rfl rfl (loadGlobal_builtin (Md.glob.keeps kb1) hsuper (hbl.keeps kb1) hboot ⟨rfl, ?_⟩)
  refine wpAny_loadName_free rfl rfl rfl ⟨_, X₁ _ _ hcell, rfl⟩ ?_
  refine wpAny_loadName_local rfl rfl hns rfl ?_
  refine ks_wpAny_isType_cls hC₁ rfl ⟨rfl, ?_⟩
  refine ks_wpAny_call_super hC₁ rfl hx₁ rfl (fun c e => by cases e) (looks_mroIn X₁ ?hmro) (fun h₂ e2 k2' => ?_)
  case hmro =>
    unfold mroIn
    rw [hcl]
    show (if (Value.ref C :: bm).isEmpty = true then none else some ((Value.ref C :: bm).contains (.ref C))) = some true
    rw [if_neg (show ¬ ((Value.ref C :: bm).isEmpty = true) from Bool.false_ne_true), List.contains_cons]
    simp
  -- from here on by the ledger, over all that stood but the error itself
  have hxL : x < s.heap.objs.size := Heap.lt_size hx
  have hg : ∀ b o, b ≠ x → s.heap.get? b = some o → (hideAll s.heap [x]).get? b = some o := fun b o hb e => hideAll_get [x] e (by simpa using hb)
  have X0 : K.In (hideAll s.heap [x]) := fun b o e => hg b o (fun z => by rw [z] at e; rw [Md.kin _ _ e] at hnx; cases hnx) (X b o e)
  have F₂ : Fr (hideAll s.heap [x]) s.heap.objs.size h₂ (fun y => [(("self" : Str), Value.ref x), (("place" : Str), Value.int p tp), (("message" : Str), Value.str m tm)].reverse.lookup y) := by
    obtain ⟨oL, es, ep, hL, r⟩ := hns
    exact ⟨⟨oL, es, ep, k2' _ _ hL, r⟩, fun b o e => k2' _ _ (hk _ _ (of_hideAll _ e)), Nat.le_of_eq (hideAll_size _ _)⟩
  have hxg : (hideAll s.heap [x]).get? x = none := hideAll_none [x] (by simp)
  have h₁L : s.heap.objs.size < h₁.objs.size := hns.lt
  have N₂ : News (hideAll s.heap [x]) s.heap.objs.size h₂ [(h₁.objs.size, ks_superObj C x C), (x, excObj C t0 none .none)] := by
    intro b hb
    rcases List.mem_cons.mp hb with rfl | hb
    · refine ⟨e2, Nat.ne_of_gt h₁L, ?_⟩
      cases z : (hideAll s.heap [x]).get? h₁.objs.size with
      | none => rfl
      | some o =>
        have z' : h₁.objs.size < s.heap.objs.size := Heap.lt_size (of_hideAll _ z)
        exact absurd (Nat.lt_trans h₁L z') (Nat.lt_irrefl _)
    · rcases List.mem_cons.mp hb with rfl | hb
      · exact ⟨k2' _ _ hx₁, Nat.ne_of_lt hxL, hxg⟩
      · cases hb
  have I₂ : W.InstAt h₂ x (excObj C t0 none .none) C none := ⟨k2' _ _ hx₁, rfl, rfl, trivial⟩
  refine kxs_method kxs_ValueError F₂ X0 N₂ List.mem_cons_self I₂ T.opq T.sup T.subV (by decide) (fun u h₃ F₃ N₃ l₃ => ?_)
  show wpAny _ _ (callWith _ (Value.ref u) [] _ []) _ _ _
  refine kxs_callWith1 N₃ List.mem_cons_self ?_
  refine spliced_cons (wpAny_JoinedStr (pos := ⟨10, 25, 10, 48⟩) ?_)
  -- the three parts
  have hm4 : (Str.empty ++ m).length ≤ 1000000 := by
    rw [Str.length_append]
    show 0 + m.length ≤ _
    omega
  have h4 : (Str.empty ++ m ++ (" at " : Str)).length ≤ 1000004 := by
    rw [Str.length_append]
    show _ + 4 ≤ _
    omega
  have hall : (says m p).length ≤ 1001925 := by
    unfold says
    rw [Str.length_append]
    have z := int_text_len_1921 hp
    omega
  refine wpAny_FormattedValue_plain (ESX.ldL (v := .str m tm) F₃.ns rfl ?_ (by first | rfl | with_unfolding_all rfl) (by first | rfl | with_unfolding_all rfl))
  have sz : ∀ {n : Nat}, n ≤ 1100000 → n ≤ sizeLine := fun h => by
    rw [sizeLine_eq]
    omega
  have neu : u ≠ x := Nat.ne_of_gt (l₃ (x, excObj C t0 none .none) (List.mem_cons_of_mem _ List.mem_cons_self))
  have nes : h₁.objs.size ≠ x := Nat.ne_of_gt (Nat.lt_trans hxL h₁L)
  have mE : ((x, excObj C t0 none .none) : Addr × Obj) ∈ [(u, kxs_mw "ValueError.__init__" x), (h₁.objs.size, ks_superObj C x C), (x, excObj C t0 none .none)] := List.mem_cons_of_mem _ (List.mem_cons_of_mem _ List.mem_cons_self)
  refine wpAny_formatField_str ?_ ?_ (sz (by omega))
  all_goals
    refine ⟨_, _, rfl, sz (by omega), ?_⟩
    refine wpAny_Constant_str ⟨_, _, rfl, sz (by omega), ?_⟩
    refine wpAny_FormattedValue_plain (ESX.ldL (v := .int p tp) F₃.ns rfl ?_ (by first | rfl | with_unfolding_all rfl) (by first | rfl | with_unfolding_all rfl))
    refine wpAny_formatField_int hp ⟨_, _, rfl, sz (Nat.le_trans hall (by decide)), ?_⟩
    refine ⟨sz (Nat.le_trans hall (by decide)), ?_⟩
    refine spliced_nil ⟨kxs_at N₃ List.mem_cons_self, ?_⟩
    refine kxs_call F₃ X0 N₃ F.excBase_ValueError T.ini List.mem_cons_self (.tail neu (.tail nes (.head fun _ h => nomatch h))) (sz (show 1 ≤ 1100000 by decide)) (fun t1 h₄ F₄ N₄ l₄ => ?_)
    -- self.place = place
    have X₄ : K.In h₄ := X0.keeps F₄.keep
    have hx₄ : h₄.get? x = some (excObj C t1 none .none) := (N₄ (x, excObj C t1 none .none) (by simp)).1
    have lx1 : x < t1 := l₄ _ mE
    have ht₄ := (N₄ (t1, _) List.mem_cons_self).1
    refine wpAt_of_wpAny (wpAny_execs_cons (plainObj_wpAny_Assign_Attribute ?_))
    refine ESX.ldL (v := .int p tp) F₄.ns rfl (ESX.ldL (v := .ref x) F₄.ns rfl ?_ (by first | rfl | with_unfolding_all rfl) (by first | rfl | with_unfolding_all rfl)) (by first | rfl | with_unfolding_all rfl) (by first | rfl | with_unfolding_all rfl)
    refine set_plain X₄ (ox := excObj C t1 none .none) (od := none) ⟨hx₄, rfl, rfl, trivial⟩ T.sa ?_
    refine exc_osa X₄ hx₄ hcl (show refsVE (.ref C :: bm) = true from hbm) rfl T.noP (fun h₅ tk₅ dx k₅ dn dne hx₅ hn₅ => ?_)
    -- self.message = message
    have X₅ : K.In h₅ := fun b o e => k₅ b o (fun z => by rw [z] at e; rw [Md.kin _ _ e] at hnx; cases hnx) (X₄ b o e)
    have ns₅ : h₅.Ns s.heap.objs.size (fun y => [(("self" : Str), Value.ref x), (("place" : Str), Value.int p tp), (("message" : Str), Value.str m tm)].reverse.lookup y) := by
      obtain ⟨oL, es, ep, hL, r⟩ := F₄.ns
      exact ⟨oL, es, ep, k₅ _ _ (Nat.ne_of_gt hxL) hL, r⟩
    obtain ⟨oD, esD, epD, hoD, rD⟩ := id hn₅
    refine wpAny_execs_cons (plainObj_wpAny_Assign_Attribute ?_)
    refine ESX.ldL (v := .str m tm) ns₅ rfl (ESX.ldL (v := .ref x) ns₅ rfl ?_ (by first | rfl | with_unfolding_all rfl) (by first | rfl | with_unfolding_all rfl)) (by first | rfl | with_unfolding_all rfl) (by first | rfl | with_unfolding_all rfl)
    refine set_plain X₅ (ox := excObj C t1 (some dx) .none) (od := some oD) ⟨hx₅, rfl, rfl, hoD⟩ T.sa ?_
    refine OEX.osa_old X₅ hx₅ hn₅ (nl := [("place" : Str)]) ?_ (by decide) hcl (show refsVE (.ref C :: bm) = true from hbm) rfl T.noM (fun h₆ tk₆ k₆ hn₆ => ?_)
    · exact Within.cons _ _ Within.nil
    · have bigT : t1 < h₄.objs.size := Heap.lt_size ht₄
      have bigL : s.heap.objs.size < h₄.objs.size := F₄.ns.lt
      have lso : h₁.objs.size < t1 := l₄ (h₁.objs.size, ks_superObj C x C) (List.mem_cons_of_mem _ List.mem_cons_self)
      have ntd : t1 ≠ dx := Nat.ne_of_lt (Nat.lt_of_lt_of_le bigT dn)
      have ntx : t1 ≠ x := Nat.ne_of_gt lx1
      refine wpAny_execs_nil (hq h₆ tk₆ dx t1 ⟨fun b o hb e => ?_, k₆ x _ dne.symm hx₅, ⟨_, k₆ t1 _ ntd (k₅ t1 _ ntx ht₄)⟩, Nat.le_of_lt (Nat.lt_of_lt_of_le bigL dn), dne, Nat.le_of_lt (Nat.lt_trans h₁L lso), ntx, ntd, hn₆⟩)
      have e4 := F₄.keep b o (hg b o hb e)
      exact k₆ b o (Nat.ne_of_lt (Nat.lt_of_lt_of_le (Heap.lt_size e4) dn)) (k₅ b o hb e4)
/-- a made TextError -/
structure Made (h h' : Heap) (e C d t1 : Addr) (p : Int) (tp : Tok) (m : Str) (tm : Tok) : Prop where
  keep : ∀ b o, h.get? b = some o → h'.get? b = some o
  new : h.objs.size ≤ e
  obj : h'.get? e = some (excObj C t1 (some d) .none)
  tup : ∃ tk, h'.get? t1 = some (excTup [.str (says m p) tk])
  dbig : h.objs.size ≤ d
  dne : d ≠ e
  tbig : h.objs.size ≤ t1
  tne : t1 ≠ e
  td : t1 ≠ d
  ns : h'.Ns1 d (fun y => if y = "message" then some (.str m tm) else if y = "place" then some (.int p tp) else none)
theorem made (T : Txt prog K mg C fI) (Md : L2.Mod K mg base) (kb : ∀ b o, base.get? b = some o → s.heap.get? b = some o) {p : Int} {m : Str} {tp tm : Tok} (hlim : s.heap.NoLimit) (hroom : A.depth + 1 < recursionLimit)
    (hp : p.natAbs.log2 < 1920) (hm : m.length ≤ 1000000) (hq : ∀ h' tk e d t1, Made s.heap h' e C d t1 p tp m tm → R (.ok (.ret (.ref e))) { s with heap := h', toks := tk }) :
    codeAny (model prog w) A (.call (.ref C) ⟨[.int p tp, .str m tm], []⟩) R s := by
  obtain ⟨nm, q, N, bs, bm, sn, sub, ab, col, dd, k0, k1, k2, k3, k5, hC, hbm⟩ := T.cls
  obtain ⟨hh, g, dr, tk, os⟩ := s
  have X : K.In hh := Md.kin.keeps kb
  have k : ∀ b o, hh.get? b = some o → ((hh.push (kdv_tup [.int p tp, .str m tm])).push (excO C hh.objs.size)).get? b = some o := fun b o e => Heap.get?_push_of_some _ (Heap.get?_push_of_some _ e)
  have hget : ((hh.push (kdv_tup [.int p tp, .str m tm])).push (excO C hh.objs.size)).get? (hh.objs.size + 1) = some (excO C hh.objs.size) := by heap_get
  have hnx : base.get? (hh.objs.size + 1) = none := by
    cases e : base.get? (hh.objs.size + 1) with
    | none => rfl
    | some o => exact absurd (Nat.lt_of_succ_lt (Heap.lt_size (kb _ _ e))) (Nat.lt_irrefl _)
  have two : ([.int p tp, .str m tm] : List Value).length ≤ sizeLine := by
    rw [sizeLine_eq]
    show 2 ≤ 16777216
    decide
  refine call_own F.excBase_ValueError (fun Y => refsVE_contains Y bm hbm) (X _ _ hC) (looks_findIn X T.iC) (fun self => bind_fn X self T.tI) two ?_
  have hs : ((hh.push (kdv_tup [.int p tp, .str m tm])).push (excO C hh.objs.size)).objs.size = hh.objs.size + 1 + 1 := by simp [Heap.size_push]
  refine init (s := ⟨(hh.push (kdv_tup [.int p tp, .str m tm])).push (excO C hh.objs.size), g, dr, tk, os⟩) T Md (fun b o e => k b o (kb b o e)) hget hnx (hlim.keeps k) ?_ hp hm fun h' tk' dx t1 Z => ?_
  · show A.depth + 1 < recursionLimit
    exact hroom
  · have zd : hh.objs.size + 1 + 1 ≤ dx := by
      rw [← hs]
      exact Z.dbig
    have zt : hh.objs.size + 1 + 1 ≤ t1 := by
      rw [← hs]
      exact Z.tbig
    exact ⟨rfl, hq h' tk' (hh.objs.size + 1) dx t1 ⟨fun b o e => Z.keep b o (Nat.ne_of_lt (Nat.lt_succ_of_lt (Heap.lt_size e))) (k b o e), Nat.le_succ _, Z.obj, Z.tup, Nat.le_of_succ_le (Nat.le_of_succ_le zd), Z.dne, Nat.le_of_succ_le (Nat.le_of_succ_le zt), Z.tne, Z.td, Z.ns⟩⟩
end
end TE
/-! TextError. Part 2: raised, let out of defs, caught; the text of the error is kept (its arguments' tuple stays tracked). -/
namespace TE
open PySem PySem.Spec PyProof.Rows L2 HandSPX
abbrev St := L2.St
/-- the error's own dict -/
def fs (m : Str) (p : Int) : List (Str × V) := [(("message" : Str), .str m), (("place" : Str), .int p)]
/-- the dict at d and the arguments at t tell one error -/
def Tells (H : Hp) (d t : Addr) : Prop := ∃ (m : Str) (p : Int), H d = some (.xd (fs m p)) ∧ H t = some (.tup [.str (says m p)])
/-- what is kept of the error's object -/
def Ze (cls : Value) (d t : Addr) (o : Obj) : Prop := o.cls = cls ∧ o.dict = some d ∧ ∀ vs, o.data = .fields vs → vs[0]? = some (.ref t)
theorem Ze.steady {cls : Value} {d t : Addr} : PXN.Steady1 (Ze cls d t) := by
  rintro ⟨c, dd, dt, sl⟩ v ⟨h1, h2, h3⟩
  cases dt with
  | fields vs0 =>
    refine ⟨h1, h2, fun vs e => ?_⟩
    cases (show Data.fields (vs0.setIfInBounds 1 v) = Data.fields vs from e)
    rw [Array.getElem?_setIfInBounds_ne (by decide)]
    exact h3 vs0 rfl
  | _ => exact ⟨h1, h2, h3⟩
/-- an error in the air of X, above the ground B; sI is the state without it -/
structure Air (X : Cx) (a : Addr) (s' : Shared) (B : Heap) (sI : Shared) (pins : List (Addr × Obj)) (σ : St) (H : Hp) (cls : Value) (d t : Addr) : Prop where
  inv : Inv X pins σ H sI
  gnd : ∀ b o, sI.heap.get? b = some o → b ∉ frs X.stack → B.get? b = some o
  up : sI.heap.UpToSlots s'.heap
  sky : Sky B X.stack a (Ze cls d t) X.env.locals s'.heap
  na : H a = none
  os : s'.os = sI.os
  bare : AllBare s'.gens
  tells : Tells H d t
def XE (X : Cx) (W : WX) (u : Value) (s' : Shared) : Prop := ∃ a B sI pins σ H cls d t, u = .ref a ∧ Air X a s' B sI pins σ H cls d t ∧ W cls (some d) σ H
def Takes (X : Cx) (W : WX) : Prop := ∀ u s', XE X W u s' → X.xe u s'
/-- an error that a call let out -/
structure Out (P : Program) (w : World) (outer : List Env) (H : Hp) (s : Shared) (a : Addr) (s' : Shared) (B : Heap) (H' : Hp) (cls : Value) (d t : Addr) : Prop where
  fl : FlyingZ B outer a (Ze cls d t) s'.heap
  hok : HOk P w H' B
  ub : UB (frs outer) H H' s.heap B s'.heap
  na : H' a = none
  os : s'.os = s.os
  bare : AllBare s'.gens
  tells : Tells H' d t
def CX (P : Program) (w : World) : CXT := fun outer H s E u s' => ∃ a B H' cls d t, u = .ref a ∧ Out P w outer H s a s' B H' cls d t ∧ E cls (some d) H'
section
variable {X : Cx} {pins : List (Addr × Obj)} {σ : St} {H : Hp} {sI s s' : Shared} {B : Heap} {W : WX} {E : XK}
/-- out of a call into our air -/
theorem XE.called (I : Inv X pins σ H s) (hW : ∀ cls d H', E cls d H' → W cls d σ H') {u : Value} (c : CX X.prog X.w X.stack H s E u s') : XE X W u s' := by
  obtain ⟨a, B, H', cls, d, t, rfl, ⟨fl, hok, ub, na, os, ag, te⟩, hE⟩ := c
  obtain ⟨G, gIn, gOut⟩ := restrict s'.heap (fun b => decide (b ∈ frs X.stack) || (B.get? b).isSome)
  have toG : ∀ {b o}, B.get? b = some o → G.get? b = some o := fun {b o} e => (gIn b (by simp [e])).trans (fl.1 b o e)
  have frG : ∀ {b}, b ∈ frs X.stack → G.get? b = s'.heap.get? b := fun {b} hb => gIn b (by simp [hb])
  have ofG : ∀ {b o}, G.get? b = some o → s'.heap.get? b = some o ∧ (b ∈ frs X.stack ∨ (B.get? b).isSome = true) := fun {b o} e => by
    by_cases q : (decide (b ∈ frs X.stack) || (B.get? b).isSome) = true
    · rw [gIn b q] at e
      exact ⟨e, by simpa using q⟩
    · rw [gOut b (by simpa using q)] at e
      cases e
  have J : Inv X pins σ H' { s with heap := G, gens := s'.gens, drawn := s'.drawn, toks := s'.toks } := by
    refine I.call (ch := []) ⟨?_, ?_, ?_, ?_, ub.tups, ub.frzs, ub.tbls⟩ (hok.kept fun b o e => toG e) ag (fun _ z => nomatch z)
    · exact fun b o e n hb _ => toG (ub.keep b o e n hb)
    · intro b o e n hb _
      obtain ⟨sl, q⟩ := ub.slot b o e hb
      exact ⟨sl, (frG hb).trans q⟩
    · exact fun b o e n _ => ub.free b o e n
    · intro b o e _
      by_cases hb : b ∈ frs X.stack
      · obtain ⟨sl, q⟩ := ub.slot b o e hb
        exact ⟨_, (frG hb).trans q⟩
      · obtain ⟨o', q⟩ := ub.there b o e hb
        exact ⟨o', toG q⟩
  refine ⟨a, B, _, pins, σ, H', cls, d, t, rfl, ⟨J, ?_, Heap.UpToSlots.of_keeps fun b o e => (ofG e).1, .inr (.inl fl), na, os, ag, te⟩, hW _ _ _ hE⟩
  intro b o e hb
  obtain ⟨e1, q | q⟩ := ofG e
  · exact absurd q hb
  · obtain ⟨o', q'⟩ := Option.isSome_iff_exists.mp q
    have e2 := fl.1 b o' q'
    rw [e1] at e2
    cases e2
    exact q'
/-- a new one in our air -/
theorem XE.fresh {a : Addr} {oe : Obj} {vs : Array Value} {cls : Value} {d t : Addr} (I : Inv X pins σ H sI) (k : ∀ b o, sI.heap.get? b = some o → s'.heap.get? b = some o) (hne : sI.heap.get? a = none) (he : s'.heap.get? a = some oe)
    (hz : Ze cls d t oe) (hd : oe.data = .fields vs) (h1 : vs[1]? = some .none) (na : H a = none) (os : s'.os = sI.os) (ag : AllBare s'.gens) (te : Tells H d t) (hw : W cls (some d) σ H) : XE X W (.ref a) s' := by
  have hide : ∀ {b o}, (PySem.W.hideAll sI.heap (frs X.stack)).get? b = some o → sI.heap.get? b = some o := fun {b o} e => PySem.W.of_hideAll _ e
  have no : (PySem.W.hideAll sI.heap (frs X.stack)).get? a = none := by
    cases q : (PySem.W.hideAll sI.heap (frs X.stack)).get? a with
    | none => rfl
    | some o =>
      rw [hide q] at hne
      cases hne
  have ff : s'.heap.FunFrames (PySem.W.hideAll sI.heap (frs X.stack)) X.stack := Heap.FunFrames.of_keeps (fun b o e _ => ⟨o, k b o e, rfl⟩) (funFrames_none I.stack fun b hb => PySem.W.hideAll_none _ hb)
  exact ⟨a, _, sI, pins, σ, H, cls, d, t, rfl, ⟨I, fun b o e hb => PySem.W.hideAll_get _ e hb, Heap.UpToSlots.of_keeps k, .inl ⟨fun b o e => k b o (hide e), no, ff, oe, vs, he, hz, hd, h1⟩, na, os, ag, te⟩, hw⟩
/-- it leaves the def -/
theorem XE.leave (hs : X.stack = X.env :: X.outer) (hf : X.env.frame = some X.env.locals) (hex : X.ex = []) {E₁ : Value → Shared → Prop} {u : Value} (x : XE X (fun cls d _ H => E cls d H) u s') :
    wpAny (model X.prog X.w) X.A (leaving X.env u) (fun _ s'' => CX X.prog X.w X.outer X.H_0 X.s_0 E u s'') E₁ s' := by
  obtain ⟨a, B, sI, pins, σ, H, cls, d, t, rfl, ⟨I, gnd, up, sky, na, os, ag, te⟩, hw⟩ := x
  have hfr : X.A.frames = some (X.env :: X.outer) := I.ok.frames.trans (congrArg some hs)
  have nex : ∀ b, b ∉ X.ex := fun b hb => by
    rw [hex] at hb
    cases hb
  have apart : ∀ {b o}, X.s_0.heap.get? b = some o → b ∉ X.fs → b ∉ frs X.stack := fun {b o} e hb hm => by
    rcases List.mem_cons.mp (I.stkSub b hm) with rfl | z
    · exact absurd (Nat.lt_of_lt_of_le (Heap.lt_size e) I.ok.above) (Nat.lt_irrefl _)
    · exact hb z
  have done : ∀ h', FlyingZ B X.outer a (Ze cls d t) h' → s'.heap.UpToSlots h' → CX X.prog X.w X.outer X.H_0 X.s_0 E (.ref a) { s' with heap := h' } := fun h' fl up' => by
    refine ⟨a, B, H, cls, d, t, rfl, ⟨fl, I.inGround gnd, ⟨?_, ?_, ?_, ?_, I.base.tups, I.base.frzs, I.base.tbls⟩, na, os.trans I.os, ag, te⟩, hw⟩
    · exact fun b o e n hb => gnd b o (I.base.keep b o e n hb (nex b)) (apart e hb)
    · intro b o e hb
      obtain ⟨_, o₀, e₀, nf⟩ := I.ok.funs.mem hb
      rw [e] at e₀
      cases e₀
      obtain ⟨sl1, e1⟩ := I.base.slot b o e (I.ok.frf b hb) hb (nex b)
      obtain ⟨sl2, e2⟩ := up b _ e1 nf
      obtain ⟨sl3, e3⟩ := up' b _ e2 nf
      exact ⟨sl3, e3⟩
    · exact fun b o e n => I.base.free b o e n (nex b)
    · intro b o e hb
      obtain ⟨o', e1⟩ := I.base.there b o e (nex b)
      exact ⟨o', gnd b o' e1 (apart e hb)⟩
  rw [hs] at sky
  rcases sky with ⟨c1, c2, c3, oe, vs, c4, c5, c6, c7⟩ | fl | hh
  · exact PXN.leaving_firstZ Ze.steady hfr c3 hf c4 c1 c2 c6 c7 c5 done
  · exact PXN.leaves_onZ Ze.steady hfr hf fl done
  · exact leaves_heldZ hf hh done
theorem takes_of (hs : X.stack = X.env :: X.outer) (hf : X.env.frame = some X.env.locals) (hex : X.ex = []) {E₁ : Value → Shared → Prop}
    (hx : X.xe = fun e s' => wpAny (model X.prog X.w) X.A (leaving X.env e) (fun _ s'' => CX X.prog X.w X.outer X.H_0 X.s_0 E e s'') E₁ s') : Takes X (fun cls d _ H => E cls d H) := by
  intro u s' x
  rw [hx]
  exact x.leave hs hf hex
theorem passes (tk : Takes X (fun cls d _ H => E cls d H)) : Passes (CX X.prog X.w) X E := fun _ _ _ _ e s' I c => tk e s' (XE.called I (fun _ _ _ h => h) c)
theorem passesAt (tk : Takes X W) (σ : St) : PassesAt (CX X.prog X.w) X σ (WE W σ) := fun _ _ _ e s' I c => tk e s' (XE.called I (fun _ _ _ h => h) c)
end
/-! ### made, raised -/
def MkP (X : Cx) (pins : List (Addr × Obj)) (σ : St) (Q : XK) (u : Value) (s' : Shared) : Prop :=
  ∃ (a : Addr) (oe : Obj) (vs : Array Value) (sI : Shared) (H' : Hp) (cls : Value) (d t : Addr), u = .ref a ∧ Inv X pins σ H' sI ∧ (∀ b o, sI.heap.get? b = some o → s'.heap.get? b = some o) ∧ sI.heap.get? a = none ∧ s'.heap.get? a = some oe ∧
    Ze cls d t oe ∧ oe.data = .fields vs ∧ vs[1]? = some .none ∧ H' a = none ∧ s'.os = sI.os ∧ AllBare s'.gens ∧ Raises X cls ∧ Tells H' d t ∧ Q cls (some d) H'
def PMk (X : Cx) (e : Expr) (t : St → Hp → XK → Prop) : Prop :=
  ∀ (pins : List (Addr × Obj)) (s : Shared) (σ : St) (H : Hp) (Q : XK), Inv X pins σ H s → t σ H Q → wpAny (model X.prog X.w) X.A (eval e X.env) (MkP X pins σ Q) X.xe s
def tRaise (W : WX) (t : St → Hp → XK → Prop) : TS := fun _ σ H => t σ H fun cls d H' => W cls d σ H'
theorem ps_raise {X : Cx} {W : WX} {e : Expr} {t : St → Hp → XK → Prop} {pos : Pos} (hc : X.calm = true) (tk : Takes X W) (he : PMk X e t) : PS X (.Raise (some e) none pos) (tRaise W t) := by
  constructor
  intro pins s σ H D I h
  show wpAny _ _ (standAt pos >>= fun _ => raiseStmt X.env (some (eval e X.env >>= fun v => standAt pos >>= fun _ => pure v)) none) _ _ _
  refine wpAny_bind (wpAny_standAt (raise_made (I.ok.hd hc) (wpAny_bind (wpAny_mono (he pins s σ H _ I h) ?_ fun _ _ z => z))))
  rintro u s1 ⟨a, oe, vs, sI, H', cls, d, t', rfl, J, k, hne, ha, hz, hd, h1, na, os, ag, r, te, q⟩
  have R := r (model X.prog X.w) s1.heap (J.kIn.keeps k)
  exact wpAny_bind (wpAny_standAt (wpAny_pure ⟨a, oe, vs, cls, rfl, ha, hz.1, hd, h1, R.1, R.2, tk _ _ (XE.fresh J k hne ha hz hd h1 na os ag te q)⟩))
end TE
/-! TextError. Part 3: made, raised, caught as a name; its fields, its text, its class asked. -/
namespace TE
open PySem PySem.Spec PyProof.Rows L2 HandSPX
/-- two new objects are tracked at once -/
theorem laid2 {X : Cx} {pins : List (Addr × Obj)} {σ : St} {H : Hp} {hp G : Heap} {g : Array GenState} {dr : Drawn} {tk tk' : Nat} {os : OsState} {t d : Addr} {ot od : HO} (I : L2.Inv X pins σ H ⟨hp, g, dr, tk, os⟩)
    (k : ∀ b u, hp.get? b = some u → G.get? b = some u) (ht : hp.objs.size ≤ t) (hd : hp.objs.size ≤ d) (ntd : t ≠ d) (et : ObjOk X.prog X.w (upd (upd H t ot) d od) G t ot) (ed : ObjOk X.prog X.w (upd (upd H t ot) d od) G d od) :
    L2.Inv X pins σ (upd (upd H t ot) d od) ⟨G, g, dr, tk', os⟩ := by
  have nt := I.hok.fresh ht
  have nd := I.hok.fresh hd
  have old : ∀ {b u}, H b = some u → upd (upd H t ot) d od b = some u := fun {b u} e => by
    rw [upd_ne (ne_of_none e nd), upd_ne (ne_of_none e nt)]
    exact e
  have free : ∀ {b u}, hp.get? b = some u → H b = none → upd (upd H t ot) d od b = none := fun {b u} e n => by
    have z := Heap.lt_size e
    rw [upd_ne (Nat.ne_of_lt (Nat.lt_of_lt_of_le z hd)), upd_ne (Nat.ne_of_lt (Nat.lt_of_lt_of_le z ht))]
    exact n
  refine I.call' (ch := []) rfl ⟨fun b u e _ _ _ => k b u e, fun b u e _ _ _ => ⟨u.slots, k b u e⟩, fun b u e n _ => free e n, fun b u e _ => ⟨u, k b u e⟩, fun b xs e => old e, fun b u xs e => old e, fun b ps e => ⟨#[], by simpa using old e⟩⟩ ?_ I.bare (fun b z => absurd z (by simp))
  intro b o e
  by_cases h1 : b = d
  · subst h1
    rw [upd_same] at e
    cases e
    exact ed
  · rw [upd_ne h1] at e
    by_cases h2 : b = t
    · subst h2
      rw [upd_same] at e
      cases e
      exact et
    · rw [upd_ne h2] at e
      exact (I.hok b o e).stay (fun c u _ q => k c u q) (fun c q => old q) fun c xs q => old q
theorem rel_fs {m : Str} {p : Int} {tm tp : Tok} (f : Str) : RelO ((fs m p).lookup f) (if f = "message" then some (Value.str m tm) else if f = "place" then some (Value.int p tp) else none) := by
  unfold fs
  rw [lookup_put, lookup_put]
  by_cases h1 : f = "message"
  · rw [if_pos h1, if_pos h1]
    exact ⟨tm, rfl⟩
  · rw [if_neg h1, if_neg h1]
    by_cases h2 : f = "place"
    · rw [if_pos h2, if_pos h2]
      exact ⟨tp, rfl⟩
    · rw [if_neg h2, if_neg h2]
      trivial
section
variable {X : Cx} {C fI : Addr}
/-- TextError(place, message) -/
def tMk (C : Addr) (ta : TA) : St → Hp → XK → Prop := fun σ H Q => ta σ H fun vs H1 => ∃ (p : Int) (m : Str), vs = [.int p, .str m] ∧ p.natAbs.log2 < 1920 ∧ m.length ≤ 1000000 ∧
  ∀ d t, H1 d = none → H1 t = none → t ≠ d → Q (.ref C) (some d) (upd (upd H1 t (.tup [.str (says m p)])) d (.xd (fs m p)))
theorem pmk {a b : Expr} {ta : TA} {p0 pos : Pos} {k : Nat} (T : Txt X.prog X.K X.mg C fI) (hr : Room k X.A) (ha : PA X [a, b] ta) (hg : Gl X "TextError" := by rfl)
    (he : starEach (a :: [b]) X.env = (false, eval a X.env) :: starEach [b] X.env := by rfl) (hpl : (backTo pos (starEach [b] X.env)).any (·.1) = false := by rfl) :
    PMk X (.Call (.Name "TextError" p0) [a, b] [] pos) (tMk C ta) := by
  intro pins s σ H Q I h
  refine wpAny_Call_Name_kw (ld_glob I hg T.gC ?_)
  refine PySem.W.callWith_K (h₀ := X.base) I.ok.mod.kin T.kC (thn (ha.run pos pins s σ H _ I h) ?_) he hpl
  rintro us s1 ⟨vs, H1, I1, r1, p, m, rfl, hp, hm, q⟩
  refine ⟨I1.kIn, ?_⟩
  cases r1 with
  | cons rp r1 =>
    cases r1 with
    | cons rm r1 =>
      cases r1
      obtain ⟨tp, rfl⟩ := rp
      obtain ⟨tm, rfl⟩ := rm
      have hlim := I1.nolimit
      have kb := I1.bs
      obtain ⟨hh, g, dr, tk, os⟩ := s1
      refine wpAny_call (made T I1.ok.mod (fun b o e => (kb b o e).1) hlim (by have := hr.dp; omega) hp hm fun h' tk' e d t M => ?_)
      show MkP X pins σ Q (.ref e) ⟨h', g, dr, tk', os⟩
      obtain ⟨G, gIn, gOut⟩ := restrict h' fun b => decide (b ≠ e)
      have gk : ∀ {b}, b ≠ e → G.get? b = h'.get? b := fun {b} hb => gIn b (decide_eq_true hb)
      have ge : G.get? e = none := gOut e (by simp)
      obtain ⟨tk1, ht⟩ := M.tup
      have hz : (1 : Nat) ≤ sizeLine := by
        rw [sizeLine_eq]
        decide
      have J := laid2 (tk' := tk') (t := t) (d := d) (ot := .tup [.str (says m p)]) (od := .xd (fs m p)) I1 (fun b o z => (gk (Nat.ne_of_lt (Nat.lt_of_lt_of_le (Heap.lt_size z) M.new))).trans (M.keep b o z)) M.tbig M.dbig M.td
        ⟨hz, [.str (says m p) tk1], .cons ⟨tk1, rfl⟩ .nil, _, (gk M.tne).trans ht, rfl, 0, rfl⟩ ⟨_, M.ns.at (fun o z => (gk M.dne).trans z), rel_fs⟩
      have ne := I1.hok.fresh M.new
      refine ⟨e, _, _, ⟨G, g, dr, tk', os⟩, _, .ref C, d, t, rfl, J, fun b o z => ?_, ge, M.obj, ⟨rfl, rfl, fun vs z => by cases z; rfl⟩, rfl, rfl, ?_, rfl, I1.bare, raises_own T.exC T.tyC, ⟨m, p, upd_same, ?_⟩, q d t (I1.hok.fresh M.dbig) (I1.hok.fresh M.tbig) M.td⟩
      · by_cases hb : b = e
        · subst hb
          rw [show (⟨G, g, dr, tk', os⟩ : Shared).heap.get? b = none from ge] at z
          cases z
        · exact (gk hb).symm.trans z
      · rw [upd_ne (Ne.symm M.dne), upd_ne (Ne.symm M.tne)]
        exact ne
      · rw [upd_ne M.td, upd_same]
/-- raise TextError(place, message) -/
theorem ps_raiseTE {a b : Expr} {ta : TA} {W : WX} {p0 pos pos2 : Pos} {k : Nat} (hc : X.calm = true) (T : Txt X.prog X.K X.mg C fI) (hr : Room k X.A) (tk : Takes X W) (ha : PA X [a, b] ta) (hg : Gl X "TextError" := by rfl)
    (he : starEach (a :: [b]) X.env = (false, eval a X.env) :: starEach [b] X.env := by rfl) (hpl : (backTo pos (starEach [b] X.env)).any (·.1) = false := by rfl) :
    PS X (.Raise (some (.Call (.Name "TextError" p0) [a, b] [] pos)) none pos2) (tRaise W (tMk C ta)) := ps_raise hc tk (pmk T hr ha hg he hpl)
end
end TE
/-! TextError. Part 4: try .. except TextError as n, and what the suite asks of n. -/
namespace TE
open PySem PySem.Spec PyProof.Rows L2 HandSPX
/-- the suite's ends: its name goes behind each of them -/
def suiteEnds (i : Nat) (D : Ends) : Ends := { nx := fun σ H => D.nx (σ.set i none) H, rt := D.rt, bk := fun σ H => D.bk (σ.set i none) H, ct := fun σ H => D.ct (σ.set i none) H }
/-- what the clause wishes of an error of the body -/
def wAs (K : PySem.W.Frag) (c : Value) (i : Nat) (ts : Addr → Value → Addr → Addr → TS) (D : Ends) : WX := fun cls d σ H =>
  PySem.W.exmOne K cls c = some true ∧ ∀ a dd t, d = some dd → H a = none → Tells H dd t → ts a cls dd t (suiteEnds i D) (σ.set i (some (.ref a))) H
section
variable {X : Cx} {x n : Str} {c : Value} {i : Nat} {body suite : List Stmt} {b₀ : Stmt} {np pos pos' : Pos} {tb : WX → TS} {ts : Addr → Value → Addr → Addr → TS}
theorem ps_try_as (hs : X.stack = X.env :: X.outer) (hf : X.env.frame = some X.env.locals) (hN : X.N.Nodup) (hi : X.N[i]? = some n) (hln : X.env.kindOf n = some .local) (hc : Names X x c)
    (hb : ∀ (W : WX) (pn : List (Addr × Obj)) (xe : Value → Shared → Prop), Takes (X.tr pn xe) W → PassesOwn (model X.prog X.w) X.A X.env xe → PSs (X.tr pn xe) body (tb W))
    (hsu : ∀ (a : Addr) (oe : Obj) (cls : Value) (d t : Addr) (pn : List (Addr × Obj)), Ze cls d t oe → (∃ vs, oe.data = .fields vs) → PSs (X.suite a ((a, oe) :: pn)) (b₀ :: suite) (ts a cls d t)) :
    PS X (.Try body [.ExceptHandler (some (.Name x np)) (some n) (b₀ :: suite) pos'] [] [] pos) (fun D σ H => tb (wAs X.K c i ts D) D σ H) := by
  constructor
  intro pins s σ H D I h
  have ok := I.ok
  have hfr : X.A.frames = some (X.env :: X.outer) := ok.frames.trans (congrArg some hs)
  refine wpAny_Try_except ?_
  have caught : Takes (X.tr (X.pn ++ pins) fun e s₁ => wpAny (model X.prog X.w) X.A (noteFrame e X.env) (fun _ s₂ => wpAny (model X.prog X.w) X.A (setFlight e none)
      (fun _ s₃ => wpAny (model X.prog X.w) X.A (handleBy e X.env [.ExceptHandler (some (.Name x np)) (some n) (b₀ :: suite) pos']) (SP X pins D) X.xe s₃) X.xe s₂) X.xe s₁) (wAs X.K c i ts D) := by
    rintro u s' ⟨a, B, sI, pins', σ', H', cls, d, t, rfl, Z, hm, hyes⟩
    have J : L2.Inv X pins σ' H' sI := Z.inv.ofTry ok
    have sky : Sky B (X.env :: X.outer) a (Ze cls d t) X.env.locals s'.heap := by
      rw [← hs]
      exact Z.sky
    show wpAny (model X.prog X.w) X.A (noteFrame (.ref a) X.env) _ _ _
    refine L2N.Sky.land Ze.steady hfr hf sky fun h3 fl3 up3 => ?_
    have J3 : L2.Inv X pins σ' H' { s' with heap := h3 } := J.landed Z.gnd fl3.1 (Z.up.trans up3) Z.os Z.bare
    obtain ⟨oe3, vs3, e3, z3, d3⟩ := fl3.there
    have apart : a ∉ frs (X.env :: X.outer) := fun hm => by
      obtain ⟨_, o, e, nf⟩ := fl3.2.2.1.mem hm
      rw [e3] at e
      cases e
      exact nf _ d3
    have nL : a ≠ X.env.locals := fun z => apart (List.mem_filterMap.mpr ⟨X.env, List.mem_cons_self, hf.trans (congrArg some z.symm)⟩)
    have nF : a ∉ X.fs := fun hm => by
      obtain ⟨v, hv, q⟩ := List.mem_filterMap.mp hm
      exact apart (List.mem_filterMap.mpr ⟨v, List.mem_cons_of_mem _ hv, q⟩)
    have S3 := J3.suite e3 d3 Z.na nL nF
    have asked : ∀ {Q : Value → Shared → Prop} {E : Value → Shared → Prop}, Q c { s' with heap := h3 } → wpAny (model X.prog X.w) (X.A.mark (some (.ref a))) (eval (.Name x np) X.env) Q E { s' with heap := h3 } := fun {Q E} q => by
      obtain ⟨hg, hdb, hm | ⟨hm, hv, hn⟩⟩ := hc
      · exact ld_glob S3 hg hm q hdb
      · exact ld_blt S3 hg hm hv q hn hdb
    have LT : PySem.W.Looks (model X.prog X.w) h3 (typeOf (.ref a)) cls := fun A Q E s k q => wpAny_typeOf_ref (k _ _ e3) (by rw [z3.1]; exact q)
    refine wpAny_handleBy_cons (codeAny_handlers_test (asked ((PySem.W.exm_one (M := model X.prog X.w) J3.kIn LT hm).here ?_))) (by intro q; cases q)
    refine codeAny_handlers_suite_as (lands_againZ fl3 fun h4 fl4 up4 => ?_)
    have J4 : L2.Inv X pins σ' H' { s' with heap := h4 } := J.landed Z.gnd fl4.1 ((Z.up.trans up3).trans up4) Z.os Z.bare
    obtain ⟨oe4, vs4, e4, z4, d4⟩ := fl4.there
    refine store_ok (X := X.suite a ((a, oe4) :: (X.pn ++ pins))) (v := .ref a) (J4.suite e4 d4 Z.na nL nF) hN hi (.inl hln) rfl (fun s5 S5 => ?_) (.inr hln)
    refine wpAny_mono ((hsu a oe4 cls d t (X.pn ++ pins) z4 ⟨_, d4⟩).run [] s5 _ H' _ S5 (hyes a d t rfl Z.na Z.tells)) ?_ (fun _ _ z => False.elim z)
    intro f s6 hsp
    cases f with
    | next =>
      obtain ⟨σ6, H6, S6, q6⟩ := hsp
      exact gone_ok (S6.unsuite ok) hN hi hln fun s7 J7 => ⟨_, _, J7, q6⟩
    | brk =>
      obtain ⟨σ6, H6, S6, q6⟩ := hsp
      exact gone_ok (S6.unsuite ok) hN hi hln fun s7 J7 => ⟨_, _, J7, q6⟩
    | cont =>
      obtain ⟨σ6, H6, S6, q6⟩ := hsp
      exact gone_ok (S6.unsuite ok) hN hi hln fun s7 J7 => ⟨_, _, J7, q6⟩
    | ret u =>
      obtain ⟨v6, σ6, H6, S6, r6, q6⟩ := hsp
      exact gone_ok (S6.unsuite ok) hN hi hln fun s7 J7 => ⟨_, _, _, J7, r6, q6⟩
  refine wpAny_mono ((hb (wAs X.K c i ts D) (X.pn ++ pins) _ caught PassesOwn.looking).run [] s σ H D (I.toTry _) h) ?_ (fun e s1 he => he)
  intro f s1 hsp
  cases f with
  | next =>
    obtain ⟨σ', H', J', q⟩ := hsp
    exact wpAny_execs_nil ⟨σ', H', J'.ofTry ok, q⟩
  | brk =>
    obtain ⟨σ', H', J', q⟩ := hsp
    exact ⟨σ', H', J'.ofTry ok, q⟩
  | cont =>
    obtain ⟨σ', H', J', q⟩ := hsp
    exact ⟨σ', H', J'.ofTry ok, q⟩
  | ret u =>
    obtain ⟨v, σ', H', J', r, q⟩ := hsp
    exact ⟨v, σ', H', J'.ofTry ok, r, q⟩
end
/-- what is asked of the caught error beside Txt -/
structure Ask (K : PySem.W.Frag) (C : Addr) : Prop where
  ga : PySem.W.findIn K (.ref C) "__getattribute__" = some (some (.builtin "BaseException.__getattribute__"))
  gg : PySem.W.findIn K (.ref C) "__getattr__" = some none
  hd : PySem.W.hasDictIn K C = true
  cl : PySem.W.findIn K (.ref C) "__class__" = some (some (.builtin "object.__class__"))
  gs : PySem.W.specialIn K (.builtin "object.__class__") "__get__" = some (some (.builtin "getset_descriptor.__get__"))
  tk : PySem.W.takesIn K (.builtin "object.__class__") = some true
  mo : PySem.W.mroIn K C (.type "object") = some true
  st : PySem.W.findIn K (.ref C) "__str__" = some (some (.builtin "BaseException.__str__"))
section
variable {X : Cx} {C fI a d t : Addr} {oe : Obj} {cls : Value} {pn : List (Addr × Obj)}
/-- the error's own dict, read in the suite -/
theorem inst {pins : List (Addr × Obj)} {σ : St} {H : Hp} {s : Shared} {f : Str} {l : List (Str × V)} {v : V} (I : L2.Inv (X.suite a ((a, oe) :: pn)) pins σ H s) (hz : Ze (.ref C) d t oe) (hf : ∃ vs, oe.data = .fields vs) (hd : H d = some (.xd l)) (hl : l.lookup f = some v) :
    ∃ od u, PySem.W.InstAt s.heap a oe C (some od) ∧ PySem.W.lookIn f od = some (some u) ∧ RelV v u := by
  obtain ⟨ha, _⟩ := I.pin (a, oe) (List.mem_append_left _ List.mem_cons_self)
  obtain ⟨vs, hv⟩ := hf
  have hx : ObjOk X.prog X.w H s.heap d (.xd l) := I.hok d _ hd
  obtain ⟨mA, hns, hr⟩ := hx
  obtain ⟨od, ho, hlk⟩ := lookIn_ns hns
  have r := hr f
  rw [hl] at r
  cases em : mA f with
  | none =>
    rw [em] at r
    exact r.elim
  | some u =>
    rw [em] at r
    refine ⟨od, u, ⟨ha, hz.1, by unfold PySem.W.notCls; rw [hv] <;> rfl, by rw [hz.2.1]; exact ho⟩, ?_, r⟩
    rw [hlk, em]
/-- n.f, n the error that the suite holds -/
def tByF (C a : Addr) (cls : Value) (d : Addr) (f : Str) (te : TE) : TE := fun σ H Q => te σ H fun x H1 => x = .ref a ∧ cls = .ref C ∧ ∃ l v, H1 d = some (.xd l) ∧ l.lookup f = some v ∧ Q v H1
theorem pe_byF {e : Expr} {te : TE} {pos : Pos} {f : Str} (T : Txt X.prog X.K X.mg C fI) (G : Ask X.K C) (hno : PySem.W.findIn X.K (.ref C) f = some none) (hz : Ze cls d t oe) (hf : ∃ vs, oe.data = .fields vs) (he : PE (X.suite a ((a, oe) :: pn)) e te)
    (hb : attributeBase e f X.env (eval e X.env) = eval e X.env := by rfl) : PE (X.suite a ((a, oe) :: pn)) (.Attribute e f pos) (tByF C a cls d f te) := by
  constructor
  intro pins s σ H Q I h
  refine attr_of hb (thn (he.run pins s σ H _ I h) ?_)
  rintro u s1 ⟨x, H1, I1, rx, rfl, rfl, l, v, hd, hl, q⟩
  obtain rfl : u = Value.ref a := rx
  obtain ⟨od, w, J, hlk, rw'⟩ := inst (C := C) I1 hz hf hd hl
  exact exc_get I1.kIn J G.ga G.gg T.exC (PySem.W.findObj_own G.hd hno rfl hlk) (handed_of rw') ⟨v, H1, I1.tok _, rw', q⟩
/-- str(n) -/
def rStr (C a : Addr) (cls : Value) (t : Addr) : List V → Hp → VK → Prop := fun xs H Q => xs = [.ref a] ∧ cls = .ref C ∧ ∃ y, H t = some (.tup [.str y]) ∧ Q (.str y) H
theorem call_str (T : Txt X.prog X.K X.mg C fI) (G : Ask X.K C) (hr : X.A.units + 2 < cLine) (hz : Ze cls d t oe) (hf : ∃ vs, oe.data = .fields vs) : CallR (X.suite a ((a, oe) :: pn)) (.type "str") (rStr C a cls t) := by
  intro pins s σ H xs us Q I r h
  obtain ⟨rfl, rfl, y, hy, q⟩ := h
  obtain ⟨u, rfl, ru⟩ := vals1 r
  obtain rfl : u = Value.ref a := ru
  obtain ⟨ha, _⟩ := I.pin (a, oe) (List.mem_append_left _ List.mem_cons_self)
  obtain ⟨vs, hv⟩ := hf
  have ht : ObjOk X.prog X.w H s.heap t (.tup [.str y]) := I.hok t _ hy
  obtain ⟨_, its, ri, o, ho, hc, n, hdt⟩ := ht
  cases ri with
  | cons ry ri =>
    cases ri
    obtain ⟨tk, rfl⟩ := ry
    refine PySem.P.str_of_C_one (prog := X.prog) (w := X.w) (A := X.A.mark (some (.ref a))) (K := X.K) (C := C) (e := a) (t0 := t) (s := s) (m := y) (tk := tk) (show (X.A.mark (some (.ref a))).units + 2 < cLine from hr) (show PySem.ExcC X.K C a t s.heap from ⟨I.kIn, oe, vs, ha, hz.1, hv, hz.2.2 vs hv⟩) (show s.heap.TupAt t [.str y tk] from ⟨o, n, ho, hc, hdt⟩) G.st T.exC ?_
    exact ⟨.str y, H, I, ⟨_, rfl⟩, q⟩
/-- isinstance(n, c), c an own class -/
def rIsi (K : PySem.W.Frag) (C a : Addr) (cls : Value) : List V → Hp → VK → Prop := fun xs H Q => ∃ (D : Addr) (b : Bool), xs = [.ref a, .ref D] ∧ cls = .ref C ∧ PySem.W.kitOne K (.ref C) (.ref D) = some b ∧ Q (.bl b) H
theorem call_isi (T : Txt X.prog X.K X.mg C fI) (G : Ask X.K C) (hz : Ze cls d t oe) (hf : ∃ vs, oe.data = .fields vs) :
    CallR (X.suite a ((a, oe) :: pn)) (.builtin "isinstance") (fun xs H Q => (∃ l, H d = some (.xd l)) ∧ rIsi X.K C a cls xs H Q) := by
  intro pins s σ H xs us Q I r h
  obtain ⟨⟨l, hd⟩, D, b, rfl, rfl, e, q⟩ := h
  cases r with
  | cons rx r =>
    cases r with
    | cons ry r =>
      cases r
      cases rx
      cases ry
      obtain ⟨ha, _⟩ := I.pin (a, oe) (List.mem_append_left _ List.mem_cons_self)
      obtain ⟨vs, hv⟩ := hf
      have hx : ObjOk X.prog X.w H s.heap d (.xd l) := I.hok d _ hd
      obtain ⟨mA, ⟨od, es, ep, ho, _⟩, _⟩ := hx
      have J : PySem.W.InstAt s.heap a oe C (some od) := ⟨ha, hz.1, by unfold PySem.W.notCls; rw [hv] <;> rfl, by rw [hz.2.1]; exact ho⟩
      have hcl : (PySem.W.clsIn X.K C).isSome = true := by
        obtain ⟨cd, hc, _⟩ := PySem.W.any_some G.hd
        rw [hc]
        rfl
      exact PySem.W.kia_one (PySem.W.kitx_exc hcl G.ga G.gg T.exC G.cl G.gs G.tk G.mo) I.kIn J e (fun z => nomatch z) fun tk => ⟨.bl b, H, I.kept (t' := tk) fun _ _ z => z, rfl, q⟩
end
end TE
/-! Texts of beginnings: their tokens, their reading, and the law's own look at the same tokens. Plain Lean. -/
namespace SS
abbrev Tx := List Nat
/-- a letter from a to z -/
def isLow (c : Nat) : Bool := decide (97 ≤ c ∧ c ≤ 122)
/-- the tokens of a text from place i on, or the place of the first character that belongs to none -/
inductive Lex (sg : List Nat) : Tx → Nat → List (Tx × Nat) → Option Nat → Prop
  | done {i : Nat} : Lex sg [] i [([], i)] none
  | word {w s : Tx} {i : Nat} {l : List (Tx × Nat)} {e : Option Nat} (h0 : w ≠ []) (h1 : ∀ c ∈ w, isLow c = true) (h2 : ∀ c, s.head? = some c → isLow c = false) (r : Lex sg s (i + w.length) l e) : Lex sg (w ++ s) i ((w, i) :: l) e
  | sign {c : Nat} {s : Tx} {i : Nat} {l : List (Tx × Nat)} {e : Option Nat} (h1 : isLow c = false) (h2 : c ∈ sg) (r : Lex sg s (i + 1) l e) : Lex sg (c :: s) i (([c], i) :: l) e
  | space {c : Nat} {s : Tx} {i : Nat} {l : List (Tx × Nat)} {e : Option Nat} (h1 : isLow c = false) (h2 : c ∉ sg) (h3 : c = 32 ∨ c = 10) (r : Lex sg s (i + 1) l e) : Lex sg (c :: s) i l e
  | bad {c : Nat} {s : Tx} {i : Nat} (h1 : isLow c = false) (h2 : c ∉ sg) (h3 : ¬ (c = 32 ∨ c = 10)) : Lex sg (c :: s) i [] (some i)
/-- a word that may stand as a name -/
def okName (t : Tx) : Bool := !t.isEmpty && t.all isLow && decide (t.length ≤ 8)
/-- reading a beginning: the events, or the place of the error and whether it is that of the end -/
def rd : List (Tx × Nat) → Nat → Bool → List Tx × Option (Nat × Bool)
  | [], _, _ => ([], none)
  | (t, p) :: r, d, b =>
    if t = [] then ([], none)
    else if b = true ∧ d = 0 then ([], some (p, false))
    else if t = [41] ∧ 0 < d then ([41] :: (rd r (d - 1) true).1, (rd r (d - 1) true).2)
    else if okName t = true then
      match r with
      | [] => ([], none)
      | (t2, p2) :: r2 => if t2 = [40] then (t :: (rd r2 (d + 1) true).1, (rd r2 (d + 1) true).2) else ([], some (p2, decide (t2 = [])))
    else ([], some (p, false))
theorem rd_eq (t : Tx) (p : Nat) (r : List (Tx × Nat)) (d : Nat) (b : Bool) : rd ((t, p) :: r) d b =
    if t = [] then ([], none)
    else if b = true ∧ d = 0 then ([], some (p, false))
    else if t = [41] ∧ 0 < d then ([41] :: (rd r (d - 1) true).1, (rd r (d - 1) true).2)
    else if okName t = true then
      match r with
      | [] => ([], none)
      | (t2, p2) :: r2 => if t2 = [40] then (t :: (rd r2 (d + 1) true).1, (rd r2 (d + 1) true).2) else ([], some (p2, decide (t2 = [])))
    else ([], some (p, false)) := by
  cases r with
  | nil => first | rfl | (conv => lhs; unfold rd)
  | cons q r2 =>
    obtain ⟨t2, p2⟩ := q
    rw [rd]
/-- the law's own look: the index of the first token that is wrong -/
def fw : List Tx → Nat → Bool → Bool → Option Nat
  | [], _, _, _ => none
  | t :: r, v, op, nm =>
    if nm = true then (if t ≠ [40] then some 0 else (fw r (v + 1) true false).map (· + 1))
    else if t = [41] then (if v = 0 then some 0 else (fw r (v - 1) op false).map (· + 1))
    else if t = [40] ∨ (op = true ∧ v = 0) ∨ 8 < t.length then some 0
    else (fw r v op true).map (· + 1)
/-- the tokens that the law draws, the wrong signs left out -/
def Fine (t : Tx) : Prop := t = [40] ∨ t = [41] ∨ (t ≠ [] ∧ t.all isLow = true)
theorem fine_ne {t : Tx} (h : Fine t) : t ≠ [] := by
  rcases h with h | h | h
  · rw [h]; exact List.cons_ne_nil _ _
  · rw [h]; exact List.cons_ne_nil _ _
  · exact h.1
def lastName (ts : List Tx) : Bool :=
  match ts.getLast? with
  | some t => decide (t ≠ [40]) && decide (t ≠ [41])
  | none => false
def toks (ts : List Tx) (ps : List Nat) (n : Nat) : List (Tx × Nat) := ts.zip ps ++ [([], n)]
theorem low_not {t : Tx} (h : t ≠ [] ∧ t.all isLow = true) : t ≠ [40] ∧ t ≠ [41] := by
  constructor
  · intro e
    rw [e] at h
    exact absurd h.2 (by decide)
  · intro e
    rw [e] at h
    exact absurd h.2 (by decide)
theorem last_cons {t t2 : Tx} {r : List Tx} : lastName (t :: t2 :: r) = lastName (t2 :: r) := by
  unfold lastName
  rw [List.getLast?_cons_cons]
theorem last_paren {t : Tx} {r : List Tx} (h : t = [40] ∨ t = [41]) : lastName (t :: r) = lastName r := by
  cases r with
  | nil => rcases h with h | h <;> subst h <;> rfl
  | cons t2 r => exact last_cons
theorem ok_of {t : Tx} (h : t ≠ [] ∧ t.all isLow = true) (h8 : ¬ 8 < t.length) : okName t = true := by
  have e : t.isEmpty = false := by
    cases t with
    | nil => exact absurd rfl h.1
    | cons a b => rfl
  simp [okName, e, h.2]
  omega
theorem ok_not {t : Tx} (h8 : 8 < t.length) : okName t = false := by
  have z : decide (t.length ≤ 8) = false := decide_eq_false (by omega)
  simp [okName, z]
/-- what reading gives, by the law's own look -/
def Agree (ts : List Tx) (ps : List Nat) (n v : Nat) (op : Bool) : Prop :=
  match fw ts v op false with
  | some k => (rd (toks ts ps n) v op).2 = some (ps.getD k 0, false)
  | none => if lastName ts = true then (rd (toks ts ps n) v op).2 = some (n, true) else rd (toks ts ps n) v op = (ts.filter (fun t => decide (t ≠ [40])), none)
theorem agree_map {o : Option Nat} {A : Nat → Prop} {B : Prop} (h : match o with | some k => A (k + 1) | none => B) : match o.map (· + 1) with | some k => A k | none => B := by
  cases o with
  | none => exact h
  | some k => exact h
theorem agree (n : Nat) : ∀ (m : Nat) (ts : List Tx) (ps : List Nat) (v : Nat) (op : Bool), ts.length ≤ m → ts.length = ps.length → (∀ t ∈ ts, Fine t) → (0 < v → op = true) → Agree ts ps n v op := by
  intro m
  induction m with
  | zero =>
    intro ts ps v op hm hl hf hv
    have e : ts = [] := List.length_eq_zero_iff.mp (by omega)
    subst e
    rfl
  | succ m ih =>
    intro ts ps v op hm hl hf hv
    cases ts with
    | nil => rfl
    | cons t r =>
      cases ps with
      | nil => simp at hl
      | cons p ps =>
        have hr : r.length ≤ m := by simp at hm; omega
        have hl' : r.length = ps.length := by simpa using hl
        have hfr : ∀ x ∈ r, Fine x := fun x hx => hf x (List.mem_cons_of_mem _ hx)
        have ht := hf t List.mem_cons_self
        have htn := fine_ne ht
        have et : toks (t :: r) (p :: ps) n = (t, p) :: toks r ps n := rfl
        by_cases hb : op = true ∧ v = 0
        · -- behind the end
          have e1 : fw (t :: r) v op false = some 0 := by
            by_cases h41 : t = [41]
            · simp [fw, h41, hb.2]
            · simp [fw, h41, hb]
          unfold Agree
          rw [e1, et]
          simp only [rd_eq, if_neg htn, if_pos hb]
          rfl
        · by_cases h41 : t = [41]
          · by_cases hv0 : v = 0
            · have e1 : fw (t :: r) v op false = some 0 := by simp [fw, h41, hv0]
              have no : ¬ (t = [41] ∧ 0 < v) := fun z => by omega
              have nk : ¬ okName t = true := by rw [h41]; decide
              unfold Agree
              rw [e1, et]
              simp only [rd_eq, if_neg htn, if_neg hb, if_neg no, if_neg nk]
              rfl
            · have hop := hv (by omega)
              have yes : t = [41] ∧ 0 < v := ⟨h41, by omega⟩
              have e1 : fw (t :: r) v op false = (fw r (v - 1) true false).map (· + 1) := by
                simp [fw, h41, hv0, hop]
              have A := ih r ps (v - 1) true hr hl' hfr (fun _ => rfl)
              have e2 : rd (toks (t :: r) (p :: ps) n) v op = ([41] :: (rd (toks r ps n) (v - 1) true).1, (rd (toks r ps n) (v - 1) true).2) := by
                rw [et]
                simp only [rd_eq, if_neg htn, if_neg hb, if_pos yes]
              unfold Agree
              rw [e1, e2, last_paren (.inr h41)]
              refine agree_map (A := fun k => (rd (toks r ps n) (v - 1) true).2 = some ((p :: ps).getD k 0, false)) ?_
              unfold Agree at A
              cases q : fw r (v - 1) true false with
              | some k =>
                rw [q] at A
                exact A
              | none =>
                rw [q] at A
                dsimp only at A ⊢
                by_cases hn : lastName r = true
                · rw [if_pos hn] at A ⊢
                  exact A
                · rw [if_neg hn] at A ⊢
                  rw [A, List.filter_cons, h41]
                  rfl
          · by_cases h40 : t = [40]
            · have e1 : fw (t :: r) v op false = some 0 := by simp [fw, h40]
              have no : ¬ (t = [41] ∧ 0 < v) := fun z => h41 z.1
              have nk : ¬ okName t = true := by rw [h40]; decide
              unfold Agree
              rw [e1, et]
              simp only [rd_eq, if_neg htn, if_neg hb, if_neg no, if_neg nk]
              rfl
            · have hw : t ≠ [] ∧ t.all isLow = true := by
                rcases ht with z | z | z
                · exact absurd z h40
                · exact absurd z h41
                · exact z
              have no : ¬ (t = [41] ∧ 0 < v) := fun z => h41 z.1
              by_cases h8 : 8 < t.length
              · have e1 : fw (t :: r) v op false = some 0 := by simp [fw, h41, h8]
                have nk : ¬ okName t = true := by rw [ok_not h8]; decide
                unfold Agree
                rw [e1, et]
                simp only [rd_eq, if_neg htn, if_neg hb, if_neg no, if_neg nk]
                rfl
              · have hk := ok_of hw h8
                have e1 : fw (t :: r) v op false = (fw r v op true).map (· + 1) := by
                  simp only [fw, if_neg h41]
                  have z : ¬ (t = [40] ∨ (op = true ∧ v = 0) ∨ 8 < t.length) := fun z => by
                    rcases z with z | z | z
                    · exact h40 z
                    · exact hb z
                    · exact h8 z
                  simp only [if_neg z]
                  rfl
                cases r with
                | nil =>
                  cases ps with
                  | cons _ _ => simp at hl'
                  | nil =>
                    have hn : lastName [t] = true := by simp [lastName, h40, h41]
                    unfold Agree
                    rw [e1, et]
                    simp only [fw, Option.map_none, if_pos hn]
                    show (rd [(t, p), ([], n)] v op).2 = _
                    simp only [rd_eq, if_neg htn, if_neg hb, if_neg no, if_pos hk]
                    rfl
                | cons t2 r2 =>
                  cases ps with
                  | nil => simp at hl'
                  | cons p2 ps2 =>
                    have ht2 := fine_ne (hfr t2 List.mem_cons_self)
                    have et2 : toks (t2 :: r2) (p2 :: ps2) n = (t2, p2) :: toks r2 ps2 n := rfl
                    by_cases h2 : t2 = [40]
                    · have e3 : fw (t2 :: r2) v op true = (fw r2 (v + 1) true false).map (· + 1) := by
                        simp [fw, h2]
                      have A := ih r2 ps2 (v + 1) true (by simp at hr; omega) (by simpa using hl') (fun x hx => hfr x (List.mem_cons_of_mem _ hx)) (fun _ => rfl)
                      have e4 : rd (toks (t :: t2 :: r2) (p :: p2 :: ps2) n) v op = (t :: (rd (toks r2 ps2 n) (v + 1) true).1, (rd (toks r2 ps2 n) (v + 1) true).2) := by
                        rw [et, et2]
                        simp only [rd_eq, if_neg htn, if_neg hb, if_neg no, if_pos hk, if_pos h2]
                      unfold Agree
                      rw [e1, e3, e4, last_cons, last_paren (.inl h2)]
                      refine agree_map (A := fun k => (rd (toks r2 ps2 n) (v + 1) true).2 = some ((p :: p2 :: ps2).getD k 0, false)) ?_
                      refine agree_map (A := fun k => (rd (toks r2 ps2 n) (v + 1) true).2 = some ((p :: p2 :: ps2).getD (k + 1) 0, false)) ?_
                      unfold Agree at A
                      cases q : fw r2 (v + 1) true false with
                      | some k =>
                        rw [q] at A
                        exact A
                      | none =>
                        rw [q] at A
                        dsimp only at A ⊢
                        by_cases hn : lastName r2 = true
                        · rw [if_pos hn] at A ⊢
                          exact A
                        · rw [if_neg hn] at A ⊢
                          rw [A, List.filter_cons, List.filter_cons, h2, if_pos (decide_eq_true h40)]
                          rfl
                    · have e3 : fw (t2 :: r2) v op true = some 0 := by simp [fw, h2]
                      unfold Agree
                      rw [e1, e3, et, et2]
                      simp only [rd_eq, if_neg htn, if_neg hb, if_neg no, if_pos hk, if_neg h2, decide_eq_false ht2]
                      rfl
/-! ### texts glued of tokens and blanks -/
def glue : List (Tx × Tx) → Tx
  | [] => []
  | x :: r => x.1 ++ (x.2 ++ glue r)
def spots : Nat → List (Tx × Tx) → List Nat
  | _, [] => []
  | n, x :: r => n :: spots (n + x.1.length + x.2.length) r
def Blank (s : Tx) : Prop := ∀ c ∈ s, c = 32 ∨ c = 10
theorem glue_snoc (t s : Tx) : ∀ z : List (Tx × Tx), glue (z ++ [(t, s)]) = glue z ++ (t ++ s)
  | [] => by simp [glue]
  | x :: r => by
    show x.1 ++ (x.2 ++ glue (r ++ [(t, s)])) = _
    rw [glue_snoc t s r]
    simp [glue]
theorem spots_snoc (t s : Tx) : ∀ (z : List (Tx × Tx)) (n : Nat), spots n (z ++ [(t, s)]) = spots n z ++ [n + (glue z).length]
  | [], n => by simp [spots, glue]
  | x :: r, n => by
    show n :: spots _ (r ++ [(t, s)]) = _
    rw [spots_snoc t s r]
    simp [spots, glue]
    omega
theorem spots_len : ∀ (z : List (Tx × Tx)) (n : Nat), (spots n z).length = z.length
  | [], _ => rfl
  | x :: r, n => by
    show (spots _ r).length + 1 = r.length + 1
    rw [spots_len r]
theorem lex_blank {sg : List Nat} (hs : 32 ∉ sg ∧ 10 ∉ sg) {x : Tx} {l : List (Tx × Nat)} {e : Option Nat} : ∀ {s : Tx} {i : Nat}, Blank s → Lex sg x (i + s.length) l e → Lex sg (s ++ x) i l e
  | [], i, _, h => h
  | c :: s, i, hb, h => by
    have hc := hb c List.mem_cons_self
    have h' : Lex sg x (i + 1 + s.length) l e := by
      have e1 : i + (c :: s).length = i + 1 + s.length := by simp; omega
      rw [e1] at h
      exact h
    have r := lex_blank hs (s := s) (i := i + 1) (fun c h => hb c (List.mem_cons_of_mem _ h)) h'
    rcases hc with rfl | rfl
    · exact .space (by decide) hs.1 (.inl rfl) r
    · exact .space (by decide) hs.2 (.inr rfl) r
/-- the wrong signs that the law draws -/
def bad (t : Tx) : Bool := t == [45] || t == [61] || t == [65] || t == [55]
def firstBad : List Tx → Option Nat
  | [] => none
  | t :: r => if bad t = true then some 0 else (firstBad r).map (· + 1)
theorem lex_glue : ∀ (z : List (Tx × Tx)) (i : Nat), (∀ x ∈ z, Blank x.2 ∧ x.2 ≠ [] ∧ (Fine x.1 ∨ bad x.1 = true)) →
    match firstBad (z.map (·.1)) with
    | some k => ∃ l, Lex [40, 41] (glue z) i l (some ((spots i z).getD k 0))
    | none => Lex [40, 41] (glue z) i (toks (z.map (·.1)) (spots i z) (i + (glue z).length)) none
  | [], i, _ => .done
  | x :: r, i, h => by
    obtain ⟨hb, hn, ht⟩ := h x List.mem_cons_self
    have ih := lex_glue r (i + x.1.length + x.2.length) fun y hy => h y (List.mem_cons_of_mem _ hy)
    have hs : (32 : Nat) ∉ [40, 41] ∧ (10 : Nat) ∉ [40, 41] := by decide
    by_cases hbad : bad x.1 = true
    · have e1 : firstBad ((x :: r).map (·.1)) = some 0 := by simp [firstBad, hbad]
      rw [e1]
      refine ⟨[], ?_⟩
      have e2 : ∃ c, x.1 = [c] ∧ (c = 45 ∨ c = 61 ∨ c = 65 ∨ c = 55) := by
        simp only [bad, Bool.or_eq_true, beq_iff_eq] at hbad
        rcases hbad with ((h | h) | h) | h
        · exact ⟨45, h, .inl rfl⟩
        · exact ⟨61, h, .inr (.inl rfl)⟩
        · exact ⟨65, h, .inr (.inr (.inl rfl))⟩
        · exact ⟨55, h, .inr (.inr (.inr rfl))⟩
      obtain ⟨c, e3, hc⟩ := e2
      show Lex [40, 41] (x.1 ++ (x.2 ++ glue r)) i [] (some i)
      rw [e3]
      rcases hc with rfl | rfl | rfl | rfl
      · exact .bad (by decide) (by decide) (by decide)
      · exact .bad (by decide) (by decide) (by decide)
      · exact .bad (by decide) (by decide) (by decide)
      · exact .bad (by decide) (by decide) (by decide)
    · have hf : Fine x.1 := ht.resolve_right hbad
      have e1 : firstBad ((x :: r).map (·.1)) = (firstBad (r.map (·.1))).map (· + 1) := by simp [firstBad, hbad]
      -- the token in front of what is read
      have step : ∀ {l : List (Tx × Nat)} {e : Option Nat}, Lex [40, 41] (glue r) (i + x.1.length + x.2.length) l e → Lex [40, 41] (x.1 ++ (x.2 ++ glue r)) i ((x.1, i) :: l) e := by
        intro l e h0
        have h1 := lex_blank hs hb h0
        rcases hf with hf | hf | hf
        · rw [hf] at h1 ⊢
          exact .sign (by decide) (by decide) h1
        · rw [hf] at h1 ⊢
          exact .sign (by decide) (by decide) h1
        · refine .word hf.1 (fun c hc => List.all_eq_true.mp hf.2 c hc) (fun c hc => ?_) h1
          cases e2 : x.2 with
          | nil => exact absurd e2 hn
          | cons a b =>
            rw [e2] at hc
            cases hc
            have := hb c (by rw [e2]; exact List.mem_cons_self)
            rcases this with rfl | rfl <;> decide
      rw [e1]
      cases q : firstBad (r.map (·.1)) with
      | some k =>
        rw [q] at ih
        obtain ⟨l, hl⟩ := ih
        exact ⟨_, step hl⟩
      | none =>
        rw [q] at ih
        have e4 : i + (glue (x :: r)).length = i + x.1.length + x.2.length + (glue r).length := by
          show i + (x.1 ++ (x.2 ++ glue r)).length = _
          simp
          omega
        rw [e4]
        exact step ih
end SS
/-! Rules of one's own beside the layer's: a field as a target, defs that let TextErrors out, texts as lists of codes. -/
namespace SX
open PySem PySem.Spec PyProof.Rows L2
abbrev St := L2.St
/-- o.f as a target -/
def gFld (K : PySem.W.Frag) (to : TE) (f : Str) : TG := fun v σ H Q => to σ H fun x H1 => ∃ a C dx fs, x = .ref a ∧ H1 a = some (.ins C dx fs) ∧ Cls K C ∧ NoAttr K C f ∧ fs.length < 1000 ∧ Q σ (upd H1 a (.ins C dx (putF f v fs)))
theorem pg_fld {X : Cx} {o : Expr} {f : Str} {pos : Pos} {to : TE} (ho : PE X o to) : PG X (.Attribute o f pos) (gFld X.K to f) := by
  constructor
  intro pins s σ H v u Q I r h
  rw [assign_Attribute]
  refine wpAny_bind (wpAny_holding (wpAny_mono (ho.run pins s σ H _ I h) ?_ fun _ _ z => z))
  rintro ov s1 ⟨x, H1, I1, rx, a, C, dx, fs, rfl, ea, c, n, l, q⟩
  obtain rfl : ov = Value.ref a := rx
  refine wpAny_bind (wpAny_standAt (wpAny_bind (wpAny_holding (setattr_ok I1 ea c n l r fun s2 I2 => ?_))))
  exact wpAny_release ⟨σ, _, I2, q⟩
section
variable {P : Program} {w : World} {K : PySem.W.Frag} {mg : Str → Option Value} {base : Heap}
/-- a def that lets TextErrors out -/
theorem okT {x qual : Str} {st : Stmt} {f : Addr} {fd : FuncData} {N ps : List Str} {k : Nat} {sp : Sp} (F : Fun K x qual st f fd) (S : FnScope N ps (defScope st)) (len : ∀ vs H Q E, sp vs H Q E → vs.length = ps.length)
    (hbody : ∀ (cdv : Value) (A : Around) (outer : List Env) (s : Shared) (H : Hp) (vs : List V) (Q : VK) (E : XK), Room k (A.deeper (envOfC qual (defScope st) s.heap.objs.size f cdv)) → sp vs H Q E →
      ∃ t, PSs (cxOf (TE.CX P w) P w K mg base N qual (defScope st) f cdv A outer s H E) (defBody st) t ∧ t { nx := fun _ H' => Q .non H', rt := Q } (start N vs) H) : FnOk P w K mg base (TE.CX P w) (k + 1) f fd ps sp := by
  obtain ⟨oc, od, kV, doc, pm, an, cdv, ct, osl, rfl, lk, hcd⟩ := F.ex
  exact fn_of lk hcd S len fun A outer s H vs Q E hr hsp => hbody cdv A outer s H vs Q E hr hsp
end
theorem iT {c : Bool} {A B : Prop} (hc : c = true) (h : A) : if c = true then A else B := by
  rw [if_pos hc]
  exact h
theorem iF {c : Bool} {A B : Prop} (hc : c = false) (h : B) : if c = true then A else B := by
  rw [if_neg (by rw [hc]; exact Bool.false_ne_true)]
  exact h
theorem same_upd {H : Hp} {p : Addr} {o : HO} (h : H p = none) : Same H (upd H p o) := fun b u e => by
  rw [upd_ne (ne_of_none e h)]
  exact e
theorem log_small {n : Nat} (h : n ≤ 1100000) : ((n : Int)).natAbs.log2 < 1920 := by
  have e : ((n : Int)).natAbs = n := rfl
  rw [e]
  by_cases h0 : n = 0
  · subst h0
    decide
  · exact (Nat.log2_lt h0).mpr (Nat.lt_of_le_of_lt h (Nat.lt_of_lt_of_le (show 1100000 < 2 ^ 21 by decide) (Nat.pow_le_pow_right (by decide) (by decide))))
/-! ### texts and their codes -/
abbrev cd (z : Str) : List Nat := z.cps.toList
theorem len_cd (z : Str) : z.length = (cd z).length := by
  show z.cps.size = z.cps.toList.length
  simp
theorem cd_inj {a b : Str} (h : cd a = cd b) : a = b := by
  obtain ⟨a⟩ := a
  obtain ⟨b⟩ := b
  have : a = b := by simpa using h
  rw [this]
theorem cd_append (a b : Str) : cd (a ++ b) = cd a ++ cd b := by
  obtain ⟨a⟩ := a
  obtain ⟨b⟩ := b
  show (a ++ b).toList = _
  simp
theorem cd_mk (l : List Nat) : cd ⟨l.toArray⟩ = l := by simp [cd]
theorem len_mk (l : List Nat) : (⟨l.toArray⟩ : Str).length = l.length := by rw [len_cd, cd_mk]
theorem wEnd_le (l : List Nat) (i : Nat) (h : i ≤ l.length) : i + ((l.drop i).takeWhile SS.isLow).length ≤ l.length := by
  have e : ((l.drop i).takeWhile SS.isLow).length ≤ (l.drop i).length := (List.takeWhile_sublist _).length_le
  rw [List.length_drop] at e
  omega
theorem letters_in : ∀ c, (c ∈ cd ("abcdefghijklmnopqrstuvwxyz" : Str)) ↔ SS.isLow c = true := by
  intro c
  have e : cd ("abcdefghijklmnopqrstuvwxyz" : Str) = (List.range 26).map (· + 97) := by decide +kernel
  rw [e]
  simp only [List.mem_map, List.mem_range, SS.isLow, decide_eq_true_eq]
  constructor
  · rintro ⟨a, h, rfl⟩
    omega
  · intro h
    exact ⟨c - 97, by omega, by omega⟩
end SX
namespace K42
open PySem PySem.Spec PyProof.Rows L2
abbrev St := L2.St
def top (i : Nat) : Stmt := PySem.Challenge.pw_soonsettled_k42_errors_of_events.main.body.getD i (.Pass ⟨0, 0, 0, 0⟩)
abbrev s_word_end : Stmt := top 7
theorem sc_word_end : FnScope ["text", "start", "at"] ["text", "start"] (defScope s_word_end) := ⟨rfl, rfl, rfl, by decide +kernel, rfl, by decide +kernel, by decide +kernel⟩
abbrev s_tokens_of : Stmt := top 8
theorem sc_tokens_of : FnScope ["text", "signs", "tokens", "at", "behind"] ["text", "signs"] (defScope s_tokens_of) := ⟨rfl, rfl, rfl, by decide +kernel, rfl, by decide +kernel, by decide +kernel⟩
abbrev s_Reader___init__ : Stmt := inClass (top 9) 0
theorem sc_Reader___init__ : FnScope ["self", "text", "signs"] ["self", "text", "signs"] (defScope s_Reader___init__) := ⟨rfl, rfl, rfl, by decide +kernel, rfl, by decide +kernel, by decide +kernel⟩
abbrev s_Reader_step : Stmt := inClass (top 9) 1
theorem sc_Reader_step : FnScope ["self"] ["self"] (defScope s_Reader_step) := ⟨rfl, rfl, rfl, by decide +kernel, rfl, by decide +kernel, by decide +kernel⟩
abbrev s_Reader_refuse : Stmt := inClass (top 9) 2
theorem sc_Reader_refuse : FnScope ["self"] ["self"] (defScope s_Reader_refuse) := ⟨rfl, rfl, rfl, by decide +kernel, rfl, by decide +kernel, by decide +kernel⟩
abbrev s_Reader_read_name : Stmt := inClass (top 9) 3
theorem sc_Reader_read_name : FnScope ["self", "word"] ["self"] (defScope s_Reader_read_name) := ⟨rfl, rfl, rfl, by decide +kernel, rfl, by decide +kernel, by decide +kernel⟩
abbrev s_Reader_read_sign : Stmt := inClass (top 9) 4
theorem sc_Reader_read_sign : FnScope ["self", "sign"] ["self", "sign"] (defScope s_Reader_read_sign) := ⟨rfl, rfl, rfl, by decide +kernel, rfl, by decide +kernel, by decide +kernel⟩
abbrev s_read_events : Stmt := top 11
theorem sc_read_events : FnScope ["text", "reader", "events", "depth"] ["text"] (defScope s_read_events) := ⟨rfl, rfl, rfl, by decide +kernel, rfl, by decide +kernel, by decide +kernel⟩
abbrev s_law_draw : Stmt := top 13
theorem sc_law_draw : FnScope ["script"] ["script"] (defScope s_law_draw) := ⟨rfl, rfl, rfl, by decide +kernel, rfl, by decide +kernel, by decide +kernel⟩
abbrev s_law_next : Stmt := top 14
theorem sc_law_next : FnScope ["draw", "many", "found", "cell"] ["draw", "many"] (defScope s_law_next) := ⟨rfl, rfl, rfl, by decide +kernel, rfl, by decide +kernel, by decide +kernel⟩
abbrev s_law_same : Stmt := top 15
theorem sc_law_same : FnScope ["actual", "due", "k"] ["actual", "due"] (defScope s_law_same) := ⟨rfl, rfl, rfl, by decide +kernel, rfl, by decide +kernel, by decide +kernel⟩
abbrev s_law_tokens : Stmt := top 16
theorem sc_law_tokens : FnScope ["draw", "tokens", "level", "k", "form"] ["draw"] (defScope s_law_tokens) := ⟨rfl, rfl, rfl, by decide +kernel, rfl, by decide +kernel, by decide +kernel⟩
abbrev s_law_text : Stmt := top 17
theorem sc_law_text : FnScope ["draw", "tokens", "text", "places", "token"] ["draw", "tokens"] (defScope s_law_text) := ⟨rfl, rfl, rfl, by decide +kernel, rfl, by decide +kernel, by decide +kernel⟩
abbrev s_law_first_wrong : Stmt := top 18
theorem sc_law_first_wrong : FnScope ["tokens", "level", "opened", "named", "k", "token", "whole"] ["tokens"] (defScope s_law_first_wrong) := ⟨rfl, rfl, rfl, by decide +kernel, rfl, by decide +kernel, by decide +kernel⟩
abbrev s_law_due : Stmt := top 19
theorem sc_law_due : FnScope ["tokens", "text", "places", "k", "wrong"] ["tokens", "text", "places"] (defScope s_law_due) := ⟨rfl, rfl, rfl, by decide +kernel, rfl, by decide +kernel, by decide +kernel⟩
abbrev s_law_told : Stmt := top 20
theorem sc_law_told : FnScope ["text", "error", "right"] ["text"] (defScope s_law_told) := ⟨rfl, rfl, rfl, by decide +kernel, rfl, by decide +kernel, by decide +kernel⟩
abbrev s_law : Stmt := top 21
theorem sc_law : FnScope ["script", "draw", "turn", "tokens", "due", "told", "text", "places", "token"] ["script"] (defScope s_law) := ⟨rfl, rfl, rfl, by decide +kernel, rfl, by decide +kernel, by decide +kernel⟩
structure Txt (prog : Program) (K : PySem.W.Frag) (mg : Str → Option Value) where
  a_word_end : Addr
  fd_word_end : FuncData
  F_word_end : Fun K "word_end" "word_end" s_word_end a_word_end fd_word_end
  g_word_end : mg "word_end" = some (.ref a_word_end)
  a_tokens_of : Addr
  fd_tokens_of : FuncData
  F_tokens_of : Fun K "tokens_of" "tokens_of" s_tokens_of a_tokens_of fd_tokens_of
  g_tokens_of : mg "tokens_of" = some (.ref a_tokens_of)
  a_Reader___init__ : Addr
  fd_Reader___init__ : FuncData
  F_Reader___init__ : Fun K "__init__" "Reader.__init__" s_Reader___init__ a_Reader___init__ fd_Reader___init__
  a_Reader_step : Addr
  fd_Reader_step : FuncData
  F_Reader_step : Fun K "step" "Reader.step" s_Reader_step a_Reader_step fd_Reader_step
  a_Reader_refuse : Addr
  fd_Reader_refuse : FuncData
  F_Reader_refuse : Fun K "refuse" "Reader.refuse" s_Reader_refuse a_Reader_refuse fd_Reader_refuse
  a_Reader_read_name : Addr
  fd_Reader_read_name : FuncData
  F_Reader_read_name : Fun K "read_name" "Reader.read_name" s_Reader_read_name a_Reader_read_name fd_Reader_read_name
  a_Reader_read_sign : Addr
  fd_Reader_read_sign : FuncData
  F_Reader_read_sign : Fun K "read_sign" "Reader.read_sign" s_Reader_read_sign a_Reader_read_sign fd_Reader_read_sign
  a_read_events : Addr
  fd_read_events : FuncData
  F_read_events : Fun K "read_events" "read_events" s_read_events a_read_events fd_read_events
  g_read_events : mg "read_events" = some (.ref a_read_events)
  a_law_draw : Addr
  fd_law_draw : FuncData
  F_law_draw : Fun K "_law_draw" "_law_draw" s_law_draw a_law_draw fd_law_draw
  g_law_draw : mg "_law_draw" = some (.ref a_law_draw)
  a_law_next : Addr
  fd_law_next : FuncData
  F_law_next : Fun K "_law_next" "_law_next" s_law_next a_law_next fd_law_next
  g_law_next : mg "_law_next" = some (.ref a_law_next)
  a_law_same : Addr
  fd_law_same : FuncData
  F_law_same : Fun K "_law_same" "_law_same" s_law_same a_law_same fd_law_same
  g_law_same : mg "_law_same" = some (.ref a_law_same)
  a_law_tokens : Addr
  fd_law_tokens : FuncData
  F_law_tokens : Fun K "_law_tokens" "_law_tokens" s_law_tokens a_law_tokens fd_law_tokens
  g_law_tokens : mg "_law_tokens" = some (.ref a_law_tokens)
  a_law_text : Addr
  fd_law_text : FuncData
  F_law_text : Fun K "_law_text" "_law_text" s_law_text a_law_text fd_law_text
  g_law_text : mg "_law_text" = some (.ref a_law_text)
  a_law_first_wrong : Addr
  fd_law_first_wrong : FuncData
  F_law_first_wrong : Fun K "_law_first_wrong" "_law_first_wrong" s_law_first_wrong a_law_first_wrong fd_law_first_wrong
  g_law_first_wrong : mg "_law_first_wrong" = some (.ref a_law_first_wrong)
  a_law_due : Addr
  fd_law_due : FuncData
  F_law_due : Fun K "_law_due" "_law_due" s_law_due a_law_due fd_law_due
  g_law_due : mg "_law_due" = some (.ref a_law_due)
  a_law_told : Addr
  fd_law_told : FuncData
  F_law_told : Fun K "_law_told" "_law_told" s_law_told a_law_told fd_law_told
  g_law_told : mg "_law_told" = some (.ref a_law_told)
  a_law : Addr
  fd_law : FuncData
  F_law : Fun K "law" "law" s_law a_law fd_law
  g_law : mg "law" = some (.ref a_law)
  C_Reader : Addr
  cl_Reader : Cls K C_Reader
  g_Reader : mg "Reader" = some (.ref C_Reader)
  M_Reader : Mk K C_Reader a_Reader___init__
  m_Reader_step : Meth K C_Reader "step" a_Reader_step
  m_Reader_refuse : Meth K C_Reader "refuse" a_Reader_refuse
  m_Reader_read_name : Meth K C_Reader "read_name" a_Reader_read_name
  m_Reader_read_sign : Meth K C_Reader "read_sign" a_Reader_read_sign
  n_Reader_tokens : NoAttr K C_Reader "tokens"
  n_Reader_at : NoAttr K C_Reader "at"
  n_Reader_token : NoAttr K C_Reader "token"
  n_Reader_place : NoAttr K C_Reader "place"
  t_LETTERS : Tok
  g_LETTERS : mg "LETTERS" = some (.str "abcdefghijklmnopqrstuvwxyz" t_LETTERS)
  t_LONGEST_NAME : Tok
  g_LONGEST_NAME : mg "LONGEST_NAME" = some (.int 8 t_LONGEST_NAME)
  n_len : mg "len" = none
  n_list : mg "list" = none
  n_abs : mg "abs" = none
  n_int : mg "int" = none
  n_isinstance : mg "isinstance" = none
  n_str : mg "str" = none
  n_tuple : mg "tuple" = none
  n_all : mg "all" = none
  n_bool : mg "bool" = none
  n_range : mg "range" = none
  C_te : Addr
  f_te : Addr
  te : TE.Txt prog K mg C_te f_te
  ask : TE.Ask K C_te
  C_se : Addr
  g_se : mg "SettleError" = some (.ref C_se)
  kit : PySem.W.kitOne K (.ref C_te) (.ref C_se) = some true
  exm : PySem.W.exmOne K (.ref C_te) (.ref C_te) = some true
section
variable {prog : Program} {K : PySem.W.Frag} {mg : Str → Option Value}
theorem Txt.b_word_end (T : Txt prog K mg) : Binds K T.fd_word_end ["text", "start"] [] := T.F_word_end.binds (ps := ["text", "start"]) fun _ _ _ _ _ _ us hl => match us, hl with | [_, _], _ => rfl
theorem Txt.b_tokens_of (T : Txt prog K mg) : Binds K T.fd_tokens_of ["text", "signs"] [] := T.F_tokens_of.binds (ps := ["text", "signs"]) fun _ _ _ _ _ _ us hl => match us, hl with | [_, _], _ => rfl
theorem Txt.b_Reader___init__ (T : Txt prog K mg) : Binds K T.fd_Reader___init__ ["self", "text", "signs"] [] := T.F_Reader___init__.binds (ps := ["self", "text", "signs"]) fun _ _ _ _ _ _ us hl => match us, hl with | [_, _, _], _ => rfl
theorem Txt.b_Reader_step (T : Txt prog K mg) : Binds K T.fd_Reader_step ["self"] [] := T.F_Reader_step.binds (ps := ["self"]) fun _ _ _ _ _ _ us hl => match us, hl with | [_], _ => rfl
theorem Txt.b_Reader_refuse (T : Txt prog K mg) : Binds K T.fd_Reader_refuse ["self"] [] := T.F_Reader_refuse.binds (ps := ["self"]) fun _ _ _ _ _ _ us hl => match us, hl with | [_], _ => rfl
theorem Txt.b_Reader_read_name (T : Txt prog K mg) : Binds K T.fd_Reader_read_name ["self"] [] := T.F_Reader_read_name.binds (ps := ["self"]) fun _ _ _ _ _ _ us hl => match us, hl with | [_], _ => rfl
theorem Txt.b_Reader_read_sign (T : Txt prog K mg) : Binds K T.fd_Reader_read_sign ["self", "sign"] [] := T.F_Reader_read_sign.binds (ps := ["self", "sign"]) fun _ _ _ _ _ _ us hl => match us, hl with | [_, _], _ => rfl
theorem Txt.b_read_events (T : Txt prog K mg) : Binds K T.fd_read_events ["text"] [] := T.F_read_events.binds (ps := ["text"]) fun _ _ _ _ _ _ us hl => match us, hl with | [_], _ => rfl
theorem Txt.b_law_draw (T : Txt prog K mg) : Binds K T.fd_law_draw ["script"] [] := T.F_law_draw.binds (ps := ["script"]) fun _ _ _ _ _ _ us hl => match us, hl with | [_], _ => rfl
theorem Txt.b_law_next (T : Txt prog K mg) : Binds K T.fd_law_next ["draw", "many"] [] := T.F_law_next.binds (ps := ["draw", "many"]) fun _ _ _ _ _ _ us hl => match us, hl with | [_, _], _ => rfl
theorem Txt.b_law_same (T : Txt prog K mg) : Binds K T.fd_law_same ["actual", "due"] [] := T.F_law_same.binds (ps := ["actual", "due"]) fun _ _ _ _ _ _ us hl => match us, hl with | [_, _], _ => rfl
theorem Txt.b_law_tokens (T : Txt prog K mg) : Binds K T.fd_law_tokens ["draw"] [] := T.F_law_tokens.binds (ps := ["draw"]) fun _ _ _ _ _ _ us hl => match us, hl with | [_], _ => rfl
theorem Txt.b_law_text (T : Txt prog K mg) : Binds K T.fd_law_text ["draw", "tokens"] [] := T.F_law_text.binds (ps := ["draw", "tokens"]) fun _ _ _ _ _ _ us hl => match us, hl with | [_, _], _ => rfl
theorem Txt.b_law_first_wrong (T : Txt prog K mg) : Binds K T.fd_law_first_wrong ["tokens"] [] := T.F_law_first_wrong.binds (ps := ["tokens"]) fun _ _ _ _ _ _ us hl => match us, hl with | [_], _ => rfl
theorem Txt.b_law_due (T : Txt prog K mg) : Binds K T.fd_law_due ["tokens", "text", "places"] [] := T.F_law_due.binds (ps := ["tokens", "text", "places"]) fun _ _ _ _ _ _ us hl => match us, hl with | [_, _, _], _ => rfl
theorem Txt.b_law_told (T : Txt prog K mg) : Binds K T.fd_law_told ["text"] [] := T.F_law_told.binds (ps := ["text"]) fun _ _ _ _ _ _ us hl => match us, hl with | [_], _ => rfl
theorem Txt.b_law (T : Txt prog K mg) : Binds K T.fd_law ["script"] [] := T.F_law.binds (ps := ["script"]) fun _ _ _ _ _ _ us hl => match us, hl with | [_], _ => rfl
end
end K42
namespace K42
open PySem PySem.Spec PyProof.Rows L2 SX
section
variable {P : Program} {w : World} {K : PySem.W.Frag} {mg : Str → Option Value} {base : Heap}
/-! ### word_end -/
def wEnd (l : List Nat) (i : Nat) : Nat := i + ((l.drop i).takeWhile SS.isLow).length
def spWordEnd : Sp := fun vs H Q _ => ∃ (z : Str) (i : Nat), vs = [.str z, .int i] ∧ i ≤ (cd z).length ∧ (cd z).length ≤ 1000000 ∧ Q (.int (wEnd (cd z) i : Nat)) H
theorem wEnd_step {l : List Nat} {i c : Nat} (h : l[i]? = some c) (hc : SS.isLow c = true) : wEnd l i = wEnd l (i + 1) := by
  obtain ⟨hi, e⟩ := List.getElem?_eq_some_iff.mp h
  unfold wEnd
  rw [List.drop_eq_getElem_cons hi, e, List.takeWhile_cons, if_pos hc, List.length_cons]
  omega
theorem wEnd_stop {l : List Nat} {i : Nat} (h : ∀ c, l[i]? = some c → SS.isLow c = false) : wEnd l i = i := by
  unfold wEnd
  by_cases hi : i < l.length
  · rw [List.drop_eq_getElem_cons hi, List.takeWhile_cons, if_neg (by rw [h _ (List.getElem?_eq_getElem hi)]; decide)]
    rfl
  · rw [List.drop_eq_nil_of_le (by omega)]
    rfl
theorem small {n : Nat} (h : n ≤ 1100000) : n ≤ sizeLine := by
  rw [sizeLine_eq]
  omega
theorem ok_word_end (T : Txt P K mg) : FnOk P w K mg base CX0 1 T.a_word_end T.fd_word_end ["text", "start"] spWordEnd := by
  refine T.F_word_end.ok sc_word_end (fun vs H Q E h => ?_) (fun cdv A outer s H vs Q E hr h => ?_)
  · obtain ⟨z, i, rfl, _⟩ := h
    rfl
  · obtain ⟨z, i, rfl, hi, hz, q⟩ := h
    have hz' : z.length ≤ sizeLine := by
      rw [len_cd]
      exact small (by omega)
    refine ⟨_, (pss_cons (ps_set (i := 2) sc_word_end.nd rfl (by first | exact Or.inl rfl | exact Or.inr rfl) (pv 1))
      (pss_cons (ps_while PassesOwn.never (PW.pt (pw_and (pt_cmpR op_lt (pv 2) (pe_callB call_len_str (by rfl) T.n_len boot_len (pa_cons (pv 0) pa_nil)) (nomark _)) (pw_and1 (pt_cmpR op_in_sign (pe_ix ix_str (pv 0) (pv 2) (fun _ _ => rfl)) (pe_glob (v := .str "abcdefghijklmnopqrstuvwxyz") (by rfl) T.g_LETTERS ⟨_, rfl⟩) rfl)))) (pss_one (ps_aug (i := 2) sc_word_end.nd rfl (by first | exact Or.inl rfl | exact Or.inr rfl) pe_int ip_add)))
      (pss_one (ps_ret (pv 2))))), ?_⟩
    refine ⟨_, rfl, fun m σ H' => ∃ j : Nat, σ = [some (.str z), some (.int i), some (.int (j : Nat))] ∧ H' = H ∧ i ≤ j ∧ j + m = (cd z).length ∧ wEnd (cd z) j = wEnd (cd z) i, ⟨(cd z).length - i, i, rfl, rfl, Nat.le_refl _, by omega, rfl⟩, ?_⟩
    rintro m σ H' ⟨j, rfl, rfl, hj, hm, e⟩
    -- at < len(text)
    refine ⟨_, rfl, _, rfl, z, rfl, hz', _, _, rfl, rfl, _, rfl, ?_⟩
    refine ite2 (fun c => ?_) (fun c => ?_)
    · have hjl : j < (cd z).length := by
        have c' := of_decide_eq_true c
        rw [len_cd] at c'
        omega
      refine ⟨_, rfl, _, rfl, z, _, (cd z)[j], rfl, rfl, hz', atI_nat (List.getElem?_eq_getElem hjl), _, _, rfl, rfl, _, rfl, ?_⟩
      by_cases hl : SS.isLow (cd z)[j] = true
      · refine iT (decide_eq_true ((letters_in _).mpr hl)) ?_
        refine ⟨fun σ' H'' => σ' = [some (.str z), some (.int i), some (.int ((j : Int) + 1))] ∧ H'' = H', fun σ' H'' h => ?_, _, rfl, _, _, rfl, rfl, rfl, rfl⟩
        obtain ⟨rfl, rfl⟩ := h
        exact ⟨m - 1, by omega, j + 1, rfl, rfl, by omega, by omega, (wEnd_step (List.getElem?_eq_getElem hjl) hl).symm.trans e⟩
      · refine iF (decide_eq_false fun x => hl ((letters_in _).mp x)) ?_
        refine ⟨_, rfl, ?_⟩
        rw [← e, wEnd_stop (fun c' h' => by
          rw [List.getElem?_eq_getElem hjl] at h'
          cases h'
          simpa using hl)] at q
        exact q
    · refine iteF ?_
      have hjl : (cd z).length ≤ j := by
        have c' : z.length ≤ j := by simpa using c
        rw [len_cd] at c'
        exact c'
      refine ⟨_, rfl, ?_⟩
      rw [← e, wEnd_stop (fun c' h' => by
        rw [List.getElem?_eq_none hjl] at h'
        cases h')] at q
      exact q
end
end K42
namespace K42
open PySem PySem.Spec PyProof.Rows L2 SX
section
variable {P : Program} {w : World} {K : PySem.W.Frag} {mg : Str → Option Value} {base : Heap}
/-! ### tokens_of -/
/-- a text from its codes -/
abbrev tx (l : List Nat) : V := .str ⟨l.toArray⟩
/-- at p the list of these tokens with their places -/
def TokAt (H : Hp) (p : Addr) (l : List (List Nat × Nat)) : Prop :=
  ∃ rs : List Addr, H p = some (.lst (rs.map V.ref)) ∧ rs.length = l.length ∧ ∀ (i : Nat) (a : Addr) (x : List Nat × Nat), rs[i]? = some a → l[i]? = some x → H a = some (.tup [tx x.1, .int (x.2 : Nat)])
theorem TokAt.more {H : Hp} {p q : Addr} {l : List (List Nat × Nat)} {t : List Nat} {k : Nat} (h : TokAt H p l) (hq : H q = none) :
    ∃ rs : List Addr, H p = some (.lst (rs.map V.ref)) ∧ rs.length = l.length ∧ TokAt (upd (upd H q (.tup [tx t, .int (k : Nat)])) p (.lst (rs.map V.ref ++ [.ref q]))) p (l ++ [(t, k)]) := by
  obtain ⟨rs, e, hl, hg⟩ := h
  refine ⟨rs, e, hl, rs ++ [q], by rw [upd_same, List.map_append]; rfl, by simp [hl], fun i a x h1 h2 => ?_⟩
  have npq : q ≠ p := fun z => by
    rw [z, e] at hq
    cases hq
  by_cases hi : i < rs.length
  · rw [List.getElem?_append_left hi] at h1
    rw [List.getElem?_append_left (by omega)] at h2
    have z := hg i a x h1 h2
    rw [upd_ne (ne_of z e (by intro y; cases y)), upd_ne (ne_of_none z hq)]
    exact z
  · have hi' : i = rs.length := by
      have := (List.getElem?_eq_some_iff.mp h1).1
      simp at this
      omega
    subst hi'
    rw [List.getElem?_append_right (Nat.le_refl _), Nat.sub_self] at h1
    rw [hl, List.getElem?_append_right (Nat.le_refl _), Nat.sub_self] at h2
    cases h1
    cases h2
    rw [upd_ne npq, upd_same]
theorem TokAt.same {H H' : Hp} {p : Addr} {l : List (List Nat × Nat)} (h : TokAt H p l) (s : Same H H') : TokAt H' p l := by
  obtain ⟨rs, e, hl, hg⟩ := h
  exact ⟨rs, s _ _ e, hl, fun i a x h1 h2 => s _ _ (hg i a x h1 h2)⟩
/-- a TextError: message and place; what stood stands -/
def Fails (C : Addr) (H : Hp) (E : XK) (m : Str) (k : Nat) : Prop := ∀ (H' : Hp) (d : Addr), Same H H' → H' d = some (.xd (TE.fs m (k : Nat))) → E (.ref C) (some d) H'
def spTokensOf (C : Addr) : Sp := fun vs H Q E => ∃ (z sg : Str) (l : List (List Nat × Nat)) (e : Option Nat), vs = [.str z, .str sg] ∧ (cd z).length ≤ 1000000 ∧ SS.Lex (cd sg) (cd z) 0 l e ∧
  match e with
  | none => ∀ (H' : Hp) (p : Addr), Same H H' → H p = none → TokAt H' p l → Q (.ref p) H'
  | some k => Fails C H E "unknown character" k
theorem cut_eq {z : Str} {i j : Nat} (h1 : i ≤ j) (h2 : j ≤ (cd z).length) : cutS z (some (i : Nat)) (some (j : Nat)) = ⟨(((cd z).drop i).take (j - i)).toArray⟩ := by
  unfold cutS
  rw [HT.sIx_nat, HT.sIx_nat, len_cd, Nat.min_eq_left h2, Nat.min_eq_left (Nat.le_trans h1 h2)]
theorem wEnd_word {l v s : List Nat} {i : Nat} (h : l.drop i = v ++ s) (h1 : ∀ c ∈ v, SS.isLow c = true) (h2 : ∀ c, s.head? = some c → SS.isLow c = false) : wEnd l i = i + v.length := by
  unfold wEnd
  rw [h, List.takeWhile_append_of_pos h1]
  have e : s.takeWhile SS.isLow = [] := by
    cases s with
    | nil => rfl
    | cons a b => rw [List.takeWhile_cons, if_neg (by rw [h2 a rfl]; decide)]
  rw [e, List.append_nil]
theorem wEnd_none {l s : List Nat} {i c : Nat} (h : l.drop i = c :: s) (h1 : SS.isLow c = false) : wEnd l i = i := by
  unfold wEnd
  rw [h, List.takeWhile_cons, if_neg (by rw [h1]; decide)]
  rfl
theorem drop_get {l s : List Nat} {i c : Nat} (h : l.drop i = c :: s) : l[i]? = some c ∧ l.drop (i + 1) = s := by
  constructor
  · have e : (l.drop i)[0]? = some c := by rw [h]; rfl
    rwa [List.getElem?_drop, Nat.add_zero] at e
  · rw [← List.drop_drop, h]
    rfl
theorem lex_nil {sg : List Nat} {i : Nat} {l : List (List Nat × Nat)} {e : Option Nat} (h : SS.Lex sg [] i l e) : l = [([], i)] ∧ e = none := by
  generalize hx : ([] : List Nat) = x at h
  cases h with
  | done => exact ⟨rfl, rfl⟩
  | word h0 =>
    exact absurd (List.append_eq_nil_iff.mp hx.symm).1 h0
  | sign => cases hx
  | space => cases hx
  | bad => cases hx
/-- the loop's invariant -/
structure LexInv (z sg : Str) (l : List (List Nat × Nat)) (e : Option Nat) (H : Hp) (p : Addr) (i : Nat) (H' : Hp) : Prop where
  lex : ∃ r, SS.Lex (cd sg) ((cd z).drop i) i r e ∧ ∃ acc, TokAt H' p acc ∧ acc.length ≤ i ∧ (e = none → acc ++ r = l)
  le : i ≤ (cd z).length
  same : Same H H'
theorem ok_tokens_of (T : Txt P K mg) : FnOk P w K mg base (TE.CX P w) 3 T.a_tokens_of T.fd_tokens_of ["text", "signs"] (spTokensOf T.C_te) := by
  have G_word_end : FnOk P w K mg base CX0 1 T.a_word_end T.fd_word_end ["text", "start"] spWordEnd := ok_word_end T
  refine okT T.F_tokens_of sc_tokens_of (fun vs H Q E h => ?_) (fun cdv A outer s H vs Q E hr h => ?_)
  · obtain ⟨z, sg, l, e, rfl, _⟩ := h
    rfl
  · obtain ⟨z, sg, l, e, rfl, hz, hlex, q⟩ := h
    have hz' : z.length ≤ sizeLine := by
      rw [len_cd]
      exact small (by omega)
    refine ⟨_, (pss_cons (ps_set (i := 2) sc_tokens_of.nd rfl (by first | exact Or.inl rfl | exact Or.inr rfl) (pe_lst pa_nil))
      (pss_cons (ps_set (i := 3) sc_tokens_of.nd rfl (by first | exact Or.inl rfl | exact Or.inr rfl) pe_int)
      (pss_cons (ps_while PassesOwn.leaving (pt_cmpR op_lt (pv 3) (pe_callB call_len_str (by rfl) T.n_len boot_len (pa_cons (pv 0) pa_nil)) (nomark _)) (pss_cons (ps_set (i := 4) sc_tokens_of.nd rfl (by first | exact Or.inl rfl | exact Or.inr rfl) (pe_call G_word_end (hr.mono (by omega)) (by rfl) T.g_word_end T.F_word_end.kp T.b_word_end .nil pass0 (pa_cons (pv 0) (pa_cons (pv 3) pa_nil))))
      (pss_one (ps_if (pt_cmpR op_gt (pv 4) (pv 3) (nomark _)) (pss_cons (ps_expr (pe_bm PySem.F.plainAttrs_list PySem.F.slot_list_append PySem.F.type_list_append mt_append (pv 2) (pa_cons (pe_tup (pa_cons (pe_slice sl_str (pv 0) (po_some (pv 3)) (po_some (pv 4))) (pa_cons (pv 3) pa_nil))) pa_nil)))
      (pss_one (ps_set (i := 3) sc_tokens_of.nd rfl (by first | exact Or.inl rfl | exact Or.inr rfl) (pv 4)))) (pss_one (ps_if (pt_cmpR op_in_sign (pe_ix ix_str (pv 0) (pv 3) (fun _ _ => rfl)) (pv 1) rfl) (pss_cons (ps_expr (pe_bm PySem.F.plainAttrs_list PySem.F.slot_list_append PySem.F.type_list_append mt_append (pv 2) (pa_cons (pe_tup (pa_cons (pe_ix ix_str (pv 0) (pv 3) (fun _ _ => rfl)) (pa_cons (pv 3) pa_nil))) pa_nil)))
      (pss_one (ps_aug (i := 3) sc_tokens_of.nd rfl (by first | exact Or.inl rfl | exact Or.inr rfl) pe_int ip_add))) (pss_one (ps_if (pt_cmpR op_in_sign (pe_ix ix_str (pv 0) (pv 3) (fun _ _ => rfl)) pe_str rfl) (pss_one (ps_aug (i := 3) sc_tokens_of.nd rfl (by first | exact Or.inl rfl | exact Or.inr rfl) pe_int ip_add)) (pss_one (TE.ps_raiseTE rfl T.te hr (TE.takes_of rfl rfl rfl rfl) (pa_cons (pv 3) (pa_cons pe_str pa_nil))))))))))))
      (pss_cons (ps_expr (pe_bm PySem.F.plainAttrs_list PySem.F.slot_list_append PySem.F.type_list_append mt_append (pv 2) (pa_cons (pe_tup (pa_cons pe_str (pa_cons (pe_callB call_len_str (by rfl) T.n_len boot_len (pa_cons (pv 0) pa_nil)) pa_nil))) pa_nil)))
      (pss_one (ps_ret (pv 2))))))), ?_⟩
    -- tokens = []; at = 0
    refine ⟨Nat.zero_le _, fun p np => ?_⟩
    have s0 : Same H (upd H p (.lst [])) := same_upd np
    have t0 : TokAt (upd H p (.lst [])) p [] := ⟨[], upd_same, rfl, fun i a x h _ => by simp at h⟩
    refine ⟨fun m σ H' => ∃ (i : Nat) (b : Option V), σ = [some (.str z), some (.str sg), some (.ref p), some (.int (i : Nat)), b] ∧ LexInv z sg l e H p i H' ∧ i + m = (cd z).length,
      ⟨(cd z).length, 0, none, rfl, ⟨⟨l, hlex, [], t0, Nat.le_refl _, fun _ => rfl⟩, Nat.zero_le _, s0⟩, by omega⟩, ?_⟩
    rintro m σ H' ⟨i, b, rfl, ⟨⟨r, hx, acc, ta, hal, hfin⟩, hle, sm⟩, hm⟩
    refine ⟨_, rfl, _, rfl, z, rfl, hz', _, _, rfl, rfl, _, rfl, ite2 (fun c => ?_) (fun c => ?_)⟩
    · have hi : i < (cd z).length := by
        have c' := of_decide_eq_true c
        rw [len_cd] at c'
        omega
      refine ⟨fun σ' H'' => ∃ (j : Nat) (b : Option V), σ' = [some (.str z), some (.str sg), some (.ref p), some (.int (j : Nat)), b] ∧ LexInv z sg l e H p j H'' ∧ i < j,
        fun σ' H'' ⟨j, b', e1, J', hij⟩ => ⟨(cd z).length - j, by omega, j, b', e1, J', by have := J'.le; omega⟩, ?_⟩
      -- behind = word_end(text, at)
      refine ⟨_, rfl, _, rfl, z, i, rfl, hle, hz, ?_⟩
      obtain ⟨rs, eL, hrl, hg⟩ := id ta
      have app : ∀ (H2 : Hp) (q : Addr) (t : List Nat) (j : Nat) (rest : List (List Nat × Nat)), H' q = none → SS.Lex (cd sg) ((cd z).drop j) j rest e → i < j → j ≤ (cd z).length → (e = none → acc ++ (t, i) :: rest = l) →
          H2 = upd (upd H' q (.tup [tx t, .int (i : Nat)])) p (.lst (rs.map V.ref ++ [.ref q])) → LexInv z sg l e H p j H2 := by
        intro H2 q t j rest nq hr hij hjl hf e2
        obtain ⟨rs', e1, _, t1⟩ := TokAt.more (t := t) (k := i) ta nq
        have er : rs'.map V.ref = rs.map V.ref := by
          rw [eL] at e1
          exact (HO.lst.inj (Option.some.inj e1)).symm
        rw [er] at t1
        subst e2
        refine ⟨⟨rest, hr, acc ++ [(t, i)], t1, by simp; omega, fun h => by rw [List.append_assoc]; exact hf h⟩, hjl, fun b o h => ?_⟩
        have hb := sm b o h
        rw [upd_ne (ne_of_none h np), upd_ne (ne_of_none hb nq)]
        exact hb
      have room : (rs.map V.ref).length < sizeLine := by
        rw [List.length_map, hrl, sizeLine_eq]
        omega
      have two : ∀ a b : V, ([a, b] : List V).length ≤ sizeLine := fun a b => small (show 2 ≤ 1100000 by decide)
      generalize hd : (cd z).drop i = x at hx
      cases hx with
      | done =>
        have := congrArg List.length hd
        rw [List.length_drop, List.length_nil] at this
        omega
      | @word v s' _ l' _ h0 h1 h2 r' =>
        have hv : 0 < v.length := List.length_pos_iff.mpr h0
        have hvl : i + v.length ≤ (cd z).length := by
          have := congrArg List.length hd
          rw [List.length_drop, List.length_append] at this
          omega
        rw [wEnd_word hd h1 h2]
        refine ⟨_, rfl, _, rfl, _, _, rfl, rfl, _, rfl, iT (decide_eq_true (by omega)) ?_⟩
        refine ⟨_, rfl, .inl ⟨rfl, _, SqL.of eL⟩, _, rfl, _, rfl, _, rfl, _, rfl, _, rfl, z, rfl, hz', _, rfl, two _ _, fun q nq => ?_⟩
        have npq : p ≠ q := ne_of_none eL nq
        refine ⟨p, _, _, rfl, rfl, (upd_ne npq).trans eL, room, ?_⟩
        refine ⟨_, rfl, i + v.length, _, rfl, app _ q v _ l' nq ?_ (by omega) hvl hfin ?_, by omega⟩
        · have e3 : (cd z).drop (i + v.length) = s' := by
            rw [← List.drop_drop, hd, List.drop_left]
          rw [e3]
          exact r'
        · rw [cut_eq (by omega) hvl, hd, Nat.add_sub_cancel_left, List.take_left]
      | @sign c0 s' _ l' _ h1 h2 r' =>
        obtain ⟨g1, g2⟩ := drop_get hd
        rw [wEnd_none hd h1]
        refine ⟨_, rfl, _, rfl, _, _, rfl, rfl, _, rfl, iF (decide_eq_false (by omega)) ?_⟩
        refine ⟨_, rfl, _, rfl, z, _, c0, rfl, rfl, hz', atI_nat g1, _, rfl, c0, sg, rfl, rfl, _, rfl, iT (decide_eq_true h2) ?_⟩
        refine ⟨_, rfl, .inl ⟨rfl, _, SqL.of eL⟩, _, rfl, _, rfl, z, _, c0, rfl, rfl, hz', atI_nat g1, _, rfl, two _ _, fun q nq => ?_⟩
        have npq : p ≠ q := ne_of_none eL nq
        refine ⟨p, _, _, rfl, rfl, (upd_ne npq).trans eL, room, ?_⟩
        refine ⟨_, rfl, _, _, rfl, rfl, i + 1, _, rfl, app _ q [c0] _ l' nq (by rw [g2]; exact r') (by omega) (by omega) hfin rfl, by omega⟩
      | @space c0 s' _ l' _ h1 h2 h3 r' =>
        obtain ⟨g1, g2⟩ := drop_get hd
        rw [wEnd_none hd h1]
        refine ⟨_, rfl, _, rfl, _, _, rfl, rfl, _, rfl, iF (decide_eq_false (by omega)) ?_⟩
        refine ⟨_, rfl, _, rfl, z, _, c0, rfl, rfl, hz', atI_nat g1, _, rfl, c0, sg, rfl, rfl, _, rfl, iF (decide_eq_false h2) ?_⟩
        refine ⟨_, rfl, _, rfl, z, _, c0, rfl, rfl, hz', atI_nat g1, c0, _, rfl, rfl, _, rfl, iT (decide_eq_true ?_) ?_⟩
        · have e4 : cd (" \n" : Str) = [32, 10] := by decide +kernel
          show c0 ∈ cd (" \n" : Str)
          rw [e4]
          rcases h3 with rfl | rfl
          · exact List.mem_cons_self
          · exact List.mem_cons_of_mem _ List.mem_cons_self
        · exact ⟨_, rfl, _, _, rfl, rfl, i + 1, _, rfl, ⟨⟨r, by rw [g2]; exact r', acc, ta, by omega, hfin⟩, by omega, sm⟩, by omega⟩
      | @bad c0 s' _ h1 h2 h3 =>
        obtain ⟨g1, g2⟩ := drop_get hd
        rw [wEnd_none hd h1]
        refine ⟨_, rfl, _, rfl, _, _, rfl, rfl, _, rfl, iF (decide_eq_false (by omega)) ?_⟩
        refine ⟨_, rfl, _, rfl, z, _, c0, rfl, rfl, hz', atI_nat g1, _, rfl, c0, sg, rfl, rfl, _, rfl, iF (decide_eq_false h2) ?_⟩
        refine ⟨_, rfl, _, rfl, z, _, c0, rfl, rfl, hz', atI_nat g1, c0, _, rfl, rfl, _, rfl, iF (decide_eq_false ?_) ?_⟩
        · have e4 : cd (" \n" : Str) = [32, 10] := by decide +kernel
          show ¬ c0 ∈ cd (" \n" : Str)
          rw [e4]
          intro z'
          simp at z'
          exact h3 z'
        · refine ⟨_, rfl, (i : Int), "unknown character", rfl, ?_, by decide, fun d t nd nt ntd => ?_⟩
          · exact log_small (by omega)
          · refine q _ d (fun b o h => ?_) upd_same
            have hb := sm b o h
            rw [upd_ne (ne_of_none hb nd), upd_ne (ne_of_none hb nt)]
            exact hb
    · have hi : (cd z).length ≤ i := by
        have c' : z.length ≤ i := by simpa using c
        rwa [len_cd] at c'
      have hd : (cd z).drop i = [] := List.drop_eq_nil_of_le hi
      rw [hd] at hx
      obtain ⟨rfl, rfl⟩ := lex_nil hx
      have hii : i = (cd z).length := by omega
      subst hii
      obtain ⟨rs, eL, hrl, hg⟩ := id ta
      -- tokens.append(("", len(text))); return tokens
      refine ⟨_, rfl, .inl ⟨rfl, _, SqL.of eL⟩, _, rfl, z, rfl, hz', (by exact small (show 2 ≤ 1100000 by decide)), fun q' nq => ?_⟩
      have npq : p ≠ q' := ne_of_none eL nq
      refine ⟨p, _, _, rfl, rfl, (upd_ne npq).trans eL, ?_, ?_⟩
      · rw [List.length_map, hrl, sizeLine_eq]
        omega
      · obtain ⟨rs', e1, _, t1⟩ := TokAt.more (t := []) (k := (cd z).length) ta nq
        have er : rs'.map V.ref = rs.map V.ref := by
          rw [eL] at e1
          exact (HO.lst.inj (Option.some.inj e1)).symm
        rw [er, hfin rfl] at t1
        have ez : ((z.length : Nat) : Int) = (((cd z).length : Nat) : Int) := by rw [len_cd]
        refine ⟨_, rfl, q _ p (fun b o h => ?_) np ?_⟩
        · have hb := sm b o h
          rw [upd_ne (ne_of_none h np), upd_ne (ne_of_none hb nq)]
          exact hb
        · rw [ez]
          exact t1
end
end K42
namespace K42
open PySem PySem.Spec PyProof.Rows L2 SX
/-! ### the reader's object -/
def flds (L : Addr) (k : Nat) (t : List Nat) (pl : Nat) (ex : List (Str × V)) : List (Str × V) := (("tokens" : Str), V.ref L) :: (("at" : Str), V.int (k : Nat)) :: (("token" : Str), tx t) :: (("place" : Str), V.int (pl : Nat)) :: ex
section
variable {L : Addr} {k k' pl pl' : Nat} {t t' : List Nat} {ex : List (Str × V)}
theorem fl_tokens : (flds L k t pl ex).lookup ("tokens" : Str) = some (.ref L) := by
  unfold flds
  rw [lookup_put, if_pos rfl]
theorem fl_at : (flds L k t pl ex).lookup ("at" : Str) = some (.int (k : Nat)) := by
  unfold flds
  rw [lookup_put, if_neg (by decide +kernel), lookup_put, if_pos rfl]
theorem fl_token : (flds L k t pl ex).lookup ("token" : Str) = some (tx t) := by
  unfold flds
  rw [lookup_put, if_neg (by decide +kernel), lookup_put, if_neg (by decide +kernel), lookup_put, if_pos rfl]
theorem fl_place : (flds L k t pl ex).lookup ("place" : Str) = some (.int (pl : Nat)) := by
  unfold flds
  rw [lookup_put, if_neg (by decide +kernel), lookup_put, if_neg (by decide +kernel), lookup_put, if_neg (by decide +kernel), lookup_put, if_pos rfl]
theorem fl_no {m : Str} (h1 : m ≠ "tokens") (h2 : m ≠ "at") (h3 : m ≠ "token") (h4 : m ≠ "place") : (flds L k t pl ex).lookup m = ex.lookup m := by
  unfold flds
  rw [lookup_put, if_neg h1, lookup_put, if_neg h2, lookup_put, if_neg h3, lookup_put, if_neg h4]
theorem n1 : ¬ (("tokens" : Str) = "at") := by decide +kernel
theorem n2 : ¬ (("tokens" : Str) = "token") := by decide +kernel
theorem n3 : ¬ (("tokens" : Str) = "place") := by decide +kernel
theorem n4 : ¬ (("at" : Str) = "token") := by decide +kernel
theorem n5 : ¬ (("at" : Str) = "place") := by decide +kernel
theorem n6 : ¬ (("token" : Str) = "place") := by decide +kernel
theorem put_at : putF "at" (.int (k' : Nat)) (flds L k t pl ex) = flds L k' t pl ex := by
  simp only [flds, putF, if_neg n1, if_pos]
theorem put_token : putF "token" (tx t') (flds L k t pl ex) = flds L k t' pl ex := by
  simp only [flds, putF, if_neg n2, if_neg n4, if_pos]
theorem put_place : putF "place" (.int (pl' : Nat)) (flds L k t pl ex) = flds L k t pl' ex := by
  simp only [flds, putF, if_neg n3, if_neg n5, if_neg n6, if_pos]
end
/-- the methods' names are no fields -/
def meths : List Str := ["step", "refuse", "read_name", "read_sign", "read_end"]
/-- at p a reader of these tokens that stands before token k -/
structure RdAt (C : Addr) (ex : List (Str × V)) (L : Addr) (H : Hp) (p : Addr) (l : List (List Nat × Nat)) (k : Nat) (t : List Nat) (pl : Nat) : Prop where
  ob : ∃ dx, H p = some (.ins C dx (flds L k t pl ex))
  tl : TokAt H L l
  tk : l[k]? = some (t, pl)
  few : ex.length ≤ 50
  nom : ∀ m ∈ meths, ex.lookup m = none
/-- all else stands -/
def But (p : Addr) (H H' : Hp) : Prop := ∀ b o, b ≠ p → H b = some o → H' b = some o
theorem TokAt.but {H H' : Hp} {L p : Addr} {l : List (List Nat × Nat)} {o : HO} (h : TokAt H L l) (hp : H p = some o) (hn : ∀ xs, o ≠ .lst xs) (ht : ∀ xs, o ≠ .tup xs) (b : But p H H') : TokAt H' L l := by
  obtain ⟨rs, e, hl, hg⟩ := h
  exact ⟨rs, b _ _ (ne_of e hp fun z => hn _ z.symm) e, hl, fun i a x h1 h2 => b _ _ (ne_of (hg i a x h1 h2) hp fun z => ht _ z.symm) (hg i a x h1 h2)⟩
def spStep (C : Addr) : Sp := fun vs H Q _ => ∃ (p : Addr) (ex : List (Str × V)) (L : Addr) (l : List (List Nat × Nat)) (k : Nat) (t : List Nat) (pl : Nat) (t' : List Nat) (pl' : Nat), vs = [.ref p] ∧ RdAt C ex L H p l k t pl ∧ l[k + 1]? = some (t', pl') ∧
  ∀ H', RdAt C ex L H' p l (k + 1) t' pl' → But p H H' → Q .non H'
/-- what is said of a token that can't stand -/
def saysOf (t : List Nat) : Str := if t = [] then "unexpected end" else "unexpected token"
def spRefuse (C Ce : Addr) : Sp := fun vs H Q E => ∃ (p : Addr) (ex : List (Str × V)) (L : Addr) (l : List (List Nat × Nat)) (k : Nat) (t : List Nat) (pl : Nat), vs = [.ref p] ∧ RdAt C ex L H p l k t pl ∧ pl ≤ 1100000 ∧ Fails Ce H E (saysOf t) pl
section
variable {P : Program} {w : World} {K : PySem.W.Frag} {mg : Str → Option Value} {base : Heap}
theorem ok_step (T : Txt P K mg) : FnOk P w K mg base CX0 1 T.a_Reader_step T.fd_Reader_step ["self"] (spStep T.C_Reader) := by
  refine T.F_Reader_step.ok sc_Reader_step (fun vs H Q E h => ?_) (fun cdv A outer s H vs Q E hr h => ?_)
  · obtain ⟨_, _, _, _, _, _, _, _, _, rfl, _⟩ := h
    rfl
  · obtain ⟨p, ex, L, l, k, t, pl, t', pl', rfl, ⟨⟨dx, hp⟩, hL, tk, few, nom⟩, tk', q⟩ := h
    refine ⟨_, (pss_cons (ps_fldaug (pv 0) pe_int in_add)
      (pss_one (ps_asg (pe_ix ix_list (pe_fld (pv 0) rfl) (pe_fld (pv 0) rfl) (fun _ _ => rfl)) (pg_tup (by rfl) (pgs_cons (pg_fld (pv 0)) (pgs_cons (pg_fld (pv 0)) pgs_nil)))))), ?_⟩
    have n4 : ∀ {k t pl}, (flds L k t pl ex).length < 1000 := fun {k t pl} => by
      show ex.length + 1 + 1 + 1 + 1 < 1000
      omega
    have L2 : ∀ {o : HO} {a : Addr} {u : HO}, H a = some u → a ≠ p → upd H p o a = some u := fun h hn => (upd_ne hn).trans h
    obtain ⟨rs, eL, hrl, hg⟩ := id hL
    have npL : L ≠ p := ne_of eL hp (by intro z; cases z)
    obtain ⟨hk', -⟩ := List.getElem?_eq_some_iff.mp tk'
    have hkr : k + 1 < rs.length := by omega
    have ht' := hg (k + 1) rs[k + 1] _ (List.getElem?_eq_getElem hkr) tk'
    have npa : rs[k + 1] ≠ p := ne_of ht' hp (by intro z; cases z)
    have ga : (rs.map V.ref)[k + 1]? = some (.ref rs[k + 1]) := by
      rw [List.getElem?_map, List.getElem?_eq_getElem hkr]
      rfl
    have e1 : ∀ {H0 : Hp}, upd H0 p (.ins T.C_Reader dx (putF "at" (.int ((k : Int) + 1)) (flds L k t pl ex))) p = some (.ins T.C_Reader dx (flds L (k + 1) t pl ex)) := fun {H0} =>
      Eq.trans upd_same (congrArg (fun l => some (HO.ins T.C_Reader dx l)) (put_at (k' := k + 1)))
    -- self.at += 1
    refine ⟨_, rfl, p, _, _, _, _, rfl, hp, T.cl_Reader, T.n_Reader_at, fl_at, _, _, rfl, rfl, _, _, hp, n4, ?_⟩
    -- self.tokens[self.at]
    refine ⟨_, rfl, p, _, _, _, _, rfl, e1, T.cl_Reader, T.n_Reader_tokens, fl_tokens, _, rfl, p, _, _, _, _, rfl, e1, T.cl_Reader, T.n_Reader_at, fl_at, L, _, _, _, rfl, rfl, SqL.of (L2 eL npL), atI_nat ga, ?_⟩
    -- self.token, self.place
    refine ⟨rs[k + 1], _, rfl, SqT.of (L2 ht' npa), rfl, tx t', _, rfl, _, rfl, p, _, _, _, rfl, e1, T.cl_Reader, T.n_Reader_token, n4, ?_⟩
    rw [put_token]
    refine ⟨_, _, rfl, _, rfl, p, _, _, _, rfl, upd_same, T.cl_Reader, T.n_Reader_place, n4, ?_⟩
    rw [put_place]
    have bt : But p H (upd (upd (upd H p (.ins T.C_Reader dx (putF "at" (.int ((k : Int) + 1)) (flds L k t pl ex)))) p (.ins T.C_Reader dx (flds L (k + 1) t' pl ex))) p (.ins T.C_Reader dx (flds L (k + 1) t' pl' ex))) := fun b o hb h => by
      rw [upd_ne hb, upd_ne hb, upd_ne hb]
      exact h
    exact ⟨rfl, q _ ⟨⟨dx, upd_same⟩, hL.but hp (by intro _ z; cases z) (by intro _ z; cases z) bt, tk', few, nom⟩ bt⟩
theorem ok_refuse (T : Txt P K mg) : FnOk P w K mg base (TE.CX P w) 2 T.a_Reader_refuse T.fd_Reader_refuse ["self"] (spRefuse T.C_Reader T.C_te) := by
  refine okT T.F_Reader_refuse sc_Reader_refuse (fun vs H Q E h => ?_) (fun cdv A outer s H vs Q E hr h => ?_)
  · obtain ⟨_, _, _, _, _, _, _, rfl, _⟩ := h
    rfl
  · obtain ⟨p, ex, L, l, k, t, pl, rfl, ⟨⟨dx, hp⟩, hL, tk, few, nom⟩, hpl, q⟩ := h
    refine ⟨_, (pss_cons (ps_if (pt_cmpR op_eq (pe_fld (pv 0) rfl) pe_str (nomark _)) (pss_one (TE.ps_raiseTE rfl T.te hr (TE.takes_of rfl rfl rfl rfl) (pa_cons (pe_fld (pv 0) rfl) (pa_cons pe_str pa_nil)))) pss_nil)
      (pss_one (TE.ps_raiseTE rfl T.te hr (TE.takes_of rfl rfl rfl rfl) (pa_cons (pe_fld (pv 0) rfl) (pa_cons pe_str pa_nil))))), ?_⟩
    have out : ∀ (H' : Hp) (d u : Addr) (o o' : HO), H d = none → H u = none → H' = upd (upd H u o) d o' → Same H H' := fun H' d u o o' nd nu e b x h => by
      rw [e, upd_ne (ne_of_none h nd), upd_ne (ne_of_none h nu)]
      exact h
    refine ⟨_, rfl, p, _, _, _, _, rfl, hp, T.cl_Reader, T.n_Reader_token, fl_token, rfl, _, rfl, ?_⟩
    have e0 : (("" : Str)) = ⟨([] : List Nat).toArray⟩ := by decide +kernel
    by_cases ht : t = []
    · refine iT (decide_eq_true (by rw [ht, e0])) ?_
      refine ⟨_, rfl, p, _, _, _, _, rfl, hp, T.cl_Reader, T.n_Reader_place, fl_place, pl, "unexpected end", rfl, log_small hpl, by decide, fun d u nd nu _ => q _ d (out _ d u _ _ nd nu rfl) ?_⟩
      unfold saysOf
      rw [if_pos ht]
      exact upd_same
    · refine iF (decide_eq_false fun z => ht ?_) ?_
      · have z2 := V.str.inj z
        rw [e0] at z2
        have z3 := congrArg cd z2
        rwa [cd_mk, cd_mk] at z3
      · refine ⟨_, rfl, p, _, _, _, _, rfl, hp, T.cl_Reader, T.n_Reader_place, fl_place, pl, "unexpected token", rfl, log_small hpl, by decide, fun d u nd nu _ => q _ d (out _ d u _ _ nd nu rfl) ?_⟩
        unfold saysOf
        rw [if_neg ht]
        exact upd_same
end
end K42
namespace K42
open PySem PySem.Spec PyProof.Rows L2 SX
/-- a token of a text: a word, a sign that is no letter, or the end -/
def Tok1 (t : List Nat) : Prop := t.all SS.isLow = true ∨ ∃ c, t = [c] ∧ SS.isLow c = false ∧ Unicode.isAlpha c = false
theorem low_alpha {c : Nat} (h : SS.isLow c = true) : Unicode.isAlpha c = true := by
  have z : ∀ k, k < 26 → Unicode.isAlpha (97 + k) = true := by decide +kernel
  have h' : 97 ≤ c ∧ c ≤ 122 := of_decide_eq_true h
  have := z (c - 97) (by omega)
  rwa [show 97 + (c - 97) = c by omega] at this
theorem isalpha_tok {t : List Nat} (h : Tok1 t) : Txt.isalpha ⟨t.toArray⟩ = (!t.isEmpty && t.all SS.isLow) := by
  have e : Txt.isalpha ⟨t.toArray⟩ = (decide ((⟨t.toArray⟩ : Str).length > 0) && t.all Unicode.isAlpha) := by
    unfold Txt.isalpha
    simp
  rw [e, len_cd, cd_mk]
  cases t with
  | nil => rfl
  | cons a r =>
    have e1 : decide ((a :: r).length > 0) = true := by simp
    rw [e1]
    rcases h with h | ⟨c, h, h1, h2⟩
    · have e2 : (a :: r).all Unicode.isAlpha = true := List.all_eq_true.mpr fun x hx => low_alpha (List.all_eq_true.mp h x hx)
      rw [e2, h]
      rfl
    · cases h
      simp [h1, h2]
def spReadName (C Ce : Addr) : Sp := fun vs H Q E => ∃ (p : Addr) (ex : List (Str × V)) (L : Addr) (l : List (List Nat × Nat)) (k : Nat) (t : List Nat) (pl : Nat), vs = [.ref p] ∧ RdAt C ex L H p l k t pl ∧ pl ≤ 1100000 ∧ t.length ≤ 1000000 ∧ Tok1 t ∧
  (SS.okName t = true → ∃ t' pl', l[k + 1]? = some (t', pl') ∧ ∀ H', RdAt C ex L H' p l (k + 1) t' pl' → But p H H' → Q (tx t) H') ∧ (SS.okName t = false → Fails Ce H E (saysOf t) pl)
def spReadSign (C Ce : Addr) : Sp := fun vs H Q E => ∃ (p : Addr) (g : Str) (ex : List (Str × V)) (L : Addr) (l : List (List Nat × Nat)) (k : Nat) (t : List Nat) (pl : Nat), vs = [.ref p, .str g] ∧ RdAt C ex L H p l k t pl ∧ pl ≤ 1100000 ∧
  (t = cd g → ∃ t' pl', l[k + 1]? = some (t', pl') ∧ ∀ H', RdAt C ex L H' p l (k + 1) t' pl' → But p H H' → Q .non H') ∧ (t ≠ cd g → Fails Ce H E (saysOf t) pl)
section
variable {P : Program} {w : World} {K : PySem.W.Frag} {mg : Str → Option Value} {base : Heap}
theorem RdAt.no {C L : Addr} {ex : List (Str × V)} {H : Hp} {p : Addr} {l : List (List Nat × Nat)} {k : Nat} {t : List Nat} {pl : Nat} (h : RdAt C ex L H p l k t pl) : ∃ dx, H p = some (.ins C dx (flds L k t pl ex)) ∧
    (∀ {m : Str}, m ∈ meths → (flds L k t pl ex).lookup m = none) := by
  obtain ⟨⟨dx, hp⟩, _, _, _, nom⟩ := h
  refine ⟨dx, hp, fun {m} hm => ?_⟩
  have z : ∀ m ∈ meths, m ≠ ("tokens" : Str) ∧ m ≠ ("at" : Str) ∧ m ≠ ("token" : Str) ∧ m ≠ ("place" : Str) := by decide +kernel
  obtain ⟨a, b, c, d⟩ := z m hm
  rw [fl_no a b c d]
  exact nom m hm
theorem ok_read_name (T : Txt P K mg) : FnOk P w K mg base (TE.CX P w) 4 T.a_Reader_read_name T.fd_Reader_read_name ["self"] (spReadName T.C_Reader T.C_te) := by
  have G_Reader_step : FnOk P w K mg base CX0 1 T.a_Reader_step T.fd_Reader_step ["self"] (spStep T.C_Reader) := ok_step T
  have G_Reader_refuse : FnOk P w K mg base (TE.CX P w) 2 T.a_Reader_refuse T.fd_Reader_refuse ["self"] (spRefuse T.C_Reader T.C_te) := ok_refuse T
  refine okT T.F_Reader_read_name sc_Reader_read_name (fun vs H Q E h => ?_) (fun cdv A outer s H vs Q E hr h => ?_)
  · obtain ⟨_, _, _, _, _, _, _, rfl, _⟩ := h
    rfl
  · obtain ⟨p, ex, L, l, k, t, pl, rfl, R, hpl, htl, hT, kS, kF⟩ := h
    obtain ⟨dx, hp, hno⟩ := R.no
    have hz : (⟨t.toArray⟩ : Str).length ≤ sizeLine := by
      rw [len_cd, cd_mk]
      exact small (by omega)
    have el : ((⟨t.toArray⟩ : Str).length : Int) = (t.length : Nat) := by rw [len_cd, cd_mk]
    refine ⟨_, (pss_cons (ps_set (i := 1) sc_Reader_read_name.nd rfl (by first | exact Or.inl rfl | exact Or.inr rfl) (pe_fld (pv 0) rfl))
      (pss_cons (ps_if (PW.pt (pw_or (pt_not (pt_val (pe_m0 PySem.F.slot_str_isalpha PySem.F.type_str_isalpha mt_isalpha (pv 1)))) (pw_or1 (pt_cmpR op_gt (pe_callB call_len_str (by rfl) T.n_len boot_len (pa_cons (pv 1) pa_nil)) (pe_glob (v := .int 8) (by rfl) T.g_LONGEST_NAME ⟨_, rfl⟩) (nomark _))))) (pss_one (ps_expr (pe_meth0 (pv 0) T.cl_Reader T.m_Reader_refuse G_Reader_refuse (hr.mono (by omega)) T.b_Reader_refuse .nil (TE.passes (TE.takes_of rfl rfl rfl rfl))))) pss_nil)
      (pss_cons (ps_expr (pe_meth0 (pv 0) T.cl_Reader T.m_Reader_step G_Reader_step (hr.mono (by omega)) T.b_Reader_step .nil pass0))
      (pss_one (ps_ret (pv 1)))))), ?_⟩
    -- word = self.token
    refine ⟨_, rfl, p, _, _, _, _, rfl, hp, T.cl_Reader, T.n_Reader_token, fl_token, ?_⟩
    -- not word.isalpha()
    refine ⟨_, rfl, ⟨_, rfl⟩, _, rfl, rfl, trivial, _, rfl, ?_⟩
    rw [isalpha_tok hT]
    have good : SS.okName t = true → _ := kS
    by_cases h1 : (!t.isEmpty && t.all SS.isLow) = true
    · rw [h1]
      refine iteF ?_
      refine ⟨_, rfl, _, rfl, hz, _, _, rfl, rfl, _, rfl, ?_⟩
      rw [el]
      by_cases h8 : t.length ≤ 8
      · refine iF (decide_eq_false (by omega)) ?_
        obtain ⟨t', pl', tk', q⟩ := kS (by unfold SS.okName; rw [h1]; simpa using h8)
        refine ⟨_, rfl, p, dx, _, rfl, hp, hno (by decide +kernel), p, ex, L, l, k, t, pl, t', pl', rfl, R, tk', fun H' R' b => ?_⟩
        exact ⟨_, rfl, q H' R' b⟩
      · refine iT (decide_eq_true (by omega)) ?_
        refine ⟨_, rfl, p, dx, _, rfl, hp, hno (by decide +kernel), p, ex, L, l, k, t, pl, rfl, R, hpl, kF ?_⟩
        unfold SS.okName
        rw [h1]
        simpa using h8
    · have h1' : (!t.isEmpty && t.all SS.isLow) = false := by simpa using h1
      rw [h1']
      refine iteT ?_
      refine iteT ?_
      refine ⟨_, rfl, p, dx, _, rfl, hp, hno (by decide +kernel), p, ex, L, l, k, t, pl, rfl, R, hpl, kF ?_⟩
      unfold SS.okName
      rw [h1']
      rfl
theorem ok_read_sign (T : Txt P K mg) : FnOk P w K mg base (TE.CX P w) 4 T.a_Reader_read_sign T.fd_Reader_read_sign ["self", "sign"] (spReadSign T.C_Reader T.C_te) := by
  have G_Reader_step : FnOk P w K mg base CX0 1 T.a_Reader_step T.fd_Reader_step ["self"] (spStep T.C_Reader) := ok_step T
  have G_Reader_refuse : FnOk P w K mg base (TE.CX P w) 2 T.a_Reader_refuse T.fd_Reader_refuse ["self"] (spRefuse T.C_Reader T.C_te) := ok_refuse T
  refine okT T.F_Reader_read_sign sc_Reader_read_sign (fun vs H Q E h => ?_) (fun cdv A outer s H vs Q E hr h => ?_)
  · obtain ⟨_, _, _, _, _, _, _, _, rfl, _⟩ := h
    rfl
  · obtain ⟨p, g, ex, L, l, k, t, pl, rfl, R, hpl, kS, kF⟩ := h
    obtain ⟨dx, hp, hno⟩ := R.no
    refine ⟨_, (pss_cons (ps_if (pt_cmpR op_ne (pe_fld (pv 0) rfl) (pv 1) (nomark _)) (pss_one (ps_expr (pe_meth0 (pv 0) T.cl_Reader T.m_Reader_refuse G_Reader_refuse (hr.mono (by omega)) T.b_Reader_refuse .nil (TE.passes (TE.takes_of rfl rfl rfl rfl))))) pss_nil)
      (pss_one (ps_expr (pe_meth0 (pv 0) T.cl_Reader T.m_Reader_step G_Reader_step (hr.mono (by omega)) T.b_Reader_step .nil pass0)))), ?_⟩
    refine ⟨_, rfl, p, _, _, _, _, rfl, hp, T.cl_Reader, T.n_Reader_token, fl_token, _, rfl, rfl, _, rfl, ?_⟩
    have eq : (V.str ⟨t.toArray⟩ = V.str g) ↔ t = cd g := by
      constructor
      · intro z
        have z3 := congrArg cd (V.str.inj z)
        rwa [cd_mk] at z3
      · intro z
        refine congrArg V.str (cd_inj ?_)
        rw [cd_mk, z]
    by_cases h : t = cd g
    · refine iF (by rw [decide_eq_true (eq.mpr h)]; rfl) ?_
      obtain ⟨t', pl', tk', q⟩ := kS h
      exact ⟨_, rfl, p, dx, _, rfl, hp, hno (by decide +kernel), p, ex, L, l, k, t, pl, t', pl', rfl, R, tk', fun H' R' b => q H' R' b⟩
    · refine iT (by rw [decide_eq_false (fun z => h (eq.mp z))]; rfl) ?_
      exact ⟨_, rfl, p, dx, _, rfl, hp, hno (by decide +kernel), p, ex, L, l, k, t, pl, rfl, R, hpl, kF h⟩
end
end K42
namespace K42
open PySem PySem.Spec PyProof.Rows L2 SX
/-! ### what the tokens of a text are like -/
theorem lex_last {sg z : List Nat} {i : Nat} {l : List (List Nat × Nat)} {e : Option Nat} (h : SS.Lex sg z i l e) : e = none → ∃ l' n, l = l' ++ [([], n)] ∧ ∀ x ∈ l', x.1 ≠ [] := by
  induction h with
  | done => exact fun _ => ⟨[], _, rfl, fun _ h => nomatch h⟩
  | @word v s i l e h0 h1 h2 r ih =>
    intro he
    obtain ⟨l', n, e1, e2⟩ := ih he
    exact ⟨(v, i) :: l', n, by rw [e1]; rfl, fun x hx => (List.mem_cons.mp hx).elim (fun y => by rw [y]; exact h0) (e2 x)⟩
  | @sign c s i l e h1 h2 r ih =>
    intro he
    obtain ⟨l', n, e1, e2⟩ := ih he
    exact ⟨([c], i) :: l', n, by rw [e1]; rfl, fun x hx => (List.mem_cons.mp hx).elim (fun y => by rw [y]; exact List.cons_ne_nil _ _) (e2 x)⟩
  | space h1 h2 h3 r ih => exact ih
  | bad => exact fun he => nomatch he
theorem lex_next {sg z : List Nat} {i k : Nat} {l : List (List Nat × Nat)} {t : List Nat} {pl : Nat} (h : SS.Lex sg z i l none) (hk : l[k]? = some (t, pl)) (ht : t ≠ []) : ∃ t' pl', l[k + 1]? = some (t', pl') := by
  obtain ⟨l', n, e, h'⟩ := lex_last h rfl
  have hl : k < l'.length := by
    have h1 := (List.getElem?_eq_some_iff.mp hk).1
    rw [e] at h1 hk
    simp at h1
    by_cases q : k < l'.length
    · exact q
    · have : k = l'.length := by omega
      rw [this, List.getElem?_append_right (Nat.le_refl _), Nat.sub_self] at hk
      cases hk
      exact absurd rfl ht
  have : k + 1 < l.length := by
    rw [e]
    simp
    omega
  exact ⟨l[k + 1].1, l[k + 1].2, List.getElem?_eq_getElem this⟩
theorem lex_toks {sg z : List Nat} {i : Nat} {l : List (List Nat × Nat)} {e : Option Nat} (h : SS.Lex sg z i l e) (hs : ∀ c ∈ sg, Unicode.isAlpha c = false) : ∀ x ∈ l, Tok1 x.1 ∧ x.2 + x.1.length ≤ i + z.length := by
  induction h with
  | done =>
    intro x hx
    rcases List.mem_cons.mp hx with rfl | hx
    · exact ⟨.inl rfl, by simp⟩
    · cases hx
  | @word v s i l e h0 h1 h2 r ih =>
    intro x hx
    rcases List.mem_cons.mp hx with rfl | hx
    · exact ⟨.inl (List.all_eq_true.mpr h1), by simp⟩
    · obtain ⟨a, b⟩ := ih x hx
      exact ⟨a, by simp; omega⟩
  | @sign c s i l e h1 h2 r ih =>
    intro x hx
    rcases List.mem_cons.mp hx with rfl | hx
    · exact ⟨.inr ⟨c, rfl, h1, hs c h2⟩, by simp⟩
    · obtain ⟨a, b⟩ := ih x hx
      exact ⟨a, by simp; omega⟩
  | @space c s i l e h1 h2 h3 r ih =>
    intro x hx
    obtain ⟨a, b⟩ := ih x hx
    exact ⟨a, by simp; omega⟩
  | bad => exact fun x hx => nomatch hx
theorem Fails.on {C : Addr} {H H1 : Hp} {E : XK} {m : Str} {k : Nat} (h : Fails C H E m k) (s : Same H H1) : Fails C H1 E m k := fun H' d s' e => h H' d (s.trans s') e
def spInit (C Ce : Addr) : Sp := fun vs H Q E => ∃ (p dx : Addr) (z sg : Str) (l : List (List Nat × Nat)) (e : Option Nat), vs = [.ref p, .str z, .str sg] ∧ H p = some (.ins C dx []) ∧ (cd z).length ≤ 1000000 ∧ SS.Lex (cd sg) (cd z) 0 l e ∧
  match e with
  | none => ∀ L t pl H', RdAt C [] L H' p l 0 t pl → H L = none → But p H H' → Q .non H'
  | some k => Fails Ce H E "unknown character" k
section
variable {P : Program} {w : World} {K : PySem.W.Frag} {mg : Str → Option Value} {base : Heap}
theorem ok_init (T : Txt P K mg) : FnOk P w K mg base (TE.CX P w) 4 T.a_Reader___init__ T.fd_Reader___init__ ["self", "text", "signs"] (spInit T.C_Reader T.C_te) := by
  have G_tokens_of : FnOk P w K mg base (TE.CX P w) 3 T.a_tokens_of T.fd_tokens_of ["text", "signs"] (spTokensOf T.C_te) := ok_tokens_of T
  refine okT T.F_Reader___init__ sc_Reader___init__ (fun vs H Q E h => ?_) (fun cdv A outer s H vs Q E hr h => ?_)
  · obtain ⟨_, _, _, _, _, _, rfl, _⟩ := h
    rfl
  · obtain ⟨p, dx, z, sg, l, e, rfl, hp, hz, hlex, q⟩ := h
    refine ⟨_, (pss_cons (ps_fld (pv 0) (pe_call G_tokens_of (hr.mono (by omega)) (by rfl) T.g_tokens_of T.F_tokens_of.kp T.b_tokens_of .nil (TE.passes (TE.takes_of rfl rfl rfl rfl)) (pa_cons (pv 1) (pa_cons (pv 2) pa_nil))) rfl)
      (pss_cons (ps_fld (pv 0) pe_int rfl)
      (pss_one (ps_asg (pe_ix ix_list (pe_fld (pv 0) rfl) pe_int (fun _ _ => rfl)) (pg_tup (by rfl) (pgs_cons (pg_fld (pv 0)) (pgs_cons (pg_fld (pv 0)) pgs_nil))))))), ?_⟩
    refine ⟨_, rfl, _, rfl, z, sg, l, e, rfl, hz, hlex, ?_⟩
    cases e with
    | some k => exact q
    | none =>
      intro H1 L s1 nL tL
      have npL : L ≠ p := fun x => by
        rw [x, hp] at nL
        cases nL
      refine ⟨_, rfl, p, _, dx, _, rfl, s1 _ _ hp, T.cl_Reader, T.n_Reader_tokens, by decide, ?_⟩
      refine ⟨_, rfl, p, _, dx, _, rfl, upd_same, T.cl_Reader, T.n_Reader_at, (show 1 < 1000 by decide), ?_⟩
      obtain ⟨l', n, el, -⟩ := lex_last hlex rfl
      obtain ⟨t, pl, tk⟩ : ∃ t pl, l[0]? = some (t, pl) := by
        have : 0 < l.length := by
          rw [el]
          simp
        exact ⟨l[0].1, l[0].2, List.getElem?_eq_getElem this⟩
      obtain ⟨rs, eL, hrl, hg⟩ := id tL
      have hk : 0 < rs.length := by
        have := (List.getElem?_eq_some_iff.mp tk).1
        omega
      have ht := hg 0 rs[0] _ (List.getElem?_eq_getElem hk) tk
      have npa : rs[0] ≠ p := ne_of ht (s1 _ _ hp) (by intro x; cases x)
      have ga : (rs.map V.ref)[0]? = some (.ref rs[0]) := by
        rw [List.getElem?_map, List.getElem?_eq_getElem hk]
        rfl
      have e2 : putF "at" (.int 0) (putF "tokens" (.ref L) []) = [(("tokens" : Str), V.ref L), (("at" : Str), .int 0)] := by
        simp only [putF, if_neg n1]
      rw [e2]
      have k1 : List.lookup ("tokens" : Str) [(("tokens" : Str), V.ref L), (("at" : Str), .int 0)] = some (.ref L) := by
        rw [lookup_put, if_pos rfl]
      have old : ∀ {a : Addr} {u : HO} {o o' : HO}, H1 a = some u → a ≠ p → upd (upd H1 p o) p o' a = some u := fun h hn => by
        rw [upd_ne hn, upd_ne hn]
        exact h
      refine ⟨_, rfl, p, _, _, _, _, rfl, upd_same, T.cl_Reader, T.n_Reader_tokens, k1, L, _, _, _, rfl, rfl, SqL.of (old eL npL), atI_nat ga, ?_⟩
      refine ⟨rs[0], _, rfl, SqT.of (old ht npa), rfl, tx t, _, rfl, _, rfl, p, _, dx, _, rfl, upd_same, T.cl_Reader, T.n_Reader_token, (show 2 < 1000 by decide), ?_⟩
      have e3 : putF "token" (tx t) [(("tokens" : Str), V.ref L), (("at" : Str), .int 0)] = [(("tokens" : Str), V.ref L), (("at" : Str), .int 0), (("token" : Str), tx t)] := by
        simp only [putF, if_neg n2, if_neg n4]
      rw [e3]
      refine ⟨_, _, rfl, _, rfl, p, _, dx, _, rfl, upd_same, T.cl_Reader, T.n_Reader_place, (show 3 < 1000 by decide), ?_⟩
      have e4 : putF "place" (.int (pl : Nat)) [(("tokens" : Str), V.ref L), (("at" : Str), .int 0), (("token" : Str), tx t)] = flds L 0 t pl [] := by
        simp only [putF, flds, if_neg n3, if_neg n5, if_neg n6]
        rfl
      rw [e4]
      have bt : But p H (upd (upd (upd (upd H1 p (.ins T.C_Reader dx (putF "tokens" (.ref L) []))) p (.ins T.C_Reader dx [(("tokens" : Str), V.ref L), (("at" : Str), .int 0)])) p
          (.ins T.C_Reader dx [(("tokens" : Str), V.ref L), (("at" : Str), .int 0), (("token" : Str), tx t)])) p (.ins T.C_Reader dx (flds L 0 t pl []))) := fun b o hb h => by
        rw [upd_ne hb, upd_ne hb, upd_ne hb, upd_ne hb]
        exact s1 b o h
      have bt1 : But p H1 (upd (upd (upd (upd H1 p (.ins T.C_Reader dx (putF "tokens" (.ref L) []))) p (.ins T.C_Reader dx [(("tokens" : Str), V.ref L), (("at" : Str), .int 0)])) p
          (.ins T.C_Reader dx [(("tokens" : Str), V.ref L), (("at" : Str), .int 0), (("token" : Str), tx t)])) p (.ins T.C_Reader dx (flds L 0 t pl []))) := fun b o hb h => by
        rw [upd_ne hb, upd_ne hb, upd_ne hb, upd_ne hb]
        exact h
      exact ⟨rfl, q L t pl _ ⟨⟨dx, upd_same⟩, tL.but (s1 _ _ hp) (by intro _ x; cases x) (by intro _ x; cases x) bt1, tk, Nat.zero_le _, fun _ _ => rfl⟩ nL bt⟩
end
end K42
namespace K42
open PySem PySem.Spec PyProof.Rows L2 SX
/-- what reading says of its error -/
def saysB (b : Bool) : Str := if b = true then "unexpected end" else "unexpected token"
def spReadEvents (Ce : Addr) : Sp := fun vs H Q E => ∃ (z : Str) (l : List (List Nat × Nat)) (e : Option Nat), vs = [.str z] ∧ (cd z).length ≤ 1000000 ∧ SS.Lex [40, 41] (cd z) 0 l e ∧
  match e with
  | some k => Fails Ce H E "unknown character" k
  | none => match (SS.rd l 0 false).2 with
    | none => ∀ H' p, Same H H' → H p = none → H' p = some (.lst ((SS.rd l 0 false).1.map tx)) → Q (.ref p) H'
    | some x => Fails Ce H E (saysB x.2) x.1
theorem tx_str {t : List Nat} {g : Str} : (tx t = V.str g) ↔ t = cd g := by
  constructor
  · intro z
    have z3 := congrArg cd (V.str.inj z)
    rwa [cd_mk] at z3
  · intro z
    refine congrArg V.str (cd_inj ?_)
    rw [cd_mk, z]
theorem drop_cons' {α : Type} {l : List α} {k : Nat} {x : α} (h : l[k]? = some x) : l.drop k = x :: l.drop (k + 1) := by
  obtain ⟨hk, e⟩ := List.getElem?_eq_some_iff.mp h
  rw [List.drop_eq_getElem_cons hk, e]
theorem map_more {ev : List (List Nat)} {t : List Nat} : (ev ++ [t]).map tx = ev.map tx ++ [tx t] := by rw [List.map_append]; rfl
theorem lex_len {sg z : List Nat} {i : Nat} {l : List (List Nat × Nat)} {e : Option Nat} (h : SS.Lex sg z i l e) : l.length ≤ z.length + 1 := by
  induction h with
  | done => exact Nat.le_refl _
  | @word v s i l e h0 h1 h2 r ih =>
    have := List.length_pos_iff.mpr h0
    simp
    omega
  | sign h1 h2 r ih =>
    simp
    omega
  | space h1 h2 h3 r ih =>
    simp
    omega
  | bad => exact Nat.zero_le _
theorem RdAt.upd {C : Addr} {ex : List (Str × V)} {L : Addr} {H : Hp} {p : Addr} {l : List (List Nat × Nat)} {k : Nat} {t : List Nat} {pl : Nat} (h : RdAt C ex L H p l k t pl) {y : Addr} {xs ys : List V} (hy : H y = some (.lst xs) ∨ H y = none) (h1 : L ≠ y) (h2 : p ≠ y) :
    RdAt C ex L (upd H y (.lst ys)) p l k t pl := by
  obtain ⟨⟨dx, hp⟩, ⟨rs, e, hl, hg⟩, tk, few, nom⟩ := h
  refine ⟨⟨dx, (upd_ne h2).trans hp⟩, ⟨rs, (upd_ne h1).trans e, hl, fun i a x g1 g2 => ?_⟩, tk, few, nom⟩
  have z := hg i a x g1 g2
  rw [upd_ne]
  · exact z
  · rintro rfl
    rcases hy with hy | hy
    · rw [hy] at z
      cases z
    · rw [hy] at z
      cases z
section
variable {P : Program} {w : World} {K : PySem.W.Frag} {mg : Str → Option Value} {base : Heap}
theorem ok_read_events (T : Txt P K mg) : FnOk P w K mg base (TE.CX P w) 6 T.a_read_events T.fd_read_events ["text"] (spReadEvents T.C_te) := by
  have G_Reader___init__ : FnOk P w K mg base (TE.CX P w) 4 T.a_Reader___init__ T.fd_Reader___init__ ["self", "text", "signs"] (spInit T.C_Reader T.C_te) := ok_init T
  have G_Reader_step : FnOk P w K mg base CX0 1 T.a_Reader_step T.fd_Reader_step ["self"] (spStep T.C_Reader) := ok_step T
  have G_Reader_refuse : FnOk P w K mg base (TE.CX P w) 2 T.a_Reader_refuse T.fd_Reader_refuse ["self"] (spRefuse T.C_Reader T.C_te) := ok_refuse T
  have G_Reader_read_name : FnOk P w K mg base (TE.CX P w) 4 T.a_Reader_read_name T.fd_Reader_read_name ["self"] (spReadName T.C_Reader T.C_te) := ok_read_name T
  have G_Reader_read_sign : FnOk P w K mg base (TE.CX P w) 4 T.a_Reader_read_sign T.fd_Reader_read_sign ["self", "sign"] (spReadSign T.C_Reader T.C_te) := ok_read_sign T
  refine okT T.F_read_events sc_read_events (fun vs H Q E h => ?_) (fun cdv A outer s H vs Q E hr h => ?_)
  · obtain ⟨_, _, _, rfl, _⟩ := h
    rfl
  · obtain ⟨z, l, e, rfl, hz, hlex, q⟩ := h
    have eg : cd ("()" : Str) = [40, 41] := by decide +kernel
    have toks := lex_toks hlex (by decide +kernel)
    refine ⟨_, (pss_cons (ps_set (i := 1) sc_read_events.nd rfl (by first | exact Or.inl rfl | exact Or.inr rfl) (pe_make T.M_Reader G_Reader___init__ (hr.mono (by omega)) (by rfl) T.g_Reader T.b_Reader___init__ .nil (TE.passes (TE.takes_of rfl rfl rfl rfl)) (pa_cons (pv 0) (pa_cons pe_str pa_nil))))
      (pss_cons (ps_set (i := 2) sc_read_events.nd rfl (by first | exact Or.inl rfl | exact Or.inr rfl) (pe_lst pa_nil))
      (pss_cons (ps_set (i := 3) sc_read_events.nd rfl (by first | exact Or.inl rfl | exact Or.inr rfl) pe_int)
      (pss_cons (ps_while PassesOwn.leaving (pt_cmpR op_ne (pe_fld (pv 1) rfl) pe_str (nomark _)) (pss_cons (ps_if (PW.pt (pw_and (pt_truth (pv 2) (by intro _; rfl)) (pw_and1 (pt_cmpR op_eq (pv 3) pe_int (nomark _))))) (pss_one (ps_expr (pe_meth0 (pv 1) T.cl_Reader T.m_Reader_refuse G_Reader_refuse (hr.mono (by omega)) T.b_Reader_refuse .nil (TE.passes (TE.takes_of rfl rfl rfl rfl))))) pss_nil)
      (pss_one (ps_if (PW.pt (pw_and (pt_cmpR op_eq (pe_fld (pv 1) rfl) pe_str (nomark _)) (pw_and1 (pt_cmpR op_gt (pv 3) pe_int (nomark _))))) (pss_cons (ps_expr (pe_meth0 (pv 1) T.cl_Reader T.m_Reader_step G_Reader_step (hr.mono (by omega)) T.b_Reader_step .nil pass0))
      (pss_cons (ps_expr (pe_bm PySem.F.plainAttrs_list PySem.F.slot_list_append PySem.F.type_list_append mt_append (pv 2) (pa_cons pe_str pa_nil)))
      (pss_one (ps_aug (i := 3) sc_read_events.nd rfl (by first | exact Or.inl rfl | exact Or.inr rfl) pe_int ip_sub)))) (pss_cons (ps_expr (pe_bm PySem.F.plainAttrs_list PySem.F.slot_list_append PySem.F.type_list_append mt_append (pv 2) (pa_cons (pe_meth0 (pv 1) T.cl_Reader T.m_Reader_read_name G_Reader_read_name (hr.mono (by omega)) T.b_Reader_read_name .nil (TE.passes (TE.takes_of rfl rfl rfl rfl))) pa_nil)))
      (pss_cons (ps_expr (pe_meth (pv 1) T.cl_Reader T.m_Reader_read_sign G_Reader_read_sign (hr.mono (by omega)) T.b_Reader_read_sign .nil (TE.passes (TE.takes_of rfl rfl rfl rfl)) (pa_cons pe_str pa_nil)))
      (pss_one (ps_aug (i := 3) sc_read_events.nd rfl (by first | exact Or.inl rfl | exact Or.inr rfl) pe_int ip_add))))))))
      (pss_one (ps_ret (pv 2))))))), ?_⟩
    -- reader = Reader(text, '()')
    refine ⟨_, rfl, fun R dx nR ndx hne => ⟨R, dx, z, "()", l, e, rfl, upd_same, hz, by rw [eg]; exact hlex, ?_⟩⟩
    have s0 : Same H (upd (upd H dx (.own R)) R (.ins T.C_Reader dx [])) := fun b o h => by
      rw [upd_ne (ne_of_none h nR), upd_ne (ne_of_none h ndx)]
      exact h
    cases e with
    | some k => exact Fails.on q s0
    | none =>
      intro L t0 pl0 H1 R1 nL b1
      refine ⟨rfl, ?_⟩
      have s1 : Same H H1 := fun b o h => b1 b o (ne_of_none h nR) (s0 b o h)
      -- events = []; depth = 0
      refine ⟨Nat.zero_le _, fun Y nY => ?_⟩
      obtain ⟨dx1, hp1⟩ := R1.ob
      obtain ⟨rs1, hL1, -⟩ := id R1.tl
      have nRY : R ≠ Y := ne_of_none hp1 nY
      have nLY : L ≠ Y := ne_of_none hL1 nY
      have nHY : H Y = none := by
        cases h : H Y with
        | none => rfl
        | some o =>
          rw [s1 Y o h] at nY
          cases nY
      have sizeL : ∀ {n : Nat}, n ≤ l.length → n < sizeLine := fun h => by
        have := lex_len hlex
        rw [sizeLine_eq]
        omega
      refine ⟨fun m σ H' => ∃ (k : Nat) (t : List Nat) (pl d : Nat) (ev : List (List Nat)), σ = [some (.str z), some (.ref R), some (.ref Y), some (.int (d : Nat))] ∧ RdAt T.C_Reader [] L H' R l k t pl ∧ H' Y = some (.lst (ev.map tx)) ∧ Same H H' ∧
          ev.length ≤ k ∧ k + m = l.length ∧ SS.rd l 0 false = (ev ++ (SS.rd (l.drop k) d (!(ev.map tx).isEmpty)).1, (SS.rd (l.drop k) d (!(ev.map tx).isEmpty)).2),
        ⟨l.length, 0, t0, pl0, 0, [], rfl, R1.upd (xs := []) (.inr nY) nLY nRY, upd_same, s1.trans (same_upd nY), Nat.zero_le _, by omega, rfl⟩, ?_⟩
      rintro m σ H' ⟨k, t, pl, d, ev, rfl, J, eY, sm, hev, hm, hrd⟩
      obtain ⟨dx, hp, hno⟩ := J.no
      have tk := J.tk
      have hk : k < l.length := (List.getElem?_eq_some_iff.mp tk).1
      obtain ⟨hT, hpl⟩ := toks _ (List.mem_of_getElem? tk)
      have hpl : pl + t.length ≤ 1000000 := by
        have : pl + t.length ≤ 0 + (cd z).length := hpl
        omega
      have ed : l.drop k = (t, pl) :: l.drop (k + 1) := drop_cons' tk
      rw [ed, SS.rd_eq] at hrd
      have e0 : cd ("" : Str) = [] := by decide +kernel
      -- while reader.token != ''
      refine ⟨_, rfl, R, _, _, _, _, rfl, hp, T.cl_Reader, T.n_Reader_token, fl_token, rfl, _, rfl, ?_⟩
      by_cases ht : t = []
      · refine iF (by rw [decide_eq_true (tx_str.mpr (ht.trans e0.symm))]; rfl) ?_
        rw [if_pos ht] at hrd
        rw [List.append_nil] at hrd
        have q2 : ∀ H' p, Same H H' → H p = none → H' p = some (.lst ((SS.rd l 0 false).1.map tx)) → Q (.ref p) H' := by
          have q' := q
          rw [hrd] at q'
          rw [hrd]
          exact q'
        refine ⟨_, rfl, q2 _ Y sm nHY ?_⟩
        rw [hrd]
        exact eY
      · refine iT (by rw [decide_eq_false (fun h => ht ((tx_str.mp h).trans e0))]; rfl) ?_
        rw [if_neg ht] at hrd
        obtain ⟨t', pl', tk'⟩ := lex_next hlex tk ht
        refine ⟨fun σ' H'' => ∃ (k' : Nat) (t : List Nat) (pl d : Nat) (ev : List (List Nat)), σ' = [some (.str z), some (.ref R), some (.ref Y), some (.int (d : Nat))] ∧ RdAt T.C_Reader [] L H'' R l k' t pl ∧ H'' Y = some (.lst (ev.map tx)) ∧ Same H H'' ∧
            ev.length ≤ k' ∧ k < k' ∧ SS.rd l 0 false = (ev ++ (SS.rd (l.drop k') d (!(ev.map tx).isEmpty)).1, (SS.rd (l.drop k') d (!(ev.map tx).isEmpty)).2), ?_, ?_⟩
        · rintro σ' H'' ⟨k', t, pl, d, ev, e1, J', eY', sm', hev', hkk, hrd'⟩
          have := (List.getElem?_eq_some_iff.mp J'.tk).1
          exact ⟨l.length - k', by omega, k', t, pl, d, ev, e1, J', eY', sm', hev', by omega, hrd'⟩
        have bad : ∀ (H2 : Hp), Same H H2 → (SS.rd l 0 false).2 = some (pl, false) → Fails T.C_te H2 E (saysOf t) pl := fun H2 s2 h => by
          have q' := q
          rw [h] at q'
          have e1 : saysOf t = "unexpected token" := if_neg ht
          rw [e1]
          exact Fails.on q' s2
        -- if events and depth == 0: reader.refuse()
        refine ⟨_, rfl, !(ev.map tx).isEmpty, .inl ⟨_, SqL.of eY, rfl⟩, ?_⟩
        have refuse : (!(ev.map tx).isEmpty) = true ∧ d = 0 → Fails T.C_te H' E (saysOf t) pl := fun h => by
          rw [if_pos h] at hrd
          exact bad H' sm (by rw [hrd])
        refine (fun (second : ¬ ((!(ev.map tx).isEmpty) = true ∧ d = 0) → ?X) => ?main) ?sec
        case main =>
          by_cases hb : (!(ev.map tx).isEmpty) = true
          · refine iT hb ?_
            refine ⟨_, rfl, rfl, _, rfl, ?_⟩
            by_cases hd : d = 0
            · refine iT (decide_eq_true (by rw [hd]; rfl)) ?_
              exact ⟨_, rfl, R, dx, _, rfl, hp, hno (by decide +kernel), R, [], L, l, k, t, pl, rfl, J, by omega, refuse ⟨hb, hd⟩⟩
            · refine iF (decide_eq_false fun h => hd ?_) ?_
              · have := V.int.inj h
                omega
              · exact second fun h => hd h.2
          · refine iF (by simpa using hb) ?_
            refine iteF ?_
            exact second fun h => hb h.1
        case sec =>
          intro hnot
          rw [if_neg hnot] at hrd
          have e41 : cd (")" : Str) = [41] := by decide +kernel
          have e40 : cd ("(" : Str) = [40] := by decide +kernel
          have grown : ∀ x : List Nat, (!((ev ++ [x]).map tx).isEmpty) = true := fun x => by simp
          have room : (ev.map tx).length < sizeLine := by
            rw [List.length_map]
            exact sizeL (by omega)
          have keepY : ∀ {H2 : Hp}, But R H' H2 → H2 Y = some (.lst (ev.map tx)) := fun b => b _ _ (Ne.symm nRY) eY
          have keepS : ∀ {H2 : Hp}, But R H' H2 → Same H H2 := fun b x o h => b _ _ (ne_of_none h nR) (sm x o h)
          have putS : ∀ {H2 : Hp} {o : HO}, Same H H2 → Same H (upd H2 Y o) := fun s x o h => by
            rw [upd_ne (ne_of_none h nHY)]
            exact s x o h
          refine ⟨_, rfl, R, _, _, _, _, rfl, hp, T.cl_Reader, T.n_Reader_token, fl_token, rfl, _, rfl, ?_⟩
          refine (fun (name : ¬ (t = [41] ∧ 0 < d) → ?Z) => ?main2) ?sec2
          case main2 =>
            by_cases h41 : t = [41]
            · refine iT (decide_eq_true (tx_str.mpr (h41.trans e41.symm))) ?_
              refine ⟨_, rfl, _, _, rfl, rfl, _, rfl, ?_⟩
              by_cases hd : 0 < d
              · refine iT (decide_eq_true (by omega)) ?_
                rw [if_pos ⟨h41, hd⟩] at hrd
                refine ⟨_, rfl, R, dx, _, rfl, hp, hno (by decide +kernel), R, [], L, l, k, t, pl, t', pl', rfl, J, tk', fun H2 J2 b2 => ?_⟩
                have eY2 := keepY b2
                refine ⟨_, rfl, .inl ⟨rfl, _, SqL.of eY2⟩, Y, _, _, rfl, rfl, eY2, room, ?_⟩
                refine ⟨_, rfl, _, _, rfl, rfl, k + 1, t', pl', d - 1, ev ++ [[41]], ?_, J2.upd (.inl eY2) nLY nRY, ?_, putS (keepS b2), by simp; omega, by omega, ?_⟩
                · show [some (V.str z), some (V.ref R), some (V.ref Y), some (V.int ((d : Int) - 1))] = _
                  rw [show ((d : Int) - 1) = ((d - 1 : Nat) : Int) by omega]
                · have e2 : (V.str ")") = tx [41] := (tx_str.mpr e41.symm).symm
                  rw [upd_same, map_more, e2]
                · rw [grown, hrd, List.append_assoc]
                  rfl
              · refine iF (decide_eq_false (by omega)) ?_
                exact name fun h => hd h.2
            · refine iF (decide_eq_false fun h => h41 ((tx_str.mp h).trans e41)) ?_
              refine iteF ?_
              exact name fun h => h41 h.1
          case sec2 =>
            intro hn2
            rw [if_neg hn2] at hrd
            refine ⟨_, rfl, .inl ⟨rfl, _, SqL.of eY⟩, _, rfl, R, dx, _, rfl, hp, hno (by decide +kernel), R, [], L, l, k, t, pl, rfl, J, by omega, by omega, hT, fun hok => ?_, fun hok => ?_⟩
            · rw [if_pos hok] at hrd
              refine ⟨t', pl', tk', fun H2 J2 b2 => ?_⟩
              have eY2 := keepY b2
              refine ⟨Y, _, _, rfl, rfl, eY2, room, ?_⟩
              have J3 := J2.upd (ys := (ev ++ [t]).map tx) (.inl eY2) nLY nRY
              rw [map_more] at J3
              obtain ⟨dx3, hp3, hno3⟩ := J3.no
              have ed2 : l.drop (k + 1) = (t', pl') :: l.drop (k + 1 + 1) := drop_cons' tk'
              rw [ed2] at hrd
              have s3 := putS (o := .lst (ev.map tx ++ [tx t])) (keepS b2)
              refine ⟨_, rfl, R, dx3, _, rfl, hp3, hno3 (by decide +kernel), R, "(", [], L, l, k + 1, t', pl', rfl, J3, ?_, fun h4 => ?_, fun h4 => ?_⟩
              · have := (toks _ (List.mem_of_getElem? tk')).2
                have : pl' + t'.length ≤ 0 + (cd z).length := this
                omega
              · rw [e40] at h4
                obtain ⟨t2, pl2, tk2⟩ := lex_next hlex tk' (by rw [h4]; exact List.cons_ne_nil _ _)
                refine ⟨t2, pl2, tk2, fun H4 J4 b4 => ?_⟩
                dsimp only at hrd
                rw [if_pos h4] at hrd
                refine ⟨_, rfl, _, _, rfl, rfl, k + 1 + 1, t2, pl2, d + 1, ev ++ [t], rfl, J4, ?_, fun x o h => b4 _ _ (ne_of_none h nR) (s3 x o h), by simp; omega, by omega, ?_⟩
                · rw [map_more]
                  exact b4 _ _ (Ne.symm nRY) upd_same
                · rw [grown, hrd, List.append_assoc]
                  rfl
              · dsimp only at hrd
                rw [e40] at h4
                rw [if_neg h4] at hrd
                have q' := q
                rw [hrd] at q'
                have e1 : saysB (decide (t' = [])) = saysOf t' := by
                  unfold saysB saysOf
                  by_cases h5 : t' = []
                  · rw [if_pos h5, decide_eq_true h5]
                    rfl
                  · rw [if_neg h5, decide_eq_false h5]
                    rfl
                rw [← e1]
                exact Fails.on q' s3
            · rw [if_neg (by rw [hok]; exact Bool.false_ne_true)] at hrd
              exact bad H' sm (by rw [hrd])
end
end K42
namespace K42
open PySem PySem.Spec PyProof.Rows L2 SX
/-! ### the law's draws: any number below the bound may come -/
structure DrawAt (H : Hp) (d sc : Addr) : Prop where
  ex : ∃ (ns : List Int) (i : Nat) (b s : Int), H d = some (.lst [.ref sc, .int (i : Nat), .int b, .int s]) ∧ H sc = some (.lst (ns.map V.int)) ∧ sc ≠ d ∧ ns.length ≤ 63 ∧ 0 ≤ b ∧ 0 ≤ s ∧ s < 2147483648
def spDraw (K : PySem.W.Frag) : Sp := fun vs H Q _ => ∃ (a : Addr) (ns : List Int), vs = [.ref a] ∧ SqL K H a (ns.map V.int) ∧ ns.length ≤ 63 ∧ ∀ H' d sc, Same H H' → H d = none → H sc = none → DrawAt H' d sc → Q (.ref d) H'
def spNext : Sp := fun vs H Q _ => ∃ (d sc : Addr) (many : Nat), vs = [.ref d, .int (many : Nat)] ∧ DrawAt H d sc ∧ 0 < many ∧ many ≤ 1000000 ∧ ∀ (r : Nat) H', r < many → DrawAt H' d sc → But d H H' → Q (.int (r : Nat)) H'
section
variable {P : Program} {w : World} {K : PySem.W.Frag} {mg : Str → Option Value} {base : Heap}
theorem ok_draw (T : Txt P K mg) : FnOk P w K mg base CX0 1 T.a_law_draw T.fd_law_draw ["script"] (spDraw K) := by
  refine T.F_law_draw.ok sc_law_draw (fun vs H Q E h => ?_) (fun cdv A outer s H vs Q E hr h => ?_)
  · obtain ⟨_, _, rfl, _⟩ := h
    rfl
  · obtain ⟨a, ns, rfl, hS, hn, q⟩ := h
    refine ⟨_, (pss_one (ps_ret (pe_lst (pa_cons (pe_callTy call_list_of (by rfl) T.n_list (by decide +kernel) (pa_cons (pv 0) pa_nil)) (pa_cons pe_int (pa_cons pe_int (pa_cons pe_int pa_nil))))))), ?_⟩
    refine ⟨_, rfl, a, _, rfl, .inl hS, fun sc nsc => ⟨small (show 4 ≤ 1100000 by decide), fun d nd => ?_⟩⟩
    have ne : sc ≠ d := ne_of_none upd_same nd
    have s1 : Same H (upd H sc (.lst (ns.map V.int))) := same_upd nsc
    have nHd : H d = none := by
      rw [upd_ne ne.symm] at nd
      exact nd
    refine q _ d sc (s1.trans (same_upd nd)) nHd nsc ⟨ns, 0, 0, 17, upd_same, (upd_ne ne).trans upd_same, ne, hn, by decide, by decide, by decide⟩
theorem mod_nat {x : Int} {m : Nat} (h : 0 < m) : ∃ r : Nat, r < m ∧ x.fmod (m : Int) = (r : Nat) := by
  have h1 : 0 ≤ x.fmod (m : Int) := Int.fmod_nonneg_of_pos x (by omega)
  have h2 : x.fmod (m : Int) < m := Int.fmod_lt_of_pos x (by omega)
  exact ⟨(x.fmod m).toNat, by omega, by omega⟩
theorem div_nn {x : Int} {m : Nat} (h : 0 < m) (hx : 0 ≤ x) : 0 ≤ x.fdiv (m : Int) := Int.fdiv_nonneg hx (by omega)
theorem at4 {α : Type} (a b c d : α) : atI [a, b, c, d] 0 = some a ∧ atI [a, b, c, d] 1 = some b ∧ atI [a, b, c, d] 2 = some c ∧ atI [a, b, c, d] 3 = some d := ⟨rfl, rfl, rfl, rfl⟩
theorem ok_next (T : Txt P K mg) : FnOk P w K mg base CX0 1 T.a_law_next T.fd_law_next ["draw", "many"] spNext := by
  refine T.F_law_next.ok sc_law_next (fun vs H Q E h => ?_) (fun cdv A outer s H vs Q E hr h => ?_)
  · obtain ⟨_, _, _, rfl, _⟩ := h
    rfl
  · obtain ⟨d, sc, m, rfl, ⟨ns, i, b, sd, hd, hsc, nsd, hn, hb, hs0, hs1⟩, hm0, hm1, q⟩ := h
    refine ⟨_, (pss_cons (ps_if (pt_cmpR op_gt (pe_ix ix_list (pv 0) pe_int (fun _ _ => rfl)) pe_int (nomark _)) (pss_cons (ps_set (i := 2) sc_law_next.nd rfl (by first | exact Or.inl rfl | exact Or.inr rfl) (pe_op op_modN (pe_callTy call_int1 (by rfl) T.n_int (by decide +kernel) (pa_cons (pe_ix ix_list (pv 0) pe_int (fun _ _ => rfl)) pa_nil)) (pv 1)))
      (pss_cons (ps_asg (pe_op op_fdivN (pe_ix ix_list (pv 0) pe_int (fun _ _ => rfl)) (pv 1)) (pg_sub (pv 0) pe_int set_list))
      (pss_one (ps_ret (pv 2))))) pss_nil)
      (pss_cons (ps_if (pt_cmpR op_lt (pe_ix ix_list (pv 0) pe_int (fun _ _ => rfl)) (pe_callB call_len (by rfl) T.n_len boot_len (pa_cons (pe_ix ix_list (pv 0) pe_int (fun _ _ => rfl)) pa_nil)) (nomark _)) (pss_cons (ps_set (i := 3) sc_law_next.nd rfl (by first | exact Or.inl rfl | exact Or.inr rfl) (pe_callB call_abs (by rfl) T.n_abs (by decide +kernel) (pa_cons (pe_ix ix_seq (pe_ix ix_list (pv 0) pe_int (fun _ _ => rfl)) (pe_ix ix_list (pv 0) pe_int (fun _ _ => rfl)) (fun _ _ => rfl)) pa_nil)))
      (pss_cons (ps_asg (pe_op op_add (pe_ix ix_list (pv 0) pe_int (fun _ _ => rfl)) pe_int) (pg_sub (pv 0) pe_int set_list))
      (pss_cons (ps_if (pt_cmpR op_ge (pv 3) (pe_op op_pow pe_int pe_int) (nomark _)) (pss_cons (ps_asg (pe_op op_fdivN (pv 3) (pv 1)) (pg_sub (pv 0) pe_int set_list))
      (pss_one (ps_ret (pe_op op_modN (pe_callTy call_int1 (by rfl) T.n_int (by decide +kernel) (pa_cons (pv 3) pa_nil)) (pv 1))))) pss_nil)
      (pss_one (ps_asg (pe_op op_modN (pe_callTy call_int1 (by rfl) T.n_int (by decide +kernel) (pa_cons (pe_op op_add (pe_op op_add (pe_op op_mul (pe_ix ix_list (pv 0) pe_int (fun _ _ => rfl)) pe_int) (pv 3)) pe_int) pa_nil)) pe_int) (pg_sub (pv 0) pe_int set_list)))))) (pss_one (ps_asg (pe_op op_modN (pe_callTy call_int1 (by rfl) T.n_int (by decide +kernel) (pa_cons (pe_op op_add (pe_op op_mul (pe_ix ix_list (pv 0) pe_int (fun _ _ => rfl)) pe_int) pe_int) pa_nil)) pe_int) (pg_sub (pv 0) pe_int set_list))))
      (pss_one (ps_ret (pe_op op_modN (pe_op op_fdivN (pe_callTy call_int1 (by rfl) T.n_int (by decide +kernel) (pa_cons (pe_op op_modN (pe_op op_mul (pe_ix ix_list (pv 0) pe_int (fun _ _ => rfl)) pe_int) pe_int) pa_nil)) pe_int) (pv 1)))))), ?_⟩
    have j0 : (m : Int) ≠ 0 := by omega
    have jd : (m : Int) ≠ 0 ∧ (m : Int).natAbs < 1073741824 := ⟨j0, by omega⟩
    -- if draw[2] > 0
    refine ⟨_, rfl, d, _, _, _, rfl, rfl, SqL.of hd, rfl, _, _, rfl, rfl, _, rfl, ?_⟩
    by_cases hb0 : 0 < b
    · refine iT (decide_eq_true hb0) ?_
      refine ⟨_, rfl, d, _, _, _, rfl, rfl, SqL.of hd, rfl, .inl ⟨_, rfl, _, rfl, _, _, rfl, rfl, j0, ?_⟩⟩
      refine ⟨_, rfl, d, _, _, _, rfl, rfl, SqL.of hd, rfl, _, rfl, _, _, rfl, rfl, jd, _, rfl, d, _, _, 2, rfl, rfl, hd, rfl, ?_⟩
      obtain ⟨r, hr1, er⟩ := mod_nat (x := b) hm0
      have qq := q r (upd H d (.lst [.ref sc, .int (i : Nat), .int (b.fmod (m : Int) * 0 + b.fdiv (m : Int)), .int sd])) hr1 ⟨ns, i, _, sd, upd_same, (upd_ne nsd).trans hsc, nsd, hn, by rw [Int.mul_zero, Int.zero_add]; exact div_nn hm0 hb, hs0, hs1⟩ fun x o hx h => (upd_ne hx).trans h
      rw [← er, Int.mul_zero, Int.zero_add] at qq
      exact ⟨_, rfl, qq⟩
    · refine iF (decide_eq_false hb0) ?_
      -- if draw[1] < len(draw[0])
      refine ⟨_, rfl, d, _, _, _, rfl, rfl, SqL.of hd, rfl, _, rfl, d, _, _, _, rfl, rfl, SqL.of hd, rfl, _, _, rfl, .inl ⟨_, SqL.of hsc, rfl⟩, _, _, rfl, rfl, _, rfl, ?_⟩
      have last : ∀ {s' : Int}, 0 ≤ s' → s' < 2147483648 → ∃ r : Nat, r < m ∧ (((s' * 69621).fmod 2147483629).fdiv 7).fmod (m : Int) = (r : Nat) := fun _ _ => mod_nat hm0
      have big : ∀ x : Int, 0 ≤ x.fmod 2147483647 ∧ x.fmod 2147483647 < 2147483648 := fun x => by
        have h1 := Int.fmod_nonneg_of_pos x (show (0 : Int) < 2147483647 by decide)
        have h2 := Int.fmod_lt_of_pos x (show (0 : Int) < 2147483647 by decide)
        omega
      have fits : ∀ {s' : Int}, 0 ≤ s' → s' < 2147483648 → -(2 ^ 64) < s' ∧ s' < 2 ^ 64 := fun h1 h2 => by
        constructor <;> omega
      by_cases hi : i < ns.length
      · refine iT (decide_eq_true (by rw [List.length_map]; omega)) ?_
        have ga : (ns.map V.int)[i]? = some (.int ns[i]) := by
          rw [List.getElem?_map, List.getElem?_eq_getElem hi]
          rfl
        -- cell = abs(draw[0][draw[1]])
        refine ⟨_, rfl, d, _, _, _, rfl, rfl, SqL.of hd, rfl, _, rfl, d, _, _, _, rfl, rfl, SqL.of hd, rfl, .inl ⟨sc, _, _, _, rfl, rfl, SqL.of hsc, atI_nat ga, _, rfl, ?_⟩⟩
        have hc0 : 0 ≤ (if ns[i] < 0 then -ns[i] else ns[i]) := by split <;> omega
        generalize (if ns[i] < 0 then -ns[i] else ns[i]) = c at hc0
        -- draw[1] = draw[1] + 1
        refine ⟨_, rfl, d, _, _, _, rfl, rfl, SqL.of hd, rfl, _, _, rfl, rfl, _, rfl, d, _, _, 1, rfl, rfl, hd, rfl, ?_⟩
        have sc1 : ∀ {o : HO}, upd H d o sc = some (.lst (ns.map V.int)) := fun {o} => (upd_ne nsd).trans hsc
        have e1 : ∀ {o : HO}, upd H d o d = some o := fun {o} => upd_same
        -- if cell >= 10 ** 18
        refine ⟨_, rfl, _, _, rfl, rfl, ⟨by decide, by decide, by decide⟩, _, _, rfl, rfl, _, rfl, ?_⟩
        refine ite2 (fun _ => ?_) (fun _ => ?_)
        · refine ⟨_, rfl, _, rfl, _, _, rfl, rfl, jd, _, rfl, d, _, _, 2, rfl, rfl, e1, rfl, ?_⟩
          obtain ⟨r, hr1, er⟩ := mod_nat (x := c) hm0
          have qq := q r (upd (upd H d (.lst [.ref sc, .int ((i : Int) + 1), .int b, .int sd])) d (.lst [.ref sc, .int ((i : Int) + 1), .int (c.fdiv (m : Int)), .int sd])) hr1 ⟨ns, i + 1, _, sd, upd_same, (upd_ne nsd).trans sc1, nsd, hn, div_nn hm0 hc0, hs0, hs1⟩
            fun x o hx h => (upd_ne hx).trans ((upd_ne hx).trans h)
          rw [← er] at qq
          exact ⟨_, rfl, .inl ⟨_, rfl, _, rfl, _, _, rfl, rfl, j0, qq⟩⟩
        · refine ⟨_, rfl, d, _, _, _, rfl, rfl, SqL.of e1, rfl, _, _, rfl, rfl, .inl (fits hs0 hs1), _, rfl, _, _, rfl, rfl, _, _, rfl, rfl, .inl ⟨_, rfl, _, _, rfl, rfl, (show (2147483647 : Int) ≠ 0 by decide), _, rfl, d, _, _, 3, rfl, rfl, e1, rfl, ?_⟩⟩
          obtain ⟨b1, b2⟩ := big (sd * 48271 + c + 11)
          obtain ⟨r, hr1, er⟩ := last b1 b2
          have qq := q r (upd (upd H d (.lst [.ref sc, .int ((i : Int) + 1), .int b, .int sd])) d (.lst [.ref sc, .int ((i : Int) + 1), .int b, .int ((sd * 48271 + c + 11).fmod 2147483647)])) hr1 ⟨ns, i + 1, _, _, upd_same, (upd_ne nsd).trans sc1, nsd, hn, hb, b1, b2⟩
            fun x o hx h => (upd_ne hx).trans ((upd_ne hx).trans h)
          rw [← er] at qq
          exact ⟨_, rfl, d, _, _, _, rfl, rfl, SqL.of upd_same, rfl, _, _, rfl, rfl, .inl (fits b1 b2), _, _, rfl, rfl, (show (2147483629 : Int) ≠ 0 by decide), .inl ⟨_, rfl, _, _, rfl, rfl, (show (7 : Int) ≠ 0 ∧ (7 : Int).natAbs < 1073741824 from ⟨by decide, by decide⟩), _, rfl, _, _, rfl, rfl, j0, qq⟩⟩
      · refine iF (decide_eq_false (by rw [List.length_map]; omega)) ?_
        have e1 : ∀ {o : HO}, upd H d o d = some o := fun {o} => upd_same
        refine ⟨_, rfl, d, _, _, _, rfl, rfl, SqL.of hd, rfl, _, _, rfl, rfl, .inl (fits hs0 hs1), _, _, rfl, rfl, .inl ⟨_, rfl, _, _, rfl, rfl, (show (2147483647 : Int) ≠ 0 by decide), _, rfl, d, _, _, 3, rfl, rfl, hd, rfl, ?_⟩⟩
        obtain ⟨b1, b2⟩ := big (sd * 48271 + 12345)
        obtain ⟨r, hr1, er⟩ := last b1 b2
        have qq := q r (upd H d (.lst [.ref sc, .int (i : Nat), .int b, .int ((sd * 48271 + 12345).fmod 2147483647)])) hr1 ⟨ns, i, _, _, upd_same, (upd_ne nsd).trans hsc, nsd, hn, hb, b1, b2⟩ fun x o hx h => (upd_ne hx).trans h
        rw [← er] at qq
        exact ⟨_, rfl, d, _, _, _, rfl, rfl, SqL.of upd_same, rfl, _, _, rfl, rfl, .inl (fits b1 b2), _, _, rfl, rfl, (show (2147483629 : Int) ≠ 0 by decide), .inl ⟨_, rfl, _, _, rfl, rfl, (show (7 : Int) ≠ 0 ∧ (7 : Int).natAbs < 1073741824 from ⟨by decide, by decide⟩), _, rfl, _, _, rfl, rfl, j0, qq⟩⟩
end
end K42
namespace K42
open PySem PySem.Spec PyProof.Rows L2 SX
/-! ### _law_same: the same data at both is told the same -/
/-- x holds the data D, at most n - 1 sequences deep -/
inductive Da (H : Hp) : Nat → V → PyData → Prop
  | non {n : Nat} : Da H (n + 1) .non .none
  | bl {n : Nat} (b : Bool) : Da H (n + 1) (.bl b) (.bool b)
  | int {n : Nat} (i : Int) : Da H (n + 1) (.int i) (.int i)
  | str {n : Nat} (x : Str) : Da H (n + 1) (.str x) (.str x)
  | lst {n : Nat} {a : Addr} {xs : List V} {ds : List PyData} (e : H a = some (.lst xs)) (hl : xs.length = ds.length) (hz : xs.length ≤ 1000000) (h : ∀ (i : Nat) (v : V) (d : PyData), xs[i]? = some v → ds[i]? = some d → Da H n v d) : Da H (n + 1) (.ref a) (.list ds)
  | tup {n : Nat} {a : Addr} {xs : List V} {ds : List PyData} (e : H a = some (.tup xs)) (hl : xs.length = ds.length) (hz : xs.length ≤ 1000000) (h : ∀ (i : Nat) (v : V) (d : PyData), xs[i]? = some v → ds[i]? = some d → Da H n v d) : Da H (n + 1) (.ref a) (.tuple ds)
theorem Da.same {H H' : Hp} (s : Same H H') : ∀ {n : Nat} {x : V} {D : PyData}, Da H n x D → Da H' n x D := by
  intro n x D h
  induction h with
  | non => exact .non
  | bl b => exact .bl b
  | int i => exact .int i
  | str x => exact .str x
  | lst e hl hz _ ih => exact .lst (s _ _ e) hl hz fun i v d h1 h2 => ih i v d h1 h2
  | tup e hl hz _ ih => exact .tup (s _ _ e) hl hz fun i v d h1 h2 => ih i v d h1 h2
def tyName : PyData → String
  | .none => "NoneType"
  | .bool _ => "bool"
  | .int _ => "int"
  | .str _ => "str"
  | .list _ => "list"
  | .tuple _ => "tuple"
  | .dict _ => "dict"
theorem Da.tyx {K : PySem.W.Frag} {H : Hp} {n : Nat} {x : V} {D : PyData} (h : Da H n x D) : TyX K H x (.type (tyName D)) := by
  cases h with
  | non => exact .base .non
  | bl b => exact .base (.bl b)
  | int i => exact .base (.int i)
  | str x => exact .base (.str x)
  | lst e => exact .base (.lst e)
  | tup e => exact .base (.tup e)
def isLst : PyData → Bool | .list _ => true | _ => false
def isTup : PyData → Bool | .tuple _ => true | _ => false
def isBool : PyData → Bool | .bool _ => true | _ => false
def isStr : PyData → Bool | .str _ => true | _ => false
def isInt : PyData → Bool | .int _ => true | .bool _ => true | _ => false
section
variable {K : PySem.W.Frag} (D : PyData)
theorem kit_l : PySem.W.kitOne K (.type (tyName D)) (.type "list") = some (isLst D) := by
  cases D with
  | none => exact kit_ty (show kitB "NoneType" "list" = some false by decide +kernel)
  | bool _ => exact kit_ty (show kitB "bool" "list" = some false by decide +kernel)
  | int _ => exact kit_ty (show kitB "int" "list" = some false by decide +kernel)
  | str _ => exact kit_ty (show kitB "str" "list" = some false by decide +kernel)
  | list _ => exact kit_ty (show kitB "list" "list" = some true by decide +kernel)
  | tuple _ => exact kit_ty (show kitB "tuple" "list" = some false by decide +kernel)
  | dict _ => exact kit_ty (show kitB "dict" "list" = some false by decide +kernel)
theorem kit_t : PySem.W.kitOne K (.type (tyName D)) (.type "tuple") = some (isTup D) := by
  cases D with
  | none => exact kit_ty (show kitB "NoneType" "tuple" = some false by decide +kernel)
  | bool _ => exact kit_ty (show kitB "bool" "tuple" = some false by decide +kernel)
  | int _ => exact kit_ty (show kitB "int" "tuple" = some false by decide +kernel)
  | str _ => exact kit_ty (show kitB "str" "tuple" = some false by decide +kernel)
  | list _ => exact kit_ty (show kitB "list" "tuple" = some false by decide +kernel)
  | tuple _ => exact kit_ty (show kitB "tuple" "tuple" = some true by decide +kernel)
  | dict _ => exact kit_ty (show kitB "dict" "tuple" = some false by decide +kernel)
theorem kit_b : PySem.W.kitOne K (.type (tyName D)) (.type "bool") = some (isBool D) := by
  cases D with
  | none => exact kit_ty (show kitB "NoneType" "bool" = some false by decide +kernel)
  | bool _ => exact kit_ty (show kitB "bool" "bool" = some true by decide +kernel)
  | int _ => exact kit_ty (show kitB "int" "bool" = some false by decide +kernel)
  | str _ => exact kit_ty (show kitB "str" "bool" = some false by decide +kernel)
  | list _ => exact kit_ty (show kitB "list" "bool" = some false by decide +kernel)
  | tuple _ => exact kit_ty (show kitB "tuple" "bool" = some false by decide +kernel)
  | dict _ => exact kit_ty (show kitB "dict" "bool" = some false by decide +kernel)
theorem kit_s : PySem.W.kitOne K (.type (tyName D)) (.type "str") = some (isStr D) := by
  cases D with
  | none => exact kit_ty (show kitB "NoneType" "str" = some false by decide +kernel)
  | bool _ => exact kit_ty (show kitB "bool" "str" = some false by decide +kernel)
  | int _ => exact kit_ty (show kitB "int" "str" = some false by decide +kernel)
  | str _ => exact kit_ty (show kitB "str" "str" = some true by decide +kernel)
  | list _ => exact kit_ty (show kitB "list" "str" = some false by decide +kernel)
  | tuple _ => exact kit_ty (show kitB "tuple" "str" = some false by decide +kernel)
  | dict _ => exact kit_ty (show kitB "dict" "str" = some false by decide +kernel)
theorem kit_i : PySem.W.kitOne K (.type (tyName D)) (.type "int") = some (isInt D) := by
  cases D with
  | none => exact kit_ty (show kitB "NoneType" "int" = some false by decide +kernel)
  | bool _ => exact kit_ty (show kitB "bool" "int" = some true by decide +kernel)
  | int _ => exact kit_ty (show kitB "int" "int" = some true by decide +kernel)
  | str _ => exact kit_ty (show kitB "str" "int" = some false by decide +kernel)
  | list _ => exact kit_ty (show kitB "list" "int" = some false by decide +kernel)
  | tuple _ => exact kit_ty (show kitB "tuple" "int" = some false by decide +kernel)
  | dict _ => exact kit_ty (show kitB "dict" "int" = some false by decide +kernel)
theorem kit_lt : PySem.W.kitAny K (.type (tyName D)) [.type "list", .type "tuple"] = some (isLst D || isTup D) := by
  have h1 := kit_l (K := K) D
  have h2 := kit_t (K := K) D
  unfold PySem.W.kitAny
  rw [h1]
  cases isLst D with
  | true => rfl
  | false =>
    unfold PySem.W.kitAny
    dsimp only
    rw [h2]
    cases isTup D <;> rfl
end
def spSame (n : Nat) : Sp := fun vs H Q _ => ∃ (x y : V) (D : PyData), vs = [x, y] ∧ Da H n x D ∧ Da H n y D ∧ ∀ H', Same H H' → Q (.bl true) H'
section
variable {P : Program} {w : World} {K : PySem.W.Frag} {mg : Str → Option Value} {base : Heap}
theorem ok_same (T : Txt P K mg) : ∀ n : Nat, FnOk P w K mg base CX0 (n + 1) T.a_law_same T.fd_law_same ["actual", "due"] (spSame n) := by
  intro n
  induction n with
  | zero =>
    refine ⟨fun vs H Q E h => ?_, fun A outer s H args us vs Q E hr e0 hb r h => ?_⟩
    all_goals
      obtain ⟨x, y, D, _, h, _⟩ := h
      cases h
  | succ n ih =>
    have G_law_same : FnOk P w K mg base CX0 (n + 1) T.a_law_same T.fd_law_same ["actual", "due"] (spSame n) := ih
    refine T.F_law_same.ok sc_law_same (fun vs H Q E h => ?_) (fun cdv A outer s H vs Q E hr h => ?_)
    · obtain ⟨_, _, _, rfl, _⟩ := h
      rfl
    · obtain ⟨x, y, D, rfl, hx, hy, q⟩ := h
      refine ⟨_, (pss_cons (ps_if (pt_val (pe_callB call_isiT (by rfl) T.n_isinstance (by decide +kernel) (pa_cons (pv 1) (pa_cons (pe_tup (pa_cons (pe_bltn (v := .ty "list") (by rfl) T.n_list (by decide +kernel) rfl) (pa_cons (pe_bltn (v := .ty "tuple") (by rfl) T.n_tuple (by decide +kernel) rfl) pa_nil))) pa_nil)))) (pss_cons (ps_if (PW.pt (pw_or (pt_cmpR op_ne (pe_callB call_isi (by rfl) T.n_isinstance (by decide +kernel) (pa_cons (pv 1) (pa_cons (pe_bltn (v := .ty "list") (by rfl) T.n_list (by decide +kernel) rfl) pa_nil))) (pe_callB call_isi (by rfl) T.n_isinstance (by decide +kernel) (pa_cons (pv 0) (pa_cons (pe_bltn (v := .ty "list") (by rfl) T.n_list (by decide +kernel) rfl) pa_nil))) (nomark _)) (pw_or1 (pt_cmpR op_ne (pe_callB call_isi (by rfl) T.n_isinstance (by decide +kernel) (pa_cons (pv 1) (pa_cons (pe_bltn (v := .ty "tuple") (by rfl) T.n_tuple (by decide +kernel) rfl) pa_nil))) (pe_callB call_isi (by rfl) T.n_isinstance (by decide +kernel) (pa_cons (pv 0) (pa_cons (pe_bltn (v := .ty "tuple") (by rfl) T.n_tuple (by decide +kernel) rfl) pa_nil))) (nomark _))))) (pss_one (ps_ret pe_bl)) pss_nil)
      (pss_cons (ps_if (pt_cmpR op_ne (pe_callB call_len (by rfl) T.n_len boot_len (pa_cons (pv 0) pa_nil)) (pe_callB call_len (by rfl) T.n_len boot_len (pa_cons (pv 1) pa_nil)) (nomark _)) (pss_one (ps_ret pe_bl)) pss_nil)
      (pss_one (ps_ret (pe_callB (cr_all rfl) (by rfl) T.n_all (by decide +kernel) (pa_cons (pe_lc (own := [("k", 2)]) (g := gName 2) (by rfl) sc_law_same.nd (pi_range1 (by rfl) T.n_range (pa_cons (pe_callB call_len (by rfl) T.n_len boot_len (pa_cons (pv 1) pa_nil)) pa_nil)) (blkOk_by (own := [("k", 2)]) (N := ["actual", "due", "k"]) (sc := defScope s_law_same) (by decide +kernel)) (fun _ _ _ _ _ => pg_name (i := 2) sc_law_same.nd rfl (Or.inl rfl)) (fun _ _ _ _ _ => pts_nil) (fun _ _ _ _ _ => (pe_call G_law_same (hr.mono (by omega)) (by rfl) T.g_law_same T.F_law_same.kp T.b_law_same .nil pass0 (pa_cons (pe_ix (show IxR _ (rIx K) from ix_seq) (pv 0) (pv 2) (fun _ _ => rfl)) (pa_cons (pe_ix (show IxR _ (rIx K) from ix_seq) (pv 1) (pv 2) (fun _ _ => rfl)) pa_nil))))) pa_nil)))))) pss_nil)
      (pss_cons (ps_if (pt_cmpR op_isN (pv 1) pe_non (nomark _)) (pss_one (ps_ret (pe_cmpR op_isN (pv 0) pe_non (nomark _)))) pss_nil)
      (pss_cons (ps_if (pt_cmpR op_ne (pe_callB call_isi (by rfl) T.n_isinstance (by decide +kernel) (pa_cons (pv 1) (pa_cons (pe_bltn (v := .ty "bool") (by rfl) T.n_bool (by decide +kernel) rfl) pa_nil))) (pe_callB call_isi (by rfl) T.n_isinstance (by decide +kernel) (pa_cons (pv 0) (pa_cons (pe_bltn (v := .ty "bool") (by rfl) T.n_bool (by decide +kernel) rfl) pa_nil))) (nomark _)) (pss_one (ps_ret pe_bl)) pss_nil)
      (pss_cons (ps_if (pt_val (pe_callB call_isi (by rfl) T.n_isinstance (by decide +kernel) (pa_cons (pv 1) (pa_cons (pe_bltn (v := .ty "str") (by rfl) T.n_str (by decide +kernel) rfl) pa_nil)))) (pss_one (ps_ret (pe_and (pe_callB call_isi (by rfl) T.n_isinstance (by decide +kernel) (pa_cons (pv 0) (pa_cons (pe_bltn (v := .ty "str") (by rfl) T.n_str (by decide +kernel) rfl) pa_nil))) (pe_one (pe_cmpR op_eq (pv 0) (pv 1) (nomark _)))))) pss_nil)
      (pss_one (ps_ret (pe_and (pe_callB call_isi (by rfl) T.n_isinstance (by decide +kernel) (pa_cons (pv 0) (pa_cons (pe_bltn (v := .ty "int") (by rfl) T.n_int (by decide +kernel) rfl) pa_nil))) (pe_one (pe_cmpR op_eq (pv 0) (pv 1) (nomark _)))))))))), ?_⟩
      have two : ([V.ty "list", V.ty "tuple"] : List V).length ≤ sizeLine := small (show 2 ≤ 1100000 by decide)
      -- isinstance(due, (list, tuple))
      refine ⟨_, rfl, two, fun tp ntp => ?_⟩
      have s1 : Same H (upd H tp (.tup [V.ty "list", V.ty "tuple"])) := same_upd ntp
      have hx1 := hx.same s1
      have hy1 := hy.same s1
      refine ⟨y, tp, _, _, _, _, rfl, upd_same, .cons (.ty _) (.cons (.ty _) .nil), hy1.tyx, kit_lt D, _, rfl, ?_⟩
      have eqq : ∀ b : Bool, decide (V.bl b = V.bl b) = true := fun b => decide_eq_true rfl
      by_cases hD : (isLst D || isTup D) = true
      · refine iT hD ?_
        refine ⟨_, rfl, _, _, _, _, _, rfl, .ty _, hy1.tyx, kit_l _, _, rfl, _, _, _, _, _, rfl, .ty _, hx1.tyx, kit_l _, rfl, _, rfl, iF (by rw [eqq]; rfl) ?_⟩
        refine ⟨_, rfl, _, _, _, _, _, rfl, .ty _, hy1.tyx, kit_t _, _, rfl, _, _, _, _, _, rfl, .ty _, hx1.tyx, kit_t _, rfl, _, rfl, iF (by rw [eqq]; rfl) ?_⟩
        obtain ⟨xs, ys, ds, lx, ly, hlx, hly, hzy, hcx, hcy⟩ : ∃ (xs ys : List V) (ds : List PyData), LenV K x (upd H tp (.tup [V.ty "list", V.ty "tuple"])) xs.length ∧ LenV K y (upd H tp (.tup [V.ty "list", V.ty "tuple"])) ys.length ∧ xs.length = ds.length ∧ ys.length = ds.length ∧ ys.length ≤ 1000000 ∧
            (∀ (H2 : Hp) (i : Nat) (v : V), Same (upd H tp (.tup [V.ty "list", V.ty "tuple"])) H2 → xs[i]? = some v → ∃ (d : PyData), ds[i]? = some d ∧ Da H2 n v d ∧ ∀ Q : VK, Q v H2 → rIx K x (.int (i : Nat)) H2 Q) ∧
            (∀ (H2 : Hp) (i : Nat) (v : V) (d : PyData), Same (upd H tp (.tup [V.ty "list", V.ty "tuple"])) H2 → ys[i]? = some v → ds[i]? = some d → Da H2 n v d ∧ ∀ Q : VK, Q v H2 → rIx K y (.int (i : Nat)) H2 Q) := by
          cases hx1 with
          | lst ex hlx hzx hx' =>
            cases hy1 with
            | lst ey hly hzy hy' =>
              refine ⟨_, _, _, .inl ⟨_, SqL.of ex, rfl⟩, .inl ⟨_, SqL.of ey, rfl⟩, hlx, hly, hzy, fun H2 i v s2 h => ?_, fun H2 i v d s2 h hd => ?_⟩
              · have hi := (List.getElem?_eq_some_iff.mp h).1
                have gd := List.getElem?_eq_getElem (show i < _ from hlx ▸ hi)
                exact ⟨_, gd, (hx' i v _ h gd).same s2, fun Q hq => .inl ⟨_, _, _, _, rfl, rfl, SqL.of (s2 _ _ ex), atI_nat h, hq⟩⟩
              · exact ⟨(hy' i v d h hd).same s2, fun Q hq => .inl ⟨_, _, _, _, rfl, rfl, SqL.of (s2 _ _ ey), atI_nat h, hq⟩⟩
          | tup ex hlx hzx hx' =>
            cases hy1 with
            | tup ey hly hzy hy' =>
              refine ⟨_, _, _, .inr ⟨_, SqT.of ex, rfl⟩, .inr ⟨_, SqT.of ey, rfl⟩, hlx, hly, hzy, fun H2 i v s2 h => ?_, fun H2 i v d s2 h hd => ?_⟩
              · have hi := (List.getElem?_eq_some_iff.mp h).1
                have gd := List.getElem?_eq_getElem (show i < _ from hlx ▸ hi)
                exact ⟨_, gd, (hx' i v _ h gd).same s2, fun Q hq => .inr (.inl ⟨_, _, _, _, rfl, rfl, SqT.of (s2 _ _ ex), atI_nat h, hq⟩)⟩
              · exact ⟨(hy' i v d h hd).same s2, fun Q hq => .inr (.inl ⟨_, _, _, _, rfl, rfl, SqT.of (s2 _ _ ey), atI_nat h, hq⟩)⟩
          | non => exact absurd hD Bool.false_ne_true
          | bl b => exact absurd hD Bool.false_ne_true
          | int i => exact absurd hD Bool.false_ne_true
          | str z => exact absurd hD Bool.false_ne_true
        -- len(actual) != len(due)
        refine ⟨_, rfl, _, _, rfl, lx, _, rfl, _, _, rfl, ly, rfl, _, rfl, iF (by rw [decide_eq_true (by rw [hlx, hly])]; rfl) ?_⟩
        -- all([_law_same(actual[k], due[k]) for k in range(len(due))])
        refine ⟨_, rfl, _, _, rfl, ly, _, rfl, by omega, by omega, fun L nL => ?_⟩
        refine lc_range (lo := 0) (n := ys.length) (fun i H2 => Same (upd H tp (.tup [V.ty "list", V.ty "tuple"])) H2 ∧ H2 L = some (.lst ((List.replicate i true).map V.bl))) ⟨same_upd nL, upd_same⟩ ?_ ?_
        · rintro i H2 hi ⟨s2, eL⟩
          have hix : i < xs.length := by omega
          obtain ⟨d, gd, dx, rx⟩ := hcx H2 i xs[i] s2 (List.getElem?_eq_getElem hix)
          obtain ⟨dy, ry⟩ := hcy H2 i ys[i] d s2 (List.getElem?_eq_getElem hi) gd
          rw [Int.zero_add]
          refine ⟨rfl, ?_⟩
          refine ⟨_, rfl, _, rfl, rx _ ?_⟩
          refine ⟨_, rfl, _, rfl, ry _ ?_⟩
          refine ⟨_, _, d, rfl, dx, dy, fun H3 s3 => ?_⟩
          refine ⟨_, s3 _ _ eL, ?_, fun b o h => ?_, ?_⟩
          · rw [List.length_map, List.length_replicate, sizeLine_eq]
            omega
          · rw [upd_ne (ne_of_none h nL)]
            exact s3 _ _ (s2 b o h)
          · rw [upd_same, List.replicate_succ', List.map_append]
            rfl
        · rintro H2 ⟨s2, eL⟩
          refine ⟨L, List.replicate ys.length true, rfl, SqL.of eL, ?_⟩
          rw [show (List.replicate ys.length true).all id = true from by simp]
          exact q _ (s1.trans s2)
      · refine iF (by simpa using hD) ?_
        -- due is None
        refine ⟨_, rfl, rfl, _, rfl, ?_⟩
        cases hx with
        | lst => exact absurd rfl hD
        | tup => exact absurd rfl hD
        | non =>
          cases hy
          refine iT (decide_eq_true rfl) ?_
          exact ⟨_, rfl, rfl, q _ s1⟩
        | bl b =>
          cases hy
          refine iF (decide_eq_false (by intro h; cases h)) ?_
          refine ⟨_, rfl, _, _, _, _, _, rfl, .ty _, hy1.tyx, kit_b _, _, rfl, _, _, _, _, _, rfl, .ty _, hx1.tyx, kit_b _, rfl, _, rfl, iF (by rw [eqq]; rfl) ?_⟩
          refine ⟨_, rfl, _, _, _, _, _, rfl, .ty _, hy1.tyx, kit_s _, _, rfl, iF rfl ?_⟩
          refine ⟨_, rfl, _, _, _, _, _, rfl, .ty _, hx1.tyx, kit_i _, _, rfl, iT rfl ?_⟩
          refine ⟨_, rfl, _, rfl, rfl, ?_⟩
          rw [eqq]
          exact q _ s1
        | int i =>
          cases hy
          refine iF (decide_eq_false (by intro h; cases h)) ?_
          refine ⟨_, rfl, _, _, _, _, _, rfl, .ty _, hy1.tyx, kit_b _, _, rfl, _, _, _, _, _, rfl, .ty _, hx1.tyx, kit_b _, rfl, _, rfl, iF (by rw [eqq]; rfl) ?_⟩
          refine ⟨_, rfl, _, _, _, _, _, rfl, .ty _, hy1.tyx, kit_s _, _, rfl, iF rfl ?_⟩
          refine ⟨_, rfl, _, _, _, _, _, rfl, .ty _, hx1.tyx, kit_i _, _, rfl, iT rfl ?_⟩
          refine ⟨_, rfl, _, rfl, rfl, ?_⟩
          rw [show decide (V.int i = V.int i) = true from decide_eq_true rfl]
          exact q _ s1
        | str z =>
          cases hy
          refine iF (decide_eq_false (by intro h; cases h)) ?_
          refine ⟨_, rfl, _, _, _, _, _, rfl, .ty _, hy1.tyx, kit_b _, _, rfl, _, _, _, _, _, rfl, .ty _, hx1.tyx, kit_b _, rfl, _, rfl, iF (by rw [eqq]; rfl) ?_⟩
          refine ⟨_, rfl, _, _, _, _, _, rfl, .ty _, hy1.tyx, kit_s _, _, rfl, iT rfl ?_⟩
          refine ⟨_, rfl, _, _, _, _, _, rfl, .ty _, hx1.tyx, kit_s _, _, rfl, iT rfl ?_⟩
          refine ⟨_, rfl, _, rfl, rfl, ?_⟩
          rw [show decide (V.str z = V.str z) = true from decide_eq_true rfl]
          exact q _ s1
end
end K42
namespace K42
open PySem PySem.Spec PyProof.Rows L2 SX
/-! ### the law's tokens and texts -/
def names3 : List Str := ["a", "bc", "abcdefgh"]
def wild : List Str := ["a", "(", ")", "abcdefghi"]
def wrong4 : List Str := ["-", "=", "A", "7"]
def Drawn (t : List Nat) : Prop := ∃ g : Str, t = cd g ∧ (g ∈ names3 ∨ g ∈ wild ∨ g ∈ wrong4)
theorem pick {gs : List Str} {r : Nat} (h : r < gs.length) : (gs.map V.str)[r]? = some (V.str gs[r]) := by
  rw [List.getElem?_map, List.getElem?_eq_getElem h]
  rfl
theorem tx_cd (g : Str) : tx (cd g) = V.str g := tx_str.mpr rfl
def spTokens : Sp := fun vs H Q _ => ∃ d sc : Addr, vs = [.ref d] ∧ DrawAt H d sc ∧ ∀ H' p (ts : List (List Nat)), But d H H' → DrawAt H' d sc → H p = none → H' p = some (.lst (ts.map tx)) → (∀ t ∈ ts, Drawn t) → ts.length ≤ 24 → Q (.ref p) H'
section
variable {P : Program} {w : World} {K : PySem.W.Frag} {mg : Str → Option Value} {base : Heap}
theorem But.refl {d : Addr} {H : Hp} : But d H H := fun _ _ _ h => h
theorem But.trans {d : Addr} {H H1 H2 : Hp} (a : But d H H1) (b : But d H1 H2) : But d H H2 := fun x o hx h => b x o hx (a x o hx h)
theorem But.put {d p : Addr} {H H1 : Hp} {o : HO} (a : But d H H1) (hp : H p = none) : But d H (upd H1 p o) := fun x u hx h => by
  rw [upd_ne (ne_of_none h hp)]
  exact a x u hx h
theorem But.none {d p : Addr} {H H1 : Hp} (a : But d H H1) (h : H1 p = none) (hd : p ≠ d) : H p = none := by
  cases e : H p with
  | none => rfl
  | some o =>
    rw [a p o hd e] at h
    cases h
theorem DrawAt.put {H : Hp} {d sc p : Addr} {o : HO} (h : DrawAt H d sc) (hp : H p = none) : DrawAt (upd H p o) d sc := by
  obtain ⟨ns, i, b, s, h1, h2, h3⟩ := h
  exact ⟨ns, i, b, s, (upd_ne (ne_of_none h1 hp)).trans h1, (upd_ne (ne_of_none h2 hp)).trans h2, h3⟩
theorem DrawAt.set {H : Hp} {d sc p : Addr} {o : HO} (h : DrawAt H d sc) (h1 : d ≠ p) (h2 : sc ≠ p) : DrawAt (upd H p o) d sc := by
  obtain ⟨ns, i, b, s, e1, e2, h3⟩ := h
  exact ⟨ns, i, b, s, (upd_ne h1).trans e1, (upd_ne h2).trans e2, h3⟩
theorem DrawAt.script {H : Hp} {d sc : Addr} (h : DrawAt H d sc) : ∃ xs, H sc = some (.lst xs) := by
  obtain ⟨ns, i, b, s, e1, e2, h3⟩ := h
  exact ⟨_, e2⟩
theorem DrawAt.ne {H : Hp} {d sc p : Addr} (h : DrawAt H d sc) (hp : H p = none) : p ≠ d := by
  obtain ⟨ns, i, b, s, h1, _⟩ := h
  exact (ne_of_none h1 hp).symm
theorem ok_tokens (T : Txt P K mg) : FnOk P w K mg base CX0 2 T.a_law_tokens T.fd_law_tokens ["draw"] spTokens := by
  have G_law_next : FnOk P w K mg base CX0 1 T.a_law_next T.fd_law_next ["draw", "many"] spNext := ok_next T
  refine T.F_law_tokens.ok sc_law_tokens (fun vs H Q E h => ?_) (fun cdv A outer s H vs Q E hr h => ?_)
  · obtain ⟨_, _, rfl, _⟩ := h
    rfl
  · obtain ⟨d, sc, rfl, D0, q⟩ := h
    obtain ⟨_, esc⟩ := D0.script
    refine ⟨_, (pss_cons (ps_set (i := 1) sc_law_tokens.nd rfl (by first | exact Or.inl rfl | exact Or.inr rfl) (pe_lst pa_nil))
      (pss_cons (ps_set (i := 2) sc_law_tokens.nd rfl (by first | exact Or.inl rfl | exact Or.inr rfl) pe_int)
      (pss_cons (ps_for PassesOwn.never rfl (pi_range1 (by rfl) T.n_range (pa_cons (pe_call G_law_next (hr.mono (by omega)) (by rfl) T.g_law_next T.F_law_next.kp T.b_law_next .nil pass0 (pa_cons (pv 0) (pa_cons pe_int pa_nil))) pa_nil)) (pg_name (i := 3) sc_law_tokens.nd rfl (by first | exact Or.inl rfl | exact Or.inr rfl)) (pss_cons (ps_set (i := 4) sc_law_tokens.nd rfl (by first | exact Or.inl rfl | exact Or.inr rfl) (pe_call G_law_next (hr.mono (by omega)) (by rfl) T.g_law_next T.F_law_next.kp T.b_law_next .nil pass0 (pa_cons (pv 0) (pa_cons pe_int pa_nil))))
      (pss_one (ps_if (pt_cmpR op_lt (pv 4) pe_int (nomark _)) (pss_cons (ps_set (i := 1) sc_law_tokens.nd rfl (by first | exact Or.inl rfl | exact Or.inr rfl) (pe_op op_cat (pv 1) (pe_lst (pa_cons (pe_ix ix_list (pe_lst (pa_cons pe_str (pa_cons pe_str (pa_cons pe_str pa_nil)))) (pe_call G_law_next (hr.mono (by omega)) (by rfl) T.g_law_next T.F_law_next.kp T.b_law_next .nil pass0 (pa_cons (pv 0) (pa_cons pe_int pa_nil))) (fun _ _ => rfl)) (pa_cons pe_str pa_nil)))))
      (pss_one (ps_set (i := 2) sc_law_tokens.nd rfl (by first | exact Or.inl rfl | exact Or.inr rfl) (pe_op op_add (pv 2) pe_int)))) (pss_one (ps_if (PW.pt (pw_and (pt_cmpR op_lt (pv 4) pe_int (nomark _)) (pw_and1 (pt_cmpR op_gt (pv 2) pe_int (nomark _))))) (pss_cons (ps_expr (pe_bm PySem.F.plainAttrs_list PySem.F.slot_list_append PySem.F.type_list_append mt_append (pv 1) (pa_cons pe_str pa_nil)))
      (pss_one (ps_set (i := 2) sc_law_tokens.nd rfl (by first | exact Or.inl rfl | exact Or.inr rfl) (pe_op op_sub (pv 2) pe_int)))) (pss_one (ps_if (pt_cmpR op_eq (pv 4) pe_int (nomark _)) (pss_one (ps_expr (pe_bm PySem.F.plainAttrs_list PySem.F.slot_list_append PySem.F.type_list_append mt_append (pv 1) (pa_cons (pe_ix ix_list (pe_lst (pa_cons pe_str (pa_cons pe_str (pa_cons pe_str (pa_cons pe_str pa_nil))))) (pe_call G_law_next (hr.mono (by omega)) (by rfl) T.g_law_next T.F_law_next.kp T.b_law_next .nil pass0 (pa_cons (pv 0) (pa_cons pe_int pa_nil))) (fun _ _ => rfl)) pa_nil)))) (pss_one (ps_if (PW.pt (pw_and (pt_cmpR op_eq (pv 4) pe_int (nomark _)) (pw_and1 (pt_cmpR op_eq (pe_call G_law_next (hr.mono (by omega)) (by rfl) T.g_law_next T.F_law_next.kp T.b_law_next .nil pass0 (pa_cons (pv 0) (pa_cons pe_int pa_nil))) pe_int (nomark _))))) (pss_one (ps_expr (pe_bm PySem.F.plainAttrs_list PySem.F.slot_list_append PySem.F.type_list_append mt_append (pv 1) (pa_cons (pe_ix ix_list (pe_lst (pa_cons pe_str (pa_cons pe_str (pa_cons pe_str (pa_cons pe_str pa_nil))))) (pe_call G_law_next (hr.mono (by omega)) (by rfl) T.g_law_next T.F_law_next.kp T.b_law_next .nil pass0 (pa_cons (pv 0) (pa_cons pe_int pa_nil))) (fun _ _ => rfl)) pa_nil)))) pss_nil))))))))))
      (pss_one (ps_ret (pv 1)))))), ?_⟩
    -- tokens = []; level = 0
    refine ⟨Nat.zero_le _, fun p0 n0 => ?_⟩
    have nd0 := D0.ne n0
    -- range(_law_next(draw, 12))
    refine ⟨_, rfl, d, sc, 12, rfl, D0.put n0, by decide, by decide, fun n H1 hn D1 b1 => ⟨_, rfl, by omega, by omega, ?_⟩⟩
    refine for_range (lo := 0) (n := n) (fun i σ H' => ∃ (p : Addr) (ts : List (List Nat)) (lev : Int) (v3 v4 : Option V), σ = [some (.ref d), some (.ref p), some (.int lev), v3, v4] ∧ H' p = some (.lst (ts.map tx)) ∧ But d H H' ∧ DrawAt H' d sc ∧ H p = none ∧ p ≠ d ∧ (∀ t ∈ ts, Drawn t) ∧ ts.length ≤ 2 * i)
      ⟨p0, [], 0, none, none, rfl, b1 _ _ nd0 upd_same, (But.refl.put n0).trans b1, D1, n0, nd0, fun _ h => (nomatch h), Nat.zero_le _⟩ ?_ ?_
    · rintro i σ H' hi ⟨p, ts, lev, v3, v4, rfl, eP, b, D, nHp, npd, hts, hlen⟩
      have room : (ts.map tx).length < sizeLine := by
        rw [List.length_map, sizeLine_eq]
        omega
      -- form = _law_next(draw, 14)
      refine ⟨_, rfl, d, sc, 14, rfl, D, by decide, by decide, fun form H2 hf D2 b2 => ?_⟩
      have e2 := b2 _ _ npd eP
      have bb := b.trans b2
      refine ⟨_, rfl, _, _, rfl, rfl, _, rfl, ite2 (fun c1 => ?_) (fun c1 => ?_)⟩
      · -- tokens = tokens + [[..][_law_next(draw, 3)], '(']
        refine ⟨_, rfl, small (show 3 ≤ 1100000 by decide), fun L nL => ⟨_, rfl, d, sc, 3, rfl, D2.put nL, by decide, by decide, fun r H3 hr3 D3 b3 => ?_⟩⟩
        have ndL := D2.ne nL
        refine ⟨L, names3.map V.str, _, V.str (names3[r]'hr3), rfl, rfl, SqL.of (b3 _ _ ndL upd_same), atI_nat (pick hr3), ?_⟩
        refine ⟨small (show 2 ≤ 1100000 by decide), fun M nM => ?_⟩
        have ndM := D3.ne nM
        have e3 : H3 p = some (.lst (ts.map tx)) := b3 _ _ npd ((upd_ne (ne_of_none e2 nL)).trans e2)
        have bb3 := (bb.put (o := .lst (names3.map V.str)) (bb.none nL ndL)).trans b3
        have nHM := bb3.none nM ndM
        have bb4 := bb3.put (o := .lst [V.str (names3[r]'hr3), V.str "("]) nHM
        have D4 := D3.put (o := .lst [V.str (names3[r]'hr3), V.str "("]) nM
        refine ⟨p, M, _, _, rfl, rfl, (upd_ne (ne_of_none e3 nM)).trans e3, upd_same, ?_, fun p' np' => ?_⟩
        · rw [List.length_map, sizeLine_eq]
          show ts.length + 2 ≤ _
          omega
        have ndp := D4.ne np'
        have nHp' := bb4.none np' ndp
        refine ⟨_, rfl, _, _, rfl, rfl, p', ts ++ [cd (names3[r]'hr3), cd "("], lev + 1, _, _, rfl, ?_, bb4.put nHp', D4.put np', nHp', ndp, ?_, ?_⟩
        · rw [upd_same, List.map_append]
          show _ = some (HO.lst (ts.map tx ++ [tx (cd (names3[r]'hr3)), tx (cd "(")]))
          rw [tx_cd, tx_cd]
        · intro t ht
          rcases List.mem_append.mp ht with h | h
          · exact hts t h
          · rcases List.mem_cons.mp h with rfl | h
            · exact ⟨_, rfl, .inl (List.getElem_mem _)⟩
            · rcases List.mem_cons.mp h with rfl | h
              · exact ⟨"(", rfl, .inr (.inl (List.mem_cons_of_mem _ List.mem_cons_self))⟩
              · cases h
        · rw [List.length_append]
          show ts.length + 2 ≤ _
          omega
      · -- one token more, given at the list's end
        have more : ∀ (H3 : Hp) (g : Str), H3 p = some (.lst (ts.map tx)) → But d H H3 → DrawAt H3 d sc → (g ∈ wild ∨ g ∈ wrong4) →
            upd H3 p (.lst (ts.map tx ++ [V.str g])) p = some (.lst ((ts ++ [cd g]).map tx)) ∧ But d H (upd H3 p (.lst (ts.map tx ++ [V.str g]))) ∧ DrawAt (upd H3 p (.lst (ts.map tx ++ [V.str g]))) d sc ∧ (∀ t ∈ ts ++ [cd g], Drawn t) ∧ (ts ++ [cd g]).length ≤ 2 * (i + 1) := by
          intro H3 g e3 b3 D3 hg
          refine ⟨?_, b3.put nHp, ?_, ?_, ?_⟩
          · rw [upd_same, List.map_append]
            show _ = some (HO.lst (ts.map tx ++ [tx (cd g)]))
            rw [tx_cd]
          · exact D3.set npd.symm (ne_of_none esc nHp)
          · intro t ht
            rcases List.mem_append.mp ht with h | h
            · exact hts t h
            · rcases List.mem_cons.mp h with rfl | h
              · exact ⟨g, rfl, .inr hg⟩
              · cases h
          · rw [List.length_append]
            show ts.length + 1 ≤ _
            omega
        have keep : ∃ (p' : Addr) (ts' : List (List Nat)) (lev' : Int) (v3' v4' : Option V), [some (V.ref d), some (.ref p), some (.int lev), some (.int (0 + (i : Int))), some (.int (form : Nat))] = [some (.ref d), some (.ref p'), some (.int lev'), v3', v4'] ∧ H2 p' = some (.lst (ts'.map tx)) ∧ But d H H2 ∧ DrawAt H2 d sc ∧ H p' = none ∧ p' ≠ d ∧ (∀ t ∈ ts', Drawn t) ∧ ts'.length ≤ 2 * (i + 1) :=
          ⟨p, ts, lev, _, _, rfl, e2, bb, D2, nHp, npd, hts, by omega⟩
        refine ⟨_, rfl, _, _, rfl, rfl, _, rfl, ?_⟩
        refine (fun (wild? : ?X) => ?main) ?sec
        case main =>
          refine ite2 (fun c2 => ?_) (fun c2 => ?_)
          · refine ⟨_, rfl, _, _, rfl, rfl, _, rfl, ite2 (fun c3 => ?_) (fun c3 => ?_)⟩
            · obtain ⟨m1, m2, m3, m4, m5⟩ := more H2 ")" e2 bb D2 (.inl (by simp [wild]))
              refine ⟨_, rfl, .inl ⟨rfl, _, SqL.of e2⟩, p, _, _, rfl, rfl, e2, room, ?_⟩
              exact ⟨_, rfl, _, _, rfl, rfl, p, _, lev - 1, _, _, rfl, m1, m2, m3, nHp, npd, m4, m5⟩
            · exact wild?
          · refine iteF ?_
            exact wild?
        case sec =>
          -- a token more out of a written list
          have grow : ∀ (H3 : Hp) (gs : List Str), (∀ g ∈ gs, g ∈ wild ∨ g ∈ wrong4) → H3 p = some (.lst (ts.map tx)) → But d H H3 → DrawAt H3 d sc → ∀ (L : Addr), H3 L = none → ∀ (r : Nat) (H4 : Hp) (hr : r < gs.length), DrawAt H4 d sc → But d (upd H3 L (.lst (gs.map V.str))) H4 →
              H4 L = some (.lst (gs.map V.str)) ∧ H4 p = some (.lst (ts.map tx)) ∧ upd H4 p (.lst (ts.map tx ++ [V.str gs[r]])) p = some (.lst ((ts ++ [cd gs[r]]).map tx)) ∧ But d H (upd H4 p (.lst (ts.map tx ++ [V.str gs[r]]))) ∧ DrawAt (upd H4 p (.lst (ts.map tx ++ [V.str gs[r]]))) d sc ∧ (∀ t ∈ ts ++ [cd gs[r]], Drawn t) ∧ (ts ++ [cd gs[r]]).length ≤ 2 * (i + 1) := by
            intro H3 gs hgs e3 b3 D3 L nL r H4 hr D4 b4
            have ndL := D3.ne nL
            have e4 : H4 p = some (.lst (ts.map tx)) := b4 _ _ npd ((upd_ne (ne_of_none e3 nL)).trans e3)
            exact ⟨b4 _ _ ndL upd_same, e4, more H4 gs[r] e4 ((b3.put (b3.none nL ndL)).trans b4) D4 (hgs _ (List.getElem_mem _))⟩
          refine ⟨_, rfl, rfl, _, rfl, ite2 (fun c4 => ?_) (fun c4 => ?_)⟩
          · refine ⟨_, rfl, .inl ⟨rfl, _, SqL.of e2⟩, small (show 4 ≤ 1100000 by decide), fun L nL => ⟨_, rfl, d, sc, 4, rfl, D2.put nL, by decide, by decide, fun r H3 hr3 D3 b3 => ?_⟩⟩
            obtain ⟨eL, e3, m1, m2, m3, m4, m5⟩ := grow H2 wild (fun g h => .inl h) e2 bb D2 L nL r H3 hr3 D3 b3
            exact ⟨L, wild.map V.str, _, V.str (wild[r]'hr3), rfl, rfl, SqL.of eL, atI_nat (pick hr3), p, _, _, rfl, rfl, e3, room, p, _, lev, _, _, rfl, m1, m2, m3, nHp, npd, m4, m5⟩
          · refine ⟨_, rfl, rfl, _, rfl, ite2 (fun c5 => ?_) (fun c5 => ?_)⟩
            · refine ⟨_, rfl, d, sc, 3, rfl, D2, by decide, by decide, fun r3 H3 hr3 D3 b3 => ⟨rfl, _, rfl, ?_⟩⟩
              have e3 := b3 _ _ npd e2
              have bb3 := bb.trans b3
              refine ite2 (fun c6 => ?_) (fun c6 => ?_)
              · refine ⟨_, rfl, .inl ⟨rfl, _, SqL.of e3⟩, small (show 4 ≤ 1100000 by decide), fun L nL => ⟨_, rfl, d, sc, 4, rfl, D3.put nL, by decide, by decide, fun r H4 hr4 D4 b4 => ?_⟩⟩
                obtain ⟨eL, e4, m1, m2, m3, m4, m5⟩ := grow H3 wrong4 (fun g h => .inr h) e3 bb3 D3 L nL r H4 hr4 D4 b4
                exact ⟨L, wrong4.map V.str, _, V.str (wrong4[r]'hr4), rfl, rfl, SqL.of eL, atI_nat (pick hr4), p, _, _, rfl, rfl, e4, room, p, _, lev, _, _, rfl, m1, m2, m3, nHp, npd, m4, m5⟩
              · exact ⟨p, ts, lev, _, _, rfl, e3, bb3, D3, nHp, npd, hts, by omega⟩
            · refine iteF ?_
              exact keep
    · rintro σ H' ⟨p, ts, lev, v3, v4, rfl, eP, b, D, nHp, npd, hts, hlen⟩
      exact ⟨_, rfl, q _ p ts b D nHp eP hts (by omega)⟩
end
end K42
namespace K42
open PySem PySem.Spec PyProof.Rows L2 SX
/-! ### _law_text -/
def nV (n : Nat) : V := .int (n : Nat)
def seps : List Str := [" ", "\n", "  "]
theorem blank_sep : ∀ g ∈ seps, SS.Blank (cd g) ∧ cd g ≠ [] ∧ (cd g).length ≤ 2 := by
  have h : ∀ g ∈ seps, (cd g = [32] ∨ cd g = [10] ∨ cd g = [32, 32]) := by decide +kernel
  intro g hg
  rcases h g hg with e | e | e <;> rw [e]
  · exact ⟨fun c hc => by simp at hc; exact .inl hc, by decide, by decide⟩
  · exact ⟨fun c hc => by simp at hc; exact .inr hc, by decide, by decide⟩
  · exact ⟨fun c hc => by simp at hc; exact .inl hc, by decide, by decide⟩
theorem blank_pre : ∀ g ∈ (["", " "] : List Str), SS.Blank (cd g) ∧ (cd g).length ≤ 1 := by
  have h : ∀ g ∈ (["", " "] : List Str), (cd g = [] ∨ cd g = [32]) := by decide +kernel
  intro g hg
  rcases h g hg with e | e <;> rw [e]
  · exact ⟨fun c hc => (nomatch hc), by decide⟩
  · exact ⟨fun c hc => by simp at hc; exact .inl hc, by decide⟩
/-- a text of these tokens with blanks behind each of them -/
structure Glued (ts : List (List Nat)) (pre : List Nat) (z : List (List Nat × List Nat)) : Prop where
  tok : z.map (·.1) = ts
  pre : SS.Blank pre
  bl : ∀ x ∈ z, SS.Blank x.2 ∧ x.2 ≠ []
def spText : Sp := fun vs H Q _ => ∃ (d sc p : Addr) (ts : List (List Nat)), vs = [.ref d, .ref p] ∧ DrawAt H d sc ∧ H p = some (.lst (ts.map tx)) ∧ p ≠ d ∧ ts.length ≤ 1000 ∧ (∀ t ∈ ts, t.length ≤ 100) ∧
  ∀ H' q pr pre z, But d H H' → DrawAt H' d sc → H' q = some (.tup [tx (pre ++ SS.glue z), .ref pr]) → H' pr = some (.lst ((SS.spots pre.length z).map nV)) → Glued ts pre z → (pre ++ SS.glue z).length ≤ 200000 → H pr = none → Q (.ref q) H'
section
variable {P : Program} {w : World} {K : PySem.W.Frag} {mg : Str → Option Value} {base : Heap}
theorem ok_text (T : Txt P K mg) : FnOk P w K mg base CX0 2 T.a_law_text T.fd_law_text ["draw", "tokens"] spText := by
  have G_law_next : FnOk P w K mg base CX0 1 T.a_law_next T.fd_law_next ["draw", "many"] spNext := ok_next T
  refine T.F_law_text.ok sc_law_text (fun vs H Q E h => ?_) (fun cdv A outer s H vs Q E hr h => ?_)
  · obtain ⟨_, _, _, _, rfl, _⟩ := h
    rfl
  · obtain ⟨d, sc, p, ts, rfl, D0, eP, npd, hts, htl, q⟩ := h
    obtain ⟨_, esc⟩ := D0.script
    refine ⟨_, (pss_cons (ps_set (i := 2) sc_law_text.nd rfl (by first | exact Or.inl rfl | exact Or.inr rfl) (pe_ix ix_list (pe_lst (pa_cons pe_str (pa_cons pe_str pa_nil))) (pe_call G_law_next (hr.mono (by omega)) (by rfl) T.g_law_next T.F_law_next.kp T.b_law_next .nil pass0 (pa_cons (pv 0) (pa_cons pe_int pa_nil))) (fun _ _ => rfl)))
      (pss_cons (ps_set (i := 3) sc_law_text.nd rfl (by first | exact Or.inl rfl | exact Or.inr rfl) (pe_lst pa_nil))
      (pss_cons (ps_for PassesOwn.never rfl (pi_list (pv 1)) (pg_name (i := 4) sc_law_text.nd rfl (by first | exact Or.inl rfl | exact Or.inr rfl)) (pss_cons (ps_expr (pe_bm PySem.F.plainAttrs_list PySem.F.slot_list_append PySem.F.type_list_append mt_append (pv 3) (pa_cons (pe_callB call_len_str (by rfl) T.n_len boot_len (pa_cons (pv 2) pa_nil)) pa_nil)))
      (pss_one (ps_set (i := 2) sc_law_text.nd rfl (by first | exact Or.inl rfl | exact Or.inr rfl) (pe_op op_add_str (pe_op op_add_str (pv 2) (pv 4)) (pe_ix ix_list (pe_lst (pa_cons pe_str (pa_cons pe_str (pa_cons pe_str pa_nil)))) (pe_call G_law_next (hr.mono (by omega)) (by rfl) T.g_law_next T.F_law_next.kp T.b_law_next .nil pass0 (pa_cons (pv 0) (pa_cons pe_int pa_nil))) (fun _ _ => rfl)))))))
      (pss_one (ps_ret (pe_tup (pa_cons (pv 2) (pa_cons (pv 3) pa_nil)))))))), ?_⟩
    -- text = ['', ' '][_law_next(draw, 2)]
    refine ⟨small (show 2 ≤ 1100000 by decide), fun L0 nL0 => ⟨_, rfl, d, sc, 2, rfl, D0.put nL0, by decide, by decide, fun r0 H1 hr0 D1 b1 => ?_⟩⟩
    have ndL0 := D0.ne nL0
    have bb1 := (But.refl.put (o := .lst ((["", " "] : List Str).map V.str)) nL0).trans b1
    refine ⟨L0, (["", " "] : List Str).map V.str, _, V.str ((["", " "] : List Str)[r0]'hr0), rfl, rfl, SqL.of (b1 _ _ ndL0 upd_same), atI_nat (pick hr0), ?_⟩
    have hpre := blank_pre _ (List.getElem_mem (show r0 < (["", " "] : List Str).length from hr0))
    generalize (["", " "] : List Str)[r0]'hr0 = g0 at hpre
    -- places = []
    refine ⟨Nat.zero_le _, fun pr npr => ?_⟩
    have ndr := D1.ne npr
    have nHr := bb1.none npr ndr
    have bb2 := bb1.put (o := .lst []) nHr
    refine ⟨_, rfl, p, rfl, ⟨_, SqL.of (bb2 _ _ npd eP)⟩, for_list (K := K) (a := p) (xs := ts.map tx) (fun i σ H' => ∃ (z : List (List Nat × List Nat)) (v4 : Option V), σ = [some (.ref d), some (.ref p), some (tx (cd g0 ++ SS.glue z)), some (.ref pr), v4] ∧ But d H H' ∧ DrawAt H' d sc ∧
        H' pr = some (.lst ((SS.spots (cd g0).length z).map nV)) ∧ z.map (·.1) = ts.take i ∧ (∀ x ∈ z, SS.Blank x.2 ∧ x.2 ≠ []) ∧ (cd g0 ++ SS.glue z).length ≤ 1 + 102 * i) ?_ (fun i σ H' hi h => ?_) ?_ ?_⟩
    · refine ⟨[], none, ?_, bb2, D1.put npr, upd_same, rfl, fun x h => (nomatch h), ?_⟩
      · show _ = [some (V.ref d), some (.ref p), some (tx (cd g0 ++ [])), some (.ref pr), none]
        rw [List.append_nil, tx_cd]
        rfl
      · show (cd g0 ++ []).length ≤ _
        rw [List.append_nil]
        omega
    · obtain ⟨z, v4, rfl, b, _⟩ := h
      exact SqL.of (b _ _ npd eP)
    · rintro i x σ H' hx ⟨z, v4, rfl, b, D, er, hz, hbl, hlen⟩
      have hi : i < ts.length := by
        have := (List.getElem?_eq_some_iff.mp hx).1
        rwa [List.length_map] at this
      obtain rfl : x = tx ts[i] := by
        rw [List.getElem?_map, List.getElem?_eq_getElem hi] at hx
        exact (Option.some.inj hx).symm
      have hti := htl ts[i] (List.getElem_mem hi)
      have lz : z.length = i := by
        have := congrArg List.length hz
        rw [List.length_map, List.length_take] at this
        omega
      have hz' : (⟨(cd g0 ++ SS.glue z).toArray⟩ : Str).length ≤ sizeLine := by
        rw [len_cd, cd_mk]
        exact small (by omega)
      -- places.append(len(text))
      refine ⟨_, rfl, .inl ⟨rfl, _, SqL.of er⟩, _, rfl, _, rfl, hz', pr, _, _, rfl, rfl, er, ?_, ?_⟩
      · rw [List.length_map, SS.spots_len, sizeLine_eq]
        omega
      · have npsc : sc ≠ pr := ne_of_none esc nHr
        have D2 := D.set (p := pr) (o := .lst ((SS.spots (cd g0).length z).map nV ++ [.int ((⟨(cd g0 ++ SS.glue z).toArray⟩ : Str).length : Nat)])) ndr.symm npsc
        have b2 := b.put (o := .lst ((SS.spots (cd g0).length z).map nV ++ [.int ((⟨(cd g0 ++ SS.glue z).toArray⟩ : Str).length : Nat)])) nHr
        -- text = text + token + [' ', '\n', '  '][_law_next(draw, 3)]
        refine ⟨_, rfl, _, rfl, _, _, rfl, rfl, ?_, ?_⟩
        · refine small ?_
          have l1 := len_mk (cd g0 ++ SS.glue z)
          have l2 := len_mk ts[i]
          omega
        · refine ⟨small (show 3 ≤ 1100000 by decide), fun L nL => ⟨_, rfl, d, sc, 3, rfl, D2.put nL, by decide, by decide, fun r H3 hr3 D3 b3 => ?_⟩⟩
          have ndL := D2.ne nL
          have hsep := blank_sep _ (List.getElem_mem (show r < seps.length from hr3))
          refine ⟨L, seps.map V.str, _, V.str (seps[r]'hr3), rfl, rfl, SqL.of (b3 _ _ ndL upd_same), atI_nat (pick hr3), ?_⟩
          generalize seps[r]'hr3 = g at hsep
          refine ⟨_, _, rfl, rfl, ?_, z ++ [(ts[i], cd g)], some (tx ts[i]), ?_, (b2.put (b2.none nL ndL)).trans b3, D3, ?_, ?_, ?_, ?_⟩
          · refine small ?_
            have l1 := len_cd ((⟨(cd g0 ++ SS.glue z).toArray⟩ : Str) ++ (⟨(ts[i]).toArray⟩ : Str))
            have l2 := len_cd g
            rw [cd_append, cd_mk (cd g0 ++ SS.glue z), cd_mk ts[i], List.length_append] at l1
            omega
          · have e1 : (⟨(cd g0 ++ SS.glue z).toArray⟩ : Str) ++ (⟨(ts[i]).toArray⟩ : Str) ++ g = ⟨(cd g0 ++ SS.glue (z ++ [(ts[i], cd g)])).toArray⟩ := by
              refine cd_inj ?_
              rw [cd_append, cd_append, cd_mk (cd g0 ++ SS.glue z), cd_mk ts[i], cd_mk (cd g0 ++ SS.glue (z ++ [(ts[i], cd g)])), SS.glue_snoc]
              simp
            rw [e1]
            rfl
          · rw [b3 _ _ ndr ((upd_ne (ne_of_none upd_same nL)).trans upd_same), SS.spots_snoc, List.map_append, len_cd, cd_mk, List.length_append]
            rfl
          · rw [List.map_append, hz, List.take_add_one, List.getElem?_eq_getElem hi]
            rfl
          · intro x hx
            rcases List.mem_append.mp hx with h | h
            · exact hbl x h
            · rcases List.mem_cons.mp h with rfl | h
              · exact ⟨hsep.1, hsep.2.1⟩
              · cases h
          · rw [SS.glue_snoc]
            rw [List.length_append] at hlen
            simp only [List.length_append]
            omega
    · rintro σ H' ⟨z, v4, rfl, b, D, er, hz, hbl, hlen⟩
      rw [List.length_map] at hz hlen
      rw [List.take_length] at hz
      refine ⟨_, rfl, _, rfl, small (show 2 ≤ 1100000 by decide), fun q' nq => ?_⟩
      have ndq := D.ne nq
      refine q _ q' pr (cd g0) z (b.put (b.none nq ndq)) (D.put nq) upd_same ((upd_ne (ne_of_none er nq)).trans er) ⟨hz, hpre.1, hbl⟩ (by omega) nHr
end
end K42
namespace K42
open PySem PySem.Spec PyProof.Rows L2 SX
/-! ### _law_first_wrong, _law_due -/
def fwI (o : Option Nat) : Int := match o with | some k => (k : Nat) | none => -1
def spFirst : Sp := fun vs H Q _ => ∃ (p : Addr) (ts : List (List Nat)), vs = [.ref p] ∧ H p = some (.lst (ts.map tx)) ∧ ts.length ≤ 1000 ∧ (∀ t ∈ ts, t.length ≤ 100) ∧ Q (.int (fwI (SS.fw ts 0 false false))) H
theorem and3 {op nm : Bool} {v : Nat} {σ : List (Option V)} {H : Hp} {Q : VK} (h2 : σ[2]? = some (some (.bl op))) (h1 : σ[1]? = some (some (.int (v : Nat)))) (h3 : σ[3]? = some (some (.bl nm))) (q : Q (.bl (op && (decide (v = 0) && !nm))) H) :
    tAndV (tVar 2) (tAndV (tOp rEq (tVar 1) (tC (.int 0))) (tNotV (tVar 3))) σ H Q := by
  refine ⟨_, h2, op, rfl, ?_⟩
  cases op with
  | false => exact iF rfl q
  | true =>
    refine iT rfl ⟨_, h1, rfl, _, rfl, ?_⟩
    by_cases hv : v = 0
    · refine iT (decide_eq_true (by rw [hv]; rfl)) ⟨_, h3, nm, rfl, ?_⟩
      simpa [hv] using q
    · refine iF (decide_eq_false fun h => hv (by have := V.int.inj h; omega)) ?_
      simpa [hv] using q
section
variable {P : Program} {w : World} {K : PySem.W.Frag} {mg : Str → Option Value} {base : Heap}
theorem fw_map {o : Option Nat} {i : Nat} : (o.map (· + 1)).map (· + i) = o.map (· + (i + 1)) := by
  cases o with
  | none => rfl
  | some k =>
    show some (k + 1 + i) = some (k + (i + 1))
    rw [Nat.add_assoc, Nat.add_comm 1 i]
theorem ok_first (T : Txt P K mg) : FnOk P w K mg base CX0 1 T.a_law_first_wrong T.fd_law_first_wrong ["tokens"] spFirst := by
  refine T.F_law_first_wrong.ok sc_law_first_wrong (fun vs H Q E h => ?_) (fun cdv A outer s H vs Q E hr h => ?_)
  · obtain ⟨_, _, rfl, _⟩ := h
    rfl
  · obtain ⟨p, ts, rfl, eP, hts, htl, q⟩ := h
    refine ⟨_, (pss_cons (ps_set (i := 1) sc_law_first_wrong.nd rfl (by first | exact Or.inl rfl | exact Or.inr rfl) pe_int)
      (pss_cons (ps_set (i := 2) sc_law_first_wrong.nd rfl (by first | exact Or.inl rfl | exact Or.inr rfl) pe_bl)
      (pss_cons (ps_set (i := 3) sc_law_first_wrong.nd rfl (by first | exact Or.inl rfl | exact Or.inr rfl) pe_bl)
      (pss_cons (ps_for PassesOwn.never rfl (pi_range1 (by rfl) T.n_range (pa_cons (pe_callB call_len_seq (by rfl) T.n_len boot_len (pa_cons (pv 0) pa_nil)) pa_nil)) (pg_name (i := 4) sc_law_first_wrong.nd rfl (by first | exact Or.inl rfl | exact Or.inr rfl)) (pss_cons (ps_set (i := 5) sc_law_first_wrong.nd rfl (by first | exact Or.inl rfl | exact Or.inr rfl) (pe_ix ix_list (pv 0) (pv 4) (fun _ _ => rfl)))
      (pss_cons (ps_set (i := 6) sc_law_first_wrong.nd rfl (by first | exact Or.inl rfl | exact Or.inr rfl) (pe_and (pv 2) (pe_and (pe_cmpR op_eq (pv 1) pe_int (nomark _)) (pe_one (pe_not (pv 3))))))
      (pss_one (ps_if (pt_val (pv 3)) (pss_cons (ps_if (pt_cmpR op_ne (pv 5) pe_str (nomark _)) (pss_one (ps_ret (pv 4))) pss_nil)
      (pss_cons (ps_set (i := 3) sc_law_first_wrong.nd rfl (by first | exact Or.inl rfl | exact Or.inr rfl) pe_bl)
      (pss_cons (ps_set (i := 1) sc_law_first_wrong.nd rfl (by first | exact Or.inl rfl | exact Or.inr rfl) (pe_op op_add (pv 1) pe_int))
      (pss_one (ps_set (i := 2) sc_law_first_wrong.nd rfl (by first | exact Or.inl rfl | exact Or.inr rfl) pe_bl))))) (pss_one (ps_if (pt_cmpR op_eq (pv 5) pe_str (nomark _)) (pss_cons (ps_if (pt_cmpR op_eq (pv 1) pe_int (nomark _)) (pss_one (ps_ret (pv 4))) pss_nil)
      (pss_one (ps_set (i := 1) sc_law_first_wrong.nd rfl (by first | exact Or.inl rfl | exact Or.inr rfl) (pe_op op_sub (pv 1) pe_int)))) (pss_one (ps_if (PW.pt (pw_or (pt_cmpR op_eq (pv 5) pe_str (nomark _)) (pw_or (pt_val (pv 6)) (pw_or1 (pt_cmpR op_gt (pe_callB call_len_str (by rfl) T.n_len boot_len (pa_cons (pv 5) pa_nil)) pe_int (nomark _)))))) (pss_one (ps_ret (pv 4))) (pss_one (ps_set (i := 3) sc_law_first_wrong.nd rfl (by first | exact Or.inl rfl | exact Or.inr rfl) pe_bl)))))))))))
      (pss_one (ps_ret (pe_un un_neg pe_int))))))), ?_⟩
    have e40 : cd ("(" : Str) = [40] := by decide +kernel
    have e41 : cd (")" : Str) = [41] := by decide +kernel
    refine ⟨_, rfl, p, _, rfl, .inl (SqL.of eP), _, rfl, by rw [List.length_map]; omega, by rw [List.length_map]; omega, ?_⟩
    refine for_range (lo := 0) (n := (ts.map tx).length) (fun i σ H' => ∃ (v : Nat) (op nm : Bool) (v4 v5 v6 : Option V), σ = [some (.ref p), some (.int (v : Nat)), some (.bl op), some (.bl nm), v4, v5, v6] ∧ H' = H ∧ SS.fw ts 0 false false = (SS.fw (ts.drop i) v op nm).map (· + i)) ⟨0, false, false, none, none, none, rfl, rfl, by simp⟩ ?_ ?_
    · rintro i σ H' hi ⟨v, op, nm, v4, v5, v6, rfl, rfl, hfw⟩
      rw [List.length_map] at hi
      have ga : (ts.map tx)[i]? = some (tx ts[i]) := by
        rw [List.getElem?_map, List.getElem?_eq_getElem hi]
        rfl
      rw [List.drop_eq_getElem_cons hi, SS.fw] at hfw
      have hz : (⟨ts[i].toArray⟩ : Str).length ≤ sizeLine := by
        rw [len_mk]
        exact small (by have := htl ts[i] (List.getElem_mem hi); omega)
      have hzl := len_mk ts[i]
      generalize ts[i] = t at ga hfw hz hzl
      rw [Int.zero_add]
      -- token, whole
      refine ⟨_, rfl, _, rfl, p, _, _, _, rfl, rfl, SqL.of eP, atI_nat ga, and3 rfl rfl rfl ?_⟩
      have back : ∀ k : Nat, SS.fw ts 0 false false = some k → Q (.int (k : Nat)) H' := fun k h => by
        rw [h] at q
        exact q
      refine ⟨_, rfl, nm, rfl, ?_⟩
      cases nm with
      | true =>
        refine iT rfl ?_
        rw [if_pos rfl] at hfw
        refine ⟨_, rfl, rfl, _, rfl, ?_⟩
        by_cases h40 : t = [40]
        · refine iF (by rw [decide_eq_true (tx_str.mpr (h40.trans e40.symm))]; rfl) ?_
          rw [if_neg (fun h => h h40), fw_map] at hfw
          exact ⟨_, rfl, _, _, rfl, rfl, v + 1, true, false, _, _, _, rfl, rfl, hfw⟩
        · refine iT (by rw [decide_eq_false (fun h => h40 ((tx_str.mp h).trans e40))]; rfl) ?_
          rw [if_pos h40] at hfw
          refine ⟨_, rfl, back i ?_⟩
          rw [hfw]
          simp
      | false =>
        refine iF rfl ?_
        rw [if_neg Bool.false_ne_true] at hfw
        refine ⟨_, rfl, rfl, _, rfl, ?_⟩
        by_cases h41 : t = [41]
        · refine iT (decide_eq_true (tx_str.mpr (h41.trans e41.symm))) ?_
          rw [if_pos h41] at hfw
          refine ⟨_, rfl, rfl, _, rfl, ?_⟩
          by_cases hv : v = 0
          · refine iT (decide_eq_true (by rw [hv]; rfl)) ?_
            rw [if_pos hv] at hfw
            refine ⟨_, rfl, back i ?_⟩
            rw [hfw]
            simp
          · refine iF (decide_eq_false fun h => hv (by have := V.int.inj h; omega)) ?_
            rw [if_neg hv, fw_map] at hfw
            have ev : (v : Int) - 1 = ((v - 1 : Nat) : Int) := by omega
            refine ⟨_, rfl, _, _, rfl, rfl, ?_⟩
            dsimp only
            rw [ev]
            exact ⟨v - 1, op, false, _, _, _, rfl, rfl, hfw⟩
        · refine iF (decide_eq_false fun h => h41 ((tx_str.mp h).trans e41)) ?_
          rw [if_neg h41] at hfw
          have stop : (t = [40] ∨ (op = true ∧ v = 0) ∨ 8 < t.length) → Q (.int (i : Nat)) H' := fun h => by
            rw [if_pos h] at hfw
            exact back i (by rw [hfw]; simp)
          refine ⟨_, rfl, rfl, _, rfl, ?_⟩
          by_cases h40 : t = [40]
          · refine iT (decide_eq_true (tx_str.mpr (h40.trans e40.symm))) ?_
            exact iT rfl ⟨_, rfl, stop (.inl h40)⟩
          · refine iF (decide_eq_false fun h => h40 ((tx_str.mp h).trans e40)) ?_
            refine ⟨_, rfl, _, rfl, ?_⟩
            by_cases hw : op = true ∧ v = 0
            · refine iT (by rw [hw.1, hw.2]; rfl) ?_
              exact iT rfl ⟨_, rfl, stop (.inr (.inl hw))⟩
            · refine iF (by cases op <;> simp_all) ?_
              refine ⟨_, rfl, _, rfl, hz, _, _, rfl, rfl, _, rfl, ?_⟩
              by_cases h8 : 8 < t.length
              · refine iT (decide_eq_true (by omega)) ?_
                exact ⟨_, rfl, stop (.inr (.inr h8))⟩
              · refine iF (decide_eq_false (by omega)) ?_
                rw [if_neg (fun h => by exact h.elim h40 fun h => h.elim hw h8), fw_map] at hfw
                exact ⟨v, op, true, _, _, _, rfl, rfl, hfw⟩
    · rintro σ H' ⟨v, op, nm, v4, v5, v6, rfl, rfl, hfw⟩
      rw [List.length_map, List.drop_of_length_le (Nat.le_refl _)] at hfw
      have hn : SS.fw ts 0 false false = none := by
        rw [hfw]
        rfl
      rw [hn] at q
      exact ⟨1, rfl, q⟩
end
end K42
namespace K42
open PySem PySem.Spec PyProof.Rows L2 SX
theorem in_strs {z : Str} : ∀ gs : List Str, inV (V.str z) (gs.map V.str) = gs.any fun g => g == z
  | [] => rfl
  | g :: r => by
    have := in_strs (z := z) r
    unfold inV at this ⊢
    rw [List.map_cons, List.any_cons, List.any_cons, this]
    rfl
theorem beq_tx {g : Str} {t : List Nat} : (g == (⟨t.toArray⟩ : Str)) = (t == cd g) := by
  rw [Bool.eq_iff_iff, beq_iff_eq, beq_iff_eq]
  constructor
  · rintro rfl
    rw [cd_mk]
  · rintro rfl
    exact cd_inj (by rw [cd_mk])
theorem bad_in (t : List Nat) : inV (tx t) (wrong4.map V.str) = SS.bad t := by
  rw [in_strs]
  show ((("-" : Str) == (⟨t.toArray⟩ : Str)) || ((("=" : Str) == (⟨t.toArray⟩ : Str)) || ((("A" : Str) == (⟨t.toArray⟩ : Str)) || ((("7" : Str) == (⟨t.toArray⟩ : Str)) || false)))) = _
  rw [beq_tx, beq_tx, beq_tx, beq_tx, show cd ("-" : Str) = [45] by decide +kernel, show cd ("=" : Str) = [61] by decide +kernel, show cd ("A" : Str) = [65] by decide +kernel, show cd ("7" : Str) = [55] by decide +kernel]
  unfold SS.bad
  simp [Bool.or_assoc]
theorem paren_in (t : List Nat) : inV (tx t) ((["(", ")"] : List Str).map V.str) = (t == [40] || t == [41]) := by
  rw [in_strs]
  show ((("(" : Str) == (⟨t.toArray⟩ : Str)) || (((")" : Str) == (⟨t.toArray⟩ : Str)) || false)) = _
  rw [beq_tx, beq_tx, show cd ("(" : Str) = [40] by decide +kernel, show cd (")" : Str) = [41] by decide +kernel, Bool.or_false]
/-- what the law expects -/
def dueOf (ts : List (List Nat)) (ps : List Nat) (n : Nat) : Str × Nat :=
  match SS.firstBad ts with
  | some k => ("unknown character", ps.getD k 0)
  | none => match SS.fw ts 0 false false with
    | some k => ("unexpected token", ps.getD k 0)
    | none => if SS.lastName ts = true then ("unexpected end", n) else ("events", 0)
def spDue : Sp := fun vs H Q _ => ∃ (p pr : Addr) (t : List Nat) (ts : List (List Nat)) (ps : List Nat), vs = [.ref p, tx t, .ref pr] ∧ H p = some (.lst (ts.map tx)) ∧ H pr = some (.lst (ps.map nV)) ∧ ps.length = ts.length ∧ ts.length ≤ 1000 ∧ (∀ t ∈ ts, t.length ≤ 100) ∧ t.length ≤ 1000000 ∧
  ∀ H' a, Same H H' → H' a = some (.tup [.str (dueOf ts ps t.length).1, nV (dueOf ts ps t.length).2]) → Q (.ref a) H'
theorem fb_map {o : Option Nat} {i : Nat} : (o.map (· + 1)).map (· + i) = o.map (· + (i + 1)) := fw_map
theorem fw_lt : ∀ (ts : List (List Nat)) (v : Nat) (op nm : Bool) (k : Nat), SS.fw ts v op nm = some k → k < ts.length
  | [], _, _, _, k, h => by cases h
  | t :: r, v, op, nm, k, h => by
    have again : ∀ {v op nm}, (SS.fw r v op nm).map (· + 1) = some k → k < (t :: r).length := fun {v op nm} h => by
      cases q : SS.fw r v op nm with
      | none =>
        rw [q] at h
        cases h
      | some j =>
        rw [q] at h
        cases h
        exact Nat.succ_lt_succ (fw_lt r v op nm j q)
    have zero : (some 0 : Option Nat) = some k → k < (t :: r).length := fun h => by
      cases h
      exact Nat.succ_pos _
    rw [SS.fw] at h
    split at h
    · split at h
      · exact zero h
      · exact again h
    · split at h
      · split at h
        · exact zero h
        · exact again h
      · split at h
        · exact zero h
        · exact again h
section
variable {P : Program} {w : World} {K : PySem.W.Frag} {mg : Str → Option Value} {base : Heap}
theorem ok_due (T : Txt P K mg) : FnOk P w K mg base CX0 2 T.a_law_due T.fd_law_due ["tokens", "text", "places"] spDue := by
  have G_law_first_wrong : FnOk P w K mg base CX0 1 T.a_law_first_wrong T.fd_law_first_wrong ["tokens"] spFirst := ok_first T
  refine T.F_law_due.ok sc_law_due (fun vs H Q E h => ?_) (fun cdv A outer s H vs Q E hr h => ?_)
  · obtain ⟨_, _, _, _, _, rfl, _⟩ := h
    rfl
  · obtain ⟨p, pr, t, ts, ps, rfl, eP, eR, hps, hts, htl, ht, q⟩ := h
    refine ⟨_, (pss_cons (ps_for PassesOwn.never rfl (pi_range1 (by rfl) T.n_range (pa_cons (pe_callB call_len_seq (by rfl) T.n_len boot_len (pa_cons (pv 0) pa_nil)) pa_nil)) (pg_name (i := 3) sc_law_due.nd rfl (by first | exact Or.inl rfl | exact Or.inr rfl)) (pss_one (ps_if (pt_cmpR op_in_seq (pe_ix ix_list (pv 0) (pv 3) (fun _ _ => rfl)) (pe_tup (pa_cons pe_str (pa_cons pe_str (pa_cons pe_str (pa_cons pe_str pa_nil))))) rfl) (pss_one (ps_ret (pe_tup (pa_cons pe_str (pa_cons (pe_ix ix_list (pv 2) (pv 3) (fun _ _ => rfl)) pa_nil))))) pss_nil)))
      (pss_cons (ps_set (i := 4) sc_law_due.nd rfl (by first | exact Or.inl rfl | exact Or.inr rfl) (pe_call G_law_first_wrong (hr.mono (by omega)) (by rfl) T.g_law_first_wrong T.F_law_first_wrong.kp T.b_law_first_wrong .nil pass0 (pa_cons (pv 0) pa_nil)))
      (pss_cons (ps_if (pt_cmpR op_ge (pv 4) pe_int (nomark _)) (pss_one (ps_ret (pe_tup (pa_cons pe_str (pa_cons (pe_ix ix_list (pv 2) (pv 4) (fun _ _ => rfl)) pa_nil))))) pss_nil)
      (pss_cons (ps_if (PW.pt (pw_and (pt_truth (pv 0) (by intro _; rfl)) (pw_and1 (pt_cmpR op_notIn_seq (pe_ix ix_list (pv 0) (pe_un un_neg pe_int) (fun _ _ => rfl)) (pe_tup (pa_cons pe_str (pa_cons pe_str pa_nil))) rfl)))) (pss_one (ps_ret (pe_tup (pa_cons pe_str (pa_cons (pe_callB call_len_str (by rfl) T.n_len boot_len (pa_cons (pv 1) pa_nil)) pa_nil))))) pss_nil)
      (pss_one (ps_ret (pe_tup (pa_cons pe_str (pa_cons pe_int pa_nil))))))))), ?_⟩
    have give : ∀ (H1 : Hp) (m : Str) (k : Nat) (a : Addr), Same H H1 → H1 a = none → dueOf ts ps t.length = (m, k) → Q (.ref a) (upd H1 a (.tup [.str m, nV k])) := fun H1 m k a s1 na e => by
      refine q _ a (fun b o h => ?_) ?_
      · rw [upd_ne (ne_of_none (s1 b o h) na)]
        exact s1 b o h
      · rw [upd_same, e]
    have place : ∀ (H1 : Hp) (k : Nat), Same H H1 → k < ts.length → atI (ps.map nV) (k : Int) = some (nV (ps.getD k 0)) := fun H1 k s1 hk => by
      refine atI_nat ?_
      have hk' : k < ps.length := by omega
      rw [List.getElem?_map, List.getElem?_eq_getElem hk', List.getD_eq_getElem?_getD, List.getElem?_eq_getElem hk']
      rfl
    refine ⟨_, rfl, p, _, rfl, .inl (SqL.of eP), _, rfl, by rw [List.length_map]; omega, by rw [List.length_map]; omega, ?_⟩
    refine for_range (lo := 0) (n := (ts.map tx).length) (fun i σ H' => ∃ (v3 : Option V), σ = [some (.ref p), some (tx t), some (.ref pr), v3, none] ∧ Same H H' ∧ SS.firstBad ts = (SS.firstBad (ts.drop i)).map (· + i)) ⟨none, rfl, fun _ _ h => h, by simp⟩ ?_ ?_
    · rintro i σ H' hi ⟨v3, rfl, sm, hfb⟩
      rw [List.length_map] at hi
      have ga : (ts.map tx)[i]? = some (tx ts[i]) := by
        rw [List.getElem?_map, List.getElem?_eq_getElem hi]
        rfl
      rw [List.drop_eq_getElem_cons hi, SS.firstBad] at hfb
      rw [Int.zero_add]
      have er := sm _ _ eR
      refine ⟨_, rfl, _, rfl, p, _, _, _, rfl, rfl, SqL.of (sm _ _ eP), atI_nat ga, small (show 4 ≤ 1100000 by decide), fun u nu => ?_⟩
      refine ⟨u, wrong4.map V.str, rfl, .inr (SqT.of upd_same), rfl, rfl, _, rfl, ?_⟩
      have s1 : Same H (upd H' u (.tup (wrong4.map V.str))) := sm.trans (same_upd nu)
      by_cases hb : SS.bad ts[i] = true
      · refine iT ((bad_in _).trans hb) ?_
        rw [if_pos hb] at hfb
        refine ⟨_, rfl, _, rfl, pr, _, _, _, rfl, rfl, SqL.of (s1 _ _ eR), place _ i s1 hi, small (show 2 ≤ 1100000 by decide), fun a na => ?_⟩
        refine give _ _ _ a s1 na ?_
        unfold dueOf
        rw [hfb]
        simp
      · refine iF ((bad_in _).trans (by simpa using hb)) ?_
        rw [if_neg hb, fw_map] at hfb
        exact ⟨_, rfl, s1, hfb⟩
    · rintro σ H' ⟨v3, rfl, sm, hfb⟩
      rw [List.length_map, List.drop_of_length_le (Nat.le_refl _)] at hfb
      have hn : SS.firstBad ts = none := by
        rw [hfb]
        rfl
      -- wrong = _law_first_wrong(tokens)
      refine ⟨_, rfl, p, ts, rfl, sm _ _ eP, hts, htl, ?_⟩
      refine ⟨_, rfl, _, _, rfl, rfl, _, rfl, ?_⟩
      cases hw : SS.fw ts 0 false false with
      | some k =>
        refine iT (decide_eq_true (Int.natCast_nonneg k)) ?_
        refine ⟨_, rfl, _, rfl, pr, _, _, _, rfl, rfl, SqL.of (sm _ _ eR), place _ k sm (fw_lt _ _ _ _ _ hw), small (show 2 ≤ 1100000 by decide), fun a na => ?_⟩
        refine give _ _ _ a sm na ?_
        unfold dueOf
        rw [hn, hw]
      | none =>
        refine iF (decide_eq_false (by decide)) ?_
        have fin : SS.lastName ts = false → ∀ (H1 : Hp), Same H H1 → ∀ (a : Addr), H1 a = none → Q (.ref a) (upd H1 a (.tup [.str "events", .int 0])) := fun hl H1 s1 a na => by
          refine give H1 "events" 0 a s1 na ?_
          unfold dueOf
          rw [hn, hw]
          dsimp only
          rw [if_neg (by rw [hl]; exact Bool.false_ne_true)]
        refine ⟨_, rfl, _, .inl ⟨_, SqL.of (sm _ _ eP), rfl⟩, ?_⟩
        rcases List.eq_nil_or_concat ts with h0 | ⟨r, x, hx⟩
        · subst h0
          refine iF rfl ?_
          refine iF rfl ?_
          exact ⟨small (show 2 ≤ 1100000 by decide), fun a na => fin rfl _ sm a na⟩
        · rw [List.concat_eq_append] at hx
          subst hx
          have em : (r ++ [x]).map tx = r.map tx ++ [tx x] := map_more
          refine iT (by rw [em]; simp) ?_
          have gl : atI ((r ++ [x]).map tx) (-1) = some (tx x) := by
            rw [em]
            exact atI_last _ _
          refine ⟨_, rfl, _, rfl, p, _, _, _, rfl, rfl, SqL.of (sm _ _ eP), gl, small (show 2 ≤ 1100000 by decide), fun u nu => ?_⟩
          have s1 : Same H (upd H' u (.tup ((["(", ")"] : List Str).map V.str))) := sm.trans (same_upd nu)
          refine ⟨u, (["(", ")"] : List Str).map V.str, rfl, .inr (SqT.of upd_same), rfl, rfl, _, rfl, ?_⟩
          have hl : SS.lastName (r ++ [x]) = !(x == [40] || x == [41]) := by
            unfold SS.lastName
            rw [List.getLast?_concat]
            by_cases h1 : x = [40]
            · subst h1
              rfl
            · by_cases h2 : x = [41]
              · subst h2
                rfl
              · simp [h1, h2]
          by_cases hp : (x == [40] || x == [41]) = true
          · refine iF (by rw [if_pos rfl, paren_in, hp]; rfl) ?_
            exact ⟨small (show 2 ≤ 1100000 by decide), fun a na => fin (by rw [hl, hp]; rfl) _ s1 a na⟩
          · have hp' : (x == [40] || x == [41]) = false := by simpa using hp
            refine iT (by rw [if_pos rfl, paren_in, hp']; rfl) ?_
            refine ⟨_, rfl, _, rfl, (by rw [len_mk]; exact small (by omega)), small (show 2 ≤ 1100000 by decide), fun a na => ?_⟩
            have z := give _ "unexpected end" t.length a s1 na (by
              unfold dueOf
              rw [hn, hw]
              dsimp only
              rw [hl, hp']
              rfl)
            unfold nV at z
            rw [← len_mk t] at z
            exact z
end
end K42
namespace K42
open PySem PySem.Spec PyProof.Rows L2 SX
/-- what is told of a text: the message, the place, the events -/
def toldOf (l : List (List Nat × Nat)) (e : Option Nat) : Str × Nat × List (List Nat) :=
  match e with
  | some k => ("unknown character", k, [])
  | none => match (SS.rd l 0 false).2 with
    | none => ("events", 0, (SS.rd l 0 false).1)
    | some x => (saysB x.2, x.1, [])
def spTold : Sp := fun vs H Q _ => ∃ (t : List Nat) (l : List (List Nat × Nat)) (e : Option Nat), vs = [tx t] ∧ t.length ≤ 1000000 ∧ SS.Lex [40, 41] t 0 l e ∧ (∀ m k ev, toldOf l e = (m, k, ev) → m.length ≤ 1000 ∧ k ≤ 1100000) ∧
  ∀ H' a b, Same H H' → H' a = some (.tup [.str (toldOf l e).1, nV (toldOf l e).2.1, .ref b]) → H' b = some (.lst ((toldOf l e).2.2.map tx)) → Q (.ref a) H'
section
variable {P : Program} {w : World} {K : PySem.W.Frag} {mg : Str → Option Value} {base : Heap}
theorem says_eq (m : Str) (p : Int) : m ++ (" at " : Str) ++ (toString p : Str) = TE.says m p := by
  refine cd_inj ?_
  unfold TE.says
  rw [cd_append, cd_append, cd_append, cd_append, cd_append]
  rfl
theorem ok_told (T : Txt P K mg) : FnOk P w K mg base CX0 7 T.a_law_told T.fd_law_told ["text"] spTold := by
  have G_read_events : FnOk P w K mg base (TE.CX P w) 6 T.a_read_events T.fd_read_events ["text"] (spReadEvents T.C_te) := ok_read_events T
  refine T.F_law_told.ok sc_law_told (fun vs H Q E h => ?_) (fun cdv A outer s H vs Q E hr h => ?_)
  · obtain ⟨_, _, _, rfl, _⟩ := h
    rfl
  · obtain ⟨t, l, e, rfl, ht, hlex, hsz, q⟩ := h
    refine ⟨_, pss_one (TE.ps_try_as (i := 1) (tb := fun W => tRet (tTup (tCons (tC (.str "events")) (tCons (tC (.int 0)) (tCons (tCallS (spReadEvents T.C_te) (WE W) (tCons (tVar 0) tNil)) tNil))))) rfl rfl sc_law_told.nd rfl rfl ⟨rfl, by decide, Or.inl T.te.gC⟩
      (fun W pn xe tk _ => pss_one (ps_ret (pe_tup (pa_cons pe_str (pa_cons pe_int (pa_cons (by exact (pe_callS G_read_events hr rfl T.g_read_events T.F_read_events.kp T.b_read_events (fun σ => TE.passesAt tk σ) (by exact (pa_cons (pv 0) pa_nil)))) pa_nil))))))
      (fun a oe cls d t pn hz hf => pss_cons (ps_set (i := 2) sc_law_told.nd rfl (Or.inl rfl) (pe_and (pe_callB (TE.call_isi T.te T.ask hz hf) (by rfl) T.n_isinstance (by decide +kernel) (pa_cons (pv 1) (pa_cons (pe_glob (v := .ref T.C_se) (by rfl) T.g_se rfl) pa_nil)))
          (pe_one (pe_cmpR op_eq (pe_callTy (TE.call_str T.te T.ask (Nat.lt_of_le_of_lt (Nat.add_le_add_left (by decide : 2 ≤ 64) _) hr.units) hz hf) (by rfl) T.n_str (by decide +kernel) (pa_cons (pv 1) pa_nil))
            (pe_op op_add_str (pe_op op_add_str (TE.pe_byF T.te T.ask T.te.noM hz hf (pv 1)) pe_str) (pe_callTy call_str_int (by rfl) T.n_str (by decide +kernel) (pa_cons (TE.pe_byF T.te T.ask T.te.noP hz hf (pv 1)) pa_nil))) (nomark _)))))
        (pss_one (ps_ret (pe_tup (pa_cons (pe_ifExp (pt_val (pv 2)) (TE.pe_byF T.te T.ask T.te.noM hz hf (pv 1)) pe_str) (pa_cons (TE.pe_byF T.te T.ask T.te.noP hz hf (pv 1)) (pa_cons (pe_lst pa_nil) pa_nil)))))))), ?_⟩
    refine (fun (fin : ∀ (m : Str) (k : Nat), toldOf l e = (m, k, []) → Fails T.C_te H ?W m k) => ?main) ?sec
    case main =>
      refine ⟨_, rfl, ⟨t.toArray⟩, l, e, rfl, by rw [cd_mk]; exact ht, by rw [cd_mk]; exact hlex, ?_⟩
      cases e with
      | some k => exact fin _ _ rfl
      | none =>
        cases hr2 : (SS.rd l 0 false).2 with
        | some x =>
          refine fin (saysB x.2) x.1 ?_
          unfold toldOf
          rw [hr2]
        | none =>
          intro H1 b s1 nb eb
          have h1 : toldOf l none = (("events" : Str), 0, (SS.rd l 0 false).1) := by
            unfold toldOf
            rw [hr2]
          rw [h1] at q
          refine ⟨small (show 3 ≤ 1100000 by decide), fun a na => q _ a b (s1.trans (same_upd na)) upd_same ?_⟩
          rw [upd_ne (ne_of_none eb na)]
          exact eb
    case sec =>
      intro m k hm H1 d s1 hd
      obtain ⟨hml, hkl⟩ := hsz m k [] hm
      refine ⟨T.exm, fun a dd t' edd na te => ?_⟩
      cases edd
      obtain ⟨m', p', h1, h2⟩ := te
      have hfs : TE.fs m' p' = TE.fs m (k : Nat) := by
        rw [hd] at h1
        exact (HO.xd.inj (Option.some.inj h1)).symm
      have hm' : m' = m := by
        have := (List.cons.inj hfs).1
        exact V.str.inj (Prod.mk.inj this).2
      have hp' : p' = (k : Nat) := by
        have := (List.cons.inj (List.cons.inj hfs).2).1
        exact V.int.inj (Prod.mk.inj this).2
      subst hm' hp'
      have lm : (TE.fs m' (k : Nat)).lookup ("message" : Str) = some (.str m') := by
        unfold TE.fs
        rw [lookup_put, if_pos rfl]
      have lp : (TE.fs m' (k : Nat)).lookup ("place" : Str) = some (.int (k : Nat)) := by
        unfold TE.fs
        rw [lookup_put, if_neg (by decide +kernel), lookup_put, if_pos rfl]
      have l4 : ((" at " : Str)).length = 4 := by decide +kernel
      have l5 : (m' ++ (" at " : Str)).length = m'.length + 4 := by rw [Str.length_append, l4]
      have l6 := int_text_len_1921 (log_small (n := k) hkl)
      -- right = ..
      refine ⟨_, rfl, ⟨_, hd⟩, T.C_se, true, rfl, rfl, T.kit, true, rfl, iT rfl ?_⟩
      refine ⟨_, rfl, rfl, rfl, _, h2, ?_⟩
      refine ⟨_, rfl, rfl, rfl, _, _, hd, lm, _, _, rfl, rfl, small (by omega), _, rfl, rfl, rfl, _, _, hd, lp, _, rfl, log_small hkl, _, _, rfl, rfl, small (by omega), rfl, ?_⟩
      rw [show decide (V.str (TE.says m' ((k : Nat) : Int)) = V.str (m' ++ (" at " : Str) ++ (Str.ofString (toString ((k : Nat) : Int))))) = true from decide_eq_true (congrArg V.str (says_eq m' _).symm)]
      -- the tuple
      refine ⟨_, rfl, true, rfl, iT rfl ?_⟩
      refine ⟨_, rfl, rfl, rfl, _, _, hd, lm, _, rfl, rfl, rfl, _, _, hd, lp, Nat.zero_le _, fun b nb => ⟨small (show 3 ≤ 1100000 by decide), fun a2 na2 => ?_⟩⟩
      rw [hm] at q
      have ne : b ≠ a2 := ne_of_none upd_same na2
      refine q _ a2 b (fun x o h => ?_) upd_same ?_
      · rw [upd_ne (ne_of_none (show (upd H1 b (.lst [])) x = some o by rw [upd_ne (ne_of_none (s1 x o h) nb)]; exact s1 x o h) na2), upd_ne (ne_of_none (s1 x o h) nb)]
        exact s1 x o h
      · rw [upd_ne ne, upd_same]
        rfl
end
end K42
namespace K42
open PySem PySem.Spec PyProof.Rows L2 SX
/-! ### the law -/
theorem drawn_fine {t : List Nat} (h : Drawn t) : (SS.Fine t ∨ SS.bad t = true) ∧ t.length ≤ 9 := by
  have z : ∀ g ∈ names3 ++ wild ++ wrong4, (cd g = [40] ∨ cd g = [41] ∨ (cd g ≠ [] ∧ (cd g).all SS.isLow = true) ∨ SS.bad (cd g) = true) ∧ (cd g).length ≤ 9 := by decide +kernel
  obtain ⟨g, rfl, hg⟩ := h
  obtain ⟨a, b⟩ := z g (by simp only [List.mem_append]; rcases hg with h | h | h <;> simp [h])
  refine ⟨?_, b⟩
  rcases a with a | a | a | a
  · exact .inl (.inl a)
  · exact .inl (.inr (.inl a))
  · exact .inl (.inr (.inr a))
  · exact .inr a
theorem spots_le : ∀ (z : List (List Nat × List Nat)) (i : Nat), ∀ x ∈ SS.spots i z, x ≤ i + (SS.glue z).length
  | [], i, x, h => by cases h
  | y :: r, i, x, h => by
    have e : (SS.glue (y :: r)).length = y.1.length + y.2.length + (SS.glue r).length := by
      show (y.1 ++ (y.2 ++ SS.glue r)).length = _
      simp
      omega
    rcases List.mem_cons.mp h with rfl | h
    · omega
    · have := spots_le r _ x h
      omega
theorem getD_le {l : List Nat} {k n : Nat} (h : ∀ x ∈ l, x ≤ n) : l.getD k 0 ≤ n := by
  rw [List.getD_eq_getElem?_getD]
  cases e : l[k]? with
  | none => exact Nat.zero_le _
  | some x => exact h x (List.mem_of_getElem? e)
/-- what is told is what is due -/
theorem meet {ts : List (List Nat)} {pre : List Nat} {z : List (List Nat × List Nat)} (g : Glued ts pre z) (hd : ∀ t ∈ ts, Drawn t) :
    ∃ l e, SS.Lex [40, 41] (pre ++ SS.glue z) 0 l e ∧ toldOf l e = ((dueOf ts (SS.spots pre.length z) (pre ++ SS.glue z).length).1, (dueOf ts (SS.spots pre.length z) (pre ++ SS.glue z).length).2, (toldOf l e).2.2) ∧
      ((dueOf ts (SS.spots pre.length z) (pre ++ SS.glue z).length).1 = "events" → (toldOf l e).2.2 = ts.filter fun t => decide (t ≠ [40])) := by
  obtain ⟨ht, hp, hb⟩ := g
  have hs : (32 : Nat) ∉ [40, 41] ∧ (10 : Nat) ∉ [40, 41] := by decide
  have H := SS.lex_glue z (0 + pre.length) fun x hx => ⟨(hb x hx).1, (hb x hx).2, (drawn_fine (hd x.1 (by rw [← ht]; exact List.mem_map_of_mem hx))).1⟩
  rw [ht] at H
  have n1 : ¬ (("unknown character" : Str) = "events") := by decide +kernel
  have n2 : ¬ (("unexpected token" : Str) = "events") := by decide +kernel
  have n3 : ¬ (("unexpected end" : Str) = "events") := by decide +kernel
  rw [Nat.zero_add] at H
  cases q : SS.firstBad ts with
  | some k =>
    rw [q] at H
    obtain ⟨l, hl⟩ := H
    have ed : dueOf ts (SS.spots pre.length z) (pre ++ SS.glue z).length = (("unknown character" : Str), (SS.spots pre.length z).getD k 0) := by
      unfold dueOf
      rw [q]
    rw [ed]
    exact ⟨l, _, SS.lex_blank hs hp (by rw [Nat.zero_add]; exact hl), rfl, fun h => absurd h n1⟩
  | none =>
    rw [q] at H
    have L := SS.lex_blank hs hp (i := 0) (by rw [Nat.zero_add]; exact H)
    have en : pre.length + (SS.glue z).length = (pre ++ SS.glue z).length := by rw [List.length_append]
    rw [en] at L
    have fine : ∀ t ∈ ts, SS.Fine t := by
      have nb : ∀ (ts : List (List Nat)), SS.firstBad ts = none → ∀ t ∈ ts, SS.bad t = false := by
        intro ts
        induction ts with
        | nil => exact fun _ t h => nomatch h
        | cons a r ih =>
          intro h t ht
          rw [SS.firstBad] at h
          by_cases hb : SS.bad a = true
          · rw [if_pos hb] at h
            cases h
          · rw [if_neg hb] at h
            have h' : SS.firstBad r = none := by
              cases e : SS.firstBad r with
              | none => rfl
              | some k =>
                rw [e] at h
                cases h
            rcases List.mem_cons.mp ht with rfl | ht
            · simpa using hb
            · exact ih h' t ht
      intro t ht
      exact (drawn_fine (hd t ht)).1.resolve_right (by rw [nb ts q t ht]; exact Bool.false_ne_true)
    have A := SS.agree (pre ++ SS.glue z).length ts.length ts (SS.spots pre.length z) 0 false (Nat.le_refl _) (by rw [SS.spots_len, ← ht, List.length_map]) fine (fun h => absurd h (Nat.lt_irrefl _))
    unfold SS.Agree at A
    refine ⟨_, none, L, ?_⟩
    cases hw : SS.fw ts 0 false false with
    | some k =>
      rw [hw] at A
      have ed : dueOf ts (SS.spots pre.length z) (pre ++ SS.glue z).length = (("unexpected token" : Str), (SS.spots pre.length z).getD k 0) := by
        unfold dueOf
        rw [q, hw]
      rw [ed]
      refine ⟨?_, fun h => absurd h n2⟩
      unfold toldOf
      dsimp only at A ⊢
      rw [A]
      rfl
    | none =>
      rw [hw] at A
      dsimp only at A
      by_cases hn : SS.lastName ts = true
      · rw [if_pos hn] at A
        have ed : dueOf ts (SS.spots pre.length z) (pre ++ SS.glue z).length = (("unexpected end" : Str), (pre ++ SS.glue z).length) := by
          unfold dueOf
          rw [q, hw]
          dsimp only
          rw [if_pos hn]
        rw [ed]
        refine ⟨?_, fun h => absurd h n3⟩
        unfold toldOf
        dsimp only
        rw [A]
        rfl
      · rw [if_neg hn] at A
        have ed : dueOf ts (SS.spots pre.length z) (pre ++ SS.glue z).length = (("events" : Str), 0) := by
          unfold dueOf
          rw [q, hw]
          dsimp only
          rw [if_neg hn]
        rw [ed]
        have et : toldOf (SS.toks ts (SS.spots pre.length z) (pre ++ SS.glue z).length) none = (("events" : Str), 0, ts.filter fun t => decide (t ≠ [40])) := by
          unfold toldOf
          dsimp only
          rw [A]
        rw [et]
        exact ⟨rfl, fun _ => rfl⟩
theorem due_small {ts : List (List Nat)} {ps : List Nat} {n : Nat} (h : ∀ x ∈ ps, x ≤ n) : (dueOf ts ps n).1.length ≤ 1000 ∧ (dueOf ts ps n).2 ≤ n := by
  have z : ∀ s ∈ (["unknown character", "unexpected token", "unexpected end", "events"] : List Str), s.length ≤ 1000 := by decide +kernel
  unfold dueOf
  cases SS.firstBad ts with
  | some k => exact ⟨z _ (by simp), getD_le h⟩
  | none =>
    cases SS.fw ts 0 false false with
    | some k => exact ⟨z _ (by simp), getD_le h⟩
    | none =>
      dsimp only
      by_cases hn : SS.lastName ts = true
      · rw [if_pos hn]
        exact ⟨z _ (by simp), Nat.le_refl _⟩
      · rw [if_neg hn]
        exact ⟨z _ (by simp), Nat.zero_le _⟩
theorem da_texts {H : Hp} {b : Addr} {ev : List (List Nat)} (h : H b = some (.lst (ev.map tx))) (hl : ev.length ≤ 1000000) : Da H 2 (.ref b) (.list (ev.map fun t => .str ⟨t.toArray⟩)) := by
  refine .lst h (by simp) (by simpa using hl) fun i v d h1 h2 => ?_
  rw [List.getElem?_map] at h1 h2
  cases e : ev[i]? with
  | none =>
    rw [e] at h1
    cases h1
  | some t =>
    rw [e] at h1 h2
    cases h1
    cases h2
    exact .str _
theorem da_pair {H : Hp} {b : Addr} {s : Str} {k : Nat} (h : H b = some (.tup [.str s, nV k])) : Da H 2 (.ref b) (.tuple [.str s, .int (k : Nat)]) := by
  refine .tup h rfl (show 2 ≤ 1000000 by decide) fun i v d h1 h2 => ?_
  match i, h1, h2 with
  | 0, h1, h2 =>
    cases h1
    cases h2
    exact .str _
  | 1, h1, h2 =>
    cases h1
    cases h2
    exact .int _
  | i + 2, h1, h2 => cases h1
def spLaw (K : PySem.W.Frag) : Sp := fun vs H Q _ => ∃ (a : Addr) (ns : List Int), vs = [.ref a] ∧ SqL K H a (ns.map V.int) ∧ ns.length ≤ 63 ∧ ∀ H', Q (.bl true) H'
theorem law_in {K : PySem.W.Frag} {H : Hp} {a : Addr} {ns : List Int} (hS : SqL K H a (ns.map V.int)) (hl : ns.length ≤ 63) : spLaw K [.ref a] H (fun v _ => v = .bl true) fun _ _ _ => False := ⟨a, ns, rfl, hS, hl, fun _ => rfl⟩
theorem DrawAt.same {H H' : Hp} {d sc : Addr} (h : DrawAt H d sc) (s : Same H H') : DrawAt H' d sc := by
  obtain ⟨ns, i, b, sd, e1, e2, h3⟩ := h
  exact ⟨ns, i, b, sd, s _ _ e1, s _ _ e2, h3⟩
section
variable {P : Program} {w : World} {K : PySem.W.Frag} {mg : Str → Option Value} {base : Heap}
theorem ok_law (T : Txt P K mg) : FnOk P w K mg base CX0 8 T.a_law T.fd_law ["script"] (spLaw K) := by
  have G_law_draw : FnOk P w K mg base CX0 1 T.a_law_draw T.fd_law_draw ["script"] (spDraw K) := ok_draw T
  have G_law_tokens : FnOk P w K mg base CX0 2 T.a_law_tokens T.fd_law_tokens ["draw"] spTokens := ok_tokens T
  have G_law_text : FnOk P w K mg base CX0 2 T.a_law_text T.fd_law_text ["draw", "tokens"] spText := ok_text T
  have G_law_due : FnOk P w K mg base CX0 2 T.a_law_due T.fd_law_due ["tokens", "text", "places"] spDue := ok_due T
  have G_law_told : FnOk P w K mg base CX0 7 T.a_law_told T.fd_law_told ["text"] spTold := ok_told T
  have G_law_same : FnOk P w K mg base CX0 3 T.a_law_same T.fd_law_same ["actual", "due"] (spSame 2) := ok_same T 2
  refine T.F_law.ok sc_law (fun vs H Q E h => ?_) (fun cdv A outer s H vs Q E hr h => ?_)
  · obtain ⟨_, _, rfl, _⟩ := h
    rfl
  · obtain ⟨a, ns, rfl, hS, hn, q⟩ := h
    refine ⟨_, (pss_cons (ps_set (i := 1) sc_law.nd rfl (by first | exact Or.inl rfl | exact Or.inr rfl) (pe_call G_law_draw (hr.mono (by omega)) (by rfl) T.g_law_draw T.F_law_draw.kp T.b_law_draw .nil pass0 (pa_cons (pv 0) pa_nil)))
      (pss_cons (ps_for PassesOwn.never rfl (pi_range1 (by rfl) T.n_range (pa_cons pe_int pa_nil)) (pg_name (i := 2) sc_law.nd rfl (by first | exact Or.inl rfl | exact Or.inr rfl)) (pss_cons (ps_set (i := 3) sc_law.nd rfl (by first | exact Or.inl rfl | exact Or.inr rfl) (pe_call G_law_tokens (hr.mono (by omega)) (by rfl) T.g_law_tokens T.F_law_tokens.kp T.b_law_tokens .nil pass0 (pa_cons (pv 1) pa_nil)))
      (pss_cons (ps_asg (pe_call G_law_text (hr.mono (by omega)) (by rfl) T.g_law_text T.F_law_text.kp T.b_law_text .nil pass0 (pa_cons (pv 1) (pa_cons (pv 3) pa_nil))) (pg_tup (by rfl) (pgs_cons (pg_name (i := 6) sc_law.nd rfl (by first | exact Or.inl rfl | exact Or.inr rfl)) (pgs_cons (pg_name (i := 7) sc_law.nd rfl (by first | exact Or.inl rfl | exact Or.inr rfl)) pgs_nil))))
      (pss_cons (ps_set (i := 4) sc_law.nd rfl (by first | exact Or.inl rfl | exact Or.inr rfl) (pe_call G_law_due (hr.mono (by omega)) (by rfl) T.g_law_due T.F_law_due.kp T.b_law_due .nil pass0 (pa_cons (pv 3) (pa_cons (pv 6) (pa_cons (pv 7) pa_nil)))))
      (pss_cons (ps_set (i := 5) sc_law.nd rfl (by first | exact Or.inl rfl | exact Or.inr rfl) (pe_call G_law_told (hr.mono (by omega)) (by rfl) T.g_law_told T.F_law_told.kp T.b_law_told .nil pass0 (pa_cons (pv 6) pa_nil)))
      (pss_cons (ps_if (pt_not (pt_val (pe_call G_law_same (hr.mono (by omega)) (by rfl) T.g_law_same T.F_law_same.kp T.b_law_same .nil pass0 (pa_cons (pe_slice sl_tup (pv 5) po_none (po_some pe_int)) (pa_cons (pv 4) pa_nil))))) (pss_one (ps_ret pe_bl)) pss_nil)
      (pss_one (ps_if (PW.pt (pw_and (pt_cmpR op_eq (pe_ix ix_tup (pv 4) pe_int (fun _ _ => rfl)) pe_str (nomark _)) (pw_and1 (pt_not (pt_val (pe_call G_law_same (hr.mono (by omega)) (by rfl) T.g_law_same T.F_law_same.kp T.b_law_same .nil pass0 (pa_cons (pe_ix ix_tup (pv 5) pe_int (fun _ _ => rfl)) (pa_cons (pe_lc (own := [("token", 8)]) (g := gName 8) (by rfl) sc_law.nd (pi_list (pv 3)) (blkOk_by (own := [("token", 8)]) (N := ["script", "draw", "turn", "tokens", "due", "told", "text", "places", "token"]) (sc := defScope s_law) (by decide +kernel)) (fun _ _ _ _ _ => pg_name (i := 8) sc_law.nd rfl (Or.inl rfl)) (fun _ _ _ _ _ => (pts_one (pt_cmpR op_ne (pv 8) pe_str (nomark _)))) (fun _ _ _ _ _ => (pv 8))) pa_nil)))))))) (pss_one (ps_ret pe_bl)) pss_nil))))))))
      (pss_one (ps_ret pe_bl)))), ?_⟩
    refine ⟨_, rfl, a, ns, rfl, hS, hn, fun H0 d sc s0 nd nsc D0 => ?_⟩
    refine ⟨_, rfl, by decide, by decide, ?_⟩
    refine for_range (lo := 0) (n := 4) (fun i σ H' => ∃ v2 v3 v4 v5 v6 v7 v8 : Option V, σ = [some (.ref a), some (.ref d), v2, v3, v4, v5, v6, v7, v8] ∧ DrawAt H' d sc) ⟨none, none, none, none, none, none, none, rfl, D0⟩ ?_ ?_
    · rintro i σ H1 hi ⟨v2, v3, v4, v5, v6, v7, v8, rfl, D1⟩
      -- tokens = _law_tokens(draw)
      refine ⟨_, rfl, d, sc, rfl, D1, fun H2 p ts b2 D2 nHp eP hdr hlen => ?_⟩
      have npd := D1.ne nHp
      -- text, places = _law_text(draw, tokens)
      refine ⟨_, rfl, _, rfl, d, sc, p, ts, rfl, D2, eP, npd, by omega, fun t ht => by have := (drawn_fine (hdr t ht)).2; omega, fun H3 qa pr pre z b3 D3 eQ eR hg hz nHr => ?_⟩
      have eP3 := b3 _ _ npd eP
      refine ⟨qa, _, rfl, SqT.of eQ, rfl, _, _, rfl, _, _, rfl, rfl, ?_⟩
      -- due = _law_due(tokens, text, places)
      have hlz : z.length = ts.length := by rw [← hg.tok, List.length_map]
      refine ⟨_, rfl, _, rfl, _, rfl, p, pr, pre ++ SS.glue z, ts, SS.spots pre.length z, rfl, eP3, eR, by rw [SS.spots_len, hlz], by omega, fun t ht => by have := (drawn_fine (hdr t ht)).2; omega, by omega, fun H4 u s4 eU => ?_⟩
      obtain ⟨l, e, hlex, htold, hev⟩ := meet hg hdr
      obtain ⟨hsm, hsk⟩ := due_small (ts := ts) (ps := SS.spots pre.length z) (n := (pre ++ SS.glue z).length) fun x hx => by
        have := spots_le z _ x hx
        rw [List.length_append]
        exact this
      generalize dueOf ts (SS.spots pre.length z) (pre ++ SS.glue z).length = due at eU htold hev hsm hsk
      -- told = _law_told(text)
      refine ⟨_, rfl, pre ++ SS.glue z, l, e, rfl, by omega, hlex, fun m k ev he => ?_, fun H5 ta tb s5 eT eB => ?_⟩
      · rw [htold] at he
        cases he
        exact ⟨hsm, by omega⟩
      · have D5 : DrawAt H5 d sc := (D3.same s4).same s5
        have eP5 := s5 _ _ (s4 _ _ eP3)
        have eU5 := s5 _ _ eU
        rw [htold] at eT
        dsimp only at eT
        -- _law_same(told[:2], due)
        refine ⟨_, rfl, 2, rfl, ta, _, rfl, SqT.of eT, (show ¬ (HT.sIx 3 0 none = 0 ∧ HT.sIx 3 3 (some 2) = 3) from by decide +kernel), fun tc ntc => ?_⟩
        have s6 : Same H5 (upd H5 tc (.tup (cutV [V.str due.1, nV due.2, V.ref tb] none (some 2)))) := same_upd ntc
        refine ⟨_, rfl, _, _, _, rfl, da_pair (s := due.1) (k := due.2) upd_same, da_pair (s6 _ _ eU5), fun H7 s7 => ⟨true, rfl, iF rfl ?_⟩⟩
        have s57 := s6.trans s7
        have stay : ∀ H9, Same H5 H9 → ∀ v8' : Option V, ∃ v2 v3 v4 v5 v6 v7 v8 : Option V, [some (V.ref a), some (.ref d), some (.int (0 + (i : Int))), some (.ref p), some (.ref u), some (.ref ta), some (tx (pre ++ SS.glue z)), some (.ref pr), v8'] = [some (.ref a), some (.ref d), v2, v3, v4, v5, v6, v7, v8] ∧ DrawAt H9 d sc :=
          fun H9 s9 v8' => ⟨_, _, _, _, _, _, _, rfl, D5.same s9⟩
        -- due[0] == 'events'
        refine ⟨_, rfl, u, _, _, _, rfl, rfl, SqT.of (s57 _ _ eU5), rfl, rfl, _, rfl, ?_⟩
        by_cases hE : due.1 = ("events" : Str)
        · refine iT (decide_eq_true (congrArg V.str hE)) ?_
          rw [hev hE] at eB
          have eB7 := s57 _ _ eB
          -- _law_same(told[2], [token for token in tokens if token != '('])
          refine ⟨_, rfl, ta, _, _, _, rfl, rfl, SqT.of (s57 _ _ eT), rfl, _, rfl, p, rfl, ⟨_, SqL.of (s57 _ _ eP5)⟩, fun L nL => ?_⟩
          refine lc_list (K := K) (a := p) (xs := ts.map tx) (fun j H' => Same H7 H' ∧ H' L = some (.lst (((ts.take j).filter fun t => decide (t ≠ [40])).map tx))) ⟨same_upd nL, upd_same⟩ (fun j H' _ h => SqL.of (h.1 _ _ (s57 _ _ eP5))) ?_ ?_
          · rintro j x H' hx ⟨s8, eL⟩
            have hj : j < ts.length := by
              have := (List.getElem?_eq_some_iff.mp hx).1
              rwa [List.length_map] at this
            obtain rfl : x = tx ts[j] := by
              rw [List.getElem?_map, List.getElem?_eq_getElem hj] at hx
              exact (Option.some.inj hx).symm
            have et : ts.take (j + 1) = ts.take j ++ [ts[j]] := by
              rw [List.take_add_one, List.getElem?_eq_getElem hj]
              rfl
            have e40 : cd ("(" : Str) = [40] := by decide +kernel
            refine ⟨rfl, _, rfl, rfl, _, rfl, ?_⟩
            by_cases h40 : ts[j] = [40]
            · refine iF (by rw [decide_eq_true (tx_str.mpr (h40.trans e40.symm))]; rfl) ⟨s8, ?_⟩
              rw [eL, et, List.filter_append, h40]
              simp
            · refine iT (by rw [decide_eq_false (fun h => h40 ((tx_str.mp h).trans e40))]; rfl) ⟨_, rfl, _, eL, ?_, fun b o h => ?_, ?_⟩
              · rw [List.length_map]
                have := List.length_filter_le (fun t => decide (t ≠ [40])) (ts.take j)
                rw [List.length_take] at this
                rw [sizeLine_eq]
                omega
              · rw [upd_ne (ne_of_none h nL)]
                exact s8 b o h
              · rw [upd_same, et, List.filter_append, List.map_append]
                simp [h40]
          · rintro H' ⟨s8, eL⟩
            rw [List.length_map, List.take_length] at eL
            have hfl := List.length_filter_le (fun t => decide (t ≠ [40])) ts
            refine ⟨_, _, _, rfl, da_texts (s8 _ _ eB7) (by omega), da_texts eL (by omega), fun H9 s9 => ⟨true, rfl, iF rfl ?_⟩⟩
            exact stay H9 (s57.trans (s8.trans s9)) _
        · refine iF (decide_eq_false fun h => hE (V.str.inj h)) ?_
          refine iF rfl ?_
          exact stay H7 s57 _
    · rintro σ H1 ⟨v2, v3, v4, v5, v6, v7, v8, rfl, D1⟩
      exact q _
end
end K42
namespace K42
open PySem PySem.Spec PyProof.Rows L2 SX
theorem all_mk {l : PySem.W.OpenLaw} {w : World} {K : PySem.W.Frag} {h : Heap} {mg : Str → Option Value} {fa : Addr} (X : K.In h) (G : h.Ns mainGlobals mg) (hfa : mg "law" = some (.ref fa))
    {prog : Program} (hprog : prog = l.prog)
    {C_Reader : Addr}
    {f_word_end : Addr} {od_word_end an_word_end : Option Addr} {sl_word_end : Array (Option Value)} {oc_word_end kV_word_end dc_word_end pm_word_end cd_word_end ct_word_end : Value}
    {f_tokens_of : Addr} {od_tokens_of an_tokens_of : Option Addr} {sl_tokens_of : Array (Option Value)} {oc_tokens_of kV_tokens_of dc_tokens_of pm_tokens_of cd_tokens_of ct_tokens_of : Value}
    {f_Reader___init__ : Addr} {od_Reader___init__ an_Reader___init__ : Option Addr} {sl_Reader___init__ : Array (Option Value)} {oc_Reader___init__ kV_Reader___init__ dc_Reader___init__ pm_Reader___init__ cd_Reader___init__ ct_Reader___init__ : Value}
    {f_Reader_step : Addr} {od_Reader_step an_Reader_step : Option Addr} {sl_Reader_step : Array (Option Value)} {oc_Reader_step kV_Reader_step dc_Reader_step pm_Reader_step cd_Reader_step ct_Reader_step : Value}
    {f_Reader_refuse : Addr} {od_Reader_refuse an_Reader_refuse : Option Addr} {sl_Reader_refuse : Array (Option Value)} {oc_Reader_refuse kV_Reader_refuse dc_Reader_refuse pm_Reader_refuse cd_Reader_refuse ct_Reader_refuse : Value}
    {f_Reader_read_name : Addr} {od_Reader_read_name an_Reader_read_name : Option Addr} {sl_Reader_read_name : Array (Option Value)} {oc_Reader_read_name kV_Reader_read_name dc_Reader_read_name pm_Reader_read_name cd_Reader_read_name ct_Reader_read_name : Value}
    {f_Reader_read_sign : Addr} {od_Reader_read_sign an_Reader_read_sign : Option Addr} {sl_Reader_read_sign : Array (Option Value)} {oc_Reader_read_sign kV_Reader_read_sign dc_Reader_read_sign pm_Reader_read_sign cd_Reader_read_sign ct_Reader_read_sign : Value}
    {f_read_events : Addr} {od_read_events an_read_events : Option Addr} {sl_read_events : Array (Option Value)} {oc_read_events kV_read_events dc_read_events pm_read_events cd_read_events ct_read_events : Value}
    {f_law_draw : Addr} {od_law_draw an_law_draw : Option Addr} {sl_law_draw : Array (Option Value)} {oc_law_draw kV_law_draw dc_law_draw pm_law_draw cd_law_draw ct_law_draw : Value}
    {f_law_next : Addr} {od_law_next an_law_next : Option Addr} {sl_law_next : Array (Option Value)} {oc_law_next kV_law_next dc_law_next pm_law_next cd_law_next ct_law_next : Value}
    {f_law_same : Addr} {od_law_same an_law_same : Option Addr} {sl_law_same : Array (Option Value)} {oc_law_same kV_law_same dc_law_same pm_law_same cd_law_same ct_law_same : Value}
    {f_law_tokens : Addr} {od_law_tokens an_law_tokens : Option Addr} {sl_law_tokens : Array (Option Value)} {oc_law_tokens kV_law_tokens dc_law_tokens pm_law_tokens cd_law_tokens ct_law_tokens : Value}
    {f_law_text : Addr} {od_law_text an_law_text : Option Addr} {sl_law_text : Array (Option Value)} {oc_law_text kV_law_text dc_law_text pm_law_text cd_law_text ct_law_text : Value}
    {f_law_first_wrong : Addr} {od_law_first_wrong an_law_first_wrong : Option Addr} {sl_law_first_wrong : Array (Option Value)} {oc_law_first_wrong kV_law_first_wrong dc_law_first_wrong pm_law_first_wrong cd_law_first_wrong ct_law_first_wrong : Value}
    {f_law_due : Addr} {od_law_due an_law_due : Option Addr} {sl_law_due : Array (Option Value)} {oc_law_due kV_law_due dc_law_due pm_law_due cd_law_due ct_law_due : Value}
    {f_law_told : Addr} {od_law_told an_law_told : Option Addr} {sl_law_told : Array (Option Value)} {oc_law_told kV_law_told dc_law_told pm_law_told cd_law_told ct_law_told : Value}
    {f_law : Addr} {od_law an_law : Option Addr} {sl_law : Array (Option Value)} {oc_law kV_law dc_law pm_law cd_law ct_law : Value}
    {t_LETTERS : Tok}
    {t_LONGEST_NAME : Tok}
    {C_te f_te C_se : Addr} {nm_te q_te : Str} {N_te : Addr} {bs_te bm_te : List Value} {sn_te : List Str} {sub_te : List Value} {ab_te : Bool} {col_te : Option Bool} {dd_te : Option Addr} {k0_te k1_te k2_te k3_te k5_te : Option Value}
    {oc_te : Value} {od_te : Option Addr} {kV_te doc_te pm_te : Value} {an_te : Option Addr} {cda_te : Addr} {ct_te : Value} {cc_te : Addr} {osl_te : Array (Option Value)} {ccl_te : Value} {cdd_te : Option Addr} {vs_te : Array Value} {ccs_te : Array (Option Value)} {file_te : Str} {tf_te : Tok} {cl_te : Value} {cld_te : Option Addr} {csl_te : Array (Option Value)}
    (g_Reader : PySem.W.nsIn K mainGlobals "Reader" = some (some (.ref C_Reader)))
    (p1_Reader : PySem.W.plainGet K C_Reader Str.empty = true)
    (p2_Reader : PySem.W.hasDictIn K C_Reader = true)
    (p3_Reader : PySem.W.plainOver K C_Reader = true)
    (p4_Reader : PySem.W.findIn K (.ref C_Reader) "__setattr__" = some (some (.builtin "object.__setattr__")))
    (p5_Reader : PySem.W.makesIn K C_Reader = true)
    (p6_Reader : PySem.W.keepIn K (.ref C_Reader) = true)
    (n_Reader_tokens : PySem.W.findIn K (.ref C_Reader) "tokens" = some none)
    (n_Reader_at : PySem.W.findIn K (.ref C_Reader) "at" = some none)
    (n_Reader_token : PySem.W.findIn K (.ref C_Reader) "token" = some none)
    (n_Reader_place : PySem.W.findIn K (.ref C_Reader) "place" = some none)
    (a_word_end : PySem.W.nsIn K mainGlobals "word_end" = some (some (.ref f_word_end)))
    (l_word_end : K.lookup f_word_end = some ⟨oc_word_end, od_word_end, .func (PySem.W.fnOf "word_end" "word_end" (defArgs s_word_end) (defBody s_word_end) (defScope s_word_end) .none kV_word_end dc_word_end pm_word_end an_word_end cd_word_end ct_word_end), sl_word_end⟩)
    (c_word_end : PySem.W.codeIn K cd_word_end "word_end" = true)
    (k_word_end : PySem.W.keepIn K (.ref f_word_end) = true)
    (a_tokens_of : PySem.W.nsIn K mainGlobals "tokens_of" = some (some (.ref f_tokens_of)))
    (l_tokens_of : K.lookup f_tokens_of = some ⟨oc_tokens_of, od_tokens_of, .func (PySem.W.fnOf "tokens_of" "tokens_of" (defArgs s_tokens_of) (defBody s_tokens_of) (defScope s_tokens_of) .none kV_tokens_of dc_tokens_of pm_tokens_of an_tokens_of cd_tokens_of ct_tokens_of), sl_tokens_of⟩)
    (c_tokens_of : PySem.W.codeIn K cd_tokens_of "tokens_of" = true)
    (k_tokens_of : PySem.W.keepIn K (.ref f_tokens_of) = true)
    (a_Reader___init__ : PySem.W.findIn K (.ref C_Reader) "__init__" = some (some (.ref f_Reader___init__)))
    (fn_Reader___init__ : PySem.W.isFn K (.ref f_Reader___init__) = true)
    (l_Reader___init__ : K.lookup f_Reader___init__ = some ⟨oc_Reader___init__, od_Reader___init__, .func (PySem.W.fnOf "__init__" "Reader.__init__" (defArgs s_Reader___init__) (defBody s_Reader___init__) (defScope s_Reader___init__) .none kV_Reader___init__ dc_Reader___init__ pm_Reader___init__ an_Reader___init__ cd_Reader___init__ ct_Reader___init__), sl_Reader___init__⟩)
    (c_Reader___init__ : PySem.W.codeIn K cd_Reader___init__ "Reader.__init__" = true)
    (k_Reader___init__ : PySem.W.keepIn K (.ref f_Reader___init__) = true)
    (a_Reader_step : PySem.W.findIn K (.ref C_Reader) "step" = some (some (.ref f_Reader_step)))
    (fn_Reader_step : PySem.W.isFn K (.ref f_Reader_step) = true)
    (l_Reader_step : K.lookup f_Reader_step = some ⟨oc_Reader_step, od_Reader_step, .func (PySem.W.fnOf "step" "Reader.step" (defArgs s_Reader_step) (defBody s_Reader_step) (defScope s_Reader_step) .none kV_Reader_step dc_Reader_step pm_Reader_step an_Reader_step cd_Reader_step ct_Reader_step), sl_Reader_step⟩)
    (c_Reader_step : PySem.W.codeIn K cd_Reader_step "Reader.step" = true)
    (k_Reader_step : PySem.W.keepIn K (.ref f_Reader_step) = true)
    (a_Reader_refuse : PySem.W.findIn K (.ref C_Reader) "refuse" = some (some (.ref f_Reader_refuse)))
    (fn_Reader_refuse : PySem.W.isFn K (.ref f_Reader_refuse) = true)
    (l_Reader_refuse : K.lookup f_Reader_refuse = some ⟨oc_Reader_refuse, od_Reader_refuse, .func (PySem.W.fnOf "refuse" "Reader.refuse" (defArgs s_Reader_refuse) (defBody s_Reader_refuse) (defScope s_Reader_refuse) .none kV_Reader_refuse dc_Reader_refuse pm_Reader_refuse an_Reader_refuse cd_Reader_refuse ct_Reader_refuse), sl_Reader_refuse⟩)
    (c_Reader_refuse : PySem.W.codeIn K cd_Reader_refuse "Reader.refuse" = true)
    (k_Reader_refuse : PySem.W.keepIn K (.ref f_Reader_refuse) = true)
    (a_Reader_read_name : PySem.W.findIn K (.ref C_Reader) "read_name" = some (some (.ref f_Reader_read_name)))
    (fn_Reader_read_name : PySem.W.isFn K (.ref f_Reader_read_name) = true)
    (l_Reader_read_name : K.lookup f_Reader_read_name = some ⟨oc_Reader_read_name, od_Reader_read_name, .func (PySem.W.fnOf "read_name" "Reader.read_name" (defArgs s_Reader_read_name) (defBody s_Reader_read_name) (defScope s_Reader_read_name) .none kV_Reader_read_name dc_Reader_read_name pm_Reader_read_name an_Reader_read_name cd_Reader_read_name ct_Reader_read_name), sl_Reader_read_name⟩)
    (c_Reader_read_name : PySem.W.codeIn K cd_Reader_read_name "Reader.read_name" = true)
    (k_Reader_read_name : PySem.W.keepIn K (.ref f_Reader_read_name) = true)
    (a_Reader_read_sign : PySem.W.findIn K (.ref C_Reader) "read_sign" = some (some (.ref f_Reader_read_sign)))
    (fn_Reader_read_sign : PySem.W.isFn K (.ref f_Reader_read_sign) = true)
    (l_Reader_read_sign : K.lookup f_Reader_read_sign = some ⟨oc_Reader_read_sign, od_Reader_read_sign, .func (PySem.W.fnOf "read_sign" "Reader.read_sign" (defArgs s_Reader_read_sign) (defBody s_Reader_read_sign) (defScope s_Reader_read_sign) .none kV_Reader_read_sign dc_Reader_read_sign pm_Reader_read_sign an_Reader_read_sign cd_Reader_read_sign ct_Reader_read_sign), sl_Reader_read_sign⟩)
    (c_Reader_read_sign : PySem.W.codeIn K cd_Reader_read_sign "Reader.read_sign" = true)
    (k_Reader_read_sign : PySem.W.keepIn K (.ref f_Reader_read_sign) = true)
    (a_read_events : PySem.W.nsIn K mainGlobals "read_events" = some (some (.ref f_read_events)))
    (l_read_events : K.lookup f_read_events = some ⟨oc_read_events, od_read_events, .func (PySem.W.fnOf "read_events" "read_events" (defArgs s_read_events) (defBody s_read_events) (defScope s_read_events) .none kV_read_events dc_read_events pm_read_events an_read_events cd_read_events ct_read_events), sl_read_events⟩)
    (c_read_events : PySem.W.codeIn K cd_read_events "read_events" = true)
    (k_read_events : PySem.W.keepIn K (.ref f_read_events) = true)
    (a_law_draw : PySem.W.nsIn K mainGlobals "_law_draw" = some (some (.ref f_law_draw)))
    (l_law_draw : K.lookup f_law_draw = some ⟨oc_law_draw, od_law_draw, .func (PySem.W.fnOf "_law_draw" "_law_draw" (defArgs s_law_draw) (defBody s_law_draw) (defScope s_law_draw) .none kV_law_draw dc_law_draw pm_law_draw an_law_draw cd_law_draw ct_law_draw), sl_law_draw⟩)
    (c_law_draw : PySem.W.codeIn K cd_law_draw "_law_draw" = true)
    (k_law_draw : PySem.W.keepIn K (.ref f_law_draw) = true)
    (a_law_next : PySem.W.nsIn K mainGlobals "_law_next" = some (some (.ref f_law_next)))
    (l_law_next : K.lookup f_law_next = some ⟨oc_law_next, od_law_next, .func (PySem.W.fnOf "_law_next" "_law_next" (defArgs s_law_next) (defBody s_law_next) (defScope s_law_next) .none kV_law_next dc_law_next pm_law_next an_law_next cd_law_next ct_law_next), sl_law_next⟩)
    (c_law_next : PySem.W.codeIn K cd_law_next "_law_next" = true)
    (k_law_next : PySem.W.keepIn K (.ref f_law_next) = true)
    (a_law_same : PySem.W.nsIn K mainGlobals "_law_same" = some (some (.ref f_law_same)))
    (l_law_same : K.lookup f_law_same = some ⟨oc_law_same, od_law_same, .func (PySem.W.fnOf "_law_same" "_law_same" (defArgs s_law_same) (defBody s_law_same) (defScope s_law_same) .none kV_law_same dc_law_same pm_law_same an_law_same cd_law_same ct_law_same), sl_law_same⟩)
    (c_law_same : PySem.W.codeIn K cd_law_same "_law_same" = true)
    (k_law_same : PySem.W.keepIn K (.ref f_law_same) = true)
    (a_law_tokens : PySem.W.nsIn K mainGlobals "_law_tokens" = some (some (.ref f_law_tokens)))
    (l_law_tokens : K.lookup f_law_tokens = some ⟨oc_law_tokens, od_law_tokens, .func (PySem.W.fnOf "_law_tokens" "_law_tokens" (defArgs s_law_tokens) (defBody s_law_tokens) (defScope s_law_tokens) .none kV_law_tokens dc_law_tokens pm_law_tokens an_law_tokens cd_law_tokens ct_law_tokens), sl_law_tokens⟩)
    (c_law_tokens : PySem.W.codeIn K cd_law_tokens "_law_tokens" = true)
    (k_law_tokens : PySem.W.keepIn K (.ref f_law_tokens) = true)
    (a_law_text : PySem.W.nsIn K mainGlobals "_law_text" = some (some (.ref f_law_text)))
    (l_law_text : K.lookup f_law_text = some ⟨oc_law_text, od_law_text, .func (PySem.W.fnOf "_law_text" "_law_text" (defArgs s_law_text) (defBody s_law_text) (defScope s_law_text) .none kV_law_text dc_law_text pm_law_text an_law_text cd_law_text ct_law_text), sl_law_text⟩)
    (c_law_text : PySem.W.codeIn K cd_law_text "_law_text" = true)
    (k_law_text : PySem.W.keepIn K (.ref f_law_text) = true)
    (a_law_first_wrong : PySem.W.nsIn K mainGlobals "_law_first_wrong" = some (some (.ref f_law_first_wrong)))
    (l_law_first_wrong : K.lookup f_law_first_wrong = some ⟨oc_law_first_wrong, od_law_first_wrong, .func (PySem.W.fnOf "_law_first_wrong" "_law_first_wrong" (defArgs s_law_first_wrong) (defBody s_law_first_wrong) (defScope s_law_first_wrong) .none kV_law_first_wrong dc_law_first_wrong pm_law_first_wrong an_law_first_wrong cd_law_first_wrong ct_law_first_wrong), sl_law_first_wrong⟩)
    (c_law_first_wrong : PySem.W.codeIn K cd_law_first_wrong "_law_first_wrong" = true)
    (k_law_first_wrong : PySem.W.keepIn K (.ref f_law_first_wrong) = true)
    (a_law_due : PySem.W.nsIn K mainGlobals "_law_due" = some (some (.ref f_law_due)))
    (l_law_due : K.lookup f_law_due = some ⟨oc_law_due, od_law_due, .func (PySem.W.fnOf "_law_due" "_law_due" (defArgs s_law_due) (defBody s_law_due) (defScope s_law_due) .none kV_law_due dc_law_due pm_law_due an_law_due cd_law_due ct_law_due), sl_law_due⟩)
    (c_law_due : PySem.W.codeIn K cd_law_due "_law_due" = true)
    (k_law_due : PySem.W.keepIn K (.ref f_law_due) = true)
    (a_law_told : PySem.W.nsIn K mainGlobals "_law_told" = some (some (.ref f_law_told)))
    (l_law_told : K.lookup f_law_told = some ⟨oc_law_told, od_law_told, .func (PySem.W.fnOf "_law_told" "_law_told" (defArgs s_law_told) (defBody s_law_told) (defScope s_law_told) .none kV_law_told dc_law_told pm_law_told an_law_told cd_law_told ct_law_told), sl_law_told⟩)
    (c_law_told : PySem.W.codeIn K cd_law_told "_law_told" = true)
    (k_law_told : PySem.W.keepIn K (.ref f_law_told) = true)
    (a_law : PySem.W.nsIn K mainGlobals "law" = some (some (.ref f_law)))
    (l_law : K.lookup f_law = some ⟨oc_law, od_law, .func (PySem.W.fnOf "law" "law" (defArgs s_law) (defBody s_law) (defScope s_law) .none kV_law dc_law pm_law an_law cd_law ct_law), sl_law⟩)
    (c_law : PySem.W.codeIn K cd_law "law" = true)
    (k_law : PySem.W.keepIn K (.ref f_law) = true)
    (g_LETTERS : PySem.W.nsIn K mainGlobals "LETTERS" = some (some (.str "abcdefghijklmnopqrstuvwxyz" t_LETTERS)))
    (g_LONGEST_NAME : PySem.W.nsIn K mainGlobals "LONGEST_NAME" = some (some (.int 8 t_LONGEST_NAME)))
    (n_len : PySem.W.nsIn K mainGlobals "len" = some none)
    (n_list : PySem.W.nsIn K mainGlobals "list" = some none)
    (n_abs : PySem.W.nsIn K mainGlobals "abs" = some none)
    (n_int : PySem.W.nsIn K mainGlobals "int" = some none)
    (n_isinstance : PySem.W.nsIn K mainGlobals "isinstance" = some none)
    (n_str : PySem.W.nsIn K mainGlobals "str" = some none)
    (n_tuple : PySem.W.nsIn K mainGlobals "tuple" = some none)
    (n_all : PySem.W.nsIn K mainGlobals "all" = some none)
    (n_bool : PySem.W.nsIn K mainGlobals "bool" = some none)
    (n_range : PySem.W.nsIn K mainGlobals "range" = some none)
    (te_g : PySem.W.nsIn K mainGlobals "TextError" = some (some (.ref C_te)))
    (te_cls : K.lookup C_te = some (excClassObj nm_te q_te C_te N_te bs_te bm_te true sn_te sub_te ab_te col_te dd_te k0_te k1_te k2_te k3_te k5_te "ValueError.__new__"))
    (te_bm : PySem.HandSPX.refsVE bm_te = true)
    (te_sup : PySem.W.ks_superIn K C_te C_te "__init__" = some (some (.builtin "ValueError.__init__")))
    (te_ini : PySem.W.excInitIn K C_te [.type "ValueError", .type "Exception", .type "BaseException", .type "object"] "ValueError.__new__" = true)
    (te_subV : PySem.W.subIn K (.ref C_te) (.type "ValueError") = some true)
    (te_opq : PySem.W.nsIn K cStatics "thirdparty.any" = some none)
    (te_noS : PySem.W.nsIn K mainGlobals "super" = some none)
    (te_top : (prog.main.scope.names.lookup ("super" : Str)).isSome = false)
    (te_sa : PySem.W.findIn K (.ref C_te) "__setattr__" = some (some (.builtin "object.__setattr__")))
    (te_noP : PySem.W.findIn K (.ref C_te) "place" = some none)
    (te_noM : PySem.W.findIn K (.ref C_te) "message" = some none)
    (te_iC : PySem.W.findIn K (.ref C_te) "__init__" = some (some (.ref f_te)))
    (te_tI : PySem.W.typeIn K (.ref f_te) = some (.type "function"))
    (te_kC : PySem.W.keepIn K (.ref C_te) = true)
    (te_exC : PySem.W.subIn K (.ref C_te) (.type "BaseException") = some true)
    (te_tyC : PySem.W.typeIn K (.ref C_te) = some (.type "type"))
    (te_l : K.lookup f_te = some ⟨oc_te, od_te, .func (PySem.W.ksFn "__init__" "TextError.__init__" TE.iArgs TE.iBody TE.iScope .none kV_te doc_te pm_te an_te (.ref cda_te) ct_te cc_te), osl_te⟩)
    (te_c : PySem.W.codeIn K (.ref cda_te) "TextError.__init__" = true)
    (te_cd : K.lookup cda_te = some ⟨ccl_te, cdd_te, .fields vs_te, ccs_te⟩)
    (te_vs : vs_te[2]? = some (.str file_te tf_te))
    (te_file : ((prog.main.file : Str) == file_te) = true)
    (te_cell : K.lookup cc_te = some ⟨cl_te, cld_te, .cell (some (.ref C_te)), csl_te⟩)
    (as_ga : PySem.W.findIn K (.ref C_te) "__getattribute__" = some (some (.builtin "BaseException.__getattribute__")))
    (as_gg : PySem.W.findIn K (.ref C_te) "__getattr__" = some none)
    (as_hd : PySem.W.hasDictIn K C_te = true)
    (as_cl : PySem.W.findIn K (.ref C_te) "__class__" = some (some (.builtin "object.__class__")))
    (as_gs : PySem.W.specialIn K (.builtin "object.__class__") "__get__" = some (some (.builtin "getset_descriptor.__get__")))
    (as_tk : PySem.W.takesIn K (.builtin "object.__class__") = some true)
    (as_mo : PySem.W.mroIn K C_te (.type "object") = some true)
    (as_st : PySem.W.findIn K (.ref C_te) "__str__" = some (some (.builtin "BaseException.__str__")))
    (g_se : PySem.W.nsIn K mainGlobals "SettleError" = some (some (.ref C_se)))
    (kit : PySem.W.kitOne K (.ref C_te) (.ref C_se) = some true)
    (exm : PySem.W.exmOne K (.ref C_te) (.ref C_te) = some true) :
    ∃ fd : FuncData, (∀ (s : Shared) (v : Value), BindsTo s fd ⟨[v], []⟩ [("script", v)]) ∧ ∀ base : Heap, K.In base → base.Ns mainGlobals mg → FnOk l.prog w K mg base CX0 8 fa fd ["script"] (spLaw K) := by
  have e := hfa.symm.trans (PySem.W.mg_of X G a_law)
  cases e
  subst hprog
  let T : Txt l.prog K mg := {
    a_word_end := f_word_end, fd_word_end := _, F_word_end := fun_mk (st := s_word_end) l_word_end c_word_end k_word_end, g_word_end := PySem.W.mg_of X G a_word_end,
    a_tokens_of := f_tokens_of, fd_tokens_of := _, F_tokens_of := fun_mk (st := s_tokens_of) l_tokens_of c_tokens_of k_tokens_of, g_tokens_of := PySem.W.mg_of X G a_tokens_of,
    a_Reader___init__ := f_Reader___init__, fd_Reader___init__ := _, F_Reader___init__ := fun_mk (st := s_Reader___init__) l_Reader___init__ c_Reader___init__ k_Reader___init__,
    a_Reader_step := f_Reader_step, fd_Reader_step := _, F_Reader_step := fun_mk (st := s_Reader_step) l_Reader_step c_Reader_step k_Reader_step,
    a_Reader_refuse := f_Reader_refuse, fd_Reader_refuse := _, F_Reader_refuse := fun_mk (st := s_Reader_refuse) l_Reader_refuse c_Reader_refuse k_Reader_refuse,
    a_Reader_read_name := f_Reader_read_name, fd_Reader_read_name := _, F_Reader_read_name := fun_mk (st := s_Reader_read_name) l_Reader_read_name c_Reader_read_name k_Reader_read_name,
    a_Reader_read_sign := f_Reader_read_sign, fd_Reader_read_sign := _, F_Reader_read_sign := fun_mk (st := s_Reader_read_sign) l_Reader_read_sign c_Reader_read_sign k_Reader_read_sign,
    a_read_events := f_read_events, fd_read_events := _, F_read_events := fun_mk (st := s_read_events) l_read_events c_read_events k_read_events, g_read_events := PySem.W.mg_of X G a_read_events,
    a_law_draw := f_law_draw, fd_law_draw := _, F_law_draw := fun_mk (st := s_law_draw) l_law_draw c_law_draw k_law_draw, g_law_draw := PySem.W.mg_of X G a_law_draw,
    a_law_next := f_law_next, fd_law_next := _, F_law_next := fun_mk (st := s_law_next) l_law_next c_law_next k_law_next, g_law_next := PySem.W.mg_of X G a_law_next,
    a_law_same := f_law_same, fd_law_same := _, F_law_same := fun_mk (st := s_law_same) l_law_same c_law_same k_law_same, g_law_same := PySem.W.mg_of X G a_law_same,
    a_law_tokens := f_law_tokens, fd_law_tokens := _, F_law_tokens := fun_mk (st := s_law_tokens) l_law_tokens c_law_tokens k_law_tokens, g_law_tokens := PySem.W.mg_of X G a_law_tokens,
    a_law_text := f_law_text, fd_law_text := _, F_law_text := fun_mk (st := s_law_text) l_law_text c_law_text k_law_text, g_law_text := PySem.W.mg_of X G a_law_text,
    a_law_first_wrong := f_law_first_wrong, fd_law_first_wrong := _, F_law_first_wrong := fun_mk (st := s_law_first_wrong) l_law_first_wrong c_law_first_wrong k_law_first_wrong, g_law_first_wrong := PySem.W.mg_of X G a_law_first_wrong,
    a_law_due := f_law_due, fd_law_due := _, F_law_due := fun_mk (st := s_law_due) l_law_due c_law_due k_law_due, g_law_due := PySem.W.mg_of X G a_law_due,
    a_law_told := f_law_told, fd_law_told := _, F_law_told := fun_mk (st := s_law_told) l_law_told c_law_told k_law_told, g_law_told := PySem.W.mg_of X G a_law_told,
    a_law := fa, fd_law := _, F_law := fun_mk (st := s_law) l_law c_law k_law, g_law := PySem.W.mg_of X G a_law,
    C_Reader := C_Reader, cl_Reader := ⟨p1_Reader, p2_Reader, p3_Reader, p4_Reader⟩, g_Reader := PySem.W.mg_of X G g_Reader, M_Reader := ⟨p5_Reader, a_Reader___init__, fn_Reader___init__, p6_Reader⟩,
    m_Reader_step := ⟨a_Reader_step, fn_Reader_step, k_Reader_step⟩,
    m_Reader_refuse := ⟨a_Reader_refuse, fn_Reader_refuse, k_Reader_refuse⟩,
    m_Reader_read_name := ⟨a_Reader_read_name, fn_Reader_read_name, k_Reader_read_name⟩,
    m_Reader_read_sign := ⟨a_Reader_read_sign, fn_Reader_read_sign, k_Reader_read_sign⟩,
    n_Reader_tokens := n_Reader_tokens, n_Reader_at := n_Reader_at, n_Reader_token := n_Reader_token, n_Reader_place := n_Reader_place,
    t_LETTERS := t_LETTERS, g_LETTERS := PySem.W.mg_of X G g_LETTERS,
    t_LONGEST_NAME := t_LONGEST_NAME, g_LONGEST_NAME := PySem.W.mg_of X G g_LONGEST_NAME,
    n_len := PySem.W.mg_none_of X G n_len, n_list := PySem.W.mg_none_of X G n_list, n_abs := PySem.W.mg_none_of X G n_abs, n_int := PySem.W.mg_none_of X G n_int, n_isinstance := PySem.W.mg_none_of X G n_isinstance, n_str := PySem.W.mg_none_of X G n_str, n_tuple := PySem.W.mg_none_of X G n_tuple, n_all := PySem.W.mg_none_of X G n_all, n_bool := PySem.W.mg_none_of X G n_bool, n_range := PySem.W.mg_none_of X G n_range,
    C_te := C_te, f_te := f_te,
    te := { gC := PySem.W.mg_of X G te_g, cls := ⟨_, _, _, _, _, _, _, _, _, _, _, _, _, _, _, te_cls, te_bm⟩, sup := te_sup, ini := te_ini, subV := te_subV, opq := te_opq, noS := te_noS, topS := te_top, sa := te_sa, noP := te_noP, noM := te_noM, iC := te_iC, tI := te_tI, kC := te_kC, exC := te_exC, tyC := te_tyC, fn := ⟨_, _, _, _, _, _, _, _, _, _, _, _, _, _, _, _, _, _, _, te_l, te_c, te_cd, te_vs, te_file, te_cell⟩ },
    ask := ⟨as_ga, as_gg, as_hd, as_cl, as_gs, as_tk, as_mo, as_st⟩,
    C_se := C_se, g_se := PySem.W.mg_of X G g_se, kit := kit, exm := exm }
  exact ⟨_, fun s v => .of_eq rfl, fun base _ _ => ok_law T⟩
end K42
open PySem PySem.W PyProof.Rows
set_option maxHeartbeats 0 in
theorem PySem.Challenge.cw_soonsettled_k42_errors_of_events_holds : PySem.Challenge.rw_soonsettled_k42_errors_of_events.Holds := by
  w_on; o_law; k_head; (case hw => w_witness2)
  k_fill
  refine L2.walk_of (l := PySem.Challenge.rw_soonsettled_k42_errors_of_events) (n := 63) (k := 8) (x := "script") (CX := fun _ => L2.CX0) (sp := fun w => K42.spLaw _) rfl (by decide) rfl ⟨rfl, by decide, by decide⟩ (fun w h Y => PySem.W.kIn_of Y) ?F (fun _ _ a ns hl _ hS => K42.law_in hS hl) (fun _ _ _ _ _ z => z)
  case F =>
    intro w mg fa h KX G hmg
    refine' K42.all_mk (prog := PySem.Challenge.rw_soonsettled_k42_errors_of_events.prog) KX G hmg rfl ?g_Reader ?p1_Reader ?p2_Reader ?p3_Reader ?p4_Reader ?p5_Reader ?p6_Reader ?n_Reader_tokens ?n_Reader_at ?n_Reader_token ?n_Reader_place ?a_word_end ?l_word_end ?c_word_end ?k_word_end ?a_tokens_of ?l_tokens_of ?c_tokens_of ?k_tokens_of ?a_Reader___init__ ?fn_Reader___init__ ?l_Reader___init__ ?c_Reader___init__ ?k_Reader___init__ ?a_Reader_step ?fn_Reader_step ?l_Reader_step ?c_Reader_step ?k_Reader_step ?a_Reader_refuse ?fn_Reader_refuse ?l_Reader_refuse ?c_Reader_refuse ?k_Reader_refuse ?a_Reader_read_name ?fn_Reader_read_name ?l_Reader_read_name ?c_Reader_read_name ?k_Reader_read_name ?a_Reader_read_sign ?fn_Reader_read_sign ?l_Reader_read_sign ?c_Reader_read_sign ?k_Reader_read_sign ?a_read_events ?l_read_events ?c_read_events ?k_read_events ?a_law_draw ?l_law_draw ?c_law_draw ?k_law_draw ?a_law_next ?l_law_next ?c_law_next ?k_law_next ?a_law_same ?l_law_same ?c_law_same ?k_law_same ?a_law_tokens ?l_law_tokens ?c_law_tokens ?k_law_tokens ?a_law_text ?l_law_text ?c_law_text ?k_law_text ?a_law_first_wrong ?l_law_first_wrong ?c_law_first_wrong ?k_law_first_wrong ?a_law_due ?l_law_due ?c_law_due ?k_law_due ?a_law_told ?l_law_told ?c_law_told ?k_law_told ?a_law ?l_law ?c_law ?k_law ?g_LETTERS ?g_LONGEST_NAME ?n_len ?n_list ?n_abs ?n_int ?n_isinstance ?n_str ?n_tuple ?n_all ?n_bool ?n_range ?te_g ?te_cls ?te_bm ?te_sup ?te_ini ?te_subV ?te_opq ?te_noS ?te_top ?te_sa ?te_noP ?te_noM ?te_iC ?te_tI ?te_kC ?te_exC ?te_tyC ?te_l ?te_c ?te_cd ?te_vs ?te_file ?te_cell ?as_ga ?as_gg ?as_hd ?as_cl ?as_gs ?as_tk ?as_mo ?as_st ?g_se ?kit ?exm
    (case g_Reader => k_is); (case p1_Reader => k_is); (case p2_Reader => k_is); (case p3_Reader => k_is); (case p4_Reader => k_is); (case p5_Reader => k_is); (case p6_Reader => k_is); (case n_Reader_tokens => k_is); (case n_Reader_at => k_is); (case n_Reader_token => k_is); (case n_Reader_place => k_is); (case a_word_end => k_is); (case l_word_end => k_is); (case c_word_end => k_is); (case k_word_end => k_is); (case a_tokens_of => k_is); (case l_tokens_of => k_is); (case c_tokens_of => k_is); (case k_tokens_of => k_is); (case a_Reader___init__ => k_is); (case fn_Reader___init__ => k_is); (case l_Reader___init__ => k_is); (case c_Reader___init__ => k_is); (case k_Reader___init__ => k_is); (case a_Reader_step => k_is); (case fn_Reader_step => k_is); (case l_Reader_step => k_is); (case c_Reader_step => k_is); (case k_Reader_step => k_is); (case a_Reader_refuse => k_is); (case fn_Reader_refuse => k_is); (case l_Reader_refuse => k_is); (case c_Reader_refuse => k_is); (case k_Reader_refuse => k_is); (case a_Reader_read_name => k_is); (case fn_Reader_read_name => k_is); (case l_Reader_read_name => k_is); (case c_Reader_read_name => k_is); (case k_Reader_read_name => k_is); (case a_Reader_read_sign => k_is); (case fn_Reader_read_sign => k_is); (case l_Reader_read_sign => k_is); (case c_Reader_read_sign => k_is); (case k_Reader_read_sign => k_is); (case a_read_events => k_is); (case l_read_events => k_is); (case c_read_events => k_is); (case k_read_events => k_is); (case a_law_draw => k_is); (case l_law_draw => k_is); (case c_law_draw => k_is); (case k_law_draw => k_is); (case a_law_next => k_is); (case l_law_next => k_is); (case c_law_next => k_is); (case k_law_next => k_is); (case a_law_same => k_is); (case l_law_same => k_is); (case c_law_same => k_is); (case k_law_same => k_is); (case a_law_tokens => k_is); (case l_law_tokens => k_is); (case c_law_tokens => k_is); (case k_law_tokens => k_is); (case a_law_text => k_is); (case l_law_text => k_is); (case c_law_text => k_is); (case k_law_text => k_is); (case a_law_first_wrong => k_is); (case l_law_first_wrong => k_is); (case c_law_first_wrong => k_is); (case k_law_first_wrong => k_is); (case a_law_due => k_is); (case l_law_due => k_is); (case c_law_due => k_is); (case k_law_due => k_is); (case a_law_told => k_is); (case l_law_told => k_is); (case c_law_told => k_is); (case k_law_told => k_is); (case a_law => k_is); (case l_law => k_is); (case c_law => k_is); (case k_law => k_is); (case g_LETTERS => k_is); (case g_LONGEST_NAME => k_is); (case n_len => k_is); (case n_list => k_is); (case n_abs => k_is); (case n_int => k_is); (case n_isinstance => k_is); (case n_str => k_is); (case n_tuple => k_is); (case n_all => k_is); (case n_bool => k_is); (case n_range => k_is); (case te_g => k_is); (case te_cls => k_is); (case te_bm => decide +kernel); (case te_sup => kernel_rfl); (case te_ini => kernel_rfl); (case te_subV => k_is); (case te_opq => k_is); (case te_noS => k_is); (case te_top => kernel_rfl); (case te_sa => k_is); (case te_noP => k_is); (case te_noM => k_is); (case te_iC => k_is); (case te_tI => k_is); (case te_kC => k_is); (case te_exC => k_is); (case te_tyC => k_is); (case te_l => k_is); (case te_c => k_is); (case te_cd => k_is); (case te_vs => first | rfl | kernel_rfl); (case te_file => first | rfl | decide +kernel); (case te_cell => k_is); (case as_ga => k_is); (case as_gg => k_is); (case as_hd => k_is); (case as_cl => k_is); (case as_gs => k_is); (case as_tk => k_is); (case as_mo => k_is); (case as_st => k_is); (case g_se => k_is); (case kit => first | k_is | kernel_rfl); (case exm => first | k_is | kernel_rfl)
