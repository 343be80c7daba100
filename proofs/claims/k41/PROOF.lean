import PyProof.Rows.All
import Wide.All
import OpenK.AllK
import Wide.FinOn
import HandS.ForMost
import HandS.ForExc
import HandS.ExcCtx
import HandS.ExcInit
import HandS.ExcSuper
import HandS.FStr
import KE.KExcSuper
import KE.KExcMore
import KE.KExcIs
import HandS.IsInst
import HandS.TupAny
import HandS.Style
import KE.KRevSl
import HandS.Text
import PySem.Challenge.RW_soonsettled_k41_documents_and_events
set_option Elab.async false
set_option linter.all false
set_option maxRecDepth 100000
set_option maxHeartbeats 4000000
/-! TextError: an own error of two generations below ValueError, whose __init__ tells a text to super() and keeps two fields. Part 1: over the heap. -/
namespace TE
open PySem PySem.W PySem.Calls PyProof.Rows PySem.HandSPX
/-- "MESSAGE at PLACE" -/
def says (m : Str) (p : Int) : Str := Str.empty ++ m ++ (" at " : Str) ++ (toString p : Str)
/-! ### the text of __init__ -/
def iArgs : Arguments :=
  { posonlyargs := [], args := [{ arg := "self", annotation := none, pos := ⟨9, 17, 9, 21⟩ }, { arg := "place", annotation := none, pos := ⟨9, 23, 9, 28⟩ }, { arg := "message", annotation := none, pos := ⟨9, 30, 9, 37⟩ }],
    vararg := none, kwonlyargs := [], kw_defaults := [], kwarg := none, defaults := [] }
def iBody : List Stmt :=
  [.Expr (.Call (.Attribute (.Call (.Name "super" ⟨10, 8, 10, 13⟩) [] [] ⟨10, 8, 10, 15⟩) "__init__" ⟨10, 8, 10, 24⟩)
      [.JoinedStr [.FormattedValue (.Name "message" ⟨10, 28, 10, 35⟩) (-1) none ⟨10, 27, 10, 36⟩, .Constant (.str " at ") 0 ⟨10, 36, 10, 40⟩,
        .FormattedValue (.Name "place" ⟨10, 41, 10, 46⟩) (-1) none ⟨10, 40, 10, 47⟩] ⟨10, 25, 10, 48⟩] [] ⟨10, 8, 10, 49⟩) ⟨10, 8, 10, 49⟩,
   .Assign [.Attribute (.Name "self" ⟨11, 8, 11, 12⟩) "place" ⟨11, 8, 11, 18⟩] (.Name "place" ⟨11, 21, 11, 26⟩) ⟨11, 8, 11, 26⟩,
   .Assign [.Attribute (.Name "self" ⟨12, 8, 12, 12⟩) "message" ⟨12, 8, 12, 20⟩] (.Name "message" ⟨12, 23, 12, 30⟩) ⟨12, 8, 12, 30⟩]
def iScope : Scope :=
  { kind := .function, names := [(Str.ofString "self", .local), (Str.ofString "place", .local), (Str.ofString "message", .local), (Str.ofString "__class__", .free), (Str.ofString "super", .globalImplicit)],
    isGenerator := false, isCoroutine := false, more := [] }
/-- what the written part says of TextError, at C, and of its __init__, at fI -/
structure Txt (prog : Program) (K : Frag) (mg : Str → Option Value) (C fI : Addr) : Prop where
  gC : mg "TextError" = some (.ref C)
  cls : ∃ nm q N bs bm sn sub ab col dd k0 k1 k2 k3 k5, K.lookup C = some (excClassObj nm q C N bs bm true sn sub ab col dd k0 k1 k2 k3 k5 "ValueError.__new__") ∧ refsVE bm = true
  sup : ks_superIn K C C "__init__" = some (some (.builtin "ValueError.__init__"))
  ini : excInitIn K C [.type "ValueError", .type "Exception", .type "BaseException", .type "object"] "ValueError.__new__" = true
  subV : subIn K (.ref C) (.type "ValueError") = some true
  opq : nsIn K cStatics "thirdparty.any" = some none
  noS : nsIn K mainGlobals "super" = some none
  topS : (prog.main.scope.names.lookup ("super" : Str)).isSome = false
  sa : findIn K (.ref C) "__setattr__" = some (some (.builtin "object.__setattr__"))
  noP : findIn K (.ref C) "place" = some none
  noM : findIn K (.ref C) "message" = some none
  iC : findIn K (.ref C) "__init__" = some (some (.ref fI))
  tI : typeIn K (.ref fI) = some (.type "function")
  kC : keepIn K (.ref C) = true
  exC : subIn K (.ref C) (.type "BaseException") = some true
  tyC : typeIn K (.ref C) = some (.type "type")
  fn : ∃ (oc : Value) (od : Option Addr) (kV doc pm : Value) (an : Option Addr) (cda : Addr) (ct : Value) (cc : Addr) (osl : Array (Option Value))
      (ccl : Value) (cdd : Option Addr) (vs : Array Value) (ccs : Array (Option Value)) (file : Str) (tf : Tok) (cl : Value) (cld : Option Addr) (csl : Array (Option Value)),
    K.lookup fI = some ⟨oc, od, .func (ksFn "__init__" "TextError.__init__" iArgs iBody iScope .none kV doc pm an (.ref cda) ct cc), osl⟩ ∧
    codeIn K (.ref cda) "TextError.__init__" = true ∧ K.lookup cda = some ⟨ccl, cdd, .fields vs, ccs⟩ ∧ vs[2]? = some (.str file tf) ∧ ((prog.main.file : Str) == file) = true ∧
    K.lookup cc = some ⟨cl, cld, .cell (some (.ref C)), csl⟩
/-- what __init__ leaves of a fresh error at x -/
structure InitEnd (h h' : Heap) (x C dx t1 : Addr) (p : Int) (tp : Tok) (m : Str) (tm : Tok) : Prop where
  keep : ∀ b o, b ≠ x → h.get? b = some o → h'.get? b = some o
  obj : h'.get? x = some (excObj C t1 (some dx) .none)
  tup : ∃ tk, h'.get? t1 = some (excTup [.str (says m p) tk])
  dbig : h.objs.size ≤ dx
  dne : dx ≠ x
  tbig : h.objs.size ≤ t1
  tne : t1 ≠ x
  td : t1 ≠ dx
  ns : h'.Ns1 dx (fun y => if y = "message" then some (.str m tm) else if y = "place" then some (.int p tp) else none)
section
variable {prog : Program} {w : World} {A : Around} {R : Result → Shared → Prop} {s : Shared} {K : Frag} {mg : Str → Option Value} {base : Heap} {C fI : Addr}
theorem init (T : Txt prog K mg C fI) (Md : L2.Mod K mg base) (kb : ∀ b o, base.get? b = some o → s.heap.get? b = some o) {x t0 : Addr} {p : Int} {m : Str} {tp tm : Tok} (hx : s.heap.get? x = some (excO C t0)) (hnx : base.get? x = none)
    (hlim : s.heap.NoLimit) (hroom : A.depth < recursionLimit) (hp : p.natAbs.log2 < 1920) (hm : m.length ≤ 1000000)
    (hq : ∀ h' tk dx t1, InitEnd s.heap h' x C dx t1 p tp m tm → R (.ok (.ret .none)) { s with heap := h', toks := tk }) :
    codeAny (model prog w) A (.call (.ref fI) ⟨[.ref x, .int p tp, .str m tm], []⟩) R s := by
  obtain ⟨oc, od, kV, doc, pm, an, cda, ct, cc, osl, ccl, cdd, vs, ccs, file, tf, cl, cld, csl, ho, hcd, hcode, hvs, hfile, hcell⟩ := T.fn
  have X : K.In s.heap := Md.kin.keeps kb
  refine ks_codeAny_call_defAt (binds := [(("self" : Str), .ref x), (("place" : Str), .int p tp), (("message" : Str), .str m tm)]) hroom (X _ _ ho) rfl hlim (codeRec_of X hcd) rfl (BindsTo.of_eq (by first | rfl | with_unfolding_all rfl)) (show ∀ x ∈ iScope.names, x.2 ≠ .cell by decide) ?loc (fun h₁ hns hk => ?_) rfl rfl rfl
  case loc =>
    intro y hy
    rcases List.mem_cons.mp hy with rfl | hy
    · rfl
    rcases List.mem_cons.mp hy with rfl | hy
    · rfl
    rcases List.mem_cons.mp hy with rfl | hy
    · rfl
    cases hy
  -- super().__init__(f'{message} at {place}')
  refine ks_wpAt_execs_cons (ks_wpAt_Expr_any (ks_wpAt_MethodCall ?_))
  obtain ⟨nm, q, N, bs, bm, sn, sub, ab, col, dd, k0, k1, k2, k3, k5, hC, hbm⟩ := T.cls
  obtain ⟨mb, hbl, hbb⟩ := Md.blt
  have kb1 : ∀ b o, base.get? b = some o → h₁.get? b = some o := fun b o e => hk b o (kb b o e)
  have X₁ : K.In h₁ := X.keeps hk
  have hC₁ := X₁ _ _ hC
  have hx₁ := hk _ _ hx
  have hsuper : mg ("super" : Str) = none := mg_none_of Md.kin Md.glob T.noS
  have hboot : mb ("super" : Str) = some (.type "super") := (hbb _ (by decide)).trans (by decide +kernel)
  have hcl : clsIn K C = some { name := nm, bases := bs, mro := .ref C :: bm, ns := N, qualname := q, hasDict := true, slotNames := sn, subclasses := sub, abstract := ab, collection := col, hasDel := false } := by
    unfold clsIn
    rw [hC] <;> rfl
  refine ks_wpAt_super_base (vs := vs) rfl rfl (by decide) rfl (X₁ _ _ ho) rfl rfl rfl (X₁ _ _ hcode) rfl hvs hfile T.topS ?_
  refine ks_loadName_global rfl rfl (loadGlobal_builtin (Md.glob.keeps kb1) hsuper (hbl.keeps kb1) hboot ⟨rfl, ?_⟩)
  refine wpAny_loadName_free rfl rfl rfl ⟨_, X₁ _ _ hcell, rfl⟩ ?_
  refine wpAny_loadName_local rfl rfl hns rfl ?_
  refine ks_wpAny_isType_cls hC₁ rfl ⟨rfl, ?_⟩
  refine ks_wpAny_call_super hC₁ rfl hx₁ rfl (fun c e => by cases e) (looks_mroIn X₁ ?hmro) (fun h₂ e2 k2' => ?_)
  case hmro =>
    unfold mroIn
    rw [hcl]
    show (if (Value.ref C :: bm).isEmpty = true then none else some ((Value.ref C :: bm).contains (.ref C))) = some true
    rw [if_neg (show ¬ ((Value.ref C :: bm).isEmpty = true) from Bool.false_ne_true), List.contains_cons]
    simp
  -- from here on by the ledger, over all that stood but the error itself
  have hxL : x < s.heap.objs.size := Heap.lt_size hx
  have hg : ∀ b o, b ≠ x → s.heap.get? b = some o → (hideAll s.heap [x]).get? b = some o := fun b o hb e => hideAll_get [x] e (by simpa using hb)
  have X0 : K.In (hideAll s.heap [x]) := fun b o e => hg b o (fun z => by rw [z] at e; rw [Md.kin _ _ e] at hnx; cases hnx) (X b o e)
  have F₂ : Fr (hideAll s.heap [x]) s.heap.objs.size h₂ (fun y => [(("self" : Str), Value.ref x), (("place" : Str), Value.int p tp), (("message" : Str), Value.str m tm)].reverse.lookup y) := by
    obtain ⟨oL, es, ep, hL, r⟩ := hns
    exact ⟨⟨oL, es, ep, k2' _ _ hL, r⟩, fun b o e => k2' _ _ (hk _ _ (of_hideAll _ e)), Nat.le_of_eq (hideAll_size _ _)⟩
  have hxg : (hideAll s.heap [x]).get? x = none := hideAll_none [x] (by simp)
  have h₁L : s.heap.objs.size < h₁.objs.size := hns.lt
  have N₂ : News (hideAll s.heap [x]) s.heap.objs.size h₂ [(h₁.objs.size, ks_superObj C x C), (x, excObj C t0 none .none)] := by
    intro b hb
    rcases List.mem_cons.mp hb with rfl | hb
    · refine ⟨e2, Nat.ne_of_gt h₁L, ?_⟩
      cases z : (hideAll s.heap [x]).get? h₁.objs.size with
      | none => rfl
      | some o =>
        have z' : h₁.objs.size < s.heap.objs.size := Heap.lt_size (of_hideAll _ z)
        exact absurd (Nat.lt_trans h₁L z') (Nat.lt_irrefl _)
    · rcases List.mem_cons.mp hb with rfl | hb
      · exact ⟨k2' _ _ hx₁, Nat.ne_of_lt hxL, hxg⟩
      · cases hb
  have I₂ : W.InstAt h₂ x (excObj C t0 none .none) C none := ⟨k2' _ _ hx₁, rfl, rfl, trivial⟩
  refine kxs_method kxs_ValueError F₂ X0 N₂ List.mem_cons_self I₂ T.opq T.sup T.subV (by decide) (fun u h₃ F₃ N₃ l₃ => ?_)
  show wpAny _ _ (callWith _ (Value.ref u) [] _ []) _ _ _
  refine kxs_callWith1 N₃ List.mem_cons_self ?_
  refine spliced_cons (wpAny_JoinedStr (pos := ⟨10, 25, 10, 48⟩) ?_)
  -- the three parts
  have hm4 : (Str.empty ++ m).length ≤ 1000000 := by
    rw [Str.length_append]
    show 0 + m.length ≤ _
    omega
  have h4 : (Str.empty ++ m ++ (" at " : Str)).length ≤ 1000004 := by
    rw [Str.length_append]
    show _ + 4 ≤ _
    omega
  have hall : (says m p).length ≤ 1001925 := by
    unfold says
    rw [Str.length_append]
    have z := int_text_len_1921 hp
    omega
  refine wpAny_FormattedValue_plain (ESX.ldL (v := .str m tm) F₃.ns rfl ?_ (by first | rfl | with_unfolding_all rfl) (by first | rfl | with_unfolding_all rfl))
  have sz : ∀ {n : Nat}, n ≤ 1100000 → n ≤ sizeLine := fun h => by
    rw [sizeLine_eq]
    omega
  have neu : u ≠ x := Nat.ne_of_gt (l₃ (x, excObj C t0 none .none) (List.mem_cons_of_mem _ List.mem_cons_self))
  have nes : h₁.objs.size ≠ x := Nat.ne_of_gt (Nat.lt_trans hxL h₁L)
  have mE : ((x, excObj C t0 none .none) : Addr × Obj) ∈ [(u, kxs_mw "ValueError.__init__" x), (h₁.objs.size, ks_superObj C x C), (x, excObj C t0 none .none)] := List.mem_cons_of_mem _ (List.mem_cons_of_mem _ List.mem_cons_self)
  refine wpAny_formatField_str ?_ ?_ (sz (by omega))
  all_goals
    refine ⟨_, _, rfl, sz (by omega), ?_⟩
    refine wpAny_Constant_str ⟨_, _, rfl, sz (by omega), ?_⟩
    refine wpAny_FormattedValue_plain (ESX.ldL (v := .int p tp) F₃.ns rfl ?_ (by first | rfl | with_unfolding_all rfl) (by first | rfl | with_unfolding_all rfl))
    refine wpAny_formatField_int hp ⟨_, _, rfl, sz (Nat.le_trans hall (by decide)), ?_⟩
    refine ⟨sz (Nat.le_trans hall (by decide)), ?_⟩
    refine spliced_nil ⟨kxs_at N₃ List.mem_cons_self, ?_⟩
    refine kxs_call F₃ X0 N₃ F.excBase_ValueError T.ini List.mem_cons_self (.tail neu (.tail nes (.head fun _ h => nomatch h))) (sz (show 1 ≤ 1100000 by decide)) (fun t1 h₄ F₄ N₄ l₄ => ?_)
    -- self.place = place
    have X₄ : K.In h₄ := X0.keeps F₄.keep
    have hx₄ : h₄.get? x = some (excObj C t1 none .none) := (N₄ (x, excObj C t1 none .none) (by simp)).1
    have lx1 : x < t1 := l₄ _ mE
    have ht₄ := (N₄ (t1, _) List.mem_cons_self).1
    refine wpAt_of_wpAny (wpAny_execs_cons (plainObj_wpAny_Assign_Attribute ?_))
    refine ESX.ldL (v := .int p tp) F₄.ns rfl (ESX.ldL (v := .ref x) F₄.ns rfl ?_ (by first | rfl | with_unfolding_all rfl) (by first | rfl | with_unfolding_all rfl)) (by first | rfl | with_unfolding_all rfl) (by first | rfl | with_unfolding_all rfl)
    refine set_plain X₄ (ox := excObj C t1 none .none) (od := none) ⟨hx₄, rfl, rfl, trivial⟩ T.sa ?_
    refine exc_osa X₄ hx₄ hcl (show refsVE (.ref C :: bm) = true from hbm) rfl T.noP (fun h₅ tk₅ dx k₅ dn dne hx₅ hn₅ => ?_)
    -- self.message = message
    have X₅ : K.In h₅ := fun b o e => k₅ b o (fun z => by rw [z] at e; rw [Md.kin _ _ e] at hnx; cases hnx) (X₄ b o e)
    have ns₅ : h₅.Ns s.heap.objs.size (fun y => [(("self" : Str), Value.ref x), (("place" : Str), Value.int p tp), (("message" : Str), Value.str m tm)].reverse.lookup y) := by
      obtain ⟨oL, es, ep, hL, r⟩ := F₄.ns
      exact ⟨oL, es, ep, k₅ _ _ (Nat.ne_of_gt hxL) hL, r⟩
    obtain ⟨oD, esD, epD, hoD, rD⟩ := id hn₅
    refine wpAny_execs_cons (plainObj_wpAny_Assign_Attribute ?_)
    refine ESX.ldL (v := .str m tm) ns₅ rfl (ESX.ldL (v := .ref x) ns₅ rfl ?_ (by first | rfl | with_unfolding_all rfl) (by first | rfl | with_unfolding_all rfl)) (by first | rfl | with_unfolding_all rfl) (by first | rfl | with_unfolding_all rfl)
    refine set_plain X₅ (ox := excObj C t1 (some dx) .none) (od := some oD) ⟨hx₅, rfl, rfl, hoD⟩ T.sa ?_
    refine OEX.osa_old X₅ hx₅ hn₅ (nl := [("place" : Str)]) ?_ (by decide) hcl (show refsVE (.ref C :: bm) = true from hbm) rfl T.noM (fun h₆ tk₆ k₆ hn₆ => ?_)
    · exact Within.cons _ _ Within.nil
    · have bigT : t1 < h₄.objs.size := Heap.lt_size ht₄
      have bigL : s.heap.objs.size < h₄.objs.size := F₄.ns.lt
      have lso : h₁.objs.size < t1 := l₄ (h₁.objs.size, ks_superObj C x C) (List.mem_cons_of_mem _ List.mem_cons_self)
      have ntd : t1 ≠ dx := Nat.ne_of_lt (Nat.lt_of_lt_of_le bigT dn)
      have ntx : t1 ≠ x := Nat.ne_of_gt lx1
      refine wpAny_execs_nil (hq h₆ tk₆ dx t1 ⟨fun b o hb e => ?_, k₆ x _ dne.symm hx₅, ⟨_, k₆ t1 _ ntd (k₅ t1 _ ntx ht₄)⟩, Nat.le_of_lt (Nat.lt_of_lt_of_le bigL dn), dne, Nat.le_of_lt (Nat.lt_trans h₁L lso), ntx, ntd, hn₆⟩)
      have e4 := F₄.keep b o (hg b o hb e)
      exact k₆ b o (Nat.ne_of_lt (Nat.lt_of_lt_of_le (Heap.lt_size e4) dn)) (k₅ b o hb e4)
/-- a made TextError -/
structure Made (h h' : Heap) (e C d t1 : Addr) (p : Int) (tp : Tok) (m : Str) (tm : Tok) : Prop where
  keep : ∀ b o, h.get? b = some o → h'.get? b = some o
  new : h.objs.size ≤ e
  obj : h'.get? e = some (excObj C t1 (some d) .none)
  tup : ∃ tk, h'.get? t1 = some (excTup [.str (says m p) tk])
  dbig : h.objs.size ≤ d
  dne : d ≠ e
  tbig : h.objs.size ≤ t1
  tne : t1 ≠ e
  td : t1 ≠ d
  ns : h'.Ns1 d (fun y => if y = "message" then some (.str m tm) else if y = "place" then some (.int p tp) else none)
theorem made (T : Txt prog K mg C fI) (Md : L2.Mod K mg base) (kb : ∀ b o, base.get? b = some o → s.heap.get? b = some o) {p : Int} {m : Str} {tp tm : Tok} (hlim : s.heap.NoLimit) (hroom : A.depth + 1 < recursionLimit)
    (hp : p.natAbs.log2 < 1920) (hm : m.length ≤ 1000000) (hq : ∀ h' tk e d t1, Made s.heap h' e C d t1 p tp m tm → R (.ok (.ret (.ref e))) { s with heap := h', toks := tk }) :
    codeAny (model prog w) A (.call (.ref C) ⟨[.int p tp, .str m tm], []⟩) R s := by
  obtain ⟨nm, q, N, bs, bm, sn, sub, ab, col, dd, k0, k1, k2, k3, k5, hC, hbm⟩ := T.cls
  obtain ⟨hh, g, dr, tk, os⟩ := s
  have X : K.In hh := Md.kin.keeps kb
  have k : ∀ b o, hh.get? b = some o → ((hh.push (kdv_tup [.int p tp, .str m tm])).push (excO C hh.objs.size)).get? b = some o := fun b o e => Heap.get?_push_of_some _ (Heap.get?_push_of_some _ e)
  have hget : ((hh.push (kdv_tup [.int p tp, .str m tm])).push (excO C hh.objs.size)).get? (hh.objs.size + 1) = some (excO C hh.objs.size) := by heap_get
  have hnx : base.get? (hh.objs.size + 1) = none := by
    cases e : base.get? (hh.objs.size + 1) with
    | none => rfl
    | some o => exact absurd (Nat.lt_of_succ_lt (Heap.lt_size (kb _ _ e))) (Nat.lt_irrefl _)
  have two : ([.int p tp, .str m tm] : List Value).length ≤ sizeLine := by
    rw [sizeLine_eq]
    show 2 ≤ 16777216
    decide
  refine call_own F.excBase_ValueError (fun Y => refsVE_contains Y bm hbm) (X _ _ hC) (looks_findIn X T.iC) (fun self => bind_fn X self T.tI) two ?_
  have hs : ((hh.push (kdv_tup [.int p tp, .str m tm])).push (excO C hh.objs.size)).objs.size = hh.objs.size + 1 + 1 := by simp [Heap.size_push]
  refine init (s := ⟨(hh.push (kdv_tup [.int p tp, .str m tm])).push (excO C hh.objs.size), g, dr, tk, os⟩) T Md (fun b o e => k b o (kb b o e)) hget hnx (hlim.keeps k) ?_ hp hm fun h' tk' dx t1 Z => ?_
  · show A.depth + 1 < recursionLimit
    exact hroom
  · have zd : hh.objs.size + 1 + 1 ≤ dx := by
      rw [← hs]
      exact Z.dbig
    have zt : hh.objs.size + 1 + 1 ≤ t1 := by
      rw [← hs]
      exact Z.tbig
    exact ⟨rfl, hq h' tk' (hh.objs.size + 1) dx t1 ⟨fun b o e => Z.keep b o (Nat.ne_of_lt (Nat.lt_succ_of_lt (Heap.lt_size e))) (k b o e), Nat.le_succ _, Z.obj, Z.tup, Nat.le_of_succ_le (Nat.le_of_succ_le zd), Z.dne, Nat.le_of_succ_le (Nat.le_of_succ_le zt), Z.tne, Z.td, Z.ns⟩⟩
end
end TE
/-! TextError. Part 2: raised, let out of defs, caught; the text of the error is kept (its arguments' tuple stays tracked). -/
namespace TE
open PySem PySem.Spec PyProof.Rows L2 HandSPX
abbrev St := L2.St
/-- the error's own dict -/
def fs (m : Str) (p : Int) : List (Str × V) := [(("message" : Str), .str m), (("place" : Str), .int p)]
/-- the dict at d and the arguments at t tell one error -/
def Tells (H : Hp) (d t : Addr) : Prop := ∃ (m : Str) (p : Int), H d = some (.xd (fs m p)) ∧ H t = some (.tup [.str (says m p)])
/-- what is kept of the error's object -/
def Ze (cls : Value) (d t : Addr) (o : Obj) : Prop := o.cls = cls ∧ o.dict = some d ∧ ∀ vs, o.data = .fields vs → vs[0]? = some (.ref t)
theorem Ze.steady {cls : Value} {d t : Addr} : PXN.Steady1 (Ze cls d t) := by
  rintro ⟨c, dd, dt, sl⟩ v ⟨h1, h2, h3⟩
  cases dt with
  | fields vs0 =>
    refine ⟨h1, h2, fun vs e => ?_⟩
    cases (show Data.fields (vs0.setIfInBounds 1 v) = Data.fields vs from e)
    rw [Array.getElem?_setIfInBounds_ne (by decide)]
    exact h3 vs0 rfl
  | _ => exact ⟨h1, h2, h3⟩
/-- an error in the air of X, above the ground B; sI is the state without it -/
structure Air (X : Cx) (a : Addr) (s' : Shared) (B : Heap) (sI : Shared) (pins : List (Addr × Obj)) (σ : St) (H : Hp) (cls : Value) (d t : Addr) : Prop where
  inv : Inv X pins σ H sI
  gnd : ∀ b o, sI.heap.get? b = some o → b ∉ frs X.stack → B.get? b = some o
  up : sI.heap.UpToSlots s'.heap
  sky : Sky B X.stack a (Ze cls d t) X.env.locals s'.heap
  na : H a = none
  os : s'.os = sI.os
  bare : AllBare s'.gens
  tells : Tells H d t
def XE (X : Cx) (W : WX) (u : Value) (s' : Shared) : Prop := ∃ a B sI pins σ H cls d t, u = .ref a ∧ Air X a s' B sI pins σ H cls d t ∧ W cls (some d) σ H
def Takes (X : Cx) (W : WX) : Prop := ∀ u s', XE X W u s' → X.xe u s'
/-- an error that a call let out -/
structure Out (P : Program) (w : World) (outer : List Env) (H : Hp) (s : Shared) (a : Addr) (s' : Shared) (B : Heap) (H' : Hp) (cls : Value) (d t : Addr) : Prop where
  fl : FlyingZ B outer a (Ze cls d t) s'.heap
  hok : HOk P w H' B
  ub : UB (frs outer) H H' s.heap B s'.heap
  na : H' a = none
  os : s'.os = s.os
  bare : AllBare s'.gens
  tells : Tells H' d t
def CX (P : Program) (w : World) : CXT := fun outer H s E u s' => ∃ a B H' cls d t, u = .ref a ∧ Out P w outer H s a s' B H' cls d t ∧ E cls (some d) H'
section
variable {X : Cx} {pins : List (Addr × Obj)} {σ : St} {H : Hp} {sI s s' : Shared} {B : Heap} {W : WX} {E : XK}
/-- out of a call into our air -/
theorem XE.called (I : Inv X pins σ H s) (hW : ∀ cls d H', E cls d H' → W cls d σ H') {u : Value} (c : CX X.prog X.w X.stack H s E u s') : XE X W u s' := by
  obtain ⟨a, B, H', cls, d, t, rfl, ⟨fl, hok, ub, na, os, ag, te⟩, hE⟩ := c
  obtain ⟨G, gIn, gOut⟩ := restrict s'.heap (fun b => decide (b ∈ frs X.stack) || (B.get? b).isSome)
  have toG : ∀ {b o}, B.get? b = some o → G.get? b = some o := fun {b o} e => (gIn b (by simp [e])).trans (fl.1 b o e)
  have frG : ∀ {b}, b ∈ frs X.stack → G.get? b = s'.heap.get? b := fun {b} hb => gIn b (by simp [hb])
  have ofG : ∀ {b o}, G.get? b = some o → s'.heap.get? b = some o ∧ (b ∈ frs X.stack ∨ (B.get? b).isSome = true) := fun {b o} e => by
    by_cases q : (decide (b ∈ frs X.stack) || (B.get? b).isSome) = true
    · rw [gIn b q] at e
      exact ⟨e, by simpa using q⟩
    · rw [gOut b (by simpa using q)] at e
      cases e
  have J : Inv X pins σ H' { s with heap := G, gens := s'.gens, drawn := s'.drawn, toks := s'.toks } := by
    refine I.call (ch := []) ⟨?_, ?_, ?_, ?_, ub.tups, ub.frzs, ub.tbls⟩ (hok.kept fun b o e => toG e) ag (fun _ z => nomatch z)
    · exact fun b o e n hb _ => toG (ub.keep b o e n hb)
    · intro b o e n hb _
      obtain ⟨sl, q⟩ := ub.slot b o e hb
      exact ⟨sl, (frG hb).trans q⟩
    · exact fun b o e n _ => ub.free b o e n
    · intro b o e _
      by_cases hb : b ∈ frs X.stack
      · obtain ⟨sl, q⟩ := ub.slot b o e hb
        exact ⟨_, (frG hb).trans q⟩
      · obtain ⟨o', q⟩ := ub.there b o e hb
        exact ⟨o', toG q⟩
  refine ⟨a, B, _, pins, σ, H', cls, d, t, rfl, ⟨J, ?_, Heap.UpToSlots.of_keeps fun b o e => (ofG e).1, .inr (.inl fl), na, os, ag, te⟩, hW _ _ _ hE⟩
  intro b o e hb
  obtain ⟨e1, q | q⟩ := ofG e
  · exact absurd q hb
  · obtain ⟨o', q'⟩ := Option.isSome_iff_exists.mp q
    have e2 := fl.1 b o' q'
    rw [e1] at e2
    cases e2
    exact q'
/-- a new one in our air -/
theorem XE.fresh {a : Addr} {oe : Obj} {vs : Array Value} {cls : Value} {d t : Addr} (I : Inv X pins σ H sI) (k : ∀ b o, sI.heap.get? b = some o → s'.heap.get? b = some o) (hne : sI.heap.get? a = none) (he : s'.heap.get? a = some oe)
    (hz : Ze cls d t oe) (hd : oe.data = .fields vs) (h1 : vs[1]? = some .none) (na : H a = none) (os : s'.os = sI.os) (ag : AllBare s'.gens) (te : Tells H d t) (hw : W cls (some d) σ H) : XE X W (.ref a) s' := by
  have hide : ∀ {b o}, (PySem.W.hideAll sI.heap (frs X.stack)).get? b = some o → sI.heap.get? b = some o := fun {b o} e => PySem.W.of_hideAll _ e
  have no : (PySem.W.hideAll sI.heap (frs X.stack)).get? a = none := by
    cases q : (PySem.W.hideAll sI.heap (frs X.stack)).get? a with
    | none => rfl
    | some o =>
      rw [hide q] at hne
      cases hne
  have ff : s'.heap.FunFrames (PySem.W.hideAll sI.heap (frs X.stack)) X.stack := Heap.FunFrames.of_keeps (fun b o e _ => ⟨o, k b o e, rfl⟩) (funFrames_none I.stack fun b hb => PySem.W.hideAll_none _ hb)
  exact ⟨a, _, sI, pins, σ, H, cls, d, t, rfl, ⟨I, fun b o e hb => PySem.W.hideAll_get _ e hb, Heap.UpToSlots.of_keeps k, .inl ⟨fun b o e => k b o (hide e), no, ff, oe, vs, he, hz, hd, h1⟩, na, os, ag, te⟩, hw⟩
/-- it leaves the def -/
theorem XE.leave (hs : X.stack = X.env :: X.outer) (hf : X.env.frame = some X.env.locals) (hex : X.ex = []) {E₁ : Value → Shared → Prop} {u : Value} (x : XE X (fun cls d _ H => E cls d H) u s') :
    wpAny (model X.prog X.w) X.A (leaving X.env u) (fun _ s'' => CX X.prog X.w X.outer X.H_0 X.s_0 E u s'') E₁ s' := by
  obtain ⟨a, B, sI, pins, σ, H, cls, d, t, rfl, ⟨I, gnd, up, sky, na, os, ag, te⟩, hw⟩ := x
  have hfr : X.A.frames = some (X.env :: X.outer) := I.ok.frames.trans (congrArg some hs)
  have nex : ∀ b, b ∉ X.ex := fun b hb => by
    rw [hex] at hb
    cases hb
  have apart : ∀ {b o}, X.s_0.heap.get? b = some o → b ∉ X.fs → b ∉ frs X.stack := fun {b o} e hb hm => by
    rcases List.mem_cons.mp (I.stkSub b hm) with rfl | z
    · exact absurd (Nat.lt_of_lt_of_le (Heap.lt_size e) I.ok.above) (Nat.lt_irrefl _)
    · exact hb z
  have done : ∀ h', FlyingZ B X.outer a (Ze cls d t) h' → s'.heap.UpToSlots h' → CX X.prog X.w X.outer X.H_0 X.s_0 E (.ref a) { s' with heap := h' } := fun h' fl up' => by
    refine ⟨a, B, H, cls, d, t, rfl, ⟨fl, I.inGround gnd, ⟨?_, ?_, ?_, ?_, I.base.tups, I.base.frzs, I.base.tbls⟩, na, os.trans I.os, ag, te⟩, hw⟩
    · exact fun b o e n hb => gnd b o (I.base.keep b o e n hb (nex b)) (apart e hb)
    · intro b o e hb
      obtain ⟨_, o₀, e₀, nf⟩ := I.ok.funs.mem hb
      rw [e] at e₀
      cases e₀
      obtain ⟨sl1, e1⟩ := I.base.slot b o e (I.ok.frf b hb) hb (nex b)
      obtain ⟨sl2, e2⟩ := up b _ e1 nf
      obtain ⟨sl3, e3⟩ := up' b _ e2 nf
      exact ⟨sl3, e3⟩
    · exact fun b o e n => I.base.free b o e n (nex b)
    · intro b o e hb
      obtain ⟨o', e1⟩ := I.base.there b o e (nex b)
      exact ⟨o', gnd b o' e1 (apart e hb)⟩
  rw [hs] at sky
  rcases sky with ⟨c1, c2, c3, oe, vs, c4, c5, c6, c7⟩ | fl | hh
  · exact PXN.leaving_firstZ Ze.steady hfr c3 hf c4 c1 c2 c6 c7 c5 done
  · exact PXN.leaves_onZ Ze.steady hfr hf fl done
  · exact leaves_heldZ hf hh done
theorem takes_of (hs : X.stack = X.env :: X.outer) (hf : X.env.frame = some X.env.locals) (hex : X.ex = []) {E₁ : Value → Shared → Prop}
    (hx : X.xe = fun e s' => wpAny (model X.prog X.w) X.A (leaving X.env e) (fun _ s'' => CX X.prog X.w X.outer X.H_0 X.s_0 E e s'') E₁ s') : Takes X (fun cls d _ H => E cls d H) := by
  intro u s' x
  rw [hx]
  exact x.leave hs hf hex
theorem passes (tk : Takes X (fun cls d _ H => E cls d H)) : Passes (CX X.prog X.w) X E := fun _ _ _ _ e s' I c => tk e s' (XE.called I (fun _ _ _ h => h) c)
theorem passesAt (tk : Takes X W) (σ : St) : PassesAt (CX X.prog X.w) X σ (WE W σ) := fun _ _ _ e s' I c => tk e s' (XE.called I (fun _ _ _ h => h) c)
end
/-! ### made, raised -/
def MkP (X : Cx) (pins : List (Addr × Obj)) (σ : St) (Q : XK) (u : Value) (s' : Shared) : Prop :=
  ∃ (a : Addr) (oe : Obj) (vs : Array Value) (sI : Shared) (H' : Hp) (cls : Value) (d t : Addr), u = .ref a ∧ Inv X pins σ H' sI ∧ (∀ b o, sI.heap.get? b = some o → s'.heap.get? b = some o) ∧ sI.heap.get? a = none ∧ s'.heap.get? a = some oe ∧
    Ze cls d t oe ∧ oe.data = .fields vs ∧ vs[1]? = some .none ∧ H' a = none ∧ s'.os = sI.os ∧ AllBare s'.gens ∧ Raises X cls ∧ Tells H' d t ∧ Q cls (some d) H'
def PMk (X : Cx) (e : Expr) (t : St → Hp → XK → Prop) : Prop :=
  ∀ (pins : List (Addr × Obj)) (s : Shared) (σ : St) (H : Hp) (Q : XK), Inv X pins σ H s → t σ H Q → wpAny (model X.prog X.w) X.A (eval e X.env) (MkP X pins σ Q) X.xe s
def tRaise (W : WX) (t : St → Hp → XK → Prop) : TS := fun _ σ H => t σ H fun cls d H' => W cls d σ H'
theorem ps_raise {X : Cx} {W : WX} {e : Expr} {t : St → Hp → XK → Prop} {pos : Pos} (hc : X.calm = true) (tk : Takes X W) (he : PMk X e t) : PS X (.Raise (some e) none pos) (tRaise W t) := by
  constructor
  intro pins s σ H D I h
  show wpAny _ _ (standAt pos >>= fun _ => raiseStmt X.env (some (eval e X.env >>= fun v => standAt pos >>= fun _ => pure v)) none) _ _ _
  refine wpAny_bind (wpAny_standAt (raise_made (I.ok.hd hc) (wpAny_bind (wpAny_mono (he pins s σ H _ I h) ?_ fun _ _ z => z))))
  rintro u s1 ⟨a, oe, vs, sI, H', cls, d, t', rfl, J, k, hne, ha, hz, hd, h1, na, os, ag, r, te, q⟩
  have R := r (model X.prog X.w) s1.heap (J.kIn.keeps k)
  exact wpAny_bind (wpAny_standAt (wpAny_pure ⟨a, oe, vs, cls, rfl, ha, hz.1, hd, h1, R.1, R.2, tk _ _ (XE.fresh J k hne ha hz hd h1 na os ag te q)⟩))
end TE
/-! TextError. Part 3: made, raised, caught as a name; its fields, its text, its class asked. -/
namespace TE
open PySem PySem.Spec PyProof.Rows L2 HandSPX
/-- two new objects are tracked at once -/
theorem laid2 {X : Cx} {pins : List (Addr × Obj)} {σ : St} {H : Hp} {hp G : Heap} {g : Array GenState} {dr : Drawn} {tk tk' : Nat} {os : OsState} {t d : Addr} {ot od : HO} (I : L2.Inv X pins σ H ⟨hp, g, dr, tk, os⟩)
    (k : ∀ b u, hp.get? b = some u → G.get? b = some u) (ht : hp.objs.size ≤ t) (hd : hp.objs.size ≤ d) (ntd : t ≠ d) (et : ObjOk X.prog X.w (upd (upd H t ot) d od) G t ot) (ed : ObjOk X.prog X.w (upd (upd H t ot) d od) G d od) :
    L2.Inv X pins σ (upd (upd H t ot) d od) ⟨G, g, dr, tk', os⟩ := by
  have nt := I.hok.fresh ht
  have nd := I.hok.fresh hd
  have old : ∀ {b u}, H b = some u → upd (upd H t ot) d od b = some u := fun {b u} e => by
    rw [upd_ne (ne_of_none e nd), upd_ne (ne_of_none e nt)]
    exact e
  have free : ∀ {b u}, hp.get? b = some u → H b = none → upd (upd H t ot) d od b = none := fun {b u} e n => by
    have z := Heap.lt_size e
    rw [upd_ne (Nat.ne_of_lt (Nat.lt_of_lt_of_le z hd)), upd_ne (Nat.ne_of_lt (Nat.lt_of_lt_of_le z ht))]
    exact n
  refine I.call' (ch := []) rfl ⟨fun b u e _ _ _ => k b u e, fun b u e _ _ _ => ⟨u.slots, k b u e⟩, fun b u e n _ => free e n, fun b u e _ => ⟨u, k b u e⟩, fun b xs e => old e, fun b u xs e => old e, fun b ps e => ⟨#[], by simpa using old e⟩⟩ ?_ I.bare (fun b z => absurd z (by simp))
  intro b o e
  by_cases h1 : b = d
  · subst h1
    rw [upd_same] at e
    cases e
    exact ed
  · rw [upd_ne h1] at e
    by_cases h2 : b = t
    · subst h2
      rw [upd_same] at e
      cases e
      exact et
    · rw [upd_ne h2] at e
      exact (I.hok b o e).stay (fun c u _ q => k c u q) (fun c q => old q) fun c xs q => old q
theorem rel_fs {m : Str} {p : Int} {tm tp : Tok} (f : Str) : RelO ((fs m p).lookup f) (if f = "message" then some (Value.str m tm) else if f = "place" then some (Value.int p tp) else none) := by
  unfold fs
  rw [lookup_put, lookup_put]
  by_cases h1 : f = "message"
  · rw [if_pos h1, if_pos h1]
    exact ⟨tm, rfl⟩
  · rw [if_neg h1, if_neg h1]
    by_cases h2 : f = "place"
    · rw [if_pos h2, if_pos h2]
      exact ⟨tp, rfl⟩
    · rw [if_neg h2, if_neg h2]
      trivial
section
variable {X : Cx} {C fI : Addr}
/-- TextError(place, message) -/
def tMk (C : Addr) (ta : TA) : St → Hp → XK → Prop := fun σ H Q => ta σ H fun vs H1 => ∃ (p : Int) (m : Str), vs = [.int p, .str m] ∧ p.natAbs.log2 < 1920 ∧ m.length ≤ 1000000 ∧
  ∀ d t, H1 d = none → H1 t = none → t ≠ d → Q (.ref C) (some d) (upd (upd H1 t (.tup [.str (says m p)])) d (.xd (fs m p)))
theorem pmk {a b : Expr} {ta : TA} {p0 pos : Pos} {k : Nat} (T : Txt X.prog X.K X.mg C fI) (hr : Room k X.A) (ha : PA X [a, b] ta) (hg : Gl X "TextError" := by rfl)
    (he : starEach (a :: [b]) X.env = (false, eval a X.env) :: starEach [b] X.env := by rfl) (hpl : (backTo pos (starEach [b] X.env)).any (·.1) = false := by rfl) :
    PMk X (.Call (.Name "TextError" p0) [a, b] [] pos) (tMk C ta) := by
  intro pins s σ H Q I h
  refine wpAny_Call_Name_kw (ld_glob I hg T.gC ?_)
  refine PySem.W.callWith_K (h₀ := X.base) I.ok.mod.kin T.kC (thn (ha.run pos pins s σ H _ I h) ?_) he hpl
  rintro us s1 ⟨vs, H1, I1, r1, p, m, rfl, hp, hm, q⟩
  refine ⟨I1.kIn, ?_⟩
  cases r1 with
  | cons rp r1 =>
    cases r1 with
    | cons rm r1 =>
      cases r1
      obtain ⟨tp, rfl⟩ := rp
      obtain ⟨tm, rfl⟩ := rm
      have hlim := I1.nolimit
      have kb := I1.bs
      obtain ⟨hh, g, dr, tk, os⟩ := s1
      refine wpAny_call (made T I1.ok.mod (fun b o e => (kb b o e).1) hlim (by have := hr.dp; omega) hp hm fun h' tk' e d t M => ?_)
      show MkP X pins σ Q (.ref e) ⟨h', g, dr, tk', os⟩
      obtain ⟨G, gIn, gOut⟩ := restrict h' fun b => decide (b ≠ e)
      have gk : ∀ {b}, b ≠ e → G.get? b = h'.get? b := fun {b} hb => gIn b (decide_eq_true hb)
      have ge : G.get? e = none := gOut e (by simp)
      obtain ⟨tk1, ht⟩ := M.tup
      have hz : (1 : Nat) ≤ sizeLine := by
        rw [sizeLine_eq]
        decide
      have J := laid2 (tk' := tk') (t := t) (d := d) (ot := .tup [.str (says m p)]) (od := .xd (fs m p)) I1 (fun b o z => (gk (Nat.ne_of_lt (Nat.lt_of_lt_of_le (Heap.lt_size z) M.new))).trans (M.keep b o z)) M.tbig M.dbig M.td
        ⟨hz, [.str (says m p) tk1], .cons ⟨tk1, rfl⟩ .nil, _, (gk M.tne).trans ht, rfl, 0, rfl⟩ ⟨_, M.ns.at (fun o z => (gk M.dne).trans z), rel_fs⟩
      have ne := I1.hok.fresh M.new
      refine ⟨e, _, _, ⟨G, g, dr, tk', os⟩, _, .ref C, d, t, rfl, J, fun b o z => ?_, ge, M.obj, ⟨rfl, rfl, fun vs z => by cases z; rfl⟩, rfl, rfl, ?_, rfl, I1.bare, raises_own T.exC T.tyC, ⟨m, p, upd_same, ?_⟩, q d t (I1.hok.fresh M.dbig) (I1.hok.fresh M.tbig) M.td⟩
      · by_cases hb : b = e
        · subst hb
          rw [show (⟨G, g, dr, tk', os⟩ : Shared).heap.get? b = none from ge] at z
          cases z
        · exact (gk hb).symm.trans z
      · rw [upd_ne (Ne.symm M.dne), upd_ne (Ne.symm M.tne)]
        exact ne
      · rw [upd_ne M.td, upd_same]
/-- raise TextError(place, message) -/
theorem ps_raiseTE {a b : Expr} {ta : TA} {W : WX} {p0 pos pos2 : Pos} {k : Nat} (hc : X.calm = true) (T : Txt X.prog X.K X.mg C fI) (hr : Room k X.A) (tk : Takes X W) (ha : PA X [a, b] ta) (hg : Gl X "TextError" := by rfl)
    (he : starEach (a :: [b]) X.env = (false, eval a X.env) :: starEach [b] X.env := by rfl) (hpl : (backTo pos (starEach [b] X.env)).any (·.1) = false := by rfl) :
    PS X (.Raise (some (.Call (.Name "TextError" p0) [a, b] [] pos)) none pos2) (tRaise W (tMk C ta)) := ps_raise hc tk (pmk T hr ha hg he hpl)
end
end TE
/-! TextError. Part 4: try .. except TextError as n, and what the suite asks of n. -/
namespace TE
open PySem PySem.Spec PyProof.Rows L2 HandSPX
/-- the suite's ends: its name goes behind each of them -/
def suiteEnds (i : Nat) (D : Ends) : Ends := { nx := fun σ H => D.nx (σ.set i none) H, rt := D.rt, bk := fun σ H => D.bk (σ.set i none) H, ct := fun σ H => D.ct (σ.set i none) H }
/-- what the clause wishes of an error of the body -/
def wAs (K : PySem.W.Frag) (c : Value) (i : Nat) (ts : Addr → Value → Addr → Addr → TS) (D : Ends) : WX := fun cls d σ H =>
  PySem.W.exmOne K cls c = some true ∧ ∀ a dd t, d = some dd → H a = none → Tells H dd t → ts a cls dd t (suiteEnds i D) (σ.set i (some (.ref a))) H
section
variable {X : Cx} {x n : Str} {c : Value} {i : Nat} {body suite : List Stmt} {b₀ : Stmt} {np pos pos' : Pos} {tb : WX → TS} {ts : Addr → Value → Addr → Addr → TS}
theorem ps_try_as (hs : X.stack = X.env :: X.outer) (hf : X.env.frame = some X.env.locals) (hN : X.N.Nodup) (hi : X.N[i]? = some n) (hln : X.env.kindOf n = some .local) (hc : Names X x c)
    (hb : ∀ (W : WX) (pn : List (Addr × Obj)) (xe : Value → Shared → Prop), Takes (X.tr pn xe) W → PassesOwn (model X.prog X.w) X.A X.env xe → PSs (X.tr pn xe) body (tb W))
    (hsu : ∀ (a : Addr) (oe : Obj) (cls : Value) (d t : Addr) (pn : List (Addr × Obj)), Ze cls d t oe → (∃ vs, oe.data = .fields vs) → PSs (X.suite a ((a, oe) :: pn)) (b₀ :: suite) (ts a cls d t)) :
    PS X (.Try body [.ExceptHandler (some (.Name x np)) (some n) (b₀ :: suite) pos'] [] [] pos) (fun D σ H => tb (wAs X.K c i ts D) D σ H) := by
  constructor
  intro pins s σ H D I h
  have ok := I.ok
  have hfr : X.A.frames = some (X.env :: X.outer) := ok.frames.trans (congrArg some hs)
  refine wpAny_Try_except ?_
  have caught : Takes (X.tr (X.pn ++ pins) fun e s₁ => wpAny (model X.prog X.w) X.A (noteFrame e X.env) (fun _ s₂ => wpAny (model X.prog X.w) X.A (setFlight e none)
      (fun _ s₃ => wpAny (model X.prog X.w) X.A (handleBy e X.env [.ExceptHandler (some (.Name x np)) (some n) (b₀ :: suite) pos']) (SP X pins D) X.xe s₃) X.xe s₂) X.xe s₁) (wAs X.K c i ts D) := by
    rintro u s' ⟨a, B, sI, pins', σ', H', cls, d, t, rfl, Z, hm, hyes⟩
    have J : L2.Inv X pins σ' H' sI := Z.inv.ofTry ok
    have sky : Sky B (X.env :: X.outer) a (Ze cls d t) X.env.locals s'.heap := by
      rw [← hs]
      exact Z.sky
    show wpAny (model X.prog X.w) X.A (noteFrame (.ref a) X.env) _ _ _
    refine L2N.Sky.land Ze.steady hfr hf sky fun h3 fl3 up3 => ?_
    have J3 : L2.Inv X pins σ' H' { s' with heap := h3 } := J.landed Z.gnd fl3.1 (Z.up.trans up3) Z.os Z.bare
    obtain ⟨oe3, vs3, e3, z3, d3⟩ := fl3.there
    have apart : a ∉ frs (X.env :: X.outer) := fun hm => by
      obtain ⟨_, o, e, nf⟩ := fl3.2.2.1.mem hm
      rw [e3] at e
      cases e
      exact nf _ d3
    have nL : a ≠ X.env.locals := fun z => apart (List.mem_filterMap.mpr ⟨X.env, List.mem_cons_self, hf.trans (congrArg some z.symm)⟩)
    have nF : a ∉ X.fs := fun hm => by
      obtain ⟨v, hv, q⟩ := List.mem_filterMap.mp hm
      exact apart (List.mem_filterMap.mpr ⟨v, List.mem_cons_of_mem _ hv, q⟩)
    have S3 := J3.suite e3 d3 Z.na nL nF
    have asked : ∀ {Q : Value → Shared → Prop} {E : Value → Shared → Prop}, Q c { s' with heap := h3 } → wpAny (model X.prog X.w) (X.A.mark (some (.ref a))) (eval (.Name x np) X.env) Q E { s' with heap := h3 } := fun {Q E} q => by
      obtain ⟨hg, hdb, hm | ⟨hm, hv, hn⟩⟩ := hc
      · exact ld_glob S3 hg hm q hdb
      · exact ld_blt S3 hg hm hv q hn hdb
    have LT : PySem.W.Looks (model X.prog X.w) h3 (typeOf (.ref a)) cls := fun A Q E s k q => wpAny_typeOf_ref (k _ _ e3) (by rw [z3.1]; exact q)
    refine wpAny_handleBy_cons (codeAny_handlers_test (asked ((PySem.W.exm_one (M := model X.prog X.w) J3.kIn LT hm).here ?_))) (by intro q; cases q)
    refine codeAny_handlers_suite_as (lands_againZ fl3 fun h4 fl4 up4 => ?_)
    have J4 : L2.Inv X pins σ' H' { s' with heap := h4 } := J.landed Z.gnd fl4.1 ((Z.up.trans up3).trans up4) Z.os Z.bare
    obtain ⟨oe4, vs4, e4, z4, d4⟩ := fl4.there
    refine store_ok (X := X.suite a ((a, oe4) :: (X.pn ++ pins))) (v := .ref a) (J4.suite e4 d4 Z.na nL nF) hN hi (.inl hln) rfl (fun s5 S5 => ?_) (.inr hln)
    refine wpAny_mono ((hsu a oe4 cls d t (X.pn ++ pins) z4 ⟨_, d4⟩).run [] s5 _ H' _ S5 (hyes a d t rfl Z.na Z.tells)) ?_ (fun _ _ z => False.elim z)
    intro f s6 hsp
    cases f with
    | next =>
      obtain ⟨σ6, H6, S6, q6⟩ := hsp
      exact gone_ok (S6.unsuite ok) hN hi hln fun s7 J7 => ⟨_, _, J7, q6⟩
    | brk =>
      obtain ⟨σ6, H6, S6, q6⟩ := hsp
      exact gone_ok (S6.unsuite ok) hN hi hln fun s7 J7 => ⟨_, _, J7, q6⟩
    | cont =>
      obtain ⟨σ6, H6, S6, q6⟩ := hsp
      exact gone_ok (S6.unsuite ok) hN hi hln fun s7 J7 => ⟨_, _, J7, q6⟩
    | ret u =>
      obtain ⟨v6, σ6, H6, S6, r6, q6⟩ := hsp
      exact gone_ok (S6.unsuite ok) hN hi hln fun s7 J7 => ⟨_, _, _, J7, r6, q6⟩
  refine wpAny_mono ((hb (wAs X.K c i ts D) (X.pn ++ pins) _ caught PassesOwn.looking).run [] s σ H D (I.toTry _) h) ?_ (fun e s1 he => he)
  intro f s1 hsp
  cases f with
  | next =>
    obtain ⟨σ', H', J', q⟩ := hsp
    exact wpAny_execs_nil ⟨σ', H', J'.ofTry ok, q⟩
  | brk =>
    obtain ⟨σ', H', J', q⟩ := hsp
    exact ⟨σ', H', J'.ofTry ok, q⟩
  | cont =>
    obtain ⟨σ', H', J', q⟩ := hsp
    exact ⟨σ', H', J'.ofTry ok, q⟩
  | ret u =>
    obtain ⟨v, σ', H', J', r, q⟩ := hsp
    exact ⟨v, σ', H', J'.ofTry ok, r, q⟩
end
/-- what is asked of the caught error beside Txt -/
structure Ask (K : PySem.W.Frag) (C : Addr) : Prop where
  ga : PySem.W.findIn K (.ref C) "__getattribute__" = some (some (.builtin "BaseException.__getattribute__"))
  gg : PySem.W.findIn K (.ref C) "__getattr__" = some none
  hd : PySem.W.hasDictIn K C = true
  cl : PySem.W.findIn K (.ref C) "__class__" = some (some (.builtin "object.__class__"))
  gs : PySem.W.specialIn K (.builtin "object.__class__") "__get__" = some (some (.builtin "getset_descriptor.__get__"))
  tk : PySem.W.takesIn K (.builtin "object.__class__") = some true
  mo : PySem.W.mroIn K C (.type "object") = some true
  st : PySem.W.findIn K (.ref C) "__str__" = some (some (.builtin "BaseException.__str__"))
section
variable {X : Cx} {C fI a d t : Addr} {oe : Obj} {cls : Value} {pn : List (Addr × Obj)}
/-- the error's own dict, read in the suite -/
theorem inst {pins : List (Addr × Obj)} {σ : St} {H : Hp} {s : Shared} {f : Str} {l : List (Str × V)} {v : V} (I : L2.Inv (X.suite a ((a, oe) :: pn)) pins σ H s) (hz : Ze (.ref C) d t oe) (hf : ∃ vs, oe.data = .fields vs) (hd : H d = some (.xd l)) (hl : l.lookup f = some v) :
    ∃ od u, PySem.W.InstAt s.heap a oe C (some od) ∧ PySem.W.lookIn f od = some (some u) ∧ RelV v u := by
  obtain ⟨ha, _⟩ := I.pin (a, oe) (List.mem_append_left _ List.mem_cons_self)
  obtain ⟨vs, hv⟩ := hf
  have hx : ObjOk X.prog X.w H s.heap d (.xd l) := I.hok d _ hd
  obtain ⟨mA, hns, hr⟩ := hx
  obtain ⟨od, ho, hlk⟩ := lookIn_ns hns
  have r := hr f
  rw [hl] at r
  cases em : mA f with
  | none =>
    rw [em] at r
    exact r.elim
  | some u =>
    rw [em] at r
    refine ⟨od, u, ⟨ha, hz.1, by unfold PySem.W.notCls; rw [hv] <;> rfl, by rw [hz.2.1]; exact ho⟩, ?_, r⟩
    rw [hlk, em]
/-- n.f, n the error that the suite holds -/
def tByF (C a : Addr) (cls : Value) (d : Addr) (f : Str) (te : TE) : TE := fun σ H Q => te σ H fun x H1 => x = .ref a ∧ cls = .ref C ∧ ∃ l v, H1 d = some (.xd l) ∧ l.lookup f = some v ∧ Q v H1
theorem pe_byF {e : Expr} {te : TE} {pos : Pos} {f : Str} (T : Txt X.prog X.K X.mg C fI) (G : Ask X.K C) (hno : PySem.W.findIn X.K (.ref C) f = some none) (hz : Ze cls d t oe) (hf : ∃ vs, oe.data = .fields vs) (he : PE (X.suite a ((a, oe) :: pn)) e te)
    (hb : attributeBase e f X.env (eval e X.env) = eval e X.env := by rfl) : PE (X.suite a ((a, oe) :: pn)) (.Attribute e f pos) (tByF C a cls d f te) := by
  constructor
  intro pins s σ H Q I h
  refine attr_of hb (thn (he.run pins s σ H _ I h) ?_)
  rintro u s1 ⟨x, H1, I1, rx, rfl, rfl, l, v, hd, hl, q⟩
  obtain rfl : u = Value.ref a := rx
  obtain ⟨od, w, J, hlk, rw'⟩ := inst (C := C) I1 hz hf hd hl
  exact exc_get I1.kIn J G.ga G.gg T.exC (PySem.W.findObj_own G.hd hno rfl hlk) (handed_of rw') ⟨v, H1, I1.tok _, rw', q⟩
/-- str(n) -/
def rStr (C a : Addr) (cls : Value) (t : Addr) : List V → Hp → VK → Prop := fun xs H Q => xs = [.ref a] ∧ cls = .ref C ∧ ∃ y, H t = some (.tup [.str y]) ∧ Q (.str y) H
theorem call_str (T : Txt X.prog X.K X.mg C fI) (G : Ask X.K C) (hr : X.A.units + 2 < cLine) (hz : Ze cls d t oe) (hf : ∃ vs, oe.data = .fields vs) : CallR (X.suite a ((a, oe) :: pn)) (.type "str") (rStr C a cls t) := by
  intro pins s σ H xs us Q I r h
  obtain ⟨rfl, rfl, y, hy, q⟩ := h
  obtain ⟨u, rfl, ru⟩ := vals1 r
  obtain rfl : u = Value.ref a := ru
  obtain ⟨ha, _⟩ := I.pin (a, oe) (List.mem_append_left _ List.mem_cons_self)
  obtain ⟨vs, hv⟩ := hf
  have ht : ObjOk X.prog X.w H s.heap t (.tup [.str y]) := I.hok t _ hy
  obtain ⟨_, its, ri, o, ho, hc, n, hdt⟩ := ht
  cases ri with
  | cons ry ri =>
    cases ri
    obtain ⟨tk, rfl⟩ := ry
    refine PySem.P.str_of_C_one (prog := X.prog) (w := X.w) (A := X.A.mark (some (.ref a))) (K := X.K) (C := C) (e := a) (t0 := t) (s := s) (m := y) (tk := tk) (show (X.A.mark (some (.ref a))).units + 2 < cLine from hr) (show PySem.ExcC X.K C a t s.heap from ⟨I.kIn, oe, vs, ha, hz.1, hv, hz.2.2 vs hv⟩) (show s.heap.TupAt t [.str y tk] from ⟨o, n, ho, hc, hdt⟩) G.st T.exC ?_
    exact ⟨.str y, H, I, ⟨_, rfl⟩, q⟩
/-- isinstance(n, c), c an own class -/
def rIsi (K : PySem.W.Frag) (C a : Addr) (cls : Value) : List V → Hp → VK → Prop := fun xs H Q => ∃ (D : Addr) (b : Bool), xs = [.ref a, .ref D] ∧ cls = .ref C ∧ PySem.W.kitOne K (.ref C) (.ref D) = some b ∧ Q (.bl b) H
theorem call_isi (T : Txt X.prog X.K X.mg C fI) (G : Ask X.K C) (hz : Ze cls d t oe) (hf : ∃ vs, oe.data = .fields vs) :
    CallR (X.suite a ((a, oe) :: pn)) (.builtin "isinstance") (fun xs H Q => (∃ l, H d = some (.xd l)) ∧ rIsi X.K C a cls xs H Q) := by
  intro pins s σ H xs us Q I r h
  obtain ⟨⟨l, hd⟩, D, b, rfl, rfl, e, q⟩ := h
  cases r with
  | cons rx r =>
    cases r with
    | cons ry r =>
      cases r
      cases rx
      cases ry
      obtain ⟨ha, _⟩ := I.pin (a, oe) (List.mem_append_left _ List.mem_cons_self)
      obtain ⟨vs, hv⟩ := hf
      have hx : ObjOk X.prog X.w H s.heap d (.xd l) := I.hok d _ hd
      obtain ⟨mA, ⟨od, es, ep, ho, _⟩, _⟩ := hx
      have J : PySem.W.InstAt s.heap a oe C (some od) := ⟨ha, hz.1, by unfold PySem.W.notCls; rw [hv] <;> rfl, by rw [hz.2.1]; exact ho⟩
      have hcl : (PySem.W.clsIn X.K C).isSome = true := by
        obtain ⟨cd, hc, _⟩ := PySem.W.any_some G.hd
        rw [hc]
        rfl
      exact PySem.W.kia_one (PySem.W.kitx_exc hcl G.ga G.gg T.exC G.cl G.gs G.tk G.mo) I.kIn J e (fun z => nomatch z) fun tk => ⟨.bl b, H, I.kept (t' := tk) fun _ _ z => z, rfl, q⟩
end
end TE
/-! Texts of beginnings: their tokens, their reading, and the law's own look at the same tokens. Plain Lean. -/
namespace SS
abbrev Tx := List Nat
/-- a letter from a to z -/
def isLow (c : Nat) : Bool := decide (97 ≤ c ∧ c ≤ 122)
/-- the tokens of a text from place i on, or the place of the first character that belongs to none -/
inductive Lex (sg : List Nat) : Tx → Nat → List (Tx × Nat) → Option Nat → Prop
  | done {i : Nat} : Lex sg [] i [([], i)] none
  | word {w s : Tx} {i : Nat} {l : List (Tx × Nat)} {e : Option Nat} (h0 : w ≠ []) (h1 : ∀ c ∈ w, isLow c = true) (h2 : ∀ c, s.head? = some c → isLow c = false) (r : Lex sg s (i + w.length) l e) : Lex sg (w ++ s) i ((w, i) :: l) e
  | sign {c : Nat} {s : Tx} {i : Nat} {l : List (Tx × Nat)} {e : Option Nat} (h1 : isLow c = false) (h2 : c ∈ sg) (r : Lex sg s (i + 1) l e) : Lex sg (c :: s) i (([c], i) :: l) e
  | space {c : Nat} {s : Tx} {i : Nat} {l : List (Tx × Nat)} {e : Option Nat} (h1 : isLow c = false) (h2 : c ∉ sg) (h3 : c = 32 ∨ c = 10) (r : Lex sg s (i + 1) l e) : Lex sg (c :: s) i l e
  | bad {c : Nat} {s : Tx} {i : Nat} (h1 : isLow c = false) (h2 : c ∉ sg) (h3 : ¬ (c = 32 ∨ c = 10)) : Lex sg (c :: s) i [] (some i)
/-- a word that may stand as a name -/
def okName (t : Tx) : Bool := !t.isEmpty && t.all isLow && decide (t.length ≤ 8)
/-- reading a beginning: the events, or the place of the error and whether it is that of the end -/
def rd : List (Tx × Nat) → Nat → Bool → List Tx × Option (Nat × Bool)
  | [], _, _ => ([], none)
  | (t, p) :: r, d, b =>
    if t = [] then ([], none)
    else if b = true ∧ d = 0 then ([], some (p, false))
    else if t = [41] ∧ 0 < d then ([41] :: (rd r (d - 1) true).1, (rd r (d - 1) true).2)
    else if okName t = true then
      match r with
      | [] => ([], none)
      | (t2, p2) :: r2 => if t2 = [40] then (t :: (rd r2 (d + 1) true).1, (rd r2 (d + 1) true).2) else ([], some (p2, decide (t2 = [])))
    else ([], some (p, false))
theorem rd_eq (t : Tx) (p : Nat) (r : List (Tx × Nat)) (d : Nat) (b : Bool) : rd ((t, p) :: r) d b =
    if t = [] then ([], none)
    else if b = true ∧ d = 0 then ([], some (p, false))
    else if t = [41] ∧ 0 < d then ([41] :: (rd r (d - 1) true).1, (rd r (d - 1) true).2)
    else if okName t = true then
      match r with
      | [] => ([], none)
      | (t2, p2) :: r2 => if t2 = [40] then (t :: (rd r2 (d + 1) true).1, (rd r2 (d + 1) true).2) else ([], some (p2, decide (t2 = [])))
    else ([], some (p, false)) := by
  cases r with
  | nil => first | rfl | (conv => lhs; unfold rd)
  | cons q r2 =>
    obtain ⟨t2, p2⟩ := q
    rw [rd]
/-- the law's own look: the index of the first token that is wrong -/
def fw : List Tx → Nat → Bool → Bool → Option Nat
  | [], _, _, _ => none
  | t :: r, v, op, nm =>
    if nm = true then (if t ≠ [40] then some 0 else (fw r (v + 1) true false).map (· + 1))
    else if t = [41] then (if v = 0 then some 0 else (fw r (v - 1) op false).map (· + 1))
    else if t = [40] ∨ (op = true ∧ v = 0) ∨ 8 < t.length then some 0
    else (fw r v op true).map (· + 1)
/-- the tokens that the law draws, the wrong signs left out -/
def Fine (t : Tx) : Prop := t = [40] ∨ t = [41] ∨ (t ≠ [] ∧ t.all isLow = true)
theorem fine_ne {t : Tx} (h : Fine t) : t ≠ [] := by
  rcases h with h | h | h
  · rw [h]; exact List.cons_ne_nil _ _
  · rw [h]; exact List.cons_ne_nil _ _
  · exact h.1
def lastName (ts : List Tx) : Bool :=
  match ts.getLast? with
  | some t => decide (t ≠ [40]) && decide (t ≠ [41])
  | none => false
def toks (ts : List Tx) (ps : List Nat) (n : Nat) : List (Tx × Nat) := ts.zip ps ++ [([], n)]
theorem low_not {t : Tx} (h : t ≠ [] ∧ t.all isLow = true) : t ≠ [40] ∧ t ≠ [41] := by
  constructor
  · intro e
    rw [e] at h
    exact absurd h.2 (by decide)
  · intro e
    rw [e] at h
    exact absurd h.2 (by decide)
theorem last_cons {t t2 : Tx} {r : List Tx} : lastName (t :: t2 :: r) = lastName (t2 :: r) := by
  unfold lastName
  rw [List.getLast?_cons_cons]
theorem last_paren {t : Tx} {r : List Tx} (h : t = [40] ∨ t = [41]) : lastName (t :: r) = lastName r := by
  cases r with
  | nil => rcases h with h | h <;> subst h <;> rfl
  | cons t2 r => exact last_cons
theorem ok_of {t : Tx} (h : t ≠ [] ∧ t.all isLow = true) (h8 : ¬ 8 < t.length) : okName t = true := by
  have e : t.isEmpty = false := by
    cases t with
    | nil => exact absurd rfl h.1
    | cons a b => rfl
  simp [okName, e, h.2]
  omega
theorem ok_not {t : Tx} (h8 : 8 < t.length) : okName t = false := by
  have z : decide (t.length ≤ 8) = false := decide_eq_false (by omega)
  simp [okName, z]
/-- what reading gives, by the law's own look -/
def Agree (ts : List Tx) (ps : List Nat) (n v : Nat) (op : Bool) : Prop :=
  match fw ts v op false with
  | some k => (rd (toks ts ps n) v op).2 = some (ps.getD k 0, false)
  | none => if lastName ts = true then (rd (toks ts ps n) v op).2 = some (n, true) else rd (toks ts ps n) v op = (ts.filter (fun t => decide (t ≠ [40])), none)
theorem agree_map {o : Option Nat} {A : Nat → Prop} {B : Prop} (h : match o with | some k => A (k + 1) | none => B) : match o.map (· + 1) with | some k => A k | none => B := by
  cases o with
  | none => exact h
  | some k => exact h
theorem agree (n : Nat) : ∀ (m : Nat) (ts : List Tx) (ps : List Nat) (v : Nat) (op : Bool), ts.length ≤ m → ts.length = ps.length → (∀ t ∈ ts, Fine t) → (0 < v → op = true) → Agree ts ps n v op := by
  intro m
  induction m with
  | zero =>
    intro ts ps v op hm hl hf hv
    have e : ts = [] := List.length_eq_zero_iff.mp (by omega)
    subst e
    rfl
  | succ m ih =>
    intro ts ps v op hm hl hf hv
    cases ts with
    | nil => rfl
    | cons t r =>
      cases ps with
      | nil => simp at hl
      | cons p ps =>
        have hr : r.length ≤ m := by simp at hm; omega
        have hl' : r.length = ps.length := by simpa using hl
        have hfr : ∀ x ∈ r, Fine x := fun x hx => hf x (List.mem_cons_of_mem _ hx)
        have ht := hf t List.mem_cons_self
        have htn := fine_ne ht
        have et : toks (t :: r) (p :: ps) n = (t, p) :: toks r ps n := rfl
        by_cases hb : op = true ∧ v = 0
        · -- behind the end
          have e1 : fw (t :: r) v op false = some 0 := by
            by_cases h41 : t = [41]
            · simp [fw, h41, hb.2]
            · simp [fw, h41, hb]
          unfold Agree
          rw [e1, et]
          simp only [rd_eq, if_neg htn, if_pos hb]
          rfl
        · by_cases h41 : t = [41]
          · by_cases hv0 : v = 0
            · have e1 : fw (t :: r) v op false = some 0 := by simp [fw, h41, hv0]
              have no : ¬ (t = [41] ∧ 0 < v) := fun z => by omega
              have nk : ¬ okName t = true := by rw [h41]; decide
              unfold Agree
              rw [e1, et]
              simp only [rd_eq, if_neg htn, if_neg hb, if_neg no, if_neg nk]
              rfl
            · have hop := hv (by omega)
              have yes : t = [41] ∧ 0 < v := ⟨h41, by omega⟩
              have e1 : fw (t :: r) v op false = (fw r (v - 1) true false).map (· + 1) := by
                simp [fw, h41, hv0, hop]
              have A := ih r ps (v - 1) true hr hl' hfr (fun _ => rfl)
              have e2 : rd (toks (t :: r) (p :: ps) n) v op = ([41] :: (rd (toks r ps n) (v - 1) true).1, (rd (toks r ps n) (v - 1) true).2) := by
                rw [et]
                simp only [rd_eq, if_neg htn, if_neg hb, if_pos yes]
              unfold Agree
              rw [e1, e2, last_paren (.inr h41)]
              refine agree_map (A := fun k => (rd (toks r ps n) (v - 1) true).2 = some ((p :: ps).getD k 0, false)) ?_
              unfold Agree at A
              cases q : fw r (v - 1) true false with
              | some k =>
                rw [q] at A
                exact A
              | none =>
                rw [q] at A
                dsimp only at A ⊢
                by_cases hn : lastName r = true
                · rw [if_pos hn] at A ⊢
                  exact A
                · rw [if_neg hn] at A ⊢
                  rw [A, List.filter_cons, h41]
                  rfl
          · by_cases h40 : t = [40]
            · have e1 : fw (t :: r) v op false = some 0 := by simp [fw, h40]
              have no : ¬ (t = [41] ∧ 0 < v) := fun z => h41 z.1
              have nk : ¬ okName t = true := by rw [h40]; decide
              unfold Agree
              rw [e1, et]
              simp only [rd_eq, if_neg htn, if_neg hb, if_neg no, if_neg nk]
              rfl
            · have hw : t ≠ [] ∧ t.all isLow = true := by
                rcases ht with z | z | z
                · exact absurd z h40
                · exact absurd z h41
                · exact z
              have no : ¬ (t = [41] ∧ 0 < v) := fun z => h41 z.1
              by_cases h8 : 8 < t.length
              · have e1 : fw (t :: r) v op false = some 0 := by simp [fw, h41, h8]
                have nk : ¬ okName t = true := by rw [ok_not h8]; decide
                unfold Agree
                rw [e1, et]
                simp only [rd_eq, if_neg htn, if_neg hb, if_neg no, if_neg nk]
                rfl
              · have hk := ok_of hw h8
                have e1 : fw (t :: r) v op false = (fw r v op true).map (· + 1) := by
                  simp only [fw, if_neg h41]
                  have z : ¬ (t = [40] ∨ (op = true ∧ v = 0) ∨ 8 < t.length) := fun z => by
                    rcases z with z | z | z
                    · exact h40 z
                    · exact hb z
                    · exact h8 z
                  simp only [if_neg z]
                  rfl
                cases r with
                | nil =>
                  cases ps with
                  | cons _ _ => simp at hl'
                  | nil =>
                    have hn : lastName [t] = true := by simp [lastName, h40, h41]
                    unfold Agree
                    rw [e1, et]
                    simp only [fw, Option.map_none, if_pos hn]
                    show (rd [(t, p), ([], n)] v op).2 = _
                    simp only [rd_eq, if_neg htn, if_neg hb, if_neg no, if_pos hk]
                    rfl
                | cons t2 r2 =>
                  cases ps with
                  | nil => simp at hl'
                  | cons p2 ps2 =>
                    have ht2 := fine_ne (hfr t2 List.mem_cons_self)
                    have et2 : toks (t2 :: r2) (p2 :: ps2) n = (t2, p2) :: toks r2 ps2 n := rfl
                    by_cases h2 : t2 = [40]
                    · have e3 : fw (t2 :: r2) v op true = (fw r2 (v + 1) true false).map (· + 1) := by
                        simp [fw, h2]
                      have A := ih r2 ps2 (v + 1) true (by simp at hr; omega) (by simpa using hl') (fun x hx => hfr x (List.mem_cons_of_mem _ hx)) (fun _ => rfl)
                      have e4 : rd (toks (t :: t2 :: r2) (p :: p2 :: ps2) n) v op = (t :: (rd (toks r2 ps2 n) (v + 1) true).1, (rd (toks r2 ps2 n) (v + 1) true).2) := by
                        rw [et, et2]
                        simp only [rd_eq, if_neg htn, if_neg hb, if_neg no, if_pos hk, if_pos h2]
                      unfold Agree
                      rw [e1, e3, e4, last_cons, last_paren (.inl h2)]
                      refine agree_map (A := fun k => (rd (toks r2 ps2 n) (v + 1) true).2 = some ((p :: p2 :: ps2).getD k 0, false)) ?_
                      refine agree_map (A := fun k => (rd (toks r2 ps2 n) (v + 1) true).2 = some ((p :: p2 :: ps2).getD (k + 1) 0, false)) ?_
                      unfold Agree at A
                      cases q : fw r2 (v + 1) true false with
                      | some k =>
                        rw [q] at A
                        exact A
                      | none =>
                        rw [q] at A
                        dsimp only at A ⊢
                        by_cases hn : lastName r2 = true
                        · rw [if_pos hn] at A ⊢
                          exact A
                        · rw [if_neg hn] at A ⊢
                          rw [A, List.filter_cons, List.filter_cons, h2, if_pos (decide_eq_true h40)]
                          rfl
                    · have e3 : fw (t2 :: r2) v op true = some 0 := by simp [fw, h2]
                      unfold Agree
                      rw [e1, e3, et, et2]
                      simp only [rd_eq, if_neg htn, if_neg hb, if_neg no, if_pos hk, if_neg h2, decide_eq_false ht2]
                      rfl
/-! ### texts glued of tokens and blanks -/
def glue : List (Tx × Tx) → Tx
  | [] => []
  | x :: r => x.1 ++ (x.2 ++ glue r)
def spots : Nat → List (Tx × Tx) → List Nat
  | _, [] => []
  | n, x :: r => n :: spots (n + x.1.length + x.2.length) r
def Blank (s : Tx) : Prop := ∀ c ∈ s, c = 32 ∨ c = 10
theorem glue_snoc (t s : Tx) : ∀ z : List (Tx × Tx), glue (z ++ [(t, s)]) = glue z ++ (t ++ s)
  | [] => by simp [glue]
  | x :: r => by
    show x.1 ++ (x.2 ++ glue (r ++ [(t, s)])) = _
    rw [glue_snoc t s r]
    simp [glue]
theorem spots_snoc (t s : Tx) : ∀ (z : List (Tx × Tx)) (n : Nat), spots n (z ++ [(t, s)]) = spots n z ++ [n + (glue z).length]
  | [], n => by simp [spots, glue]
  | x :: r, n => by
    show n :: spots _ (r ++ [(t, s)]) = _
    rw [spots_snoc t s r]
    simp [spots, glue]
    omega
theorem spots_len : ∀ (z : List (Tx × Tx)) (n : Nat), (spots n z).length = z.length
  | [], _ => rfl
  | x :: r, n => by
    show (spots _ r).length + 1 = r.length + 1
    rw [spots_len r]
theorem lex_blank {sg : List Nat} (hs : 32 ∉ sg ∧ 10 ∉ sg) {x : Tx} {l : List (Tx × Nat)} {e : Option Nat} : ∀ {s : Tx} {i : Nat}, Blank s → Lex sg x (i + s.length) l e → Lex sg (s ++ x) i l e
  | [], i, _, h => h
  | c :: s, i, hb, h => by
    have hc := hb c List.mem_cons_self
    have h' : Lex sg x (i + 1 + s.length) l e := by
      have e1 : i + (c :: s).length = i + 1 + s.length := by simp; omega
      rw [e1] at h
      exact h
    have r := lex_blank hs (s := s) (i := i + 1) (fun c h => hb c (List.mem_cons_of_mem _ h)) h'
    rcases hc with rfl | rfl
    · exact .space (by decide) hs.1 (.inl rfl) r
    · exact .space (by decide) hs.2 (.inr rfl) r
/-- the wrong signs that the law draws -/
def bad (t : Tx) : Bool := t == [45] || t == [61] || t == [65] || t == [55]
def firstBad : List Tx → Option Nat
  | [] => none
  | t :: r => if bad t = true then some 0 else (firstBad r).map (· + 1)
theorem lex_glue : ∀ (z : List (Tx × Tx)) (i : Nat), (∀ x ∈ z, Blank x.2 ∧ x.2 ≠ [] ∧ (Fine x.1 ∨ bad x.1 = true)) →
    match firstBad (z.map (·.1)) with
    | some k => ∃ l, Lex [40, 41] (glue z) i l (some ((spots i z).getD k 0))
    | none => Lex [40, 41] (glue z) i (toks (z.map (·.1)) (spots i z) (i + (glue z).length)) none
  | [], i, _ => .done
  | x :: r, i, h => by
    obtain ⟨hb, hn, ht⟩ := h x List.mem_cons_self
    have ih := lex_glue r (i + x.1.length + x.2.length) fun y hy => h y (List.mem_cons_of_mem _ hy)
    have hs : (32 : Nat) ∉ [40, 41] ∧ (10 : Nat) ∉ [40, 41] := by decide
    by_cases hbad : bad x.1 = true
    · have e1 : firstBad ((x :: r).map (·.1)) = some 0 := by simp [firstBad, hbad]
      rw [e1]
      refine ⟨[], ?_⟩
      have e2 : ∃ c, x.1 = [c] ∧ (c = 45 ∨ c = 61 ∨ c = 65 ∨ c = 55) := by
        simp only [bad, Bool.or_eq_true, beq_iff_eq] at hbad
        rcases hbad with ((h | h) | h) | h
        · exact ⟨45, h, .inl rfl⟩
        · exact ⟨61, h, .inr (.inl rfl)⟩
        · exact ⟨65, h, .inr (.inr (.inl rfl))⟩
        · exact ⟨55, h, .inr (.inr (.inr rfl))⟩
      obtain ⟨c, e3, hc⟩ := e2
      show Lex [40, 41] (x.1 ++ (x.2 ++ glue r)) i [] (some i)
      rw [e3]
      rcases hc with rfl | rfl | rfl | rfl
      · exact .bad (by decide) (by decide) (by decide)
      · exact .bad (by decide) (by decide) (by decide)
      · exact .bad (by decide) (by decide) (by decide)
      · exact .bad (by decide) (by decide) (by decide)
    · have hf : Fine x.1 := ht.resolve_right hbad
      have e1 : firstBad ((x :: r).map (·.1)) = (firstBad (r.map (·.1))).map (· + 1) := by simp [firstBad, hbad]
      -- the token in front of what is read
      have step : ∀ {l : List (Tx × Nat)} {e : Option Nat}, Lex [40, 41] (glue r) (i + x.1.length + x.2.length) l e → Lex [40, 41] (x.1 ++ (x.2 ++ glue r)) i ((x.1, i) :: l) e := by
        intro l e h0
        have h1 := lex_blank hs hb h0
        rcases hf with hf | hf | hf
        · rw [hf] at h1 ⊢
          exact .sign (by decide) (by decide) h1
        · rw [hf] at h1 ⊢
          exact .sign (by decide) (by decide) h1
        · refine .word hf.1 (fun c hc => List.all_eq_true.mp hf.2 c hc) (fun c hc => ?_) h1
          cases e2 : x.2 with
          | nil => exact absurd e2 hn
          | cons a b =>
            rw [e2] at hc
            cases hc
            have := hb c (by rw [e2]; exact List.mem_cons_self)
            rcases this with rfl | rfl <;> decide
      rw [e1]
      cases q : firstBad (r.map (·.1)) with
      | some k =>
        rw [q] at ih
        obtain ⟨l, hl⟩ := ih
        exact ⟨_, step hl⟩
      | none =>
        rw [q] at ih
        have e4 : i + (glue (x :: r)).length = i + x.1.length + x.2.length + (glue r).length := by
          show i + (x.1 ++ (x.2 ++ glue r)).length = _
          simp
          omega
        rw [e4]
        exact step ih
end SS
/-! Rules of one's own beside the layer's: a field as a target, defs that let TextErrors out, texts as lists of codes. -/
namespace SX
open PySem PySem.Spec PyProof.Rows L2
abbrev St := L2.St
/-- o.f as a target -/
def gFld (K : PySem.W.Frag) (to : TE) (f : Str) : TG := fun v σ H Q => to σ H fun x H1 => ∃ a C dx fs, x = .ref a ∧ H1 a = some (.ins C dx fs) ∧ Cls K C ∧ NoAttr K C f ∧ fs.length < 1000 ∧ Q σ (upd H1 a (.ins C dx (putF f v fs)))
theorem pg_fld {X : Cx} {o : Expr} {f : Str} {pos : Pos} {to : TE} (ho : PE X o to) : PG X (.Attribute o f pos) (gFld X.K to f) := by
  constructor
  intro pins s σ H v u Q I r h
  rw [assign_Attribute]
  refine wpAny_bind (wpAny_holding (wpAny_mono (ho.run pins s σ H _ I h) ?_ fun _ _ z => z))
  rintro ov s1 ⟨x, H1, I1, rx, a, C, dx, fs, rfl, ea, c, n, l, q⟩
  obtain rfl : ov = Value.ref a := rx
  refine wpAny_bind (wpAny_standAt (wpAny_bind (wpAny_holding (setattr_ok I1 ea c n l r fun s2 I2 => ?_))))
  exact wpAny_release ⟨σ, _, I2, q⟩
section
variable {P : Program} {w : World} {K : PySem.W.Frag} {mg : Str → Option Value} {base : Heap}
/-- a def that lets TextErrors out -/
theorem okT {x qual : Str} {st : Stmt} {f : Addr} {fd : FuncData} {N ps : List Str} {k : Nat} {sp : Sp} (F : Fun K x qual st f fd) (S : FnScope N ps (defScope st)) (len : ∀ vs H Q E, sp vs H Q E → vs.length = ps.length)
    (hbody : ∀ (cdv : Value) (A : Around) (outer : List Env) (s : Shared) (H : Hp) (vs : List V) (Q : VK) (E : XK), Room k (A.deeper (envOfC qual (defScope st) s.heap.objs.size f cdv)) → sp vs H Q E →
      ∃ t, PSs (cxOf (TE.CX P w) P w K mg base N qual (defScope st) f cdv A outer s H E) (defBody st) t ∧ t { nx := fun _ H' => Q .non H', rt := Q } (start N vs) H) : FnOk P w K mg base (TE.CX P w) (k + 1) f fd ps sp := by
  obtain ⟨oc, od, kV, doc, pm, an, cdv, ct, osl, rfl, lk, hcd⟩ := F.ex
  exact fn_of lk hcd S len fun A outer s H vs Q E hr hsp => hbody cdv A outer s H vs Q E hr hsp
end
theorem iT {c : Bool} {A B : Prop} (hc : c = true) (h : A) : if c = true then A else B := by
  rw [if_pos hc]
  exact h
theorem iF {c : Bool} {A B : Prop} (hc : c = false) (h : B) : if c = true then A else B := by
  rw [if_neg (by rw [hc]; exact Bool.false_ne_true)]
  exact h
theorem same_upd {H : Hp} {p : Addr} {o : HO} (h : H p = none) : Same H (upd H p o) := fun b u e => by
  rw [upd_ne (ne_of_none e h)]
  exact e
theorem log_small {n : Nat} (h : n ≤ 1100000) : ((n : Int)).natAbs.log2 < 1920 := by
  have e : ((n : Int)).natAbs = n := rfl
  rw [e]
  by_cases h0 : n = 0
  · subst h0
    decide
  · exact (Nat.log2_lt h0).mpr (Nat.lt_of_le_of_lt h (Nat.lt_of_lt_of_le (show 1100000 < 2 ^ 21 by decide) (Nat.pow_le_pow_right (by decide) (by decide))))
/-! ### texts and their codes -/
abbrev cd (z : Str) : List Nat := z.cps.toList
theorem len_cd (z : Str) : z.length = (cd z).length := by
  show z.cps.size = z.cps.toList.length
  simp
theorem cd_inj {a b : Str} (h : cd a = cd b) : a = b := by
  obtain ⟨a⟩ := a
  obtain ⟨b⟩ := b
  have : a = b := by simpa using h
  rw [this]
theorem cd_append (a b : Str) : cd (a ++ b) = cd a ++ cd b := by
  obtain ⟨a⟩ := a
  obtain ⟨b⟩ := b
  show (a ++ b).toList = _
  simp
theorem cd_mk (l : List Nat) : cd ⟨l.toArray⟩ = l := by simp [cd]
theorem len_mk (l : List Nat) : (⟨l.toArray⟩ : Str).length = l.length := by rw [len_cd, cd_mk]
theorem wEnd_le (l : List Nat) (i : Nat) (h : i ≤ l.length) : i + ((l.drop i).takeWhile SS.isLow).length ≤ l.length := by
  have e : ((l.drop i).takeWhile SS.isLow).length ≤ (l.drop i).length := (List.takeWhile_sublist _).length_le
  rw [List.length_drop] at e
  omega
theorem letters_in : ∀ c, (c ∈ cd ("abcdefghijklmnopqrstuvwxyz" : Str)) ↔ SS.isLow c = true := by
  intro c
  have e : cd ("abcdefghijklmnopqrstuvwxyz" : Str) = (List.range 26).map (· + 97) := by decide +kernel
  rw [e]
  simp only [List.mem_map, List.mem_range, SS.isLow, decide_eq_true_eq]
  constructor
  · rintro ⟨a, h, rfl⟩
    omega
  · intro h
    exact ⟨c - 97, by omega, by omega⟩
end SX
namespace SX
open PySem PySem.Spec PyProof.Rows L2 HT
open PySem.AutoSeq1 (wpAny_loadPart')
section
variable {prog : Program} {w : World} {A : Around} {E : Value → Shared → Prop} {s : Shared}
theorem sliceApplied_rev {sl : Addr} {vs : Value} {n : Nat} {Q : Int × Int × Nat → Shared → Prop} (hs : s.heap.IsSliceOf sl .none .none vs) (ps : IsPart vs (some (-1)))
    (h : Q ((n : Int) - 1, -1, n) s) : wpAny (model prog w) A (Builtin.Slice.sliceApplied (.ref sl) (pure (n : Int))) Q E s := by
  obtain ⟨os, hos, hcs, hds⟩ := id hs
  unfold Builtin.Slice.sliceApplied Builtin.Slice.sliceFields
  refine wpAny_bind (wpAny_bind (wpAny_field hos hds (x := .none) rfl (wpAny_bind (wpAny_field hos hds (x := .none) rfl (wpAny_bind (wpAny_field hos hds (x := vs) rfl (wpAny_pure ?_)))))))
  refine wpAny_bind (slicePart_ ps ?_)
  show wpAny _ _ (if ((-1 : Int) == 0) = true then _ else _) _ _ s
  rw [if_neg (by decide)]
  refine wpAny_bind (slicePart_ .none (wpAny_bind (slicePart_ .none (wpAny_bind (wpAny_pure ?_)))))
  show wpAny _ _ (match Builtin.Slice.sliceAdjust none none (-1) (n : Int) with | (lo, hi) => pure (lo, (-1 : Int), Builtin.Slice.slicePlaces lo hi (-1))) _ _ s
  have e1 : Builtin.Slice.sliceAdjust none none (-1) (n : Int) = ((n : Int) - 1, -1) := by
    unfold Builtin.Slice.sliceAdjust
    simp
  rw [e1]
  have e2 : Builtin.Slice.slicePlaces ((n : Int) - 1) (-1) (-1) = n := by
    unfold Builtin.Slice.slicePlaces
    have h1 : ¬ ((-1 : Int) > 0) := by omega
    simp only [h1, if_false, show (- -1 : Int) = 1 by decide, Int.ediv_one]
    split <;> omega
  show wpAny _ _ (pure ((n : Int) - 1, (-1 : Int), Builtin.Slice.slicePlaces ((n : Int) - 1) (-1) (-1))) _ _ s
  rw [e2]
  exact wpAny_pure h
theorem pick_rev (xs : Array Value) : ((List.range xs.size).filterMap fun (m : Nat) => xs[(((xs.size : Int) - 1) + (m : Int) * (-1)).toNat]?).toArray = xs.toList.reverse.toArray := by
  congr 1
  have h : ∀ k : Nat, k ≤ xs.size → ((List.range k).filterMap fun (m : Nat) => xs[(((xs.size : Int) - 1) + (m : Int) * (-1)).toNat]?) = xs.toList.reverse.take k := by
    intro k
    induction k with
    | zero => intro _; simp
    | succ k ih =>
      intro hk
      rw [List.range_succ, List.filterMap_append, ih (by omega), List.take_add_one]
      congr 1
      have e : (((xs.size : Int) - 1) + (k : Int) * (-1)).toNat = xs.size - 1 - k := by omega
      have hl : xs.size - 1 - k < xs.size := by omega
      have hr : xs.toList.reverse[k]? = some xs[xs.size - 1 - k] := by
        rw [List.getElem?_reverse (by rw [Array.length_toList]; omega)]
        simp only [Array.length_toList, Array.getElem?_toList]
        exact Array.getElem?_eq_getElem hl
      rw [hr]
      simp only [List.filterMap_cons, List.filterMap_nil, e, Array.getElem?_eq_getElem hl, Option.toList]
  rw [h _ (Nat.le_refl _)]
  exact List.take_of_length_le (by simp)
theorem getItem_tuple_rev {t sl : Addr} {items : Array Value} {vs : Value} {Q : Value → Shared → Prop} (ht : IsTup s.heap t items) (hs : s.heap.IsSliceOf sl .none .none vs) (ps : IsPart vs (some (-1)))
    (h : Q (.ref s.heap.objs.size) { s with heap := s.heap.push { cls := .type "tuple", data := .seq items.toList.reverse.toArray } })
    (hsz : items.size ≤ sizeLine) : wpAny (model prog w) A (getItem (.ref t) (.ref sl)) Q E s := by
  have htake : sizeOk (.seq items.toList.reverse.toArray) := by
    show items.toList.reverse.toArray.size ≤ sizeLine
    rw [List.size_toArray, List.length_reverse, Array.length_toList]
    exact hsz
  obtain ⟨os, hos, hcs, hds⟩ := id hs
  have hTs : s.TypeIs (.ref sl) "slice" := ⟨os, hos, hcs⟩
  unfold getItem
  try with_reducible refine wpAny_holding ?_
  first | refine wpAny_bind (wpAny_pure ?_) | skip
  refine wpAny_bind (wpAny_sequenceKey ht.typeIs (by decide) ?_)
  refine wpAny_bind (wpAny_callSpecial?_slot (name := Str.ofString "__getitem__") ht.typeIs PyProof.Rows.slot_tuple_getitem
    (wpAny_call_entry PyProof.Rows.slot_tuple_getitem ht.typeIs entry_tuple_getitem ?_ (args_tuple_getitem _ _)))
  show wpAny _ _ (Builtin.Tuple.tupleItemsOf (.ref t) >>= _) _ _ s
  refine wpAny_bind (tupleItemsOf_ ht ?_)
  refine wpAny_bind (wpAny_typeOf hTs ?_)
  rw [if_pos (by decide)]
  refine wpAny_bind (sliceApplied_rev hs ps ?_)
  have hno : ¬ ((((items.size : Int) - 1) == 0 && (-1 : Int) == 1 && items.size == items.size) = true) := by
    intro q
    rw [Bool.and_eq_true, Bool.and_eq_true] at q
    exact absurd q.1.2 (by decide)
  show wpAny _ _ (if (((items.size : Int) - 1) == 0 && (-1 : Int) == 1 && items.size == items.size) = true then _ else _) _ _ s
  rw [if_neg hno, pick_rev]
  first
    | exact wpAny_bind (m := Builtin.Tuple.tupleExact _) (wpAny_newObj_type (wpAny_pure ⟨_, rfl, wpAny_pure h⟩) htake)
    | exact wpAny_bind (m := Builtin.Tuple.tupleExact _) (wpAny_newObj_type (wpAny_bind (wpAny_pure (wpAny_pure ⟨_, rfl, wpAny_pure h⟩))) htake)
    | exact wpAny_bind (wpAny_bind (m := Builtin.Tuple.tupleExact _) (wpAny_newObj_type (wpAny_pure (wpAny_pure ⟨_, rfl, wpAny_pure h⟩)) htake))
    | exact wpAny_bind (wpAny_bind (m := Builtin.Tuple.tupleExact _) (wpAny_newObj_type (wpAny_pure ⟨_, rfl, wpAny_pure h⟩) htake))
theorem list_extend_tuple (l : Addr) (items : Array Value) (n : Nat) (b : Addr) (items2 : Array Value) (n2 : Nat) (dd : Option Addr) (sl : Array (Option Value)) (hs0 : ¬(!items.isEmpty && Builtin.List.listTooLong (items.size + items2.size)) = true) (hs1 : items.size ≤ sizeLine) (hs2 : items.size + items2.size ≤ sizeLine + 1) :
    Meets (Builtin.«list.extend» ⟨[.ref l, .ref b], []⟩) (fun _ R s => s.heap.get? l = some { cls := .type "list", dict := none, data := .seq items n, slots := #[] } ∧ s.heap.get? b = some { cls := .type "tuple", dict := dd, data := .seq items2 n2, slots := sl } ∧ R (.ok (.ret Value.none)) { s with heap := s.heap.update l (Obj.mapSeq fun x => x ++ items2), toks := s.toks }) :=
  .of_wp fun prog w A R s h => by
    obtain ⟨hp, g, d, tk, os⟩ := s; obtain ⟨hl, hb, h⟩ := h; have f1 := AutoSeq1.idx_int; have f2 := AutoSeq1.sub_tuple_tuple; have f3 := AutoSeq1.sub_list_list; have f4 := AutoSeq1.sub_tuple_list; have f5 := AutoSeq1.sub_list_tuple;
    have hz' : (items ++ items2).size ≤ sizeLine + 1 := by rw [Array.size_append]; exact hs2
    wp_walk using (wpAny_updateSeq hl rfl (hz := hs1) (_hz' := hz')), wpAny_loadPart' hl, wpAny_loadPart' hb; exact ⟨_, rfl, h⟩
end
section
variable {X : Cx}
/-- t[::-1], a tuple -/
def tRevT (K : PySem.W.Frag) (te : TE) : TE := fun σ H Q => te σ H fun x H1 => ∃ a xs, x = .ref a ∧ SqT K H1 a xs ∧ ∀ p, H1 p = none → Q (.ref p) (upd H1 p (.tup xs.reverse))
theorem pe_revT {e : Expr} {te : TE} {k : Nat} {p1 p2 p3 pos : Pos} (he : PE X e te) : PE X (.Subscript e (.Slice none none (some (.UnaryOp .USub (.Constant (.int 1) k p1) p2)) p3) pos) (tRevT X.K te) := by
  refine ⟨fun pins s σ H Q I h => ?_⟩
  refine Subscript_ (thn (he.run pins s σ H _ I h) fun v s1 ⟨x, H1, I1, r1, q1⟩ => ?_)
  obtain ⟨a, xs, ex, hx, q⟩ := q1
  subst ex
  cases r1
  have hst : PO X (some (.UnaryOp .USub (.Constant (.int 1) k p1) p2)) (tPart (tUn (rU fun i => .int (-i)) (tC (.int 1)))) := po_some (pe_un un_neg pe_int)
  refine wpAny_Slice (thn (po_none.run pins s1 σ H1 (fun o H2 => o = none ∧ H2 = H1) I1 ⟨rfl, rfl⟩) fun vl s2 ⟨l, H2, I2, pl, el, e2⟩ => ?_)
  subst el e2
  refine thn (po_none.run pins s2 σ H2 (fun o H3 => o = none ∧ H3 = H2) I2 ⟨rfl, rfl⟩) fun vu s3 ⟨u, H3, I3, pu, eu, e3⟩ => ?_
  subst eu e3
  refine thn (hst.run pins s3 σ H3 (fun o H4 => o = some (-1) ∧ H4 = H3) I3 ⟨1, rfl, -1, rfl, rfl, rfl⟩) fun vs s4 ⟨o, H4, I4, ps, eo, e4⟩ => ?_
  subst eo e4
  have I5 : Inv X pins σ H4 { s4 with heap := s4.heap.push { cls := .type "slice", data := .fields #[vl, vu, vs] } } := I4.kept (t' := s4.toks) fun b ob q => Heap.get?_push_of_some _ q
  obtain ⟨its, r, ht, hz⟩ := I5.tuple hx
  have hlen := r.length
  cases pl
  cases pu
  show wpAny (model X.prog X.w) X.A (subscriptTail e (.Slice none none (some (.UnaryOp .USub (.Constant (.int 1) k p1) p2)) p3) (.ref a) (.ref s4.heap.objs.size)) (EP X pins σ Q) X.xe { s4 with heap := s4.heap.push { cls := .type "slice", data := .fields #[.none, .none, vs] } }
  refine tail_any (ops := [.ref a, .ref s4.heap.objs.size]) ht.typeIs (PyProof.Rows.slot_tuple_getitem.lookup) ?_ (by with_unfolding_all rfl)
  refine getItem_tuple_rev ht (Heap.IsSliceOf.new _ .none .none vs) ps ?_ (by rw [List.size_toArray]; omega)
  refine ⟨.ref _, _, I5.laid (t' := s4.toks) (o := .tup xs.reverse) (fun b ob q => Heap.get?_push_of_some _ q) (Nat.le_refl _) ?_, rfl, q _ (I5.hok.fresh (Nat.le_refl _))⟩
  exact ⟨by rw [List.length_reverse]; exact hz, its.reverse, r.reverse, IsTup.new _ _⟩

/-- l.extend(t), a tuple -/
def rExtendT (K : PySem.W.Frag) : V → List V → Hp → VK → Prop := fun x vs H Q => ∃ l b xs zs, x = .ref l ∧ vs = [.ref b] ∧ H l = some (.lst xs) ∧ SqT K H b zs ∧ xs.length + zs.length ≤ sizeLine ∧ Q .non (upd H l (.lst (xs ++ zs)))
theorem mt_extendT : MtM X "list.extend" (rExtendT X.K) := by
  intro pins s σ H x vs v us Q I rx rv h
  obtain ⟨l, b, xs, zs, rfl, rfl, hH, hB, hz, q⟩ := h
  cases rx
  obtain ⟨u, rfl, ru⟩ := rv.one
  cases ru
  obtain ⟨z, its, n, r, hl, e⟩ := I.lstM hH
  obtain ⟨its2, r2, ht, hz2⟩ := I.tuple hB
  have hl2 := r2.length
  have hl1 := r.length
  obtain ⟨⟨cls2, dd2, data2, sl2⟩, ho2, hc2, n2, hd2⟩ := id ht
  simp only at hc2 hd2
  subst hc2 hd2
  have hsz : its.toArray.size + its2.toArray.size ≤ sizeLine := by rw [List.size_toArray, List.size_toArray]; omega
  have hlong : ¬ (!its.toArray.isEmpty && Builtin.List.listTooLong (its.toArray.size + its2.toArray.size)) = true := by
    rw [notLongL hsz, Bool.and_false]
    exact Bool.false_ne_true
  refine call_meets F.slot_list_extend ⟨_, e, rfl⟩ F.entry_list_extend (F.args_list_extend_2 _ _)
    (list_extend_tuple l its.toArray n b its2.toArray n2 dd2 sl2 hlong (by rw [List.size_toArray]; omega) (by omega)) ⟨e, ho2, ?_⟩
  refine ⟨.non, _, I.lset (its' := its ++ its2) hH e (by simp) (r.append r2) ?_, rfl, q⟩
  rw [List.length_append]
  omega
/-- a call that lets no error out here, of a def that may let TextErrors out -/
theorem passN : Passes (TE.CX X.prog X.w) X (fun _ _ _ => False) := fun _ _ _ _ _ _ _ ⟨_, _, _, _, _, _, _, _, h⟩ => h.elim
end
end SX
namespace K41
open PySem PySem.Spec PyProof.Rows L2
abbrev St := L2.St
def top (i : Nat) : Stmt := PySem.Challenge.pw_soonsettled_k41_documents_and_events.main.body.getD i (.Pass ⟨0, 0, 0, 0⟩)
abbrev s_word_end : Stmt := top 7
theorem sc_word_end : FnScope ["text", "start", "at"] ["text", "start"] (defScope s_word_end) := ⟨rfl, rfl, rfl, by decide +kernel, rfl, by decide +kernel, by decide +kernel⟩
abbrev s_tokens_of : Stmt := top 8
theorem sc_tokens_of : FnScope ["text", "signs", "tokens", "at", "behind"] ["text", "signs"] (defScope s_tokens_of) := ⟨rfl, rfl, rfl, by decide +kernel, rfl, by decide +kernel, by decide +kernel⟩
abbrev s_Reader___init__ : Stmt := inClass (top 9) 0
theorem sc_Reader___init__ : FnScope ["self", "text", "signs"] ["self", "text", "signs"] (defScope s_Reader___init__) := ⟨rfl, rfl, rfl, by decide +kernel, rfl, by decide +kernel, by decide +kernel⟩
abbrev s_Reader_step : Stmt := inClass (top 9) 1
theorem sc_Reader_step : FnScope ["self"] ["self"] (defScope s_Reader_step) := ⟨rfl, rfl, rfl, by decide +kernel, rfl, by decide +kernel, by decide +kernel⟩
abbrev s_Reader_refuse : Stmt := inClass (top 9) 2
theorem sc_Reader_refuse : FnScope ["self"] ["self"] (defScope s_Reader_refuse) := ⟨rfl, rfl, rfl, by decide +kernel, rfl, by decide +kernel, by decide +kernel⟩
abbrev s_Reader_read_name : Stmt := inClass (top 9) 3
theorem sc_Reader_read_name : FnScope ["self", "word"] ["self"] (defScope s_Reader_read_name) := ⟨rfl, rfl, rfl, by decide +kernel, rfl, by decide +kernel, by decide +kernel⟩
abbrev s_Reader_read_sign : Stmt := inClass (top 9) 4
theorem sc_Reader_read_sign : FnScope ["self", "sign"] ["self", "sign"] (defScope s_Reader_read_sign) := ⟨rfl, rfl, rfl, by decide +kernel, rfl, by decide +kernel, by decide +kernel⟩
abbrev s_events_of : Stmt := top 11
theorem sc_events_of : FnScope ["document", "events", "waiting", "part", "name", "children"] ["document"] (defScope s_events_of) := ⟨rfl, rfl, rfl, by decide +kernel, rfl, by decide +kernel, by decide +kernel⟩
abbrev s_document_of : Stmt := top 12
theorem sc_document_of : FnScope ["events", "names", "rows", "event", "children"] ["events"] (defScope s_document_of) := ⟨rfl, rfl, rfl, by decide +kernel, rfl, by decide +kernel, by decide +kernel⟩
abbrev s_read_events : Stmt := top 13
theorem sc_read_events : FnScope ["text", "reader", "events", "depth"] ["text"] (defScope s_read_events) := ⟨rfl, rfl, rfl, by decide +kernel, rfl, by decide +kernel, by decide +kernel⟩
abbrev s_print_events : Stmt := top 14
theorem sc_print_events : FnScope ["events", "parts", "before", "event"] ["events"] (defScope s_print_events) := ⟨rfl, rfl, rfl, by decide +kernel, rfl, by decide +kernel, by decide +kernel⟩
abbrev s_law_draw : Stmt := top 16
theorem sc_law_draw : FnScope ["script"] ["script"] (defScope s_law_draw) := ⟨rfl, rfl, rfl, by decide +kernel, rfl, by decide +kernel, by decide +kernel⟩
abbrev s_law_next : Stmt := top 17
theorem sc_law_next : FnScope ["draw", "many", "found", "cell"] ["draw", "many"] (defScope s_law_next) := ⟨rfl, rfl, rfl, by decide +kernel, rfl, by decide +kernel, by decide +kernel⟩
abbrev s_law_same : Stmt := top 18
theorem sc_law_same : FnScope ["actual", "due", "k"] ["actual", "due"] (defScope s_law_same) := ⟨rfl, rfl, rfl, by decide +kernel, rfl, by decide +kernel, by decide +kernel⟩
abbrev s_law_element : Stmt := top 19
theorem sc_law_element : FnScope ["draw", "depth", "children", "k"] ["draw", "depth"] (defScope s_law_element) := ⟨rfl, rfl, rfl, by decide +kernel, rfl, by decide +kernel, by decide +kernel⟩
abbrev s_law_events : Stmt := top 20
theorem sc_law_events : FnScope ["element", "found", "child"] ["element"] (defScope s_law_events) := ⟨rfl, rfl, rfl, by decide +kernel, rfl, by decide +kernel, by decide +kernel⟩
abbrev s_law_print : Stmt := top 21
theorem sc_law_print : FnScope ["events", "text", "k"] ["events"] (defScope s_law_print) := ⟨rfl, rfl, rfl, by decide +kernel, rfl, by decide +kernel, by decide +kernel⟩
abbrev s_law_noise : Stmt := top 22
theorem sc_law_noise : FnScope ["draw", "events", "text", "event"] ["draw", "events"] (defScope s_law_noise) := ⟨rfl, rfl, rfl, by decide +kernel, rfl, by decide +kernel, by decide +kernel⟩
abbrev s_law : Stmt := top 23
theorem sc_law : FnScope ["script", "draw", "turn", "element", "events", "part", "text", "handed"] ["script"] (defScope s_law) := ⟨rfl, rfl, rfl, by decide +kernel, rfl, by decide +kernel, by decide +kernel⟩
structure Txt (prog : Program) (K : PySem.W.Frag) (mg : Str → Option Value) where
  a_word_end : Addr
  fd_word_end : FuncData
  F_word_end : Fun K "word_end" "word_end" s_word_end a_word_end fd_word_end
  g_word_end : mg "word_end" = some (.ref a_word_end)
  a_tokens_of : Addr
  fd_tokens_of : FuncData
  F_tokens_of : Fun K "tokens_of" "tokens_of" s_tokens_of a_tokens_of fd_tokens_of
  g_tokens_of : mg "tokens_of" = some (.ref a_tokens_of)
  a_Reader___init__ : Addr
  fd_Reader___init__ : FuncData
  F_Reader___init__ : Fun K "__init__" "Reader.__init__" s_Reader___init__ a_Reader___init__ fd_Reader___init__
  a_Reader_step : Addr
  fd_Reader_step : FuncData
  F_Reader_step : Fun K "step" "Reader.step" s_Reader_step a_Reader_step fd_Reader_step
  a_Reader_refuse : Addr
  fd_Reader_refuse : FuncData
  F_Reader_refuse : Fun K "refuse" "Reader.refuse" s_Reader_refuse a_Reader_refuse fd_Reader_refuse
  a_Reader_read_name : Addr
  fd_Reader_read_name : FuncData
  F_Reader_read_name : Fun K "read_name" "Reader.read_name" s_Reader_read_name a_Reader_read_name fd_Reader_read_name
  a_Reader_read_sign : Addr
  fd_Reader_read_sign : FuncData
  F_Reader_read_sign : Fun K "read_sign" "Reader.read_sign" s_Reader_read_sign a_Reader_read_sign fd_Reader_read_sign
  a_events_of : Addr
  fd_events_of : FuncData
  F_events_of : Fun K "events_of" "events_of" s_events_of a_events_of fd_events_of
  g_events_of : mg "events_of" = some (.ref a_events_of)
  a_document_of : Addr
  fd_document_of : FuncData
  F_document_of : Fun K "document_of" "document_of" s_document_of a_document_of fd_document_of
  g_document_of : mg "document_of" = some (.ref a_document_of)
  a_read_events : Addr
  fd_read_events : FuncData
  F_read_events : Fun K "read_events" "read_events" s_read_events a_read_events fd_read_events
  g_read_events : mg "read_events" = some (.ref a_read_events)
  a_print_events : Addr
  fd_print_events : FuncData
  F_print_events : Fun K "print_events" "print_events" s_print_events a_print_events fd_print_events
  g_print_events : mg "print_events" = some (.ref a_print_events)
  a_law_draw : Addr
  fd_law_draw : FuncData
  F_law_draw : Fun K "_law_draw" "_law_draw" s_law_draw a_law_draw fd_law_draw
  g_law_draw : mg "_law_draw" = some (.ref a_law_draw)
  a_law_next : Addr
  fd_law_next : FuncData
  F_law_next : Fun K "_law_next" "_law_next" s_law_next a_law_next fd_law_next
  g_law_next : mg "_law_next" = some (.ref a_law_next)
  a_law_same : Addr
  fd_law_same : FuncData
  F_law_same : Fun K "_law_same" "_law_same" s_law_same a_law_same fd_law_same
  g_law_same : mg "_law_same" = some (.ref a_law_same)
  a_law_element : Addr
  fd_law_element : FuncData
  F_law_element : Fun K "_law_element" "_law_element" s_law_element a_law_element fd_law_element
  g_law_element : mg "_law_element" = some (.ref a_law_element)
  a_law_events : Addr
  fd_law_events : FuncData
  F_law_events : Fun K "_law_events" "_law_events" s_law_events a_law_events fd_law_events
  g_law_events : mg "_law_events" = some (.ref a_law_events)
  a_law_print : Addr
  fd_law_print : FuncData
  F_law_print : Fun K "_law_print" "_law_print" s_law_print a_law_print fd_law_print
  g_law_print : mg "_law_print" = some (.ref a_law_print)
  a_law_noise : Addr
  fd_law_noise : FuncData
  F_law_noise : Fun K "_law_noise" "_law_noise" s_law_noise a_law_noise fd_law_noise
  g_law_noise : mg "_law_noise" = some (.ref a_law_noise)
  a_law : Addr
  fd_law : FuncData
  F_law : Fun K "law" "law" s_law a_law fd_law
  g_law : mg "law" = some (.ref a_law)
  C_Reader : Addr
  cl_Reader : Cls K C_Reader
  g_Reader : mg "Reader" = some (.ref C_Reader)
  M_Reader : Mk K C_Reader a_Reader___init__
  m_Reader_step : Meth K C_Reader "step" a_Reader_step
  m_Reader_refuse : Meth K C_Reader "refuse" a_Reader_refuse
  m_Reader_read_name : Meth K C_Reader "read_name" a_Reader_read_name
  m_Reader_read_sign : Meth K C_Reader "read_sign" a_Reader_read_sign
  n_Reader_tokens : NoAttr K C_Reader "tokens"
  n_Reader_at : NoAttr K C_Reader "at"
  n_Reader_token : NoAttr K C_Reader "token"
  n_Reader_place : NoAttr K C_Reader "place"
  t_LETTERS : Tok
  g_LETTERS : mg "LETTERS" = some (.str "abcdefghijklmnopqrstuvwxyz" t_LETTERS)
  t_LONGEST_NAME : Tok
  g_LONGEST_NAME : mg "LONGEST_NAME" = some (.int 8 t_LONGEST_NAME)
  n_len : mg "len" = none
  n_tuple : mg "tuple" = none
  n_list : mg "list" = none
  n_abs : mg "abs" = none
  n_int : mg "int" = none
  n_isinstance : mg "isinstance" = none
  n_str : mg "str" = none
  n_all : mg "all" = none
  n_bool : mg "bool" = none
  n_range : mg "range" = none
  C_te : Addr
  f_te : Addr
  te : TE.Txt prog K mg C_te f_te
section
variable {prog : Program} {K : PySem.W.Frag} {mg : Str → Option Value}
theorem Txt.b_word_end (T : Txt prog K mg) : Binds K T.fd_word_end ["text", "start"] [] := T.F_word_end.binds (ps := ["text", "start"]) fun _ _ _ _ _ _ us hl => match us, hl with | [_, _], _ => rfl
theorem Txt.b_tokens_of (T : Txt prog K mg) : Binds K T.fd_tokens_of ["text", "signs"] [] := T.F_tokens_of.binds (ps := ["text", "signs"]) fun _ _ _ _ _ _ us hl => match us, hl with | [_, _], _ => rfl
theorem Txt.b_Reader___init__ (T : Txt prog K mg) : Binds K T.fd_Reader___init__ ["self", "text", "signs"] [] := T.F_Reader___init__.binds (ps := ["self", "text", "signs"]) fun _ _ _ _ _ _ us hl => match us, hl with | [_, _, _], _ => rfl
theorem Txt.b_Reader_step (T : Txt prog K mg) : Binds K T.fd_Reader_step ["self"] [] := T.F_Reader_step.binds (ps := ["self"]) fun _ _ _ _ _ _ us hl => match us, hl with | [_], _ => rfl
theorem Txt.b_Reader_refuse (T : Txt prog K mg) : Binds K T.fd_Reader_refuse ["self"] [] := T.F_Reader_refuse.binds (ps := ["self"]) fun _ _ _ _ _ _ us hl => match us, hl with | [_], _ => rfl
theorem Txt.b_Reader_read_name (T : Txt prog K mg) : Binds K T.fd_Reader_read_name ["self"] [] := T.F_Reader_read_name.binds (ps := ["self"]) fun _ _ _ _ _ _ us hl => match us, hl with | [_], _ => rfl
theorem Txt.b_Reader_read_sign (T : Txt prog K mg) : Binds K T.fd_Reader_read_sign ["self", "sign"] [] := T.F_Reader_read_sign.binds (ps := ["self", "sign"]) fun _ _ _ _ _ _ us hl => match us, hl with | [_, _], _ => rfl
theorem Txt.b_events_of (T : Txt prog K mg) : Binds K T.fd_events_of ["document"] [] := T.F_events_of.binds (ps := ["document"]) fun _ _ _ _ _ _ us hl => match us, hl with | [_], _ => rfl
theorem Txt.b_document_of (T : Txt prog K mg) : Binds K T.fd_document_of ["events"] [] := T.F_document_of.binds (ps := ["events"]) fun _ _ _ _ _ _ us hl => match us, hl with | [_], _ => rfl
theorem Txt.b_read_events (T : Txt prog K mg) : Binds K T.fd_read_events ["text"] [] := T.F_read_events.binds (ps := ["text"]) fun _ _ _ _ _ _ us hl => match us, hl with | [_], _ => rfl
theorem Txt.b_print_events (T : Txt prog K mg) : Binds K T.fd_print_events ["events"] [] := T.F_print_events.binds (ps := ["events"]) fun _ _ _ _ _ _ us hl => match us, hl with | [_], _ => rfl
theorem Txt.b_law_draw (T : Txt prog K mg) : Binds K T.fd_law_draw ["script"] [] := T.F_law_draw.binds (ps := ["script"]) fun _ _ _ _ _ _ us hl => match us, hl with | [_], _ => rfl
theorem Txt.b_law_next (T : Txt prog K mg) : Binds K T.fd_law_next ["draw", "many"] [] := T.F_law_next.binds (ps := ["draw", "many"]) fun _ _ _ _ _ _ us hl => match us, hl with | [_, _], _ => rfl
theorem Txt.b_law_same (T : Txt prog K mg) : Binds K T.fd_law_same ["actual", "due"] [] := T.F_law_same.binds (ps := ["actual", "due"]) fun _ _ _ _ _ _ us hl => match us, hl with | [_, _], _ => rfl
theorem Txt.b_law_element (T : Txt prog K mg) : Binds K T.fd_law_element ["draw", "depth"] [] := T.F_law_element.binds (ps := ["draw", "depth"]) fun _ _ _ _ _ _ us hl => match us, hl with | [_, _], _ => rfl
theorem Txt.b_law_events (T : Txt prog K mg) : Binds K T.fd_law_events ["element"] [] := T.F_law_events.binds (ps := ["element"]) fun _ _ _ _ _ _ us hl => match us, hl with | [_], _ => rfl
theorem Txt.b_law_print (T : Txt prog K mg) : Binds K T.fd_law_print ["events"] [] := T.F_law_print.binds (ps := ["events"]) fun _ _ _ _ _ _ us hl => match us, hl with | [_], _ => rfl
theorem Txt.b_law_noise (T : Txt prog K mg) : Binds K T.fd_law_noise ["draw", "events"] [] := T.F_law_noise.binds (ps := ["draw", "events"]) fun _ _ _ _ _ _ us hl => match us, hl with | [_, _], _ => rfl
theorem Txt.b_law (T : Txt prog K mg) : Binds K T.fd_law ["script"] [] := T.F_law.binds (ps := ["script"]) fun _ _ _ _ _ _ us hl => match us, hl with | [_], _ => rfl
end
end K41
namespace K41
open PySem PySem.Spec PyProof.Rows L2 SX
section
variable {P : Program} {w : World} {K : PySem.W.Frag} {mg : Str → Option Value} {base : Heap}
/-! ### word_end -/
def wEnd (l : List Nat) (i : Nat) : Nat := i + ((l.drop i).takeWhile SS.isLow).length
def spWordEnd : Sp := fun vs H Q _ => ∃ (z : Str) (i : Nat), vs = [.str z, .int i] ∧ i ≤ (cd z).length ∧ (cd z).length ≤ 1000000 ∧ Q (.int (wEnd (cd z) i : Nat)) H
theorem wEnd_step {l : List Nat} {i c : Nat} (h : l[i]? = some c) (hc : SS.isLow c = true) : wEnd l i = wEnd l (i + 1) := by
  obtain ⟨hi, e⟩ := List.getElem?_eq_some_iff.mp h
  unfold wEnd
  rw [List.drop_eq_getElem_cons hi, e, List.takeWhile_cons, if_pos hc, List.length_cons]
  omega
theorem wEnd_stop {l : List Nat} {i : Nat} (h : ∀ c, l[i]? = some c → SS.isLow c = false) : wEnd l i = i := by
  unfold wEnd
  by_cases hi : i < l.length
  · rw [List.drop_eq_getElem_cons hi, List.takeWhile_cons, if_neg (by rw [h _ (List.getElem?_eq_getElem hi)]; decide)]
    rfl
  · rw [List.drop_eq_nil_of_le (by omega)]
    rfl
theorem small {n : Nat} (h : n ≤ 1100000) : n ≤ sizeLine := by
  rw [sizeLine_eq]
  omega
theorem ok_word_end (T : Txt P K mg) : FnOk P w K mg base CX0 1 T.a_word_end T.fd_word_end ["text", "start"] spWordEnd := by
  refine T.F_word_end.ok sc_word_end (fun vs H Q E h => ?_) (fun cdv A outer s H vs Q E hr h => ?_)
  · obtain ⟨z, i, rfl, _⟩ := h
    rfl
  · obtain ⟨z, i, rfl, hi, hz, q⟩ := h
    have hz' : z.length ≤ sizeLine := by
      rw [len_cd]
      exact small (by omega)
    refine ⟨_, (pss_cons (ps_set (i := 2) sc_word_end.nd rfl (by first | exact Or.inl rfl | exact Or.inr rfl) (pv 1))
      (pss_cons (ps_while PassesOwn.never (PW.pt (pw_and (pt_cmpR op_lt (pv 2) (pe_callB call_len_str (by rfl) T.n_len boot_len (pa_cons (pv 0) pa_nil)) (nomark _)) (pw_and1 (pt_cmpR op_in_sign (pe_ix ix_str (pv 0) (pv 2) (fun _ _ => rfl)) (pe_glob (v := .str "abcdefghijklmnopqrstuvwxyz") (by rfl) T.g_LETTERS ⟨_, rfl⟩) rfl)))) (pss_one (ps_aug (i := 2) sc_word_end.nd rfl (by first | exact Or.inl rfl | exact Or.inr rfl) pe_int ip_add)))
      (pss_one (ps_ret (pv 2))))), ?_⟩
    refine ⟨_, rfl, fun m σ H' => ∃ j : Nat, σ = [some (.str z), some (.int i), some (.int (j : Nat))] ∧ H' = H ∧ i ≤ j ∧ j + m = (cd z).length ∧ wEnd (cd z) j = wEnd (cd z) i, ⟨(cd z).length - i, i, rfl, rfl, Nat.le_refl _, by omega, rfl⟩, ?_⟩
    rintro m σ H' ⟨j, rfl, rfl, hj, hm, e⟩
    -- at < len(text)
    refine ⟨_, rfl, _, rfl, z, rfl, hz', _, _, rfl, rfl, _, rfl, ?_⟩
    refine ite2 (fun c => ?_) (fun c => ?_)
    · have hjl : j < (cd z).length := by
        have c' := of_decide_eq_true c
        rw [len_cd] at c'
        omega
      refine ⟨_, rfl, _, rfl, z, _, (cd z)[j], rfl, rfl, hz', atI_nat (List.getElem?_eq_getElem hjl), _, _, rfl, rfl, _, rfl, ?_⟩
      by_cases hl : SS.isLow (cd z)[j] = true
      · refine iT (decide_eq_true ((letters_in _).mpr hl)) ?_
        refine ⟨fun σ' H'' => σ' = [some (.str z), some (.int i), some (.int ((j : Int) + 1))] ∧ H'' = H', fun σ' H'' h => ?_, _, rfl, _, _, rfl, rfl, rfl, rfl⟩
        obtain ⟨rfl, rfl⟩ := h
        exact ⟨m - 1, by omega, j + 1, rfl, rfl, by omega, by omega, (wEnd_step (List.getElem?_eq_getElem hjl) hl).symm.trans e⟩
      · refine iF (decide_eq_false fun x => hl ((letters_in _).mp x)) ?_
        refine ⟨_, rfl, ?_⟩
        rw [← e, wEnd_stop (fun c' h' => by
          rw [List.getElem?_eq_getElem hjl] at h'
          cases h'
          simpa using hl)] at q
        exact q
    · refine iteF ?_
      have hjl : (cd z).length ≤ j := by
        have c' : z.length ≤ j := by simpa using c
        rw [len_cd] at c'
        exact c'
      refine ⟨_, rfl, ?_⟩
      rw [← e, wEnd_stop (fun c' h' => by
        rw [List.getElem?_eq_none hjl] at h'
        cases h')] at q
      exact q
end
end K41
namespace K41
open PySem PySem.Spec PyProof.Rows L2 SX
section
variable {P : Program} {w : World} {K : PySem.W.Frag} {mg : Str → Option Value} {base : Heap}
/-! ### tokens_of -/
/-- a text from its codes -/
abbrev tx (l : List Nat) : V := .str ⟨l.toArray⟩
/-- at p the list of these tokens with their places -/
def TokAt (H : Hp) (p : Addr) (l : List (List Nat × Nat)) : Prop :=
  ∃ rs : List Addr, H p = some (.lst (rs.map V.ref)) ∧ rs.length = l.length ∧ ∀ (i : Nat) (a : Addr) (x : List Nat × Nat), rs[i]? = some a → l[i]? = some x → H a = some (.tup [tx x.1, .int (x.2 : Nat)])
theorem TokAt.more {H : Hp} {p q : Addr} {l : List (List Nat × Nat)} {t : List Nat} {k : Nat} (h : TokAt H p l) (hq : H q = none) :
    ∃ rs : List Addr, H p = some (.lst (rs.map V.ref)) ∧ rs.length = l.length ∧ TokAt (upd (upd H q (.tup [tx t, .int (k : Nat)])) p (.lst (rs.map V.ref ++ [.ref q]))) p (l ++ [(t, k)]) := by
  obtain ⟨rs, e, hl, hg⟩ := h
  refine ⟨rs, e, hl, rs ++ [q], by rw [upd_same, List.map_append]; rfl, by simp [hl], fun i a x h1 h2 => ?_⟩
  have npq : q ≠ p := fun z => by
    rw [z, e] at hq
    cases hq
  by_cases hi : i < rs.length
  · rw [List.getElem?_append_left hi] at h1
    rw [List.getElem?_append_left (by omega)] at h2
    have z := hg i a x h1 h2
    rw [upd_ne (ne_of z e (by intro y; cases y)), upd_ne (ne_of_none z hq)]
    exact z
  · have hi' : i = rs.length := by
      have := (List.getElem?_eq_some_iff.mp h1).1
      simp at this
      omega
    subst hi'
    rw [List.getElem?_append_right (Nat.le_refl _), Nat.sub_self] at h1
    rw [hl, List.getElem?_append_right (Nat.le_refl _), Nat.sub_self] at h2
    cases h1
    cases h2
    rw [upd_ne npq, upd_same]
theorem TokAt.same {H H' : Hp} {p : Addr} {l : List (List Nat × Nat)} (h : TokAt H p l) (s : Same H H') : TokAt H' p l := by
  obtain ⟨rs, e, hl, hg⟩ := h
  exact ⟨rs, s _ _ e, hl, fun i a x h1 h2 => s _ _ (hg i a x h1 h2)⟩
/-- a TextError: message and place; what stood stands -/
def Fails (C : Addr) (H : Hp) (E : XK) (m : Str) (k : Nat) : Prop := ∀ (H' : Hp) (d : Addr), Same H H' → H' d = some (.xd (TE.fs m (k : Nat))) → E (.ref C) (some d) H'
def spTokensOf (C : Addr) : Sp := fun vs H Q E => ∃ (z sg : Str) (l : List (List Nat × Nat)) (e : Option Nat), vs = [.str z, .str sg] ∧ (cd z).length ≤ 1000000 ∧ SS.Lex (cd sg) (cd z) 0 l e ∧
  match e with
  | none => ∀ (H' : Hp) (p : Addr), Same H H' → H p = none → TokAt H' p l → Q (.ref p) H'
  | some k => Fails C H E "unknown character" k
theorem cut_eq {z : Str} {i j : Nat} (h1 : i ≤ j) (h2 : j ≤ (cd z).length) : cutS z (some (i : Nat)) (some (j : Nat)) = ⟨(((cd z).drop i).take (j - i)).toArray⟩ := by
  unfold cutS
  rw [HT.sIx_nat, HT.sIx_nat, len_cd, Nat.min_eq_left h2, Nat.min_eq_left (Nat.le_trans h1 h2)]
theorem wEnd_word {l v s : List Nat} {i : Nat} (h : l.drop i = v ++ s) (h1 : ∀ c ∈ v, SS.isLow c = true) (h2 : ∀ c, s.head? = some c → SS.isLow c = false) : wEnd l i = i + v.length := by
  unfold wEnd
  rw [h, List.takeWhile_append_of_pos h1]
  have e : s.takeWhile SS.isLow = [] := by
    cases s with
    | nil => rfl
    | cons a b => rw [List.takeWhile_cons, if_neg (by rw [h2 a rfl]; decide)]
  rw [e, List.append_nil]
theorem wEnd_none {l s : List Nat} {i c : Nat} (h : l.drop i = c :: s) (h1 : SS.isLow c = false) : wEnd l i = i := by
  unfold wEnd
  rw [h, List.takeWhile_cons, if_neg (by rw [h1]; decide)]
  rfl
theorem drop_get {l s : List Nat} {i c : Nat} (h : l.drop i = c :: s) : l[i]? = some c ∧ l.drop (i + 1) = s := by
  constructor
  · have e : (l.drop i)[0]? = some c := by rw [h]; rfl
    rwa [List.getElem?_drop, Nat.add_zero] at e
  · rw [← List.drop_drop, h]
    rfl
theorem lex_nil {sg : List Nat} {i : Nat} {l : List (List Nat × Nat)} {e : Option Nat} (h : SS.Lex sg [] i l e) : l = [([], i)] ∧ e = none := by
  generalize hx : ([] : List Nat) = x at h
  cases h with
  | done => exact ⟨rfl, rfl⟩
  | word h0 =>
    exact absurd (List.append_eq_nil_iff.mp hx.symm).1 h0
  | sign => cases hx
  | space => cases hx
  | bad => cases hx
/-- the loop's invariant -/
structure LexInv (z sg : Str) (l : List (List Nat × Nat)) (e : Option Nat) (H : Hp) (p : Addr) (i : Nat) (H' : Hp) : Prop where
  lex : ∃ r, SS.Lex (cd sg) ((cd z).drop i) i r e ∧ ∃ acc, TokAt H' p acc ∧ acc.length ≤ i ∧ (e = none → acc ++ r = l)
  le : i ≤ (cd z).length
  same : Same H H'
theorem ok_tokens_of (T : Txt P K mg) : FnOk P w K mg base (TE.CX P w) 3 T.a_tokens_of T.fd_tokens_of ["text", "signs"] (spTokensOf T.C_te) := by
  have G_word_end : FnOk P w K mg base CX0 1 T.a_word_end T.fd_word_end ["text", "start"] spWordEnd := ok_word_end T
  refine okT T.F_tokens_of sc_tokens_of (fun vs H Q E h => ?_) (fun cdv A outer s H vs Q E hr h => ?_)
  · obtain ⟨z, sg, l, e, rfl, _⟩ := h
    rfl
  · obtain ⟨z, sg, l, e, rfl, hz, hlex, q⟩ := h
    have hz' : z.length ≤ sizeLine := by
      rw [len_cd]
      exact small (by omega)
    refine ⟨_, (pss_cons (ps_set (i := 2) sc_tokens_of.nd rfl (by first | exact Or.inl rfl | exact Or.inr rfl) (pe_lst pa_nil))
      (pss_cons (ps_set (i := 3) sc_tokens_of.nd rfl (by first | exact Or.inl rfl | exact Or.inr rfl) pe_int)
      (pss_cons (ps_while PassesOwn.leaving (pt_cmpR op_lt (pv 3) (pe_callB call_len_str (by rfl) T.n_len boot_len (pa_cons (pv 0) pa_nil)) (nomark _)) (pss_cons (ps_set (i := 4) sc_tokens_of.nd rfl (by first | exact Or.inl rfl | exact Or.inr rfl) (pe_call G_word_end (hr.mono (by omega)) (by rfl) T.g_word_end T.F_word_end.kp T.b_word_end .nil pass0 (pa_cons (pv 0) (pa_cons (pv 3) pa_nil))))
      (pss_one (ps_if (pt_cmpR op_gt (pv 4) (pv 3) (nomark _)) (pss_cons (ps_expr (pe_bm PySem.F.plainAttrs_list PySem.F.slot_list_append PySem.F.type_list_append mt_append (pv 2) (pa_cons (pe_tup (pa_cons (pe_slice sl_str (pv 0) (po_some (pv 3)) (po_some (pv 4))) (pa_cons (pv 3) pa_nil))) pa_nil)))
      (pss_one (ps_set (i := 3) sc_tokens_of.nd rfl (by first | exact Or.inl rfl | exact Or.inr rfl) (pv 4)))) (pss_one (ps_if (pt_cmpR op_in_sign (pe_ix ix_str (pv 0) (pv 3) (fun _ _ => rfl)) (pv 1) rfl) (pss_cons (ps_expr (pe_bm PySem.F.plainAttrs_list PySem.F.slot_list_append PySem.F.type_list_append mt_append (pv 2) (pa_cons (pe_tup (pa_cons (pe_ix ix_str (pv 0) (pv 3) (fun _ _ => rfl)) (pa_cons (pv 3) pa_nil))) pa_nil)))
      (pss_one (ps_aug (i := 3) sc_tokens_of.nd rfl (by first | exact Or.inl rfl | exact Or.inr rfl) pe_int ip_add))) (pss_one (ps_if (pt_cmpR op_in_sign (pe_ix ix_str (pv 0) (pv 3) (fun _ _ => rfl)) pe_str rfl) (pss_one (ps_aug (i := 3) sc_tokens_of.nd rfl (by first | exact Or.inl rfl | exact Or.inr rfl) pe_int ip_add)) (pss_one (TE.ps_raiseTE rfl T.te hr (TE.takes_of rfl rfl rfl rfl) (pa_cons (pv 3) (pa_cons pe_str pa_nil))))))))))))
      (pss_cons (ps_expr (pe_bm PySem.F.plainAttrs_list PySem.F.slot_list_append PySem.F.type_list_append mt_append (pv 2) (pa_cons (pe_tup (pa_cons pe_str (pa_cons (pe_callB call_len_str (by rfl) T.n_len boot_len (pa_cons (pv 0) pa_nil)) pa_nil))) pa_nil)))
      (pss_one (ps_ret (pv 2))))))), ?_⟩
    -- tokens = []; at = 0
    refine ⟨Nat.zero_le _, fun p np => ?_⟩
    have s0 : Same H (upd H p (.lst [])) := same_upd np
    have t0 : TokAt (upd H p (.lst [])) p [] := ⟨[], upd_same, rfl, fun i a x h _ => by simp at h⟩
    refine ⟨fun m σ H' => ∃ (i : Nat) (b : Option V), σ = [some (.str z), some (.str sg), some (.ref p), some (.int (i : Nat)), b] ∧ LexInv z sg l e H p i H' ∧ i + m = (cd z).length,
      ⟨(cd z).length, 0, none, rfl, ⟨⟨l, hlex, [], t0, Nat.le_refl _, fun _ => rfl⟩, Nat.zero_le _, s0⟩, by omega⟩, ?_⟩
    rintro m σ H' ⟨i, b, rfl, ⟨⟨r, hx, acc, ta, hal, hfin⟩, hle, sm⟩, hm⟩
    refine ⟨_, rfl, _, rfl, z, rfl, hz', _, _, rfl, rfl, _, rfl, ite2 (fun c => ?_) (fun c => ?_)⟩
    · have hi : i < (cd z).length := by
        have c' := of_decide_eq_true c
        rw [len_cd] at c'
        omega
      refine ⟨fun σ' H'' => ∃ (j : Nat) (b : Option V), σ' = [some (.str z), some (.str sg), some (.ref p), some (.int (j : Nat)), b] ∧ LexInv z sg l e H p j H'' ∧ i < j,
        fun σ' H'' ⟨j, b', e1, J', hij⟩ => ⟨(cd z).length - j, by omega, j, b', e1, J', by have := J'.le; omega⟩, ?_⟩
      -- behind = word_end(text, at)
      refine ⟨_, rfl, _, rfl, z, i, rfl, hle, hz, ?_⟩
      obtain ⟨rs, eL, hrl, hg⟩ := id ta
      have app : ∀ (H2 : Hp) (q : Addr) (t : List Nat) (j : Nat) (rest : List (List Nat × Nat)), H' q = none → SS.Lex (cd sg) ((cd z).drop j) j rest e → i < j → j ≤ (cd z).length → (e = none → acc ++ (t, i) :: rest = l) →
          H2 = upd (upd H' q (.tup [tx t, .int (i : Nat)])) p (.lst (rs.map V.ref ++ [.ref q])) → LexInv z sg l e H p j H2 := by
        intro H2 q t j rest nq hr hij hjl hf e2
        obtain ⟨rs', e1, _, t1⟩ := TokAt.more (t := t) (k := i) ta nq
        have er : rs'.map V.ref = rs.map V.ref := by
          rw [eL] at e1
          exact (HO.lst.inj (Option.some.inj e1)).symm
        rw [er] at t1
        subst e2
        refine ⟨⟨rest, hr, acc ++ [(t, i)], t1, by simp; omega, fun h => by rw [List.append_assoc]; exact hf h⟩, hjl, fun b o h => ?_⟩
        have hb := sm b o h
        rw [upd_ne (ne_of_none h np), upd_ne (ne_of_none hb nq)]
        exact hb
      have room : (rs.map V.ref).length < sizeLine := by
        rw [List.length_map, hrl, sizeLine_eq]
        omega
      have two : ∀ a b : V, ([a, b] : List V).length ≤ sizeLine := fun a b => small (show 2 ≤ 1100000 by decide)
      generalize hd : (cd z).drop i = x at hx
      cases hx with
      | done =>
        have := congrArg List.length hd
        rw [List.length_drop, List.length_nil] at this
        omega
      | @word v s' _ l' _ h0 h1 h2 r' =>
        have hv : 0 < v.length := List.length_pos_iff.mpr h0
        have hvl : i + v.length ≤ (cd z).length := by
          have := congrArg List.length hd
          rw [List.length_drop, List.length_append] at this
          omega
        rw [wEnd_word hd h1 h2]
        refine ⟨_, rfl, _, rfl, _, _, rfl, rfl, _, rfl, iT (decide_eq_true (by omega)) ?_⟩
        refine ⟨_, rfl, .inl ⟨rfl, _, SqL.of eL⟩, _, rfl, _, rfl, _, rfl, _, rfl, _, rfl, z, rfl, hz', _, rfl, two _ _, fun q nq => ?_⟩
        have npq : p ≠ q := ne_of_none eL nq
        refine ⟨p, _, _, rfl, rfl, (upd_ne npq).trans eL, room, ?_⟩
        refine ⟨_, rfl, i + v.length, _, rfl, app _ q v _ l' nq ?_ (by omega) hvl hfin ?_, by omega⟩
        · have e3 : (cd z).drop (i + v.length) = s' := by
            rw [← List.drop_drop, hd, List.drop_left]
          rw [e3]
          exact r'
        · rw [cut_eq (by omega) hvl, hd, Nat.add_sub_cancel_left, List.take_left]
      | @sign c0 s' _ l' _ h1 h2 r' =>
        obtain ⟨g1, g2⟩ := drop_get hd
        rw [wEnd_none hd h1]
        refine ⟨_, rfl, _, rfl, _, _, rfl, rfl, _, rfl, iF (decide_eq_false (by omega)) ?_⟩
        refine ⟨_, rfl, _, rfl, z, _, c0, rfl, rfl, hz', atI_nat g1, _, rfl, c0, sg, rfl, rfl, _, rfl, iT (decide_eq_true h2) ?_⟩
        refine ⟨_, rfl, .inl ⟨rfl, _, SqL.of eL⟩, _, rfl, _, rfl, z, _, c0, rfl, rfl, hz', atI_nat g1, _, rfl, two _ _, fun q nq => ?_⟩
        have npq : p ≠ q := ne_of_none eL nq
        refine ⟨p, _, _, rfl, rfl, (upd_ne npq).trans eL, room, ?_⟩
        refine ⟨_, rfl, _, _, rfl, rfl, i + 1, _, rfl, app _ q [c0] _ l' nq (by rw [g2]; exact r') (by omega) (by omega) hfin rfl, by omega⟩
      | @space c0 s' _ l' _ h1 h2 h3 r' =>
        obtain ⟨g1, g2⟩ := drop_get hd
        rw [wEnd_none hd h1]
        refine ⟨_, rfl, _, rfl, _, _, rfl, rfl, _, rfl, iF (decide_eq_false (by omega)) ?_⟩
        refine ⟨_, rfl, _, rfl, z, _, c0, rfl, rfl, hz', atI_nat g1, _, rfl, c0, sg, rfl, rfl, _, rfl, iF (decide_eq_false h2) ?_⟩
        refine ⟨_, rfl, _, rfl, z, _, c0, rfl, rfl, hz', atI_nat g1, c0, _, rfl, rfl, _, rfl, iT (decide_eq_true ?_) ?_⟩
        · have e4 : cd (" \n" : Str) = [32, 10] := by decide +kernel
          show c0 ∈ cd (" \n" : Str)
          rw [e4]
          rcases h3 with rfl | rfl
          · exact List.mem_cons_self
          · exact List.mem_cons_of_mem _ List.mem_cons_self
        · exact ⟨_, rfl, _, _, rfl, rfl, i + 1, _, rfl, ⟨⟨r, by rw [g2]; exact r', acc, ta, by omega, hfin⟩, by omega, sm⟩, by omega⟩
      | @bad c0 s' _ h1 h2 h3 =>
        obtain ⟨g1, g2⟩ := drop_get hd
        rw [wEnd_none hd h1]
        refine ⟨_, rfl, _, rfl, _, _, rfl, rfl, _, rfl, iF (decide_eq_false (by omega)) ?_⟩
        refine ⟨_, rfl, _, rfl, z, _, c0, rfl, rfl, hz', atI_nat g1, _, rfl, c0, sg, rfl, rfl, _, rfl, iF (decide_eq_false h2) ?_⟩
        refine ⟨_, rfl, _, rfl, z, _, c0, rfl, rfl, hz', atI_nat g1, c0, _, rfl, rfl, _, rfl, iF (decide_eq_false ?_) ?_⟩
        · have e4 : cd (" \n" : Str) = [32, 10] := by decide +kernel
          show ¬ c0 ∈ cd (" \n" : Str)
          rw [e4]
          intro z'
          simp at z'
          exact h3 z'
        · refine ⟨_, rfl, (i : Int), "unknown character", rfl, ?_, by decide, fun d t nd nt ntd => ?_⟩
          · exact log_small (by omega)
          · refine q _ d (fun b o h => ?_) upd_same
            have hb := sm b o h
            rw [upd_ne (ne_of_none hb nd), upd_ne (ne_of_none hb nt)]
            exact hb
    · have hi : (cd z).length ≤ i := by
        have c' : z.length ≤ i := by simpa using c
        rwa [len_cd] at c'
      have hd : (cd z).drop i = [] := List.drop_eq_nil_of_le hi
      rw [hd] at hx
      obtain ⟨rfl, rfl⟩ := lex_nil hx
      have hii : i = (cd z).length := by omega
      subst hii
      obtain ⟨rs, eL, hrl, hg⟩ := id ta
      -- tokens.append(("", len(text))); return tokens
      refine ⟨_, rfl, .inl ⟨rfl, _, SqL.of eL⟩, _, rfl, z, rfl, hz', (by exact small (show 2 ≤ 1100000 by decide)), fun q' nq => ?_⟩
      have npq : p ≠ q' := ne_of_none eL nq
      refine ⟨p, _, _, rfl, rfl, (upd_ne npq).trans eL, ?_, ?_⟩
      · rw [List.length_map, hrl, sizeLine_eq]
        omega
      · obtain ⟨rs', e1, _, t1⟩ := TokAt.more (t := []) (k := (cd z).length) ta nq
        have er : rs'.map V.ref = rs.map V.ref := by
          rw [eL] at e1
          exact (HO.lst.inj (Option.some.inj e1)).symm
        rw [er, hfin rfl] at t1
        have ez : ((z.length : Nat) : Int) = (((cd z).length : Nat) : Int) := by rw [len_cd]
        refine ⟨_, rfl, q _ p (fun b o h => ?_) np ?_⟩
        · have hb := sm b o h
          rw [upd_ne (ne_of_none h np), upd_ne (ne_of_none hb nq)]
          exact hb
        · rw [ez]
          exact t1
end
end K41
namespace K41
open PySem PySem.Spec PyProof.Rows L2 SX
/-! ### the reader's object -/
def flds (L : Addr) (k : Nat) (t : List Nat) (pl : Nat) (ex : List (Str × V)) : List (Str × V) := (("tokens" : Str), V.ref L) :: (("at" : Str), V.int (k : Nat)) :: (("token" : Str), tx t) :: (("place" : Str), V.int (pl : Nat)) :: ex
section
variable {L : Addr} {k k' pl pl' : Nat} {t t' : List Nat} {ex : List (Str × V)}
theorem fl_tokens : (flds L k t pl ex).lookup ("tokens" : Str) = some (.ref L) := by
  unfold flds
  rw [lookup_put, if_pos rfl]
theorem fl_at : (flds L k t pl ex).lookup ("at" : Str) = some (.int (k : Nat)) := by
  unfold flds
  rw [lookup_put, if_neg (by decide +kernel), lookup_put, if_pos rfl]
theorem fl_token : (flds L k t pl ex).lookup ("token" : Str) = some (tx t) := by
  unfold flds
  rw [lookup_put, if_neg (by decide +kernel), lookup_put, if_neg (by decide +kernel), lookup_put, if_pos rfl]
theorem fl_place : (flds L k t pl ex).lookup ("place" : Str) = some (.int (pl : Nat)) := by
  unfold flds
  rw [lookup_put, if_neg (by decide +kernel), lookup_put, if_neg (by decide +kernel), lookup_put, if_neg (by decide +kernel), lookup_put, if_pos rfl]
theorem fl_no {m : Str} (h1 : m ≠ "tokens") (h2 : m ≠ "at") (h3 : m ≠ "token") (h4 : m ≠ "place") : (flds L k t pl ex).lookup m = ex.lookup m := by
  unfold flds
  rw [lookup_put, if_neg h1, lookup_put, if_neg h2, lookup_put, if_neg h3, lookup_put, if_neg h4]
theorem n1 : ¬ (("tokens" : Str) = "at") := by decide +kernel
theorem n2 : ¬ (("tokens" : Str) = "token") := by decide +kernel
theorem n3 : ¬ (("tokens" : Str) = "place") := by decide +kernel
theorem n4 : ¬ (("at" : Str) = "token") := by decide +kernel
theorem n5 : ¬ (("at" : Str) = "place") := by decide +kernel
theorem n6 : ¬ (("token" : Str) = "place") := by decide +kernel
theorem put_at : putF "at" (.int (k' : Nat)) (flds L k t pl ex) = flds L k' t pl ex := by
  simp only [flds, putF, if_neg n1, if_pos]
theorem put_token : putF "token" (tx t') (flds L k t pl ex) = flds L k t' pl ex := by
  simp only [flds, putF, if_neg n2, if_neg n4, if_pos]
theorem put_place : putF "place" (.int (pl' : Nat)) (flds L k t pl ex) = flds L k t pl' ex := by
  simp only [flds, putF, if_neg n3, if_neg n5, if_neg n6, if_pos]
end
/-- the methods' names are no fields -/
def meths : List Str := ["step", "refuse", "read_name", "read_sign", "read_end"]
/-- at p a reader of these tokens that stands before token k -/
structure RdAt (C : Addr) (ex : List (Str × V)) (L : Addr) (H : Hp) (p : Addr) (l : List (List Nat × Nat)) (k : Nat) (t : List Nat) (pl : Nat) : Prop where
  ob : ∃ dx, H p = some (.ins C dx (flds L k t pl ex))
  tl : TokAt H L l
  tk : l[k]? = some (t, pl)
  few : ex.length ≤ 50
  nom : ∀ m ∈ meths, ex.lookup m = none
/-- all else stands -/
def But (p : Addr) (H H' : Hp) : Prop := ∀ b o, b ≠ p → H b = some o → H' b = some o
theorem TokAt.but {H H' : Hp} {L p : Addr} {l : List (List Nat × Nat)} {o : HO} (h : TokAt H L l) (hp : H p = some o) (hn : ∀ xs, o ≠ .lst xs) (ht : ∀ xs, o ≠ .tup xs) (b : But p H H') : TokAt H' L l := by
  obtain ⟨rs, e, hl, hg⟩ := h
  exact ⟨rs, b _ _ (ne_of e hp fun z => hn _ z.symm) e, hl, fun i a x h1 h2 => b _ _ (ne_of (hg i a x h1 h2) hp fun z => ht _ z.symm) (hg i a x h1 h2)⟩
def spStep (C : Addr) : Sp := fun vs H Q _ => ∃ (p : Addr) (ex : List (Str × V)) (L : Addr) (l : List (List Nat × Nat)) (k : Nat) (t : List Nat) (pl : Nat) (t' : List Nat) (pl' : Nat), vs = [.ref p] ∧ RdAt C ex L H p l k t pl ∧ l[k + 1]? = some (t', pl') ∧
  ∀ H', RdAt C ex L H' p l (k + 1) t' pl' → But p H H' → Q .non H'
/-- what is said of a token that can't stand -/
def saysOf (t : List Nat) : Str := if t = [] then "unexpected end" else "unexpected token"
def spRefuse (C Ce : Addr) : Sp := fun vs H Q E => ∃ (p : Addr) (ex : List (Str × V)) (L : Addr) (l : List (List Nat × Nat)) (k : Nat) (t : List Nat) (pl : Nat), vs = [.ref p] ∧ RdAt C ex L H p l k t pl ∧ pl ≤ 1100000 ∧ Fails Ce H E (saysOf t) pl
section
variable {P : Program} {w : World} {K : PySem.W.Frag} {mg : Str → Option Value} {base : Heap}
theorem ok_step (T : Txt P K mg) : FnOk P w K mg base CX0 1 T.a_Reader_step T.fd_Reader_step ["self"] (spStep T.C_Reader) := by
  refine T.F_Reader_step.ok sc_Reader_step (fun vs H Q E h => ?_) (fun cdv A outer s H vs Q E hr h => ?_)
  · obtain ⟨_, _, _, _, _, _, _, _, _, rfl, _⟩ := h
    rfl
  · obtain ⟨p, ex, L, l, k, t, pl, t', pl', rfl, ⟨⟨dx, hp⟩, hL, tk, few, nom⟩, tk', q⟩ := h
    refine ⟨_, (pss_cons (ps_fldaug (pv 0) pe_int in_add)
      (pss_one (ps_asg (pe_ix ix_list (pe_fld (pv 0) rfl) (pe_fld (pv 0) rfl) (fun _ _ => rfl)) (pg_tup (by rfl) (pgs_cons (pg_fld (pv 0)) (pgs_cons (pg_fld (pv 0)) pgs_nil)))))), ?_⟩
    have n4 : ∀ {k t pl}, (flds L k t pl ex).length < 1000 := fun {k t pl} => by
      show ex.length + 1 + 1 + 1 + 1 < 1000
      omega
    have L2 : ∀ {o : HO} {a : Addr} {u : HO}, H a = some u → a ≠ p → upd H p o a = some u := fun h hn => (upd_ne hn).trans h
    obtain ⟨rs, eL, hrl, hg⟩ := id hL
    have npL : L ≠ p := ne_of eL hp (by intro z; cases z)
    obtain ⟨hk', -⟩ := List.getElem?_eq_some_iff.mp tk'
    have hkr : k + 1 < rs.length := by omega
    have ht' := hg (k + 1) rs[k + 1] _ (List.getElem?_eq_getElem hkr) tk'
    have npa : rs[k + 1] ≠ p := ne_of ht' hp (by intro z; cases z)
    have ga : (rs.map V.ref)[k + 1]? = some (.ref rs[k + 1]) := by
      rw [List.getElem?_map, List.getElem?_eq_getElem hkr]
      rfl
    have e1 : ∀ {H0 : Hp}, upd H0 p (.ins T.C_Reader dx (putF "at" (.int ((k : Int) + 1)) (flds L k t pl ex))) p = some (.ins T.C_Reader dx (flds L (k + 1) t pl ex)) := fun {H0} =>
      Eq.trans upd_same (congrArg (fun l => some (HO.ins T.C_Reader dx l)) (put_at (k' := k + 1)))
    -- self.at += 1
    refine ⟨_, rfl, p, _, _, _, _, rfl, hp, T.cl_Reader, T.n_Reader_at, fl_at, _, _, rfl, rfl, _, _, hp, n4, ?_⟩
    -- self.tokens[self.at]
    refine ⟨_, rfl, p, _, _, _, _, rfl, e1, T.cl_Reader, T.n_Reader_tokens, fl_tokens, _, rfl, p, _, _, _, _, rfl, e1, T.cl_Reader, T.n_Reader_at, fl_at, L, _, _, _, rfl, rfl, SqL.of (L2 eL npL), atI_nat ga, ?_⟩
    -- self.token, self.place
    refine ⟨rs[k + 1], _, rfl, SqT.of (L2 ht' npa), rfl, tx t', _, rfl, _, rfl, p, _, _, _, rfl, e1, T.cl_Reader, T.n_Reader_token, n4, ?_⟩
    rw [put_token]
    refine ⟨_, _, rfl, _, rfl, p, _, _, _, rfl, upd_same, T.cl_Reader, T.n_Reader_place, n4, ?_⟩
    rw [put_place]
    have bt : But p H (upd (upd (upd H p (.ins T.C_Reader dx (putF "at" (.int ((k : Int) + 1)) (flds L k t pl ex)))) p (.ins T.C_Reader dx (flds L (k + 1) t' pl ex))) p (.ins T.C_Reader dx (flds L (k + 1) t' pl' ex))) := fun b o hb h => by
      rw [upd_ne hb, upd_ne hb, upd_ne hb]
      exact h
    exact ⟨rfl, q _ ⟨⟨dx, upd_same⟩, hL.but hp (by intro _ z; cases z) (by intro _ z; cases z) bt, tk', few, nom⟩ bt⟩
theorem ok_refuse (T : Txt P K mg) : FnOk P w K mg base (TE.CX P w) 2 T.a_Reader_refuse T.fd_Reader_refuse ["self"] (spRefuse T.C_Reader T.C_te) := by
  refine okT T.F_Reader_refuse sc_Reader_refuse (fun vs H Q E h => ?_) (fun cdv A outer s H vs Q E hr h => ?_)
  · obtain ⟨_, _, _, _, _, _, _, rfl, _⟩ := h
    rfl
  · obtain ⟨p, ex, L, l, k, t, pl, rfl, ⟨⟨dx, hp⟩, hL, tk, few, nom⟩, hpl, q⟩ := h
    refine ⟨_, (pss_cons (ps_if (pt_cmpR op_eq (pe_fld (pv 0) rfl) pe_str (nomark _)) (pss_one (TE.ps_raiseTE rfl T.te hr (TE.takes_of rfl rfl rfl rfl) (pa_cons (pe_fld (pv 0) rfl) (pa_cons pe_str pa_nil)))) pss_nil)
      (pss_one (TE.ps_raiseTE rfl T.te hr (TE.takes_of rfl rfl rfl rfl) (pa_cons (pe_fld (pv 0) rfl) (pa_cons pe_str pa_nil))))), ?_⟩
    have out : ∀ (H' : Hp) (d u : Addr) (o o' : HO), H d = none → H u = none → H' = upd (upd H u o) d o' → Same H H' := fun H' d u o o' nd nu e b x h => by
      rw [e, upd_ne (ne_of_none h nd), upd_ne (ne_of_none h nu)]
      exact h
    refine ⟨_, rfl, p, _, _, _, _, rfl, hp, T.cl_Reader, T.n_Reader_token, fl_token, rfl, _, rfl, ?_⟩
    have e0 : (("" : Str)) = ⟨([] : List Nat).toArray⟩ := by decide +kernel
    by_cases ht : t = []
    · refine iT (decide_eq_true (by rw [ht, e0])) ?_
      refine ⟨_, rfl, p, _, _, _, _, rfl, hp, T.cl_Reader, T.n_Reader_place, fl_place, pl, "unexpected end", rfl, log_small hpl, by decide, fun d u nd nu _ => q _ d (out _ d u _ _ nd nu rfl) ?_⟩
      unfold saysOf
      rw [if_pos ht]
      exact upd_same
    · refine iF (decide_eq_false fun z => ht ?_) ?_
      · have z2 := V.str.inj z
        rw [e0] at z2
        have z3 := congrArg cd z2
        rwa [cd_mk, cd_mk] at z3
      · refine ⟨_, rfl, p, _, _, _, _, rfl, hp, T.cl_Reader, T.n_Reader_place, fl_place, pl, "unexpected token", rfl, log_small hpl, by decide, fun d u nd nu _ => q _ d (out _ d u _ _ nd nu rfl) ?_⟩
        unfold saysOf
        rw [if_neg ht]
        exact upd_same
end
end K41
namespace K41
open PySem PySem.Spec PyProof.Rows L2 SX
/-- a token of a text: a word, a sign that is no letter, or the end -/
def Tok1 (t : List Nat) : Prop := t.all SS.isLow = true ∨ ∃ c, t = [c] ∧ SS.isLow c = false ∧ Unicode.isAlpha c = false
theorem low_alpha {c : Nat} (h : SS.isLow c = true) : Unicode.isAlpha c = true := by
  have z : ∀ k, k < 26 → Unicode.isAlpha (97 + k) = true := by decide +kernel
  have h' : 97 ≤ c ∧ c ≤ 122 := of_decide_eq_true h
  have := z (c - 97) (by omega)
  rwa [show 97 + (c - 97) = c by omega] at this
theorem isalpha_tok {t : List Nat} (h : Tok1 t) : Txt.isalpha ⟨t.toArray⟩ = (!t.isEmpty && t.all SS.isLow) := by
  have e : Txt.isalpha ⟨t.toArray⟩ = (decide ((⟨t.toArray⟩ : Str).length > 0) && t.all Unicode.isAlpha) := by
    unfold Txt.isalpha
    simp
  rw [e, len_cd, cd_mk]
  cases t with
  | nil => rfl
  | cons a r =>
    have e1 : decide ((a :: r).length > 0) = true := by simp
    rw [e1]
    rcases h with h | ⟨c, h, h1, h2⟩
    · have e2 : (a :: r).all Unicode.isAlpha = true := List.all_eq_true.mpr fun x hx => low_alpha (List.all_eq_true.mp h x hx)
      rw [e2, h]
      rfl
    · cases h
      simp [h1, h2]
def spReadName (C Ce : Addr) : Sp := fun vs H Q E => ∃ (p : Addr) (ex : List (Str × V)) (L : Addr) (l : List (List Nat × Nat)) (k : Nat) (t : List Nat) (pl : Nat), vs = [.ref p] ∧ RdAt C ex L H p l k t pl ∧ pl ≤ 1100000 ∧ t.length ≤ 1000000 ∧ Tok1 t ∧
  (SS.okName t = true → ∃ t' pl', l[k + 1]? = some (t', pl') ∧ ∀ H', RdAt C ex L H' p l (k + 1) t' pl' → But p H H' → Q (tx t) H') ∧ (SS.okName t = false → Fails Ce H E (saysOf t) pl)
def spReadSign (C Ce : Addr) : Sp := fun vs H Q E => ∃ (p : Addr) (g : Str) (ex : List (Str × V)) (L : Addr) (l : List (List Nat × Nat)) (k : Nat) (t : List Nat) (pl : Nat), vs = [.ref p, .str g] ∧ RdAt C ex L H p l k t pl ∧ pl ≤ 1100000 ∧
  (t = cd g → ∃ t' pl', l[k + 1]? = some (t', pl') ∧ ∀ H', RdAt C ex L H' p l (k + 1) t' pl' → But p H H' → Q .non H') ∧ (t ≠ cd g → Fails Ce H E (saysOf t) pl)
section
variable {P : Program} {w : World} {K : PySem.W.Frag} {mg : Str → Option Value} {base : Heap}
theorem RdAt.no {C L : Addr} {ex : List (Str × V)} {H : Hp} {p : Addr} {l : List (List Nat × Nat)} {k : Nat} {t : List Nat} {pl : Nat} (h : RdAt C ex L H p l k t pl) : ∃ dx, H p = some (.ins C dx (flds L k t pl ex)) ∧
    (∀ {m : Str}, m ∈ meths → (flds L k t pl ex).lookup m = none) := by
  obtain ⟨⟨dx, hp⟩, _, _, _, nom⟩ := h
  refine ⟨dx, hp, fun {m} hm => ?_⟩
  have z : ∀ m ∈ meths, m ≠ ("tokens" : Str) ∧ m ≠ ("at" : Str) ∧ m ≠ ("token" : Str) ∧ m ≠ ("place" : Str) := by decide +kernel
  obtain ⟨a, b, c, d⟩ := z m hm
  rw [fl_no a b c d]
  exact nom m hm
theorem ok_read_name (T : Txt P K mg) : FnOk P w K mg base (TE.CX P w) 4 T.a_Reader_read_name T.fd_Reader_read_name ["self"] (spReadName T.C_Reader T.C_te) := by
  have G_Reader_step : FnOk P w K mg base CX0 1 T.a_Reader_step T.fd_Reader_step ["self"] (spStep T.C_Reader) := ok_step T
  have G_Reader_refuse : FnOk P w K mg base (TE.CX P w) 2 T.a_Reader_refuse T.fd_Reader_refuse ["self"] (spRefuse T.C_Reader T.C_te) := ok_refuse T
  refine okT T.F_Reader_read_name sc_Reader_read_name (fun vs H Q E h => ?_) (fun cdv A outer s H vs Q E hr h => ?_)
  · obtain ⟨_, _, _, _, _, _, _, rfl, _⟩ := h
    rfl
  · obtain ⟨p, ex, L, l, k, t, pl, rfl, R, hpl, htl, hT, kS, kF⟩ := h
    obtain ⟨dx, hp, hno⟩ := R.no
    have hz : (⟨t.toArray⟩ : Str).length ≤ sizeLine := by
      rw [len_cd, cd_mk]
      exact small (by omega)
    have el : ((⟨t.toArray⟩ : Str).length : Int) = (t.length : Nat) := by rw [len_cd, cd_mk]
    refine ⟨_, (pss_cons (ps_set (i := 1) sc_Reader_read_name.nd rfl (by first | exact Or.inl rfl | exact Or.inr rfl) (pe_fld (pv 0) rfl))
      (pss_cons (ps_if (PW.pt (pw_or (pt_not (pt_val (pe_m0 PySem.F.slot_str_isalpha PySem.F.type_str_isalpha mt_isalpha (pv 1)))) (pw_or1 (pt_cmpR op_gt (pe_callB call_len_str (by rfl) T.n_len boot_len (pa_cons (pv 1) pa_nil)) (pe_glob (v := .int 8) (by rfl) T.g_LONGEST_NAME ⟨_, rfl⟩) (nomark _))))) (pss_one (ps_expr (pe_meth0 (pv 0) T.cl_Reader T.m_Reader_refuse G_Reader_refuse (hr.mono (by omega)) T.b_Reader_refuse .nil (TE.passes (TE.takes_of rfl rfl rfl rfl))))) pss_nil)
      (pss_cons (ps_expr (pe_meth0 (pv 0) T.cl_Reader T.m_Reader_step G_Reader_step (hr.mono (by omega)) T.b_Reader_step .nil pass0))
      (pss_one (ps_ret (pv 1)))))), ?_⟩
    -- word = self.token
    refine ⟨_, rfl, p, _, _, _, _, rfl, hp, T.cl_Reader, T.n_Reader_token, fl_token, ?_⟩
    -- not word.isalpha()
    refine ⟨_, rfl, ⟨_, rfl⟩, _, rfl, rfl, trivial, _, rfl, ?_⟩
    rw [isalpha_tok hT]
    have good : SS.okName t = true → _ := kS
    by_cases h1 : (!t.isEmpty && t.all SS.isLow) = true
    · rw [h1]
      refine iteF ?_
      refine ⟨_, rfl, _, rfl, hz, _, _, rfl, rfl, _, rfl, ?_⟩
      rw [el]
      by_cases h8 : t.length ≤ 8
      · refine iF (decide_eq_false (by omega)) ?_
        obtain ⟨t', pl', tk', q⟩ := kS (by unfold SS.okName; rw [h1]; simpa using h8)
        refine ⟨_, rfl, p, dx, _, rfl, hp, hno (by decide +kernel), p, ex, L, l, k, t, pl, t', pl', rfl, R, tk', fun H' R' b => ?_⟩
        exact ⟨_, rfl, q H' R' b⟩
      · refine iT (decide_eq_true (by omega)) ?_
        refine ⟨_, rfl, p, dx, _, rfl, hp, hno (by decide +kernel), p, ex, L, l, k, t, pl, rfl, R, hpl, kF ?_⟩
        unfold SS.okName
        rw [h1]
        simpa using h8
    · have h1' : (!t.isEmpty && t.all SS.isLow) = false := by simpa using h1
      rw [h1']
      refine iteT ?_
      refine iteT ?_
      refine ⟨_, rfl, p, dx, _, rfl, hp, hno (by decide +kernel), p, ex, L, l, k, t, pl, rfl, R, hpl, kF ?_⟩
      unfold SS.okName
      rw [h1']
      rfl
theorem ok_read_sign (T : Txt P K mg) : FnOk P w K mg base (TE.CX P w) 4 T.a_Reader_read_sign T.fd_Reader_read_sign ["self", "sign"] (spReadSign T.C_Reader T.C_te) := by
  have G_Reader_step : FnOk P w K mg base CX0 1 T.a_Reader_step T.fd_Reader_step ["self"] (spStep T.C_Reader) := ok_step T
  have G_Reader_refuse : FnOk P w K mg base (TE.CX P w) 2 T.a_Reader_refuse T.fd_Reader_refuse ["self"] (spRefuse T.C_Reader T.C_te) := ok_refuse T
  refine okT T.F_Reader_read_sign sc_Reader_read_sign (fun vs H Q E h => ?_) (fun cdv A outer s H vs Q E hr h => ?_)
  · obtain ⟨_, _, _, _, _, _, _, _, rfl, _⟩ := h
    rfl
  · obtain ⟨p, g, ex, L, l, k, t, pl, rfl, R, hpl, kS, kF⟩ := h
    obtain ⟨dx, hp, hno⟩ := R.no
    refine ⟨_, (pss_cons (ps_if (pt_cmpR op_ne (pe_fld (pv 0) rfl) (pv 1) (nomark _)) (pss_one (ps_expr (pe_meth0 (pv 0) T.cl_Reader T.m_Reader_refuse G_Reader_refuse (hr.mono (by omega)) T.b_Reader_refuse .nil (TE.passes (TE.takes_of rfl rfl rfl rfl))))) pss_nil)
      (pss_one (ps_expr (pe_meth0 (pv 0) T.cl_Reader T.m_Reader_step G_Reader_step (hr.mono (by omega)) T.b_Reader_step .nil pass0)))), ?_⟩
    refine ⟨_, rfl, p, _, _, _, _, rfl, hp, T.cl_Reader, T.n_Reader_token, fl_token, _, rfl, rfl, _, rfl, ?_⟩
    have eq : (V.str ⟨t.toArray⟩ = V.str g) ↔ t = cd g := by
      constructor
      · intro z
        have z3 := congrArg cd (V.str.inj z)
        rwa [cd_mk] at z3
      · intro z
        refine congrArg V.str (cd_inj ?_)
        rw [cd_mk, z]
    by_cases h : t = cd g
    · refine iF (by rw [decide_eq_true (eq.mpr h)]; rfl) ?_
      obtain ⟨t', pl', tk', q⟩ := kS h
      exact ⟨_, rfl, p, dx, _, rfl, hp, hno (by decide +kernel), p, ex, L, l, k, t, pl, t', pl', rfl, R, tk', fun H' R' b => q H' R' b⟩
    · refine iT (by rw [decide_eq_false (fun z => h (eq.mp z))]; rfl) ?_
      exact ⟨_, rfl, p, dx, _, rfl, hp, hno (by decide +kernel), p, ex, L, l, k, t, pl, rfl, R, hpl, kF h⟩
end
end K41
namespace K41
open PySem PySem.Spec PyProof.Rows L2 SX
/-! ### what the tokens of a text are like -/
theorem lex_last {sg z : List Nat} {i : Nat} {l : List (List Nat × Nat)} {e : Option Nat} (h : SS.Lex sg z i l e) : e = none → ∃ l' n, l = l' ++ [([], n)] ∧ ∀ x ∈ l', x.1 ≠ [] := by
  induction h with
  | done => exact fun _ => ⟨[], _, rfl, fun _ h => nomatch h⟩
  | @word v s i l e h0 h1 h2 r ih =>
    intro he
    obtain ⟨l', n, e1, e2⟩ := ih he
    exact ⟨(v, i) :: l', n, by rw [e1]; rfl, fun x hx => (List.mem_cons.mp hx).elim (fun y => by rw [y]; exact h0) (e2 x)⟩
  | @sign c s i l e h1 h2 r ih =>
    intro he
    obtain ⟨l', n, e1, e2⟩ := ih he
    exact ⟨([c], i) :: l', n, by rw [e1]; rfl, fun x hx => (List.mem_cons.mp hx).elim (fun y => by rw [y]; exact List.cons_ne_nil _ _) (e2 x)⟩
  | space h1 h2 h3 r ih => exact ih
  | bad => exact fun he => nomatch he
theorem lex_next {sg z : List Nat} {i k : Nat} {l : List (List Nat × Nat)} {t : List Nat} {pl : Nat} (h : SS.Lex sg z i l none) (hk : l[k]? = some (t, pl)) (ht : t ≠ []) : ∃ t' pl', l[k + 1]? = some (t', pl') := by
  obtain ⟨l', n, e, h'⟩ := lex_last h rfl
  have hl : k < l'.length := by
    have h1 := (List.getElem?_eq_some_iff.mp hk).1
    rw [e] at h1 hk
    simp at h1
    by_cases q : k < l'.length
    · exact q
    · have : k = l'.length := by omega
      rw [this, List.getElem?_append_right (Nat.le_refl _), Nat.sub_self] at hk
      cases hk
      exact absurd rfl ht
  have : k + 1 < l.length := by
    rw [e]
    simp
    omega
  exact ⟨l[k + 1].1, l[k + 1].2, List.getElem?_eq_getElem this⟩
theorem lex_toks {sg z : List Nat} {i : Nat} {l : List (List Nat × Nat)} {e : Option Nat} (h : SS.Lex sg z i l e) (hs : ∀ c ∈ sg, Unicode.isAlpha c = false) : ∀ x ∈ l, Tok1 x.1 ∧ x.2 + x.1.length ≤ i + z.length := by
  induction h with
  | done =>
    intro x hx
    rcases List.mem_cons.mp hx with rfl | hx
    · exact ⟨.inl rfl, by simp⟩
    · cases hx
  | @word v s i l e h0 h1 h2 r ih =>
    intro x hx
    rcases List.mem_cons.mp hx with rfl | hx
    · exact ⟨.inl (List.all_eq_true.mpr h1), by simp⟩
    · obtain ⟨a, b⟩ := ih x hx
      exact ⟨a, by simp; omega⟩
  | @sign c s i l e h1 h2 r ih =>
    intro x hx
    rcases List.mem_cons.mp hx with rfl | hx
    · exact ⟨.inr ⟨c, rfl, h1, hs c h2⟩, by simp⟩
    · obtain ⟨a, b⟩ := ih x hx
      exact ⟨a, by simp; omega⟩
  | @space c s i l e h1 h2 h3 r ih =>
    intro x hx
    obtain ⟨a, b⟩ := ih x hx
    exact ⟨a, by simp; omega⟩
  | bad => exact fun x hx => nomatch hx
theorem Fails.on {C : Addr} {H H1 : Hp} {E : XK} {m : Str} {k : Nat} (h : Fails C H E m k) (s : Same H H1) : Fails C H1 E m k := fun H' d s' e => h H' d (s.trans s') e
def spInit (C Ce : Addr) : Sp := fun vs H Q E => ∃ (p dx : Addr) (z sg : Str) (l : List (List Nat × Nat)) (e : Option Nat), vs = [.ref p, .str z, .str sg] ∧ H p = some (.ins C dx []) ∧ (cd z).length ≤ 1000000 ∧ SS.Lex (cd sg) (cd z) 0 l e ∧
  match e with
  | none => ∀ L t pl H', RdAt C [] L H' p l 0 t pl → H L = none → But p H H' → Q .non H'
  | some k => Fails Ce H E "unknown character" k
section
variable {P : Program} {w : World} {K : PySem.W.Frag} {mg : Str → Option Value} {base : Heap}
theorem ok_init (T : Txt P K mg) : FnOk P w K mg base (TE.CX P w) 4 T.a_Reader___init__ T.fd_Reader___init__ ["self", "text", "signs"] (spInit T.C_Reader T.C_te) := by
  have G_tokens_of : FnOk P w K mg base (TE.CX P w) 3 T.a_tokens_of T.fd_tokens_of ["text", "signs"] (spTokensOf T.C_te) := ok_tokens_of T
  refine okT T.F_Reader___init__ sc_Reader___init__ (fun vs H Q E h => ?_) (fun cdv A outer s H vs Q E hr h => ?_)
  · obtain ⟨_, _, _, _, _, _, rfl, _⟩ := h
    rfl
  · obtain ⟨p, dx, z, sg, l, e, rfl, hp, hz, hlex, q⟩ := h
    refine ⟨_, (pss_cons (ps_fld (pv 0) (pe_call G_tokens_of (hr.mono (by omega)) (by rfl) T.g_tokens_of T.F_tokens_of.kp T.b_tokens_of .nil (TE.passes (TE.takes_of rfl rfl rfl rfl)) (pa_cons (pv 1) (pa_cons (pv 2) pa_nil))) rfl)
      (pss_cons (ps_fld (pv 0) pe_int rfl)
      (pss_one (ps_asg (pe_ix ix_list (pe_fld (pv 0) rfl) pe_int (fun _ _ => rfl)) (pg_tup (by rfl) (pgs_cons (pg_fld (pv 0)) (pgs_cons (pg_fld (pv 0)) pgs_nil))))))), ?_⟩
    refine ⟨_, rfl, _, rfl, z, sg, l, e, rfl, hz, hlex, ?_⟩
    cases e with
    | some k => exact q
    | none =>
      intro H1 L s1 nL tL
      have npL : L ≠ p := fun x => by
        rw [x, hp] at nL
        cases nL
      refine ⟨_, rfl, p, _, dx, _, rfl, s1 _ _ hp, T.cl_Reader, T.n_Reader_tokens, by decide, ?_⟩
      refine ⟨_, rfl, p, _, dx, _, rfl, upd_same, T.cl_Reader, T.n_Reader_at, (show 1 < 1000 by decide), ?_⟩
      obtain ⟨l', n, el, -⟩ := lex_last hlex rfl
      obtain ⟨t, pl, tk⟩ : ∃ t pl, l[0]? = some (t, pl) := by
        have : 0 < l.length := by
          rw [el]
          simp
        exact ⟨l[0].1, l[0].2, List.getElem?_eq_getElem this⟩
      obtain ⟨rs, eL, hrl, hg⟩ := id tL
      have hk : 0 < rs.length := by
        have := (List.getElem?_eq_some_iff.mp tk).1
        omega
      have ht := hg 0 rs[0] _ (List.getElem?_eq_getElem hk) tk
      have npa : rs[0] ≠ p := ne_of ht (s1 _ _ hp) (by intro x; cases x)
      have ga : (rs.map V.ref)[0]? = some (.ref rs[0]) := by
        rw [List.getElem?_map, List.getElem?_eq_getElem hk]
        rfl
      have e2 : putF "at" (.int 0) (putF "tokens" (.ref L) []) = [(("tokens" : Str), V.ref L), (("at" : Str), .int 0)] := by
        simp only [putF, if_neg n1]
      rw [e2]
      have k1 : List.lookup ("tokens" : Str) [(("tokens" : Str), V.ref L), (("at" : Str), .int 0)] = some (.ref L) := by
        rw [lookup_put, if_pos rfl]
      have old : ∀ {a : Addr} {u : HO} {o o' : HO}, H1 a = some u → a ≠ p → upd (upd H1 p o) p o' a = some u := fun h hn => by
        rw [upd_ne hn, upd_ne hn]
        exact h
      refine ⟨_, rfl, p, _, _, _, _, rfl, upd_same, T.cl_Reader, T.n_Reader_tokens, k1, L, _, _, _, rfl, rfl, SqL.of (old eL npL), atI_nat ga, ?_⟩
      refine ⟨rs[0], _, rfl, SqT.of (old ht npa), rfl, tx t, _, rfl, _, rfl, p, _, dx, _, rfl, upd_same, T.cl_Reader, T.n_Reader_token, (show 2 < 1000 by decide), ?_⟩
      have e3 : putF "token" (tx t) [(("tokens" : Str), V.ref L), (("at" : Str), .int 0)] = [(("tokens" : Str), V.ref L), (("at" : Str), .int 0), (("token" : Str), tx t)] := by
        simp only [putF, if_neg n2, if_neg n4]
      rw [e3]
      refine ⟨_, _, rfl, _, rfl, p, _, dx, _, rfl, upd_same, T.cl_Reader, T.n_Reader_place, (show 3 < 1000 by decide), ?_⟩
      have e4 : putF "place" (.int (pl : Nat)) [(("tokens" : Str), V.ref L), (("at" : Str), .int 0), (("token" : Str), tx t)] = flds L 0 t pl [] := by
        simp only [putF, flds, if_neg n3, if_neg n5, if_neg n6]
        rfl
      rw [e4]
      have bt : But p H (upd (upd (upd (upd H1 p (.ins T.C_Reader dx (putF "tokens" (.ref L) []))) p (.ins T.C_Reader dx [(("tokens" : Str), V.ref L), (("at" : Str), .int 0)])) p
          (.ins T.C_Reader dx [(("tokens" : Str), V.ref L), (("at" : Str), .int 0), (("token" : Str), tx t)])) p (.ins T.C_Reader dx (flds L 0 t pl []))) := fun b o hb h => by
        rw [upd_ne hb, upd_ne hb, upd_ne hb, upd_ne hb]
        exact s1 b o h
      have bt1 : But p H1 (upd (upd (upd (upd H1 p (.ins T.C_Reader dx (putF "tokens" (.ref L) []))) p (.ins T.C_Reader dx [(("tokens" : Str), V.ref L), (("at" : Str), .int 0)])) p
          (.ins T.C_Reader dx [(("tokens" : Str), V.ref L), (("at" : Str), .int 0), (("token" : Str), tx t)])) p (.ins T.C_Reader dx (flds L 0 t pl []))) := fun b o hb h => by
        rw [upd_ne hb, upd_ne hb, upd_ne hb, upd_ne hb]
        exact h
      exact ⟨rfl, q L t pl _ ⟨⟨dx, upd_same⟩, tL.but (s1 _ _ hp) (by intro _ x; cases x) (by intro _ x; cases x) bt1, tk, Nat.zero_le _, fun _ _ => rfl⟩ nL bt⟩
end
end K41
namespace K41
open PySem PySem.Spec PyProof.Rows L2 SX
/-- what reading says of its error -/
def saysB (b : Bool) : Str := if b = true then "unexpected end" else "unexpected token"
def spReadEvents (Ce : Addr) : Sp := fun vs H Q E => ∃ (z : Str) (l : List (List Nat × Nat)) (e : Option Nat), vs = [.str z] ∧ (cd z).length ≤ 1000000 ∧ SS.Lex [40, 41] (cd z) 0 l e ∧
  match e with
  | some k => Fails Ce H E "unknown character" k
  | none => match (SS.rd l 0 false).2 with
    | none => ∀ H' p, Same H H' → H p = none → H' p = some (.lst ((SS.rd l 0 false).1.map tx)) → Q (.ref p) H'
    | some x => Fails Ce H E (saysB x.2) x.1
theorem tx_str {t : List Nat} {g : Str} : (tx t = V.str g) ↔ t = cd g := by
  constructor
  · intro z
    have z3 := congrArg cd (V.str.inj z)
    rwa [cd_mk] at z3
  · intro z
    refine congrArg V.str (cd_inj ?_)
    rw [cd_mk, z]
theorem drop_cons' {α : Type} {l : List α} {k : Nat} {x : α} (h : l[k]? = some x) : l.drop k = x :: l.drop (k + 1) := by
  obtain ⟨hk, e⟩ := List.getElem?_eq_some_iff.mp h
  rw [List.drop_eq_getElem_cons hk, e]
theorem map_more {ev : List (List Nat)} {t : List Nat} : (ev ++ [t]).map tx = ev.map tx ++ [tx t] := by rw [List.map_append]; rfl
theorem lex_len {sg z : List Nat} {i : Nat} {l : List (List Nat × Nat)} {e : Option Nat} (h : SS.Lex sg z i l e) : l.length ≤ z.length + 1 := by
  induction h with
  | done => exact Nat.le_refl _
  | @word v s i l e h0 h1 h2 r ih =>
    have := List.length_pos_iff.mpr h0
    simp
    omega
  | sign h1 h2 r ih =>
    simp
    omega
  | space h1 h2 h3 r ih =>
    simp
    omega
  | bad => exact Nat.zero_le _
theorem RdAt.upd {C : Addr} {ex : List (Str × V)} {L : Addr} {H : Hp} {p : Addr} {l : List (List Nat × Nat)} {k : Nat} {t : List Nat} {pl : Nat} (h : RdAt C ex L H p l k t pl) {y : Addr} {xs ys : List V} (hy : H y = some (.lst xs) ∨ H y = none) (h1 : L ≠ y) (h2 : p ≠ y) :
    RdAt C ex L (upd H y (.lst ys)) p l k t pl := by
  obtain ⟨⟨dx, hp⟩, ⟨rs, e, hl, hg⟩, tk, few, nom⟩ := h
  refine ⟨⟨dx, (upd_ne h2).trans hp⟩, ⟨rs, (upd_ne h1).trans e, hl, fun i a x g1 g2 => ?_⟩, tk, few, nom⟩
  have z := hg i a x g1 g2
  rw [upd_ne]
  · exact z
  · rintro rfl
    rcases hy with hy | hy
    · rw [hy] at z
      cases z
    · rw [hy] at z
      cases z
section
variable {P : Program} {w : World} {K : PySem.W.Frag} {mg : Str → Option Value} {base : Heap}
theorem ok_read_events (T : Txt P K mg) : FnOk P w K mg base (TE.CX P w) 6 T.a_read_events T.fd_read_events ["text"] (spReadEvents T.C_te) := by
  have G_Reader___init__ : FnOk P w K mg base (TE.CX P w) 4 T.a_Reader___init__ T.fd_Reader___init__ ["self", "text", "signs"] (spInit T.C_Reader T.C_te) := ok_init T
  have G_Reader_step : FnOk P w K mg base CX0 1 T.a_Reader_step T.fd_Reader_step ["self"] (spStep T.C_Reader) := ok_step T
  have G_Reader_refuse : FnOk P w K mg base (TE.CX P w) 2 T.a_Reader_refuse T.fd_Reader_refuse ["self"] (spRefuse T.C_Reader T.C_te) := ok_refuse T
  have G_Reader_read_name : FnOk P w K mg base (TE.CX P w) 4 T.a_Reader_read_name T.fd_Reader_read_name ["self"] (spReadName T.C_Reader T.C_te) := ok_read_name T
  have G_Reader_read_sign : FnOk P w K mg base (TE.CX P w) 4 T.a_Reader_read_sign T.fd_Reader_read_sign ["self", "sign"] (spReadSign T.C_Reader T.C_te) := ok_read_sign T
  refine okT T.F_read_events sc_read_events (fun vs H Q E h => ?_) (fun cdv A outer s H vs Q E hr h => ?_)
  · obtain ⟨_, _, _, rfl, _⟩ := h
    rfl
  · obtain ⟨z, l, e, rfl, hz, hlex, q⟩ := h
    have eg : cd ("()" : Str) = [40, 41] := by decide +kernel
    have toks := lex_toks hlex (by decide +kernel)
    refine ⟨_, (pss_cons (ps_set (i := 1) sc_read_events.nd rfl (by first | exact Or.inl rfl | exact Or.inr rfl) (pe_make T.M_Reader G_Reader___init__ (hr.mono (by omega)) (by rfl) T.g_Reader T.b_Reader___init__ .nil (TE.passes (TE.takes_of rfl rfl rfl rfl)) (pa_cons (pv 0) (pa_cons pe_str pa_nil))))
      (pss_cons (ps_set (i := 2) sc_read_events.nd rfl (by first | exact Or.inl rfl | exact Or.inr rfl) (pe_lst pa_nil))
      (pss_cons (ps_set (i := 3) sc_read_events.nd rfl (by first | exact Or.inl rfl | exact Or.inr rfl) pe_int)
      (pss_cons (ps_while PassesOwn.leaving (pt_cmpR op_ne (pe_fld (pv 1) rfl) pe_str (nomark _)) (pss_cons (ps_if (PW.pt (pw_and (pt_truth (pv 2) (by intro _; rfl)) (pw_and1 (pt_cmpR op_eq (pv 3) pe_int (nomark _))))) (pss_one (ps_expr (pe_meth0 (pv 1) T.cl_Reader T.m_Reader_refuse G_Reader_refuse (hr.mono (by omega)) T.b_Reader_refuse .nil (TE.passes (TE.takes_of rfl rfl rfl rfl))))) pss_nil)
      (pss_one (ps_if (PW.pt (pw_and (pt_cmpR op_eq (pe_fld (pv 1) rfl) pe_str (nomark _)) (pw_and1 (pt_cmpR op_gt (pv 3) pe_int (nomark _))))) (pss_cons (ps_expr (pe_meth0 (pv 1) T.cl_Reader T.m_Reader_step G_Reader_step (hr.mono (by omega)) T.b_Reader_step .nil pass0))
      (pss_cons (ps_expr (pe_bm PySem.F.plainAttrs_list PySem.F.slot_list_append PySem.F.type_list_append mt_append (pv 2) (pa_cons pe_str pa_nil)))
      (pss_one (ps_aug (i := 3) sc_read_events.nd rfl (by first | exact Or.inl rfl | exact Or.inr rfl) pe_int ip_sub)))) (pss_cons (ps_expr (pe_bm PySem.F.plainAttrs_list PySem.F.slot_list_append PySem.F.type_list_append mt_append (pv 2) (pa_cons (pe_meth0 (pv 1) T.cl_Reader T.m_Reader_read_name G_Reader_read_name (hr.mono (by omega)) T.b_Reader_read_name .nil (TE.passes (TE.takes_of rfl rfl rfl rfl))) pa_nil)))
      (pss_cons (ps_expr (pe_meth (pv 1) T.cl_Reader T.m_Reader_read_sign G_Reader_read_sign (hr.mono (by omega)) T.b_Reader_read_sign .nil (TE.passes (TE.takes_of rfl rfl rfl rfl)) (pa_cons pe_str pa_nil)))
      (pss_one (ps_aug (i := 3) sc_read_events.nd rfl (by first | exact Or.inl rfl | exact Or.inr rfl) pe_int ip_add))))))))
      (pss_one (ps_ret (pv 2))))))), ?_⟩
    -- reader = Reader(text, '()')
    refine ⟨_, rfl, fun R dx nR ndx hne => ⟨R, dx, z, "()", l, e, rfl, upd_same, hz, by rw [eg]; exact hlex, ?_⟩⟩
    have s0 : Same H (upd (upd H dx (.own R)) R (.ins T.C_Reader dx [])) := fun b o h => by
      rw [upd_ne (ne_of_none h nR), upd_ne (ne_of_none h ndx)]
      exact h
    cases e with
    | some k => exact Fails.on q s0
    | none =>
      intro L t0 pl0 H1 R1 nL b1
      refine ⟨rfl, ?_⟩
      have s1 : Same H H1 := fun b o h => b1 b o (ne_of_none h nR) (s0 b o h)
      -- events = []; depth = 0
      refine ⟨Nat.zero_le _, fun Y nY => ?_⟩
      obtain ⟨dx1, hp1⟩ := R1.ob
      obtain ⟨rs1, hL1, -⟩ := id R1.tl
      have nRY : R ≠ Y := ne_of_none hp1 nY
      have nLY : L ≠ Y := ne_of_none hL1 nY
      have nHY : H Y = none := by
        cases h : H Y with
        | none => rfl
        | some o =>
          rw [s1 Y o h] at nY
          cases nY
      have sizeL : ∀ {n : Nat}, n ≤ l.length → n < sizeLine := fun h => by
        have := lex_len hlex
        rw [sizeLine_eq]
        omega
      refine ⟨fun m σ H' => ∃ (k : Nat) (t : List Nat) (pl d : Nat) (ev : List (List Nat)), σ = [some (.str z), some (.ref R), some (.ref Y), some (.int (d : Nat))] ∧ RdAt T.C_Reader [] L H' R l k t pl ∧ H' Y = some (.lst (ev.map tx)) ∧ Same H H' ∧
          ev.length ≤ k ∧ k + m = l.length ∧ SS.rd l 0 false = (ev ++ (SS.rd (l.drop k) d (!(ev.map tx).isEmpty)).1, (SS.rd (l.drop k) d (!(ev.map tx).isEmpty)).2),
        ⟨l.length, 0, t0, pl0, 0, [], rfl, R1.upd (xs := []) (.inr nY) nLY nRY, upd_same, s1.trans (same_upd nY), Nat.zero_le _, by omega, rfl⟩, ?_⟩
      rintro m σ H' ⟨k, t, pl, d, ev, rfl, J, eY, sm, hev, hm, hrd⟩
      obtain ⟨dx, hp, hno⟩ := J.no
      have tk := J.tk
      have hk : k < l.length := (List.getElem?_eq_some_iff.mp tk).1
      obtain ⟨hT, hpl⟩ := toks _ (List.mem_of_getElem? tk)
      have hpl : pl + t.length ≤ 1000000 := by
        have : pl + t.length ≤ 0 + (cd z).length := hpl
        omega
      have ed : l.drop k = (t, pl) :: l.drop (k + 1) := drop_cons' tk
      rw [ed, SS.rd_eq] at hrd
      have e0 : cd ("" : Str) = [] := by decide +kernel
      -- while reader.token != ''
      refine ⟨_, rfl, R, _, _, _, _, rfl, hp, T.cl_Reader, T.n_Reader_token, fl_token, rfl, _, rfl, ?_⟩
      by_cases ht : t = []
      · refine iF (by rw [decide_eq_true (tx_str.mpr (ht.trans e0.symm))]; rfl) ?_
        rw [if_pos ht] at hrd
        rw [List.append_nil] at hrd
        have q2 : ∀ H' p, Same H H' → H p = none → H' p = some (.lst ((SS.rd l 0 false).1.map tx)) → Q (.ref p) H' := by
          have q' := q
          rw [hrd] at q'
          rw [hrd]
          exact q'
        refine ⟨_, rfl, q2 _ Y sm nHY ?_⟩
        rw [hrd]
        exact eY
      · refine iT (by rw [decide_eq_false (fun h => ht ((tx_str.mp h).trans e0))]; rfl) ?_
        rw [if_neg ht] at hrd
        obtain ⟨t', pl', tk'⟩ := lex_next hlex tk ht
        refine ⟨fun σ' H'' => ∃ (k' : Nat) (t : List Nat) (pl d : Nat) (ev : List (List Nat)), σ' = [some (.str z), some (.ref R), some (.ref Y), some (.int (d : Nat))] ∧ RdAt T.C_Reader [] L H'' R l k' t pl ∧ H'' Y = some (.lst (ev.map tx)) ∧ Same H H'' ∧
            ev.length ≤ k' ∧ k < k' ∧ SS.rd l 0 false = (ev ++ (SS.rd (l.drop k') d (!(ev.map tx).isEmpty)).1, (SS.rd (l.drop k') d (!(ev.map tx).isEmpty)).2), ?_, ?_⟩
        · rintro σ' H'' ⟨k', t, pl, d, ev, e1, J', eY', sm', hev', hkk, hrd'⟩
          have := (List.getElem?_eq_some_iff.mp J'.tk).1
          exact ⟨l.length - k', by omega, k', t, pl, d, ev, e1, J', eY', sm', hev', by omega, hrd'⟩
        have bad : ∀ (H2 : Hp), Same H H2 → (SS.rd l 0 false).2 = some (pl, false) → Fails T.C_te H2 E (saysOf t) pl := fun H2 s2 h => by
          have q' := q
          rw [h] at q'
          have e1 : saysOf t = "unexpected token" := if_neg ht
          rw [e1]
          exact Fails.on q' s2
        -- if events and depth == 0: reader.refuse()
        refine ⟨_, rfl, !(ev.map tx).isEmpty, .inl ⟨_, SqL.of eY, rfl⟩, ?_⟩
        have refuse : (!(ev.map tx).isEmpty) = true ∧ d = 0 → Fails T.C_te H' E (saysOf t) pl := fun h => by
          rw [if_pos h] at hrd
          exact bad H' sm (by rw [hrd])
        refine (fun (second : ¬ ((!(ev.map tx).isEmpty) = true ∧ d = 0) → ?X) => ?main) ?sec
        case main =>
          by_cases hb : (!(ev.map tx).isEmpty) = true
          · refine iT hb ?_
            refine ⟨_, rfl, rfl, _, rfl, ?_⟩
            by_cases hd : d = 0
            · refine iT (decide_eq_true (by rw [hd]; rfl)) ?_
              exact ⟨_, rfl, R, dx, _, rfl, hp, hno (by decide +kernel), R, [], L, l, k, t, pl, rfl, J, by omega, refuse ⟨hb, hd⟩⟩
            · refine iF (decide_eq_false fun h => hd ?_) ?_
              · have := V.int.inj h
                omega
              · exact second fun h => hd h.2
          · refine iF (by simpa using hb) ?_
            refine iteF ?_
            exact second fun h => hb h.1
        case sec =>
          intro hnot
          rw [if_neg hnot] at hrd
          have e41 : cd (")" : Str) = [41] := by decide +kernel
          have e40 : cd ("(" : Str) = [40] := by decide +kernel
          have grown : ∀ x : List Nat, (!((ev ++ [x]).map tx).isEmpty) = true := fun x => by simp
          have room : (ev.map tx).length < sizeLine := by
            rw [List.length_map]
            exact sizeL (by omega)
          have keepY : ∀ {H2 : Hp}, But R H' H2 → H2 Y = some (.lst (ev.map tx)) := fun b => b _ _ (Ne.symm nRY) eY
          have keepS : ∀ {H2 : Hp}, But R H' H2 → Same H H2 := fun b x o h => b _ _ (ne_of_none h nR) (sm x o h)
          have putS : ∀ {H2 : Hp} {o : HO}, Same H H2 → Same H (upd H2 Y o) := fun s x o h => by
            rw [upd_ne (ne_of_none h nHY)]
            exact s x o h
          refine ⟨_, rfl, R, _, _, _, _, rfl, hp, T.cl_Reader, T.n_Reader_token, fl_token, rfl, _, rfl, ?_⟩
          refine (fun (name : ¬ (t = [41] ∧ 0 < d) → ?Z) => ?main2) ?sec2
          case main2 =>
            by_cases h41 : t = [41]
            · refine iT (decide_eq_true (tx_str.mpr (h41.trans e41.symm))) ?_
              refine ⟨_, rfl, _, _, rfl, rfl, _, rfl, ?_⟩
              by_cases hd : 0 < d
              · refine iT (decide_eq_true (by omega)) ?_
                rw [if_pos ⟨h41, hd⟩] at hrd
                refine ⟨_, rfl, R, dx, _, rfl, hp, hno (by decide +kernel), R, [], L, l, k, t, pl, t', pl', rfl, J, tk', fun H2 J2 b2 => ?_⟩
                have eY2 := keepY b2
                refine ⟨_, rfl, .inl ⟨rfl, _, SqL.of eY2⟩, Y, _, _, rfl, rfl, eY2, room, ?_⟩
                refine ⟨_, rfl, _, _, rfl, rfl, k + 1, t', pl', d - 1, ev ++ [[41]], ?_, J2.upd (.inl eY2) nLY nRY, ?_, putS (keepS b2), by simp; omega, by omega, ?_⟩
                · show [some (V.str z), some (V.ref R), some (V.ref Y), some (V.int ((d : Int) - 1))] = _
                  rw [show ((d : Int) - 1) = ((d - 1 : Nat) : Int) by omega]
                · have e2 : (V.str ")") = tx [41] := (tx_str.mpr e41.symm).symm
                  rw [upd_same, map_more, e2]
                · rw [grown, hrd, List.append_assoc]
                  rfl
              · refine iF (decide_eq_false (by omega)) ?_
                exact name fun h => hd h.2
            · refine iF (decide_eq_false fun h => h41 ((tx_str.mp h).trans e41)) ?_
              refine iteF ?_
              exact name fun h => h41 h.1
          case sec2 =>
            intro hn2
            rw [if_neg hn2] at hrd
            refine ⟨_, rfl, .inl ⟨rfl, _, SqL.of eY⟩, _, rfl, R, dx, _, rfl, hp, hno (by decide +kernel), R, [], L, l, k, t, pl, rfl, J, by omega, by omega, hT, fun hok => ?_, fun hok => ?_⟩
            · rw [if_pos hok] at hrd
              refine ⟨t', pl', tk', fun H2 J2 b2 => ?_⟩
              have eY2 := keepY b2
              refine ⟨Y, _, _, rfl, rfl, eY2, room, ?_⟩
              have J3 := J2.upd (ys := (ev ++ [t]).map tx) (.inl eY2) nLY nRY
              rw [map_more] at J3
              obtain ⟨dx3, hp3, hno3⟩ := J3.no
              have ed2 : l.drop (k + 1) = (t', pl') :: l.drop (k + 1 + 1) := drop_cons' tk'
              rw [ed2] at hrd
              have s3 := putS (o := .lst (ev.map tx ++ [tx t])) (keepS b2)
              refine ⟨_, rfl, R, dx3, _, rfl, hp3, hno3 (by decide +kernel), R, "(", [], L, l, k + 1, t', pl', rfl, J3, ?_, fun h4 => ?_, fun h4 => ?_⟩
              · have := (toks _ (List.mem_of_getElem? tk')).2
                have : pl' + t'.length ≤ 0 + (cd z).length := this
                omega
              · rw [e40] at h4
                obtain ⟨t2, pl2, tk2⟩ := lex_next hlex tk' (by rw [h4]; exact List.cons_ne_nil _ _)
                refine ⟨t2, pl2, tk2, fun H4 J4 b4 => ?_⟩
                dsimp only at hrd
                rw [if_pos h4] at hrd
                refine ⟨_, rfl, _, _, rfl, rfl, k + 1 + 1, t2, pl2, d + 1, ev ++ [t], rfl, J4, ?_, fun x o h => b4 _ _ (ne_of_none h nR) (s3 x o h), by simp; omega, by omega, ?_⟩
                · rw [map_more]
                  exact b4 _ _ (Ne.symm nRY) upd_same
                · rw [grown, hrd, List.append_assoc]
                  rfl
              · dsimp only at hrd
                rw [e40] at h4
                rw [if_neg h4] at hrd
                have q' := q
                rw [hrd] at q'
                have e1 : saysB (decide (t' = [])) = saysOf t' := by
                  unfold saysB saysOf
                  by_cases h5 : t' = []
                  · rw [if_pos h5, decide_eq_true h5]
                    rfl
                  · rw [if_neg h5, decide_eq_false h5]
                    rfl
                rw [← e1]
                exact Fails.on q' s3
            · rw [if_neg (by rw [hok]; exact Bool.false_ne_true)] at hrd
              exact bad H' sm (by rw [hrd])
end
end K41
namespace K41
open PySem PySem.Spec PyProof.Rows L2 SX
/-! ### the law's draws: any number below the bound may come -/
structure DrawAt (H : Hp) (d sc : Addr) : Prop where
  ex : ∃ (ns : List Int) (i : Nat) (b s : Int), H d = some (.lst [.ref sc, .int (i : Nat), .int b, .int s]) ∧ H sc = some (.lst (ns.map V.int)) ∧ sc ≠ d ∧ ns.length ≤ 63 ∧ 0 ≤ b ∧ 0 ≤ s ∧ s < 2147483648
def spDraw (K : PySem.W.Frag) : Sp := fun vs H Q _ => ∃ (a : Addr) (ns : List Int), vs = [.ref a] ∧ SqL K H a (ns.map V.int) ∧ ns.length ≤ 63 ∧ ∀ H' d sc, Same H H' → H d = none → H sc = none → DrawAt H' d sc → Q (.ref d) H'
def spNext : Sp := fun vs H Q _ => ∃ (d sc : Addr) (many : Nat), vs = [.ref d, .int (many : Nat)] ∧ DrawAt H d sc ∧ 0 < many ∧ many ≤ 1000000 ∧ ∀ (r : Nat) H', r < many → DrawAt H' d sc → But d H H' → Q (.int (r : Nat)) H'
section
variable {P : Program} {w : World} {K : PySem.W.Frag} {mg : Str → Option Value} {base : Heap}
theorem ok_draw (T : Txt P K mg) : FnOk P w K mg base CX0 1 T.a_law_draw T.fd_law_draw ["script"] (spDraw K) := by
  refine T.F_law_draw.ok sc_law_draw (fun vs H Q E h => ?_) (fun cdv A outer s H vs Q E hr h => ?_)
  · obtain ⟨_, _, rfl, _⟩ := h
    rfl
  · obtain ⟨a, ns, rfl, hS, hn, q⟩ := h
    refine ⟨_, (pss_one (ps_ret (pe_lst (pa_cons (pe_callTy call_list_of (by rfl) T.n_list (by decide +kernel) (pa_cons (pv 0) pa_nil)) (pa_cons pe_int (pa_cons pe_int (pa_cons pe_int pa_nil))))))), ?_⟩
    refine ⟨_, rfl, a, _, rfl, .inl hS, fun sc nsc => ⟨small (show 4 ≤ 1100000 by decide), fun d nd => ?_⟩⟩
    have ne : sc ≠ d := ne_of_none upd_same nd
    have s1 : Same H (upd H sc (.lst (ns.map V.int))) := same_upd nsc
    have nHd : H d = none := by
      rw [upd_ne ne.symm] at nd
      exact nd
    refine q _ d sc (s1.trans (same_upd nd)) nHd nsc ⟨ns, 0, 0, 17, upd_same, (upd_ne ne).trans upd_same, ne, hn, by decide, by decide, by decide⟩
theorem mod_nat {x : Int} {m : Nat} (h : 0 < m) : ∃ r : Nat, r < m ∧ x.fmod (m : Int) = (r : Nat) := by
  have h1 : 0 ≤ x.fmod (m : Int) := Int.fmod_nonneg_of_pos x (by omega)
  have h2 : x.fmod (m : Int) < m := Int.fmod_lt_of_pos x (by omega)
  exact ⟨(x.fmod m).toNat, by omega, by omega⟩
theorem div_nn {x : Int} {m : Nat} (h : 0 < m) (hx : 0 ≤ x) : 0 ≤ x.fdiv (m : Int) := Int.fdiv_nonneg hx (by omega)
theorem at4 {α : Type} (a b c d : α) : atI [a, b, c, d] 0 = some a ∧ atI [a, b, c, d] 1 = some b ∧ atI [a, b, c, d] 2 = some c ∧ atI [a, b, c, d] 3 = some d := ⟨rfl, rfl, rfl, rfl⟩
theorem ok_next (T : Txt P K mg) : FnOk P w K mg base CX0 1 T.a_law_next T.fd_law_next ["draw", "many"] spNext := by
  refine T.F_law_next.ok sc_law_next (fun vs H Q E h => ?_) (fun cdv A outer s H vs Q E hr h => ?_)
  · obtain ⟨_, _, _, rfl, _⟩ := h
    rfl
  · obtain ⟨d, sc, m, rfl, ⟨ns, i, b, sd, hd, hsc, nsd, hn, hb, hs0, hs1⟩, hm0, hm1, q⟩ := h
    refine ⟨_, (pss_cons (ps_if (pt_cmpR op_gt (pe_ix ix_list (pv 0) pe_int (fun _ _ => rfl)) pe_int (nomark _)) (pss_cons (ps_set (i := 2) sc_law_next.nd rfl (by first | exact Or.inl rfl | exact Or.inr rfl) (pe_op op_modN (pe_callTy call_int1 (by rfl) T.n_int (by decide +kernel) (pa_cons (pe_ix ix_list (pv 0) pe_int (fun _ _ => rfl)) pa_nil)) (pv 1)))
      (pss_cons (ps_asg (pe_op op_fdivN (pe_ix ix_list (pv 0) pe_int (fun _ _ => rfl)) (pv 1)) (pg_sub (pv 0) pe_int set_list))
      (pss_one (ps_ret (pv 2))))) pss_nil)
      (pss_cons (ps_if (pt_cmpR op_lt (pe_ix ix_list (pv 0) pe_int (fun _ _ => rfl)) (pe_callB call_len (by rfl) T.n_len boot_len (pa_cons (pe_ix ix_list (pv 0) pe_int (fun _ _ => rfl)) pa_nil)) (nomark _)) (pss_cons (ps_set (i := 3) sc_law_next.nd rfl (by first | exact Or.inl rfl | exact Or.inr rfl) (pe_callB call_abs (by rfl) T.n_abs (by decide +kernel) (pa_cons (pe_ix ix_seq (pe_ix ix_list (pv 0) pe_int (fun _ _ => rfl)) (pe_ix ix_list (pv 0) pe_int (fun _ _ => rfl)) (fun _ _ => rfl)) pa_nil)))
      (pss_cons (ps_asg (pe_op op_add (pe_ix ix_list (pv 0) pe_int (fun _ _ => rfl)) pe_int) (pg_sub (pv 0) pe_int set_list))
      (pss_cons (ps_if (pt_cmpR op_ge (pv 3) (pe_op op_pow pe_int pe_int) (nomark _)) (pss_cons (ps_asg (pe_op op_fdivN (pv 3) (pv 1)) (pg_sub (pv 0) pe_int set_list))
      (pss_one (ps_ret (pe_op op_modN (pe_callTy call_int1 (by rfl) T.n_int (by decide +kernel) (pa_cons (pv 3) pa_nil)) (pv 1))))) pss_nil)
      (pss_one (ps_asg (pe_op op_modN (pe_callTy call_int1 (by rfl) T.n_int (by decide +kernel) (pa_cons (pe_op op_add (pe_op op_add (pe_op op_mul (pe_ix ix_list (pv 0) pe_int (fun _ _ => rfl)) pe_int) (pv 3)) pe_int) pa_nil)) pe_int) (pg_sub (pv 0) pe_int set_list)))))) (pss_one (ps_asg (pe_op op_modN (pe_callTy call_int1 (by rfl) T.n_int (by decide +kernel) (pa_cons (pe_op op_add (pe_op op_mul (pe_ix ix_list (pv 0) pe_int (fun _ _ => rfl)) pe_int) pe_int) pa_nil)) pe_int) (pg_sub (pv 0) pe_int set_list))))
      (pss_one (ps_ret (pe_op op_modN (pe_op op_fdivN (pe_callTy call_int1 (by rfl) T.n_int (by decide +kernel) (pa_cons (pe_op op_modN (pe_op op_mul (pe_ix ix_list (pv 0) pe_int (fun _ _ => rfl)) pe_int) pe_int) pa_nil)) pe_int) (pv 1)))))), ?_⟩
    have j0 : (m : Int) ≠ 0 := by omega
    have jd : (m : Int) ≠ 0 ∧ (m : Int).natAbs < 1073741824 := ⟨j0, by omega⟩
    -- if draw[2] > 0
    refine ⟨_, rfl, d, _, _, _, rfl, rfl, SqL.of hd, rfl, _, _, rfl, rfl, _, rfl, ?_⟩
    by_cases hb0 : 0 < b
    · refine iT (decide_eq_true hb0) ?_
      refine ⟨_, rfl, d, _, _, _, rfl, rfl, SqL.of hd, rfl, .inl ⟨_, rfl, _, rfl, _, _, rfl, rfl, j0, ?_⟩⟩
      refine ⟨_, rfl, d, _, _, _, rfl, rfl, SqL.of hd, rfl, _, rfl, _, _, rfl, rfl, jd, _, rfl, d, _, _, 2, rfl, rfl, hd, rfl, ?_⟩
      obtain ⟨r, hr1, er⟩ := mod_nat (x := b) hm0
      have qq := q r (upd H d (.lst [.ref sc, .int (i : Nat), .int (b.fmod (m : Int) * 0 + b.fdiv (m : Int)), .int sd])) hr1 ⟨ns, i, _, sd, upd_same, (upd_ne nsd).trans hsc, nsd, hn, by rw [Int.mul_zero, Int.zero_add]; exact div_nn hm0 hb, hs0, hs1⟩ fun x o hx h => (upd_ne hx).trans h
      rw [← er, Int.mul_zero, Int.zero_add] at qq
      exact ⟨_, rfl, qq⟩
    · refine iF (decide_eq_false hb0) ?_
      -- if draw[1] < len(draw[0])
      refine ⟨_, rfl, d, _, _, _, rfl, rfl, SqL.of hd, rfl, _, rfl, d, _, _, _, rfl, rfl, SqL.of hd, rfl, _, _, rfl, .inl ⟨_, SqL.of hsc, rfl⟩, _, _, rfl, rfl, _, rfl, ?_⟩
      have last : ∀ {s' : Int}, 0 ≤ s' → s' < 2147483648 → ∃ r : Nat, r < m ∧ (((s' * 69621).fmod 2147483629).fdiv 7).fmod (m : Int) = (r : Nat) := fun _ _ => mod_nat hm0
      have big : ∀ x : Int, 0 ≤ x.fmod 2147483647 ∧ x.fmod 2147483647 < 2147483648 := fun x => by
        have h1 := Int.fmod_nonneg_of_pos x (show (0 : Int) < 2147483647 by decide)
        have h2 := Int.fmod_lt_of_pos x (show (0 : Int) < 2147483647 by decide)
        omega
      have fits : ∀ {s' : Int}, 0 ≤ s' → s' < 2147483648 → -(2 ^ 64) < s' ∧ s' < 2 ^ 64 := fun h1 h2 => by
        constructor <;> omega
      by_cases hi : i < ns.length
      · refine iT (decide_eq_true (by rw [List.length_map]; omega)) ?_
        have ga : (ns.map V.int)[i]? = some (.int ns[i]) := by
          rw [List.getElem?_map, List.getElem?_eq_getElem hi]
          rfl
        -- cell = abs(draw[0][draw[1]])
        refine ⟨_, rfl, d, _, _, _, rfl, rfl, SqL.of hd, rfl, _, rfl, d, _, _, _, rfl, rfl, SqL.of hd, rfl, .inl ⟨sc, _, _, _, rfl, rfl, SqL.of hsc, atI_nat ga, _, rfl, ?_⟩⟩
        have hc0 : 0 ≤ (if ns[i] < 0 then -ns[i] else ns[i]) := by split <;> omega
        generalize (if ns[i] < 0 then -ns[i] else ns[i]) = c at hc0
        -- draw[1] = draw[1] + 1
        refine ⟨_, rfl, d, _, _, _, rfl, rfl, SqL.of hd, rfl, _, _, rfl, rfl, _, rfl, d, _, _, 1, rfl, rfl, hd, rfl, ?_⟩
        have sc1 : ∀ {o : HO}, upd H d o sc = some (.lst (ns.map V.int)) := fun {o} => (upd_ne nsd).trans hsc
        have e1 : ∀ {o : HO}, upd H d o d = some o := fun {o} => upd_same
        -- if cell >= 10 ** 18
        refine ⟨_, rfl, _, _, rfl, rfl, ⟨by decide, by decide, by decide⟩, _, _, rfl, rfl, _, rfl, ?_⟩
        refine ite2 (fun _ => ?_) (fun _ => ?_)
        · refine ⟨_, rfl, _, rfl, _, _, rfl, rfl, jd, _, rfl, d, _, _, 2, rfl, rfl, e1, rfl, ?_⟩
          obtain ⟨r, hr1, er⟩ := mod_nat (x := c) hm0
          have qq := q r (upd (upd H d (.lst [.ref sc, .int ((i : Int) + 1), .int b, .int sd])) d (.lst [.ref sc, .int ((i : Int) + 1), .int (c.fdiv (m : Int)), .int sd])) hr1 ⟨ns, i + 1, _, sd, upd_same, (upd_ne nsd).trans sc1, nsd, hn, div_nn hm0 hc0, hs0, hs1⟩
            fun x o hx h => (upd_ne hx).trans ((upd_ne hx).trans h)
          rw [← er] at qq
          exact ⟨_, rfl, .inl ⟨_, rfl, _, rfl, _, _, rfl, rfl, j0, qq⟩⟩
        · refine ⟨_, rfl, d, _, _, _, rfl, rfl, SqL.of e1, rfl, _, _, rfl, rfl, .inl (fits hs0 hs1), _, rfl, _, _, rfl, rfl, _, _, rfl, rfl, .inl ⟨_, rfl, _, _, rfl, rfl, (show (2147483647 : Int) ≠ 0 by decide), _, rfl, d, _, _, 3, rfl, rfl, e1, rfl, ?_⟩⟩
          obtain ⟨b1, b2⟩ := big (sd * 48271 + c + 11)
          obtain ⟨r, hr1, er⟩ := last b1 b2
          have qq := q r (upd (upd H d (.lst [.ref sc, .int ((i : Int) + 1), .int b, .int sd])) d (.lst [.ref sc, .int ((i : Int) + 1), .int b, .int ((sd * 48271 + c + 11).fmod 2147483647)])) hr1 ⟨ns, i + 1, _, _, upd_same, (upd_ne nsd).trans sc1, nsd, hn, hb, b1, b2⟩
            fun x o hx h => (upd_ne hx).trans ((upd_ne hx).trans h)
          rw [← er] at qq
          exact ⟨_, rfl, d, _, _, _, rfl, rfl, SqL.of upd_same, rfl, _, _, rfl, rfl, .inl (fits b1 b2), _, _, rfl, rfl, (show (2147483629 : Int) ≠ 0 by decide), .inl ⟨_, rfl, _, _, rfl, rfl, (show (7 : Int) ≠ 0 ∧ (7 : Int).natAbs < 1073741824 from ⟨by decide, by decide⟩), _, rfl, _, _, rfl, rfl, j0, qq⟩⟩
      · refine iF (decide_eq_false (by rw [List.length_map]; omega)) ?_
        have e1 : ∀ {o : HO}, upd H d o d = some o := fun {o} => upd_same
        refine ⟨_, rfl, d, _, _, _, rfl, rfl, SqL.of hd, rfl, _, _, rfl, rfl, .inl (fits hs0 hs1), _, _, rfl, rfl, .inl ⟨_, rfl, _, _, rfl, rfl, (show (2147483647 : Int) ≠ 0 by decide), _, rfl, d, _, _, 3, rfl, rfl, hd, rfl, ?_⟩⟩
        obtain ⟨b1, b2⟩ := big (sd * 48271 + 12345)
        obtain ⟨r, hr1, er⟩ := last b1 b2
        have qq := q r (upd H d (.lst [.ref sc, .int (i : Nat), .int b, .int ((sd * 48271 + 12345).fmod 2147483647)])) hr1 ⟨ns, i, _, _, upd_same, (upd_ne nsd).trans hsc, nsd, hn, hb, b1, b2⟩ fun x o hx h => (upd_ne hx).trans h
        rw [← er] at qq
        exact ⟨_, rfl, d, _, _, _, rfl, rfl, SqL.of upd_same, rfl, _, _, rfl, rfl, .inl (fits b1 b2), _, _, rfl, rfl, (show (2147483629 : Int) ≠ 0 by decide), .inl ⟨_, rfl, _, _, rfl, rfl, (show (7 : Int) ≠ 0 ∧ (7 : Int).natAbs < 1073741824 from ⟨by decide, by decide⟩), _, rfl, _, _, rfl, rfl, j0, qq⟩⟩
end
end K41
namespace K41
open PySem PySem.Spec PyProof.Rows L2 SX
/-! ### _law_same: the same data at both is told the same -/
/-- x holds the data D, at most n - 1 sequences deep -/
inductive Da (H : Hp) : Nat → V → PyData → Prop
  | non {n : Nat} : Da H (n + 1) .non .none
  | bl {n : Nat} (b : Bool) : Da H (n + 1) (.bl b) (.bool b)
  | int {n : Nat} (i : Int) : Da H (n + 1) (.int i) (.int i)
  | str {n : Nat} (x : Str) : Da H (n + 1) (.str x) (.str x)
  | lst {n : Nat} {a : Addr} {xs : List V} {ds : List PyData} (e : H a = some (.lst xs)) (hl : xs.length = ds.length) (hz : xs.length ≤ 1000000) (h : ∀ (i : Nat) (v : V) (d : PyData), xs[i]? = some v → ds[i]? = some d → Da H n v d) : Da H (n + 1) (.ref a) (.list ds)
  | tup {n : Nat} {a : Addr} {xs : List V} {ds : List PyData} (e : H a = some (.tup xs)) (hl : xs.length = ds.length) (hz : xs.length ≤ 1000000) (h : ∀ (i : Nat) (v : V) (d : PyData), xs[i]? = some v → ds[i]? = some d → Da H n v d) : Da H (n + 1) (.ref a) (.tuple ds)
theorem Da.same {H H' : Hp} (s : Same H H') : ∀ {n : Nat} {x : V} {D : PyData}, Da H n x D → Da H' n x D := by
  intro n x D h
  induction h with
  | non => exact .non
  | bl b => exact .bl b
  | int i => exact .int i
  | str x => exact .str x
  | lst e hl hz _ ih => exact .lst (s _ _ e) hl hz fun i v d h1 h2 => ih i v d h1 h2
  | tup e hl hz _ ih => exact .tup (s _ _ e) hl hz fun i v d h1 h2 => ih i v d h1 h2
def tyName : PyData → String
  | .none => "NoneType"
  | .bool _ => "bool"
  | .int _ => "int"
  | .str _ => "str"
  | .list _ => "list"
  | .tuple _ => "tuple"
  | .dict _ => "dict"
theorem Da.tyx {K : PySem.W.Frag} {H : Hp} {n : Nat} {x : V} {D : PyData} (h : Da H n x D) : TyX K H x (.type (tyName D)) := by
  cases h with
  | non => exact .base .non
  | bl b => exact .base (.bl b)
  | int i => exact .base (.int i)
  | str x => exact .base (.str x)
  | lst e => exact .base (.lst e)
  | tup e => exact .base (.tup e)
def isLst : PyData → Bool | .list _ => true | _ => false
def isTup : PyData → Bool | .tuple _ => true | _ => false
def isBool : PyData → Bool | .bool _ => true | _ => false
def isStr : PyData → Bool | .str _ => true | _ => false
def isInt : PyData → Bool | .int _ => true | .bool _ => true | _ => false
section
variable {K : PySem.W.Frag} (D : PyData)
theorem kit_l : PySem.W.kitOne K (.type (tyName D)) (.type "list") = some (isLst D) := by
  cases D with
  | none => exact kit_ty (show kitB "NoneType" "list" = some false by decide +kernel)
  | bool _ => exact kit_ty (show kitB "bool" "list" = some false by decide +kernel)
  | int _ => exact kit_ty (show kitB "int" "list" = some false by decide +kernel)
  | str _ => exact kit_ty (show kitB "str" "list" = some false by decide +kernel)
  | list _ => exact kit_ty (show kitB "list" "list" = some true by decide +kernel)
  | tuple _ => exact kit_ty (show kitB "tuple" "list" = some false by decide +kernel)
  | dict _ => exact kit_ty (show kitB "dict" "list" = some false by decide +kernel)
theorem kit_t : PySem.W.kitOne K (.type (tyName D)) (.type "tuple") = some (isTup D) := by
  cases D with
  | none => exact kit_ty (show kitB "NoneType" "tuple" = some false by decide +kernel)
  | bool _ => exact kit_ty (show kitB "bool" "tuple" = some false by decide +kernel)
  | int _ => exact kit_ty (show kitB "int" "tuple" = some false by decide +kernel)
  | str _ => exact kit_ty (show kitB "str" "tuple" = some false by decide +kernel)
  | list _ => exact kit_ty (show kitB "list" "tuple" = some false by decide +kernel)
  | tuple _ => exact kit_ty (show kitB "tuple" "tuple" = some true by decide +kernel)
  | dict _ => exact kit_ty (show kitB "dict" "tuple" = some false by decide +kernel)
theorem kit_b : PySem.W.kitOne K (.type (tyName D)) (.type "bool") = some (isBool D) := by
  cases D with
  | none => exact kit_ty (show kitB "NoneType" "bool" = some false by decide +kernel)
  | bool _ => exact kit_ty (show kitB "bool" "bool" = some true by decide +kernel)
  | int _ => exact kit_ty (show kitB "int" "bool" = some false by decide +kernel)
  | str _ => exact kit_ty (show kitB "str" "bool" = some false by decide +kernel)
  | list _ => exact kit_ty (show kitB "list" "bool" = some false by decide +kernel)
  | tuple _ => exact kit_ty (show kitB "tuple" "bool" = some false by decide +kernel)
  | dict _ => exact kit_ty (show kitB "dict" "bool" = some false by decide +kernel)
theorem kit_s : PySem.W.kitOne K (.type (tyName D)) (.type "str") = some (isStr D) := by
  cases D with
  | none => exact kit_ty (show kitB "NoneType" "str" = some false by decide +kernel)
  | bool _ => exact kit_ty (show kitB "bool" "str" = some false by decide +kernel)
  | int _ => exact kit_ty (show kitB "int" "str" = some false by decide +kernel)
  | str _ => exact kit_ty (show kitB "str" "str" = some true by decide +kernel)
  | list _ => exact kit_ty (show kitB "list" "str" = some false by decide +kernel)
  | tuple _ => exact kit_ty (show kitB "tuple" "str" = some false by decide +kernel)
  | dict _ => exact kit_ty (show kitB "dict" "str" = some false by decide +kernel)
theorem kit_i : PySem.W.kitOne K (.type (tyName D)) (.type "int") = some (isInt D) := by
  cases D with
  | none => exact kit_ty (show kitB "NoneType" "int" = some false by decide +kernel)
  | bool _ => exact kit_ty (show kitB "bool" "int" = some true by decide +kernel)
  | int _ => exact kit_ty (show kitB "int" "int" = some true by decide +kernel)
  | str _ => exact kit_ty (show kitB "str" "int" = some false by decide +kernel)
  | list _ => exact kit_ty (show kitB "list" "int" = some false by decide +kernel)
  | tuple _ => exact kit_ty (show kitB "tuple" "int" = some false by decide +kernel)
  | dict _ => exact kit_ty (show kitB "dict" "int" = some false by decide +kernel)
theorem kit_lt : PySem.W.kitAny K (.type (tyName D)) [.type "list", .type "tuple"] = some (isLst D || isTup D) := by
  have h1 := kit_l (K := K) D
  have h2 := kit_t (K := K) D
  unfold PySem.W.kitAny
  rw [h1]
  cases isLst D with
  | true => rfl
  | false =>
    unfold PySem.W.kitAny
    dsimp only
    rw [h2]
    cases isTup D <;> rfl
end
def spSame (n : Nat) : Sp := fun vs H Q _ => ∃ (x y : V) (D : PyData), vs = [x, y] ∧ Da H n x D ∧ Da H n y D ∧ ∀ H', Same H H' → Q (.bl true) H'
section
variable {P : Program} {w : World} {K : PySem.W.Frag} {mg : Str → Option Value} {base : Heap}
theorem ok_same (T : Txt P K mg) : ∀ n : Nat, FnOk P w K mg base CX0 (n + 1) T.a_law_same T.fd_law_same ["actual", "due"] (spSame n) := by
  intro n
  induction n with
  | zero =>
    refine ⟨fun vs H Q E h => ?_, fun A outer s H args us vs Q E hr e0 hb r h => ?_⟩
    all_goals
      obtain ⟨x, y, D, _, h, _⟩ := h
      cases h
  | succ n ih =>
    have G_law_same : FnOk P w K mg base CX0 (n + 1) T.a_law_same T.fd_law_same ["actual", "due"] (spSame n) := ih
    refine T.F_law_same.ok sc_law_same (fun vs H Q E h => ?_) (fun cdv A outer s H vs Q E hr h => ?_)
    · obtain ⟨_, _, _, rfl, _⟩ := h
      rfl
    · obtain ⟨x, y, D, rfl, hx, hy, q⟩ := h
      refine ⟨_, (pss_cons (ps_if (pt_val (pe_callB call_isiT (by rfl) T.n_isinstance (by decide +kernel) (pa_cons (pv 1) (pa_cons (pe_tup (pa_cons (pe_bltn (v := .ty "list") (by rfl) T.n_list (by decide +kernel) rfl) (pa_cons (pe_bltn (v := .ty "tuple") (by rfl) T.n_tuple (by decide +kernel) rfl) pa_nil))) pa_nil)))) (pss_cons (ps_if (PW.pt (pw_or (pt_cmpR op_ne (pe_callB call_isi (by rfl) T.n_isinstance (by decide +kernel) (pa_cons (pv 1) (pa_cons (pe_bltn (v := .ty "list") (by rfl) T.n_list (by decide +kernel) rfl) pa_nil))) (pe_callB call_isi (by rfl) T.n_isinstance (by decide +kernel) (pa_cons (pv 0) (pa_cons (pe_bltn (v := .ty "list") (by rfl) T.n_list (by decide +kernel) rfl) pa_nil))) (nomark _)) (pw_or1 (pt_cmpR op_ne (pe_callB call_isi (by rfl) T.n_isinstance (by decide +kernel) (pa_cons (pv 1) (pa_cons (pe_bltn (v := .ty "tuple") (by rfl) T.n_tuple (by decide +kernel) rfl) pa_nil))) (pe_callB call_isi (by rfl) T.n_isinstance (by decide +kernel) (pa_cons (pv 0) (pa_cons (pe_bltn (v := .ty "tuple") (by rfl) T.n_tuple (by decide +kernel) rfl) pa_nil))) (nomark _))))) (pss_one (ps_ret pe_bl)) pss_nil)
      (pss_cons (ps_if (pt_cmpR op_ne (pe_callB call_len (by rfl) T.n_len boot_len (pa_cons (pv 0) pa_nil)) (pe_callB call_len (by rfl) T.n_len boot_len (pa_cons (pv 1) pa_nil)) (nomark _)) (pss_one (ps_ret pe_bl)) pss_nil)
      (pss_one (ps_ret (pe_callB (cr_all rfl) (by rfl) T.n_all (by decide +kernel) (pa_cons (pe_lc (own := [("k", 2)]) (g := gName 2) (by rfl) sc_law_same.nd (pi_range1 (by rfl) T.n_range (pa_cons (pe_callB call_len (by rfl) T.n_len boot_len (pa_cons (pv 1) pa_nil)) pa_nil)) (blkOk_by (own := [("k", 2)]) (N := ["actual", "due", "k"]) (sc := defScope s_law_same) (by decide +kernel)) (fun _ _ _ _ _ => pg_name (i := 2) sc_law_same.nd rfl (Or.inl rfl)) (fun _ _ _ _ _ => pts_nil) (fun _ _ _ _ _ => (pe_call G_law_same (hr.mono (by omega)) (by rfl) T.g_law_same T.F_law_same.kp T.b_law_same .nil pass0 (pa_cons (pe_ix (show IxR _ (rIx K) from ix_seq) (pv 0) (pv 2) (fun _ _ => rfl)) (pa_cons (pe_ix (show IxR _ (rIx K) from ix_seq) (pv 1) (pv 2) (fun _ _ => rfl)) pa_nil))))) pa_nil)))))) pss_nil)
      (pss_cons (ps_if (pt_cmpR op_isN (pv 1) pe_non (nomark _)) (pss_one (ps_ret (pe_cmpR op_isN (pv 0) pe_non (nomark _)))) pss_nil)
      (pss_cons (ps_if (pt_cmpR op_ne (pe_callB call_isi (by rfl) T.n_isinstance (by decide +kernel) (pa_cons (pv 1) (pa_cons (pe_bltn (v := .ty "bool") (by rfl) T.n_bool (by decide +kernel) rfl) pa_nil))) (pe_callB call_isi (by rfl) T.n_isinstance (by decide +kernel) (pa_cons (pv 0) (pa_cons (pe_bltn (v := .ty "bool") (by rfl) T.n_bool (by decide +kernel) rfl) pa_nil))) (nomark _)) (pss_one (ps_ret pe_bl)) pss_nil)
      (pss_cons (ps_if (pt_val (pe_callB call_isi (by rfl) T.n_isinstance (by decide +kernel) (pa_cons (pv 1) (pa_cons (pe_bltn (v := .ty "str") (by rfl) T.n_str (by decide +kernel) rfl) pa_nil)))) (pss_one (ps_ret (pe_and (pe_callB call_isi (by rfl) T.n_isinstance (by decide +kernel) (pa_cons (pv 0) (pa_cons (pe_bltn (v := .ty "str") (by rfl) T.n_str (by decide +kernel) rfl) pa_nil))) (pe_one (pe_cmpR op_eq (pv 0) (pv 1) (nomark _)))))) pss_nil)
      (pss_one (ps_ret (pe_and (pe_callB call_isi (by rfl) T.n_isinstance (by decide +kernel) (pa_cons (pv 0) (pa_cons (pe_bltn (v := .ty "int") (by rfl) T.n_int (by decide +kernel) rfl) pa_nil))) (pe_one (pe_cmpR op_eq (pv 0) (pv 1) (nomark _)))))))))), ?_⟩
      have two : ([V.ty "list", V.ty "tuple"] : List V).length ≤ sizeLine := small (show 2 ≤ 1100000 by decide)
      -- isinstance(due, (list, tuple))
      refine ⟨_, rfl, two, fun tp ntp => ?_⟩
      have s1 : Same H (upd H tp (.tup [V.ty "list", V.ty "tuple"])) := same_upd ntp
      have hx1 := hx.same s1
      have hy1 := hy.same s1
      refine ⟨y, tp, _, _, _, _, rfl, upd_same, .cons (.ty _) (.cons (.ty _) .nil), hy1.tyx, kit_lt D, _, rfl, ?_⟩
      have eqq : ∀ b : Bool, decide (V.bl b = V.bl b) = true := fun b => decide_eq_true rfl
      by_cases hD : (isLst D || isTup D) = true
      · refine iT hD ?_
        refine ⟨_, rfl, _, _, _, _, _, rfl, .ty _, hy1.tyx, kit_l _, _, rfl, _, _, _, _, _, rfl, .ty _, hx1.tyx, kit_l _, rfl, _, rfl, iF (by rw [eqq]; rfl) ?_⟩
        refine ⟨_, rfl, _, _, _, _, _, rfl, .ty _, hy1.tyx, kit_t _, _, rfl, _, _, _, _, _, rfl, .ty _, hx1.tyx, kit_t _, rfl, _, rfl, iF (by rw [eqq]; rfl) ?_⟩
        obtain ⟨xs, ys, ds, lx, ly, hlx, hly, hzy, hcx, hcy⟩ : ∃ (xs ys : List V) (ds : List PyData), LenV K x (upd H tp (.tup [V.ty "list", V.ty "tuple"])) xs.length ∧ LenV K y (upd H tp (.tup [V.ty "list", V.ty "tuple"])) ys.length ∧ xs.length = ds.length ∧ ys.length = ds.length ∧ ys.length ≤ 1000000 ∧
            (∀ (H2 : Hp) (i : Nat) (v : V), Same (upd H tp (.tup [V.ty "list", V.ty "tuple"])) H2 → xs[i]? = some v → ∃ (d : PyData), ds[i]? = some d ∧ Da H2 n v d ∧ ∀ Q : VK, Q v H2 → rIx K x (.int (i : Nat)) H2 Q) ∧
            (∀ (H2 : Hp) (i : Nat) (v : V) (d : PyData), Same (upd H tp (.tup [V.ty "list", V.ty "tuple"])) H2 → ys[i]? = some v → ds[i]? = some d → Da H2 n v d ∧ ∀ Q : VK, Q v H2 → rIx K y (.int (i : Nat)) H2 Q) := by
          cases hx1 with
          | lst ex hlx hzx hx' =>
            cases hy1 with
            | lst ey hly hzy hy' =>
              refine ⟨_, _, _, .inl ⟨_, SqL.of ex, rfl⟩, .inl ⟨_, SqL.of ey, rfl⟩, hlx, hly, hzy, fun H2 i v s2 h => ?_, fun H2 i v d s2 h hd => ?_⟩
              · have hi := (List.getElem?_eq_some_iff.mp h).1
                have gd := List.getElem?_eq_getElem (show i < _ from hlx ▸ hi)
                exact ⟨_, gd, (hx' i v _ h gd).same s2, fun Q hq => .inl ⟨_, _, _, _, rfl, rfl, SqL.of (s2 _ _ ex), atI_nat h, hq⟩⟩
              · exact ⟨(hy' i v d h hd).same s2, fun Q hq => .inl ⟨_, _, _, _, rfl, rfl, SqL.of (s2 _ _ ey), atI_nat h, hq⟩⟩
          | tup ex hlx hzx hx' =>
            cases hy1 with
            | tup ey hly hzy hy' =>
              refine ⟨_, _, _, .inr ⟨_, SqT.of ex, rfl⟩, .inr ⟨_, SqT.of ey, rfl⟩, hlx, hly, hzy, fun H2 i v s2 h => ?_, fun H2 i v d s2 h hd => ?_⟩
              · have hi := (List.getElem?_eq_some_iff.mp h).1
                have gd := List.getElem?_eq_getElem (show i < _ from hlx ▸ hi)
                exact ⟨_, gd, (hx' i v _ h gd).same s2, fun Q hq => .inr (.inl ⟨_, _, _, _, rfl, rfl, SqT.of (s2 _ _ ex), atI_nat h, hq⟩)⟩
              · exact ⟨(hy' i v d h hd).same s2, fun Q hq => .inr (.inl ⟨_, _, _, _, rfl, rfl, SqT.of (s2 _ _ ey), atI_nat h, hq⟩)⟩
          | non => exact absurd hD Bool.false_ne_true
          | bl b => exact absurd hD Bool.false_ne_true
          | int i => exact absurd hD Bool.false_ne_true
          | str z => exact absurd hD Bool.false_ne_true
        -- len(actual) != len(due)
        refine ⟨_, rfl, _, _, rfl, lx, _, rfl, _, _, rfl, ly, rfl, _, rfl, iF (by rw [decide_eq_true (by rw [hlx, hly])]; rfl) ?_⟩
        -- all([_law_same(actual[k], due[k]) for k in range(len(due))])
        refine ⟨_, rfl, _, _, rfl, ly, _, rfl, by omega, by omega, fun L nL => ?_⟩
        refine lc_range (lo := 0) (n := ys.length) (fun i H2 => Same (upd H tp (.tup [V.ty "list", V.ty "tuple"])) H2 ∧ H2 L = some (.lst ((List.replicate i true).map V.bl))) ⟨same_upd nL, upd_same⟩ ?_ ?_
        · rintro i H2 hi ⟨s2, eL⟩
          have hix : i < xs.length := by omega
          obtain ⟨d, gd, dx, rx⟩ := hcx H2 i xs[i] s2 (List.getElem?_eq_getElem hix)
          obtain ⟨dy, ry⟩ := hcy H2 i ys[i] d s2 (List.getElem?_eq_getElem hi) gd
          rw [Int.zero_add]
          refine ⟨rfl, ?_⟩
          refine ⟨_, rfl, _, rfl, rx _ ?_⟩
          refine ⟨_, rfl, _, rfl, ry _ ?_⟩
          refine ⟨_, _, d, rfl, dx, dy, fun H3 s3 => ?_⟩
          refine ⟨_, s3 _ _ eL, ?_, fun b o h => ?_, ?_⟩
          · rw [List.length_map, List.length_replicate, sizeLine_eq]
            omega
          · rw [upd_ne (ne_of_none h nL)]
            exact s3 _ _ (s2 b o h)
          · rw [upd_same, List.replicate_succ', List.map_append]
            rfl
        · rintro H2 ⟨s2, eL⟩
          refine ⟨L, List.replicate ys.length true, rfl, SqL.of eL, ?_⟩
          rw [show (List.replicate ys.length true).all id = true from by simp]
          exact q _ (s1.trans s2)
      · refine iF (by simpa using hD) ?_
        -- due is None
        refine ⟨_, rfl, rfl, _, rfl, ?_⟩
        cases hx with
        | lst => exact absurd rfl hD
        | tup => exact absurd rfl hD
        | non =>
          cases hy
          refine iT (decide_eq_true rfl) ?_
          exact ⟨_, rfl, rfl, q _ s1⟩
        | bl b =>
          cases hy
          refine iF (decide_eq_false (by intro h; cases h)) ?_
          refine ⟨_, rfl, _, _, _, _, _, rfl, .ty _, hy1.tyx, kit_b _, _, rfl, _, _, _, _, _, rfl, .ty _, hx1.tyx, kit_b _, rfl, _, rfl, iF (by rw [eqq]; rfl) ?_⟩
          refine ⟨_, rfl, _, _, _, _, _, rfl, .ty _, hy1.tyx, kit_s _, _, rfl, iF rfl ?_⟩
          refine ⟨_, rfl, _, _, _, _, _, rfl, .ty _, hx1.tyx, kit_i _, _, rfl, iT rfl ?_⟩
          refine ⟨_, rfl, _, rfl, rfl, ?_⟩
          rw [eqq]
          exact q _ s1
        | int i =>
          cases hy
          refine iF (decide_eq_false (by intro h; cases h)) ?_
          refine ⟨_, rfl, _, _, _, _, _, rfl, .ty _, hy1.tyx, kit_b _, _, rfl, _, _, _, _, _, rfl, .ty _, hx1.tyx, kit_b _, rfl, _, rfl, iF (by rw [eqq]; rfl) ?_⟩
          refine ⟨_, rfl, _, _, _, _, _, rfl, .ty _, hy1.tyx, kit_s _, _, rfl, iF rfl ?_⟩
          refine ⟨_, rfl, _, _, _, _, _, rfl, .ty _, hx1.tyx, kit_i _, _, rfl, iT rfl ?_⟩
          refine ⟨_, rfl, _, rfl, rfl, ?_⟩
          rw [show decide (V.int i = V.int i) = true from decide_eq_true rfl]
          exact q _ s1
        | str z =>
          cases hy
          refine iF (decide_eq_false (by intro h; cases h)) ?_
          refine ⟨_, rfl, _, _, _, _, _, rfl, .ty _, hy1.tyx, kit_b _, _, rfl, _, _, _, _, _, rfl, .ty _, hx1.tyx, kit_b _, rfl, _, rfl, iF (by rw [eqq]; rfl) ?_⟩
          refine ⟨_, rfl, _, _, _, _, _, rfl, .ty _, hy1.tyx, kit_s _, _, rfl, iT rfl ?_⟩
          refine ⟨_, rfl, _, _, _, _, _, rfl, .ty _, hx1.tyx, kit_s _, _, rfl, iT rfl ?_⟩
          refine ⟨_, rfl, _, rfl, rfl, ?_⟩
          rw [show decide (V.str z = V.str z) = true from decide_eq_true rfl]
          exact q _ s1
end
end K41
namespace K41
open PySem PySem.Spec PyProof.Rows L2 SX
/-! ### documents, on the page and in the heap -/
inductive Doc
  | node (nm : List Nat) (cs : List Doc)
mutual
def ev : Doc → List (List Nat)
  | .node nm cs => nm :: (evs cs ++ [[41]])
def evs : List Doc → List (List Nat)
  | [] => []
  | d :: ds => ev d ++ evs ds
end
mutual
def toD : Doc → PyData
  | .node nm cs => .tuple [.str ⟨nm.toArray⟩, .tuple (toDs cs)]
def toDs : List Doc → List PyData
  | [] => []
  | d :: ds => toD d :: toDs ds
end
theorem evs_append (a b : List Doc) : evs (a ++ b) = evs a ++ evs b := by
  induction a with
  | nil => simp [evs]
  | cons d ds ih => simp [evs, ih]
theorem toDs_map (a : List Doc) : toDs a = a.map toD := by
  induction a with
  | nil => simp [toDs]
  | cons d ds ih => simp [toDs, ih]
def nm3 : List (List Nat) := [[97], [98], [97, 98]]
/-- at most n levels, the law's names, at most three children each -/
inductive GoodD : Nat → Doc → Prop
  | mk {n : Nat} {nm : List Nat} {cs : List Doc} (h1 : nm ∈ nm3) (h2 : cs.length ≤ 3) (h3 : ∀ d ∈ cs, GoodD n d) : GoodD (n + 1) (.node nm cs)
theorem ev_len : ∀ {n : Nat} {d : Doc}, GoodD n d → (ev d).length + 1 ≤ 3 ^ n := by
  intro n
  induction n with
  | zero => intro d h; cases h
  | succ n ih =>
    intro d h
    cases h with
    | mk h1 h2 h3 =>
      rename_i nm cs
      have key : ∀ cs : List Doc, (∀ d ∈ cs, GoodD n d) → (evs cs).length + cs.length ≤ cs.length * 3 ^ n := by
        intro cs
        induction cs with
        | nil => intro _; simp [evs]
        | cons c cs k =>
          intro hc
          have a := ih (hc c List.mem_cons_self)
          have b := k fun d hd => hc d (List.mem_cons_of_mem _ hd)
          rw [evs, List.length_append, List.length_cons, Nat.add_mul, Nat.one_mul]
          omega
      have a := key cs h3
      have p : 1 ≤ 3 ^ n := Nat.pos_of_ne_zero (by simp)
      have b : cs.length * 3 ^ n ≤ 3 ^ n * 3 := by
        rw [Nat.mul_comm]
        exact Nat.mul_le_mul_left _ h2
      rw [ev, List.length_cons, List.length_append, List.length_singleton, Nat.pow_succ]
      have c : (cs.length = 0 ∨ cs.length = 1 ∨ cs.length = 2 ∨ cs.length = 3) := by omega
      rcases c with c | c | c | c <;> rw [c] at a <;> omega
theorem GoodD.up {n : Nat} {d : Doc} (h : GoodD n d) : GoodD (n + 1) d := by
  induction h with
  | mk h1 h2 _ ih => exact .mk h1 h2 ih
/-- v holds the document d -/
inductive DocAt (H : Hp) : Nat → V → Doc → Prop
  | mk {n : Nat} {a c : Addr} {nm : List Nat} {vs : List V} {cs : List Doc} (e1 : H a = some (.tup [tx nm, .ref c])) (e2 : H c = some (.tup vs)) (hl : vs.length = cs.length) (h1 : nm ∈ nm3) (h2 : cs.length ≤ 3)
      (h : ∀ (i : Nat) (v : V) (d : Doc), vs[i]? = some v → cs[i]? = some d → DocAt H n v d) : DocAt H (n + 1) (.ref a) (.node nm cs)
theorem DocAt.good {H : Hp} {n : Nat} {v : V} {d : Doc} (h : DocAt H n v d) : GoodD n d := by
  induction h with
  | mk e1 e2 hl h1 h2 h ih =>
    rename_i n a c nm vs cs
    refine .mk h1 h2 fun d hd => ?_
    obtain ⟨i, hi⟩ := List.mem_iff_getElem?.mp hd
    have hlt : i < vs.length := by
      rw [hl]
      exact (List.getElem?_eq_some_iff.mp hi).1
    exact ih i _ d (List.getElem?_eq_getElem hlt) hi
/-- each tuple stays -/
def KT (H H' : Hp) : Prop := ∀ p xs, H p = some (.tup xs) → H' p = some (.tup xs)
theorem KT.refl {H : Hp} : KT H H := fun _ _ h => h
theorem KT.trans {H H1 H2 : Hp} (a : KT H H1) (b : KT H1 H2) : KT H H2 := fun p xs h => b p xs (a p xs h)
theorem KT.same {H H' : Hp} (s : Same H H') : KT H H' := fun p xs h => s _ _ h
theorem KT.none {H : Hp} {p : Addr} {o : HO} (h : H p = none) : KT H (upd H p o) := KT.same (same_upd h)
theorem KT.lst {H : Hp} {p : Addr} {o : HO} {xs : List V} (h : H p = some (.lst xs)) : KT H (upd H p o) := fun q ys e => by
  rw [upd_ne (fun z => by rw [z, h] at e; cases e)]
  exact e
theorem KT.but {H H' : Hp} {d : Addr} {xs : List V} (b : But d H H') (h : H d = some (.lst xs)) : KT H H' := fun q ys e => b q _ (fun z => by rw [z, h] at e; cases e) e
theorem DocAt.keep {H H' : Hp} (s : KT H H') : ∀ {n : Nat} {v : V} {d : Doc}, DocAt H n v d → DocAt H' n v d := by
  intro n v d h
  induction h with
  | mk e1 e2 hl h1 h2 h ih => exact .mk (s _ _ e1) (s _ _ e2) hl h1 h2 fun i v d a b => ih i v d a b
theorem DocAt.da {H : Hp} {n : Nat} {v : V} {d : Doc} (h : DocAt H n v d) : Da H (2 * n) v (toD d) := by
  induction h with
  | mk e1 e2 hl h1 h2 h ih =>
    rename_i n a c nm vs cs
    rw [toD, toDs_map]
    refine .tup (n := 2 * n + 1) e1 rfl (show 2 ≤ 1000000 by decide) fun i v d a b => ?_
    match i, a, b with
    | 0, a, b =>
      cases a
      cases b
      exact .str _
    | 1, a, b =>
      cases a
      cases b
      refine .tup e2 (by rw [List.length_map]; exact hl) (by omega) fun i v d a b => ?_
      rw [List.getElem?_map] at b
      cases hc : cs[i]? with
      | none => rw [hc] at b; cases b
      | some d' =>
        rw [hc] at b
        cases b
        exact ih i v d' a hc
theorem DrawAt.lst {H : Hp} {d sc : Addr} (h : DrawAt H d sc) : ∃ xs, H d = some (.lst xs) := by
  obtain ⟨ns, i, b, s, e1, e2, h3⟩ := h
  exact ⟨_, e1⟩
theorem But.refl {d : Addr} {H : Hp} : But d H H := fun _ _ _ h => h
theorem But.trans {d : Addr} {H H1 H2 : Hp} (a : But d H H1) (b : But d H1 H2) : But d H H2 := fun x o hx h => b x o hx (a x o hx h)
theorem But.put {d p : Addr} {H H1 : Hp} {o : HO} (a : But d H H1) (hp : H p = none) : But d H (upd H1 p o) := fun x u hx h => by
  rw [upd_ne (ne_of_none h hp)]
  exact a x u hx h
theorem But.none {d p : Addr} {H H1 : Hp} (a : But d H H1) (h : H1 p = none) (hd : p ≠ d) : H p = none := by
  cases e : H p with
  | none => rfl
  | some o =>
    rw [a p o hd e] at h
    cases h
theorem DrawAt.put {H : Hp} {d sc p : Addr} {o : HO} (h : DrawAt H d sc) (hp : H p = none) : DrawAt (upd H p o) d sc := by
  obtain ⟨ns, i, b, s, h1, h2, h3⟩ := h
  exact ⟨ns, i, b, s, (upd_ne (ne_of_none h1 hp)).trans h1, (upd_ne (ne_of_none h2 hp)).trans h2, h3⟩
theorem DrawAt.set {H : Hp} {d sc p : Addr} {o : HO} (h : DrawAt H d sc) (h1 : d ≠ p) (h2 : sc ≠ p) : DrawAt (upd H p o) d sc := by
  obtain ⟨ns, i, b, s, e1, e2, h3⟩ := h
  exact ⟨ns, i, b, s, (upd_ne h1).trans e1, (upd_ne h2).trans e2, h3⟩
theorem DrawAt.script {H : Hp} {d sc : Addr} (h : DrawAt H d sc) : ∃ xs, H sc = some (.lst xs) := by
  obtain ⟨ns, i, b, s, e1, e2, h3⟩ := h
  exact ⟨_, e2⟩
theorem DrawAt.ne {H : Hp} {d sc p : Addr} (h : DrawAt H d sc) (hp : H p = none) : p ≠ d := by
  obtain ⟨ns, i, b, s, h1, _⟩ := h
  exact (ne_of_none h1 hp).symm
theorem pick {gs : List Str} {r : Nat} (h : r < gs.length) : (gs.map V.str)[r]? = some (V.str gs[r]) := by
  rw [List.getElem?_map, List.getElem?_eq_getElem h]
  rfl
theorem tx_cd (g : Str) : tx (cd g) = V.str g := tx_str.mpr rfl
/-! ### _law_element -/
def spElement (n : Nat) : Sp := fun vs H Q _ => ∃ (d sc : Addr) (k : Nat), vs = [.ref d, .int (k : Nat)] ∧ k < n ∧ DrawAt H d sc ∧ ∀ H' v doc, But d H H' → DrawAt H' d sc → DocAt H' n v doc → Q v H'
def el3 : List Str := ["a", "b", "ab"]
theorem el3_all : ∀ g ∈ el3, cd g ∈ nm3 := by decide +kernel
theorem el3_nm {r : Nat} (h : r < el3.length) : cd (el3[r]'h) ∈ nm3 := el3_all _ (List.getElem_mem h)
section
variable {P : Program} {w : World} {K : PySem.W.Frag} {mg : Str → Option Value} {base : Heap}
theorem ok_element (T : Txt P K mg) : ∀ n : Nat, FnOk P w K mg base CX0 (n + 2) T.a_law_element T.fd_law_element ["draw", "depth"] (spElement n) := by
  intro n
  induction n with
  | zero =>
    refine ⟨fun vs H Q E h => ?_, fun A outer s H args us vs Q E hr e0 hb r h => ?_⟩
    all_goals
      obtain ⟨_, _, _, _, h, _⟩ := h
      exact absurd h (Nat.not_lt_zero _)
  | succ n ih =>
    have G_law_element : FnOk P w K mg base CX0 (n + 2) T.a_law_element T.fd_law_element ["draw", "depth"] (spElement n) := ih
    have G_law_next : FnOk P w K mg base CX0 1 T.a_law_next T.fd_law_next ["draw", "many"] spNext := ok_next T
    refine T.F_law_element.ok sc_law_element (fun vs H Q E h => ?_) (fun cdv A outer s H vs Q E hr h => ?_)
    · obtain ⟨_, _, _, rfl, _⟩ := h
      rfl
    · obtain ⟨d, sc, k, rfl, hk, D0, q⟩ := h
      refine ⟨_, (pss_cons (ps_set (i := 2) sc_law_element.nd rfl (by first | exact Or.inl rfl | exact Or.inr rfl) (pe_lst pa_nil))
      (pss_cons (ps_if (pt_cmpR op_gt (pv 1) pe_int (nomark _)) (pss_one (ps_for PassesOwn.never rfl (pi_range1 (by rfl) T.n_range (pa_cons (pe_call G_law_next (hr.mono (by omega)) (by rfl) T.g_law_next T.F_law_next.kp T.b_law_next .nil pass0 (pa_cons (pv 0) (pa_cons pe_int pa_nil))) pa_nil)) (pg_name (i := 3) sc_law_element.nd rfl (by first | exact Or.inl rfl | exact Or.inr rfl)) (pss_one (ps_expr (pe_bm PySem.F.plainAttrs_list PySem.F.slot_list_append PySem.F.type_list_append mt_append (pv 2) (pa_cons (pe_call G_law_element (hr.mono (by omega)) (by rfl) T.g_law_element T.F_law_element.kp T.b_law_element .nil pass0 (pa_cons (pv 0) (pa_cons (pe_op op_sub (pv 1) pe_int) pa_nil))) pa_nil)))))) pss_nil)
      (pss_one (ps_ret (pe_tup (pa_cons (pe_ix ix_list (pe_lst (pa_cons pe_str (pa_cons pe_str (pa_cons pe_str pa_nil)))) (pe_call G_law_next (hr.mono (by omega)) (by rfl) T.g_law_next T.F_law_next.kp T.b_law_next .nil pass0 (pa_cons (pv 0) (pa_cons pe_int pa_nil))) (fun _ _ => rfl)) (pa_cons (pe_callTy call_tuple_of (by rfl) T.n_tuple (by decide +kernel) (pa_cons (pv 2) pa_nil)) pa_nil))))))), ?_⟩
      obtain ⟨_, esc⟩ := D0.script
      -- children = []
      refine ⟨Nat.zero_le _, fun p0 n0 => ?_⟩
      have nd0 := D0.ne n0
      have D1 := D0.put (o := .lst []) n0
      have b1 : But d H (upd H p0 (.lst [])) := But.refl.put n0
      -- the tuple handed back
      refine (fun (fin : ∀ (H1 : Hp) (vs : List V) (cs : List Doc) (u3 : Option V), H1 p0 = some (.lst vs) → But d H H1 → DrawAt H1 d sc → vs.length = cs.length → cs.length ≤ 3 → (∀ (i : Nat) (v : V) (d : Doc), vs[i]? = some v → cs[i]? = some d → DocAt H1 n v d) → (?X : Hp → Option V → Prop) H1 u3) => ?main) ?sec
      case main =>
        refine ⟨_, rfl, _, _, rfl, rfl, _, rfl, ite2 (fun c1 => ?_) (fun c1 => ?_)⟩
        · have hk1 : k ≠ 0 := fun h => by
            rw [h] at c1
            exact absurd c1 (by decide)
          refine ⟨_, rfl, d, sc, 4, rfl, D1, by decide, by decide, fun m H1 hm D2 b2 => ⟨_, rfl, by omega, by omega, ?_⟩⟩
          refine for_range (lo := 0) (n := m) (fun i σ H' => ∃ (vs : List V) (cs : List Doc) (u3 : Option V), σ = [some (.ref d), some (.int (k : Nat)), some (.ref p0), u3] ∧ H' p0 = some (.lst vs) ∧ But d H H' ∧ DrawAt H' d sc ∧ vs.length = cs.length ∧ cs.length = i ∧ ∀ (i : Nat) (v : V) (d : Doc), vs[i]? = some v → cs[i]? = some d → DocAt H' n v d)
            ⟨[], [], none, rfl, b2 _ _ nd0 upd_same, b1.trans b2, D2, rfl, rfl, fun i v d h => (nomatch h)⟩ ?_ ?_
          · rintro i σ H' hi ⟨vs, cs, u3, rfl, e0, b, D, hl, hc, hd⟩
            have ek : (k : Int) - 1 = ((k - 1 : Nat) : Int) := by omega
            refine ⟨_, rfl, .inl ⟨rfl, _, SqL.of e0⟩, _, rfl, _, rfl, _, _, rfl, rfl, d, sc, k - 1, (show [V.ref d, V.int ((k : Int) - 1)] = [V.ref d, V.int ((k - 1 : Nat) : Int)] by rw [ek]), by omega, D, fun H2 v doc b3 D3 hv => ?_⟩
            have e2 := b3 _ _ nd0 e0
            obtain ⟨_, ed⟩ := D.lst
            have kt : KT H' (upd H2 p0 (.lst (vs ++ [v]))) := (KT.but b3 ed).trans (KT.lst e2)
            refine ⟨p0, _, _, rfl, rfl, e2, small (show vs.length + 1 ≤ 1100000 by omega), vs ++ [v], cs ++ [doc], _, rfl, upd_same, (b.trans b3).put n0, D3.set nd0.symm (ne_of_none esc n0), by rw [List.length_append, List.length_append, hl]; rfl, by rw [List.length_append, hc]; rfl, ?_⟩
            intro j u c hu hcj
            by_cases hj : j < vs.length
            · rw [List.getElem?_append_left hj] at hu
              rw [List.getElem?_append_left (by omega)] at hcj
              exact (hd j u c hu hcj).keep kt
            · rw [List.getElem?_append_right (by omega)] at hu
              rw [List.getElem?_append_right (by omega)] at hcj
              rw [hl] at hu
              match j - cs.length, hu, hcj with
              | 0, hu, hcj =>
                cases hu
                cases hcj
                exact hv.keep (KT.lst e2)
          · rintro σ H' ⟨vs, cs, u3, rfl, e0, b, D, hl, hc, hd⟩
            exact fin H' vs cs u3 e0 b D hl (by omega) hd
        · exact fin _ [] [] none upd_same b1 D1 rfl (by decide) fun i v d h => (nomatch h)
      case sec =>
        intro H1 vs cs u3 e0 b D hl h3 hd
        refine ⟨small (show 3 ≤ 1100000 by decide), fun L nL => ⟨_, rfl, d, sc, 3, rfl, D.put nL, by decide, by decide, fun r H2 hr3 D2 b2 => ?_⟩⟩
        have ndL := D.ne nL
        have e2 : H2 p0 = some (.lst vs) := b2 _ _ nd0 ((upd_ne (ne_of_none e0 nL)).trans e0)
        refine ⟨L, el3.map V.str, _, V.str (el3[r]'hr3), rfl, rfl, SqL.of (b2 _ _ ndL upd_same), atI_nat (pick hr3), _, rfl, p0, vs, rfl, .inl ⟨SqL.of e2, fun c nc => ⟨small (show 2 ≤ 1100000 by decide), fun a na => ?_⟩⟩⟩
        obtain ⟨_, ed⟩ := (D.put (o := HO.lst (el3.map V.str)) nL).lst
        have kt : KT H1 (upd (upd H2 c (.tup vs)) a (.tup [V.str (el3[r]'hr3), .ref c])) := (((KT.none nL).trans (KT.but b2 ed)).trans (KT.none nc)).trans (KT.none na)
        have bb : But d H H2 := (b.put (b.none nL ndL)).trans b2
        have ndc := D2.ne nc
        have D3 := D2.put (o := .tup vs) nc
        have nda := D3.ne na
        have b3 : But d H (upd H2 c (.tup vs)) := bb.put (bb.none nc ndc)
        have nca : c ≠ a := ne_of_none upd_same na
        refine q _ _ (.node (cd (el3[r]'hr3)) cs) (b3.put (b3.none na nda)) (D3.put na) (.mk (c := c) (vs := vs) ?_ ((upd_ne nca).trans upd_same) hl (el3_nm hr3) h3 fun i v d h1 h2 => (hd i v d h1 h2).keep kt)
        rw [upd_same, tx_cd]
end
end K41
namespace K41
open PySem PySem.Spec PyProof.Rows L2 SX
/-! ### _law_events -/
theorem evs_take {cs : List Doc} {i : Nat} {c : Doc} (h : cs[i]? = some c) : evs (cs.take (i + 1)) = evs (cs.take i) ++ ev c := by
  rw [List.take_add_one, evs_append, h]
  simp [evs]
theorem evs_take_le (cs : List Doc) (i : Nat) : (evs (cs.take i)).length ≤ (evs cs).length := by
  have e : evs cs = evs (cs.take i) ++ evs (cs.drop i) := by rw [← evs_append, List.take_append_drop]
  rw [e, List.length_append]
  omega
theorem pow_le9 {n : Nat} (h : n ≤ 9) : 3 ^ n ≤ 19683 := Nat.le_trans (Nat.pow_le_pow_right (by decide) h) (by decide)
theorem ev_small {n : Nat} {d : Doc} (h : GoodD n d) (hn : n ≤ 9) : (ev d).length ≤ 19682 := by
  have a := ev_len h
  have b := pow_le9 hn
  omega
def spEvents (n : Nat) : Sp := fun vs H Q _ => ∃ (v : V) (doc : Doc), vs = [v] ∧ DocAt H n v doc ∧ ∀ H' p, Same H H' → H p = none → H' p = some (.lst ((ev doc).map tx)) → Q (.ref p) H'
section
variable {P : Program} {w : World} {K : PySem.W.Frag} {mg : Str → Option Value} {base : Heap}
theorem ok_levents (T : Txt P K mg) : ∀ n : Nat, n ≤ 9 → FnOk P w K mg base CX0 (n + 1) T.a_law_events T.fd_law_events ["element"] (spEvents n) := by
  intro n
  induction n with
  | zero =>
    intro _
    refine ⟨fun vs H Q E h => ?_, fun A outer s H args us vs Q E hr e0 hb r h => ?_⟩
    all_goals
      obtain ⟨_, _, _, h, _⟩ := h
      cases h
  | succ n ih =>
    intro hn
    have G_law_events : FnOk P w K mg base CX0 (n + 1) T.a_law_events T.fd_law_events ["element"] (spEvents n) := ih (by omega)
    refine T.F_law_events.ok sc_law_events (fun vs H Q E h => ?_) (fun cdv A outer s H vs Q E hr h => ?_)
    · obtain ⟨_, _, rfl, _⟩ := h
      rfl
    · obtain ⟨v, doc, rfl, hv, q⟩ := h
      have hlen := ev_small hv.good hn
      cases hv with
      | mk e1 e2 hl h1 h2 hd =>
      rename_i a c nm vs cs
      rw [ev, List.length_cons, List.length_append, List.length_singleton] at hlen
      refine ⟨_, (pss_cons (ps_set (i := 1) sc_law_events.nd rfl (by first | exact Or.inl rfl | exact Or.inr rfl) (pe_lst (pa_cons (pe_ix ix_tup (pv 0) pe_int (fun _ _ => rfl)) pa_nil)))
      (pss_cons (ps_for PassesOwn.never rfl (pi_tup (pe_ix ix_tup (pv 0) pe_int (fun _ _ => rfl))) (pg_name (i := 2) sc_law_events.nd rfl (by first | exact Or.inl rfl | exact Or.inr rfl)) (pss_one (ps_set (i := 1) sc_law_events.nd rfl (by first | exact Or.inl rfl | exact Or.inr rfl) (pe_op op_cat (pv 1) (pe_call G_law_events (hr.mono (by omega)) (by rfl) T.g_law_events T.F_law_events.kp T.b_law_events .nil pass0 (pa_cons (pv 2) pa_nil))))))
      (pss_one (ps_ret (pe_op op_cat (pv 1) (pe_lst (pa_cons pe_str pa_nil))))))), ?_⟩
      refine ⟨_, rfl, a, _, _, _, rfl, rfl, SqT.of e1, rfl, small (show 1 ≤ 1100000 by decide), fun p np => ?_⟩
      have s0 : Same H (upd H p (.lst [tx nm])) := same_upd np
      refine ⟨_, rfl, a, _, _, _, rfl, rfl, SqT.of (s0 _ _ e1), rfl, c, rfl, ⟨vs, SqT.of (s0 _ _ e2)⟩, ?_⟩
      refine for_tup (xs := vs) (fun i σ H' => ∃ (p : Addr) (v2 : Option V), σ = [some (.ref a), some (.ref p), v2] ∧ Same H H' ∧ H p = none ∧ H' p = some (.lst ((nm :: evs (cs.take i)).map tx)))
        ⟨p, none, rfl, s0, np, by rw [upd_same]; simp [evs]⟩ ?_ ?_ ?_
      · rintro i σ H' _ ⟨p, v2, rfl, sm, nHp, ep⟩
        exact SqT.of (sm _ _ e2)
      · rintro i x σ H' hx ⟨p, v2, rfl, sm, nHp, ep⟩
        have hi : i < cs.length := by
          rw [← hl]
          exact (List.getElem?_eq_some_iff.mp hx).1
        have hc := List.getElem?_eq_getElem hi
        have hdi := hd i x cs[i] hx hc
        generalize cs[i] = cc at hc hdi
        have t1 := evs_take hc
        have t2 := evs_take_le cs (i + 1)
        rw [t1, List.length_append] at t2
        refine ⟨_, rfl, _, rfl, x, cc, rfl, hdi.keep (KT.same sm), fun H2 p2 s2 n2 ep2 => ?_⟩
        refine ⟨p, p2, _, _, rfl, rfl, s2 _ _ ep, ep2, ?_, fun p' np' => ?_⟩
        · rw [List.length_map, List.length_map, List.length_cons, sizeLine_eq]
          omega
        · have n' : H p' = none := by
            cases e : H p' with
            | none => rfl
            | some o =>
              rw [s2 _ _ (sm _ _ e)] at np'
              cases np'
          refine ⟨p', _, rfl, (sm.trans s2).trans (same_upd np'), n', ?_⟩
          rw [upd_same, t1, ← List.map_append]
          rfl
      · rintro σ H' ⟨p, v2, rfl, sm, nHp, ep⟩
        have hfull : evs (cs.take vs.length) = evs cs := by rw [hl, List.take_length]
        rw [hfull] at ep
        refine ⟨_, rfl, small (show 1 ≤ 1100000 by decide), fun p2 np2 => ?_⟩
        have ne : p ≠ p2 := ne_of_none ep np2
        refine ⟨p, p2, _, _, rfl, rfl, (upd_ne ne).trans ep, upd_same, ?_, fun p' np' => ?_⟩
        · rw [List.length_map, List.length_cons, sizeLine_eq]
          show (evs cs).length + 1 + 1 ≤ _
          omega
        · have sm2 : Same H (upd H' p2 (.lst [V.str ")"])) := sm.trans (same_upd np2)
          have n' : H p' = none := by
            cases e : H p' with
            | none => rfl
            | some o =>
              rw [sm2 _ _ e] at np'
              cases np'
          refine q _ p' (sm2.trans (same_upd np')) n' ?_
          rw [upd_same, ev]
          have e41 : tx [41] = V.str ")" := by rw [← tx_cd]; rfl
          rw [← e41]
          simp
end
end K41
namespace K41
open PySem PySem.Spec PyProof.Rows L2 SX
/-! ### events_of -/
theorem lay_of : ∀ {n : Nat} {d : Doc}, GoodD n d → (toD d).canLay0 = true ∧ (toD d).depth ≤ 2 * n := by
  intro n
  induction n with
  | zero => intro d h; cases h
  | succ n ih =>
    intro d h
    cases h with
    | mk h1 h2 h3 =>
      rename_i nm cs
      have key : ∀ cs : List Doc, (∀ d ∈ cs, GoodD n d) → PyData.canLayAll0 (toDs cs) = true ∧ PyData.depthAll (toDs cs) ≤ 2 * n := by
        intro cs
        induction cs with
        | nil => intro _; exact ⟨by simp [toDs, PyData.canLayAll0], by simp [toDs, PyData.depthAll]⟩
        | cons c cs k =>
          intro hc
          obtain ⟨a1, a2⟩ := ih (hc c List.mem_cons_self)
          obtain ⟨b1, b2⟩ := k fun d hd => hc d (List.mem_cons_of_mem _ hd)
          refine ⟨by rw [toDs, PyData.canLayAll0, a1, b1]; rfl, ?_⟩
          rw [toDs, PyData.depthAll]
          omega
      obtain ⟨k1, k2⟩ := key cs h3
      have ks : PyData.canLay0 (.str ⟨nm.toArray⟩) = true := by
        have : ∀ m ∈ nm3, PyData.canLay0 (.str ⟨m.toArray⟩) = true := by decide +kernel
        exact this nm h1
      refine ⟨?_, ?_⟩
      · rw [toD]
        simp only [PyData.canLay0, PyData.canLayAll0, k1, Bool.and_true]
        simpa [PyData.canLay0] using ks
      · rw [toD]
        simp only [PyData.depth, PyData.depthAll]
        omega
theorem shaped_of {n : Nat} {d : Doc} (h : GoodD n d) (hn : n ≤ 9) : SeqAt.shaped (toD d) = true := by
  obtain ⟨a, b⟩ := lay_of h
  show ((toD d).canLay0 && decide ((toD d).depth ≤ 64)) = true
  rw [a, Bool.true_and]
  exact decide_eq_true (by omega)
theorem dpAll {K : PySem.W.Frag} {H : Hp} : ∀ {vs : List V} {ds : List PyData}, vs.length = ds.length → (∀ (i : Nat) (v : V) (d : PyData), vs[i]? = some v → ds[i]? = some d → Dp K H v d) → DpAll K H vs ds
  | [], [], _, _ => .nil
  | [], _ :: _, h, _ => (nomatch h)
  | _ :: _, [], h, _ => (nomatch h)
  | v :: vs, d :: ds, h, f => .cons (f 0 v d rfl rfl) (dpAll (Nat.succ.inj h) fun i v d a b => f (i + 1) v d a b)
theorem DocAt.dp {K : PySem.W.Frag} {H : Hp} {n : Nat} {v : V} {d : Doc} (h : DocAt H n v d) : Dp K H v (toD d) := by
  induction h with
  | mk e1 e2 hl h1 h2 h ih =>
    rename_i n a c nm vs cs
    rw [toD, toDs_map]
    refine .tup (SqT.of e1) (.cons (.str _) (.cons (.tup (SqT.of e2) (dpAll (by rw [List.length_map]; exact hl) fun i v d a b => ?_)) .nil))
    rw [List.getElem?_map] at b
    cases hc : cs[i]? with
    | none => rw [hc] at b; cases b
    | some d' =>
      rw [hc] at b
      cases b
      exact ih i v d' a hc
theorem DocAt.up {H : Hp} {n : Nat} {v : V} {d : Doc} (h : DocAt H n v d) : DocAt H (n + 1) v d := by
  induction h with
  | mk e1 e2 hl h1 h2 h ih => exact .mk e1 e2 hl h1 h2 ih
theorem close_eqv (d : Doc) (x : Str) : PyData.eqv (toD d) (.str x) = false := by
  cases d
  rw [toD]
  rfl
/-- what is still to come, the next one first: a document, or an end -/
def rem : List (Option Doc) → List (List Nat)
  | [] => []
  | none :: st => [41] :: rem st
  | some d :: st => ev d ++ rem st
theorem rem_append (a b : List (Option Doc)) : rem (a ++ b) = rem a ++ rem b := by
  induction a with
  | nil => rfl
  | cons o a ih => cases o <;> simp [rem, ih]
theorem rem_docs (cs : List Doc) : rem (cs.map some) = evs cs := by
  induction cs with
  | nil => rfl
  | cons c cs ih => simp [rem, evs, ih]
theorem rem_node (nm : List Nat) (cs : List Doc) (st : List (Option Doc)) : rem (some (.node nm cs) :: st) = nm :: rem (cs.map some ++ none :: st) := by
  rw [rem, ev, rem_append, rem_docs, rem]
  simp
inductive StAt (H : Hp) (n : Nat) : List V → List (Option Doc) → Prop
  | nil : StAt H n [] []
  | close {ws : List V} {st : List (Option Doc)} (h : StAt H n ws st) : StAt H n (V.str ")" :: ws) (none :: st)
  | doc {v : V} {d : Doc} {ws : List V} {st : List (Option Doc)} (hv : DocAt H n v d) (h : StAt H n ws st) : StAt H n (v :: ws) (some d :: st)
theorem StAt.keep {H H' : Hp} {n : Nat} (s : KT H H') {ws : List V} {st : List (Option Doc)} (h : StAt H n ws st) : StAt H' n ws st := by
  induction h with
  | nil => exact .nil
  | close _ ih => exact .close ih
  | doc hv _ ih => exact .doc (hv.keep s) ih
theorem StAt.docs {H : Hp} {n : Nat} {ws : List V} {st : List (Option Doc)} (h : StAt H n ws st) : ∀ {vs : List V} {cs : List Doc}, vs.length = cs.length → (∀ (i : Nat) (v : V) (d : Doc), vs[i]? = some v → cs[i]? = some d → DocAt H n v d) → StAt H n (vs ++ ws) (cs.map some ++ st)
  | [], [], _, _ => h
  | [], _ :: _, e, _ => (nomatch e)
  | _ :: _, [], e, _ => (nomatch e)
  | v :: vs, d :: ds, e, f => .doc (f 0 v d rfl rfl) (StAt.docs h (Nat.succ.inj e) fun i v d a b => f (i + 1) v d a b)
theorem StAt.len {H : Hp} {n : Nat} {ws : List V} {st : List (Option Doc)} (h : StAt H n ws st) : ws.length ≤ (rem st).length := by
  induction h with
  | nil => exact Nat.le_refl _
  | close _ ih =>
    rw [rem, List.length_cons, List.length_cons]
    omega
  | doc hv _ ih =>
    rename_i d _ _ _
    cases d
    rw [rem, ev, List.length_cons, List.length_append, List.length_cons]
    omega
def spOf (n : Nat) : Sp := fun vs H Q _ => ∃ (v : V) (doc : Doc), vs = [v] ∧ DocAt H n v doc ∧ ∀ H' p, Same H H' → H p = none → H' p = some (.lst ((ev doc).map tx)) → Q (.ref p) H'
section
variable {P : Program} {w : World} {K : PySem.W.Frag} {mg : Str → Option Value} {base : Heap}
theorem ok_events_of (T : Txt P K mg) (n : Nat) (hn : n ≤ 9) : FnOk P w K mg base CX0 1 T.a_events_of T.fd_events_of ["document"] (spOf n) := by
  refine T.F_events_of.ok sc_events_of (fun vs H Q E h => ?_) (fun cdv A outer s H vs Q E hr h => ?_)
  · obtain ⟨_, _, rfl, _⟩ := h
    rfl
  · obtain ⟨v, doc, rfl, hv, q⟩ := h
    have hlen := ev_small hv.good hn
    refine ⟨_, (pss_cons (ps_set (i := 1) sc_events_of.nd rfl (by first | exact Or.inl rfl | exact Or.inr rfl) (pe_lst pa_nil))
      (pss_cons (ps_set (i := 2) sc_events_of.nd rfl (by first | exact Or.inl rfl | exact Or.inr rfl) (pe_lst (pa_cons (pv 0) pa_nil)))
      (pss_cons (ps_while PassesOwn.never (pt_truth (pv 2) (by intro _; rfl)) (pss_cons (ps_set (i := 3) sc_events_of.nd rfl (by first | exact Or.inl rfl | exact Or.inr rfl) (pe_bm0 PySem.F.plainAttrs_list PySem.F.slot_list_pop PySem.F.type_list_pop mt_pop (pv 2)))
      (pss_one (ps_if (pt_cmpR (op_eqD hr.units) (pv 3) pe_str (nomark _)) (pss_one (ps_expr (pe_bm PySem.F.plainAttrs_list PySem.F.slot_list_append PySem.F.type_list_append mt_append (pv 1) (pa_cons pe_str pa_nil)))) (pss_cons (ps_asg (pv 3) (pg_tup (by rfl) (pgs_cons (pg_name (i := 4) sc_events_of.nd rfl (by first | exact Or.inl rfl | exact Or.inr rfl)) (pgs_cons (pg_name (i := 5) sc_events_of.nd rfl (by first | exact Or.inl rfl | exact Or.inr rfl)) pgs_nil))))
      (pss_cons (ps_expr (pe_bm PySem.F.plainAttrs_list PySem.F.slot_list_append PySem.F.type_list_append mt_append (pv 1) (pa_cons (pv 4) pa_nil)))
      (pss_cons (ps_expr (pe_bm PySem.F.plainAttrs_list PySem.F.slot_list_append PySem.F.type_list_append mt_append (pv 2) (pa_cons pe_str pa_nil)))
      (pss_one (ps_expr (pe_bm PySem.F.plainAttrs_list PySem.F.slot_list_extend PySem.F.type_list_extend SX.mt_extendT (pv 2) (pa_cons (SX.pe_revT (pv 5)) pa_nil)))))))))))
      (pss_one (ps_ret (pv 1)))))), ?_⟩
    have e41 : tx [41] = V.str ")" := by rw [← tx_cd]; rfl
    refine ⟨Nat.zero_le _, fun p np => ⟨_, rfl, small (show 1 ≤ 1100000 by decide), fun w nw => ?_⟩⟩
    have s1 : Same H (upd H p (.lst [])) := same_upd np
    have npw : p ≠ w := ne_of_none upd_same nw
    have nHw : H w = none := by rw [upd_ne npw.symm] at nw; exact nw
    refine ⟨fun m σ H' => ∃ (ws : List V) (st : List (Option Doc)) (done : List (List Nat)) (v3 v4 v5 : Option V), σ = [some v, some (.ref p), some (.ref w), v3, v4, v5] ∧ H' p = some (.lst (done.map tx)) ∧ H' w = some (.lst ws.reverse) ∧ StAt H' n ws st ∧ Same H H' ∧ ev doc = done ++ rem st ∧ m = (rem st).length,
      ⟨_, [v], [some doc], [], none, none, none, rfl, (upd_ne npw).trans upd_same, upd_same, .doc (hv.keep (KT.same (s1.trans (same_upd nw)))) .nil, s1.trans (same_upd nw), by simp [rem], rfl⟩, ?_⟩
    rintro m σ H' ⟨ws, st, done, v3, v4, v5, rfl, ep, ew, hst, sm, hev, rfl⟩
    have hl1 : done.length + (rem st).length ≤ 19682 := by
      rw [hev, List.length_append] at hlen
      exact hlen
    have hl2 := hst.len
    refine ⟨_, rfl, _, .inl ⟨_, SqL.of ew, rfl⟩, ?_⟩
    have last : ∀ (v : V) (ws : List V), (v :: ws).reverse[(v :: ws).reverse.length - 1]? = some v := fun v ws => by
      rw [List.reverse_cons, List.length_append]
      show (ws.reverse ++ [v])[ws.reverse.length]? = _
      simp
    have drop1 : ∀ (v : V) (ws : List V), (v :: ws).reverse.dropLast = ws.reverse := fun v ws => by simp
    have full : ∀ (v : V) (ws : List V), (!((v :: ws).reverse).isEmpty) = true := fun v ws => by simp
    let N : Nat → L2.St → Hp → Prop := fun m σ H' => ∃ (ws : List V) (st : List (Option Doc)) (done : List (List Nat)) (v3 v4 v5 : Option V), σ = [some v, some (.ref p), some (.ref w), v3, v4, v5] ∧ H' p = some (.lst (done.map tx)) ∧ H' w = some (.lst ws.reverse) ∧ StAt H' n ws st ∧ Same H H' ∧ ev doc = done ++ rem st ∧ (rem st).length + 1 = m
    have hN : ∀ m σ' H'', N m σ' H'' → ∃ m', m' < m ∧ ∃ (ws : List V) (st : List (Option Doc)) (done : List (List Nat)) (v3 v4 v5 : Option V), σ' = [some v, some (.ref p), some (.ref w), v3, v4, v5] ∧ H'' p = some (.lst (done.map tx)) ∧ H'' w = some (.lst ws.reverse) ∧ StAt H'' n ws st ∧ Same H H'' ∧ ev doc = done ++ rem st ∧ m' = (rem st).length := by
      rintro m σ' H'' ⟨ws, st, done, v3, v4, v5, e, a, b, c, d, f, g⟩
      exact ⟨(rem st).length, by omega, ws, st, done, v3, v4, v5, e, a, b, c, d, f, rfl⟩
    have other : ∀ (H' : Hp) (o : HO), Same H H' → Same H (upd H' p o) := fun H' o s b u h => by
      rw [upd_ne (ne_of_none h np)]
      exact s b u h
    have otherw : ∀ (H' : Hp) (o : HO), Same H H' → Same H (upd H' w o) := fun H' o s b u h => by
      rw [upd_ne (ne_of_none h nHw)]
      exact s b u h
    cases hst with
    | nil =>
      refine ⟨_, rfl, q _ p sm np ?_⟩
      rw [hev, ep]
      simp [rem]
    | close hst =>
      rename_i ws st
      refine iT (full _ _) ⟨N _, hN _, ?_⟩
      refine ⟨_, rfl, .inl ⟨rfl, _, SqL.of ew⟩, w, _, V.str ")", rfl, rfl, ew, last _ _, ?_⟩
      rw [drop1]
      refine ⟨_, rfl, .str ")", .str ")", .str _, .str _, by decide +kernel, by decide +kernel, _, rfl, iT rfl ?_⟩
      have ep1 : upd H' w (.lst ws.reverse) p = some (.lst (done.map tx)) := (upd_ne npw).trans ep
      refine ⟨_, rfl, .inl ⟨rfl, _, SqL.of ep1⟩, p, _, _, rfl, rfl, ep1, small (by rw [List.length_map]; omega), ?_⟩
      refine ⟨ws, st, done ++ [[41]], _, _, _, rfl, ?_, (upd_ne npw.symm).trans upd_same, (hst.keep (KT.lst ew)).keep (KT.lst ep1), other _ _ (otherw _ _ sm), ?_, ?_⟩
      · rw [upd_same, List.map_append, List.map_singleton, e41]
      · rw [hev, rem]
        simp
      · rw [rem, List.length_cons]
    | doc hvd hst =>
      rename_i u d ws st
      have gd := hvd.good
      refine iT (full _ _) ⟨N _, hN _, ?_⟩
      refine ⟨_, rfl, .inl ⟨rfl, _, SqL.of ew⟩, w, _, u, rfl, rfl, ew, last _ _, ?_⟩
      rw [drop1]
      have hvd1 := hvd.keep (KT.lst (o := .lst ws.reverse) ew)
      have hst1 := hst.keep (KT.lst (o := .lst ws.reverse) ew)
      refine ⟨_, rfl, toD d, .str ")", hvd1.dp, .str _, shaped_of gd hn, by decide +kernel, _, rfl, iF (close_eqv d _) ?_⟩
      have sm1 := otherw _ (.lst ws.reverse) sm
      have ep1 : upd H' w (.lst ws.reverse) p = some (.lst (done.map tx)) := (upd_ne npw).trans ep
      have ew1 : upd H' w (.lst ws.reverse) w = some (.lst ws.reverse) := upd_same
      generalize upd H' w (.lst ws.reverse) = H1 at hvd1 hst1 sm1 ep1 ew1 ⊢
      cases hvd1 with
      | mk e1 e2 hl h1 h2 hd =>
      rename_i k a c nm vs cs
      rw [rem_node] at hev hl1 ⊢
      rw [rem_node] at hl2
      refine ⟨_, rfl, a, _, rfl, SqT.of e1, rfl, _, _, rfl, _, _, rfl, rfl, ?_⟩
      have hl3 : vs.length ≤ 3 := by omega
      -- events.append(name)
      refine ⟨_, rfl, .inl ⟨rfl, _, SqL.of ep1⟩, _, rfl, p, _, _, rfl, rfl, ep1, small (by rw [List.length_map]; omega), ?_⟩
      have kt2 : KT H1 (upd H1 p (.lst (done.map tx ++ [tx nm]))) := KT.lst ep1
      have ew2 : upd H1 p (.lst (done.map tx ++ [tx nm])) w = some (.lst ws.reverse) := (upd_ne npw.symm).trans ew1
      have ep2 : upd H1 p (.lst (done.map tx ++ [tx nm])) p = some (.lst (done.map tx ++ [tx nm])) := upd_same
      have sm2 := other H1 (.lst (done.map tx ++ [tx nm])) sm1
      generalize upd H1 p (.lst (done.map tx ++ [tx nm])) = H2 at kt2 ew2 ep2 sm2 ⊢
      rw [List.length_cons] at hl1
      have hws : ws.length ≤ 20000 := by
        have := hst.len
        rw [rem_append, rem, List.length_append, List.length_cons] at hl1
        omega
      -- waiting.append(')')
      refine ⟨_, rfl, .inl ⟨rfl, _, SqL.of ew2⟩, w, _, _, rfl, rfl, ew2, small (by rw [List.length_reverse]; omega), ?_⟩
      have kt3 : KT H2 (upd H2 w (.lst (ws.reverse ++ [V.str ")"]))) := KT.lst ew2
      have ep3 : upd H2 w (.lst (ws.reverse ++ [V.str ")"])) p = some (.lst (done.map tx ++ [tx nm])) := (upd_ne npw).trans ep2
      have ew3 : upd H2 w (.lst (ws.reverse ++ [V.str ")"])) w = some (.lst (ws.reverse ++ [V.str ")"])) := upd_same
      have sm3 := otherw H2 (.lst (ws.reverse ++ [V.str ")"])) sm2
      generalize upd H2 w (.lst (ws.reverse ++ [V.str ")"])) = H3 at kt3 ep3 ew3 sm3 ⊢
      -- waiting.extend(children[::-1])
      refine ⟨_, rfl, .inl ⟨rfl, _, SqL.of ew3⟩, _, rfl, c, vs, rfl, SqT.of (kt3 _ _ (kt2 _ _ e2)), fun r nr => ?_⟩
      have nwr : w ≠ r := ne_of_none ew3 nr
      have npr : p ≠ r := ne_of_none ep3 nr
      have ew4 : upd H3 r (.tup vs.reverse) w = some (.lst (ws.reverse ++ [V.str ")"])) := (upd_ne nwr).trans ew3
      have ep4 : upd H3 r (.tup vs.reverse) p = some (.lst (done.map tx ++ [tx nm])) := (upd_ne npr).trans ep3
      have kt4 : KT H3 (upd H3 r (.tup vs.reverse)) := KT.none nr
      refine ⟨w, r, _, _, rfl, rfl, ew4, SqT.of upd_same, small (by rw [List.length_append, List.length_reverse, List.length_reverse, List.length_singleton]; omega), ?_⟩
      have ktA : KT H1 (upd (upd H3 r (.tup vs.reverse)) w (.lst (ws.reverse ++ [V.str ")"] ++ vs.reverse))) := ((kt2.trans kt3).trans kt4).trans (KT.lst ew4)
      refine ⟨vs ++ (V.str ")" :: ws), cs.map some ++ none :: st, done ++ [nm], _, _, _, rfl, ?_, ?_, (StAt.close (hst1.keep ktA)).docs hl fun i v d a b => ?_, otherw _ _ (sm3.trans (same_upd nr)), ?_, rfl⟩
      · rw [upd_ne npw, ep4, List.map_append]
        rfl
      · rw [upd_same]
        simp
      · exact ((hd i v d a b).keep ktA).up
      · rw [hev]
        simp
end
end K41
namespace K41
open PySem PySem.Spec PyProof.Rows L2 SX
/-! ### document_of -/
theorem DocAt.at {H : Hp} {m : Nat} {v : V} {d : Doc} (h : DocAt H m v d) : ∀ {n : Nat}, GoodD n d → DocAt H n v d := by
  induction h with
  | mk e1 e2 hl h1 h2 h ih =>
    rename_i m a c nm vs cs
    intro n g
    cases g with
    | mk g1 g2 g3 =>
      exact .mk e1 e2 hl h1 h2 fun i v d a b => ih i v d a b (g3 d (List.mem_of_getElem? b))
/-- an open element: its name, and what its row holds before and behind it -/
structure Fr where
  nm : List Nat
  dn : List Doc
  td : List Doc
def remE : List Doc → List Fr → List (List Nat)
  | td, [] => evs td
  | td, f :: fs => evs td ++ [41] :: remE f.td fs
inductive ZOk (N : Nat) (doc : Doc) : Nat → List Doc → List Fr → Prop
  | root (h : GoodD N doc) : ZOk N doc N [doc] []
  | down {n : Nat} {nm : List Nat} {row dn td : List Doc} {fs : List Fr} (h : GoodD (n + 1) (.node nm row)) (z : ZOk N doc (n + 1) (dn ++ .node nm row :: td) fs) : ZOk N doc n row (⟨nm, dn, td⟩ :: fs)
theorem ZOk.good {N : Nat} {doc : Doc} {n : Nat} {row : List Doc} {fs : List Fr} (z : ZOk N doc n row fs) : ∀ d ∈ row, GoodD n d := by
  cases z with
  | root h =>
    intro d hd
    rcases List.mem_cons.mp hd with rfl | hd
    · exact h
    · cases hd
  | down h z =>
    cases h with
    | mk _ _ h3 => exact h3
theorem ZOk.row {N : Nat} {doc : Doc} {n : Nat} {row : List Doc} {fs : List Fr} (z : ZOk N doc n row fs) : row.length ≤ 3 := by
  cases z with
  | root h => exact (show 1 ≤ 3 by decide)
  | down h z =>
    cases h with
    | mk _ h2 _ => exact h2
theorem ZOk.deep {N : Nat} {doc : Doc} {n : Nat} {row : List Doc} {fs : List Fr} (z : ZOk N doc n row fs) : fs.length + n = N := by
  induction z with
  | root h => exact Nat.zero_add _
  | down h z ih =>
    rw [List.length_cons]
    omega
theorem remE_node (nm : List Nat) (cs td : List Doc) (dn : List Doc) (fs : List Fr) : remE (.node nm cs :: td) fs = nm :: remE cs (⟨nm, dn, td⟩ :: fs) := by
  cases fs with
  | nil => simp [remE, evs, ev]
  | cons f fs => simp [remE, evs, ev]
theorem evs_nil {td : List Doc} (h : evs td = []) : td = [] := by
  cases td with
  | nil => rfl
  | cons d td =>
    cases d
    rw [evs, ev] at h
    simp at h
theorem remE_nil {td : List Doc} {fs : List Fr} (h : remE td fs = []) : td = [] ∧ fs = [] := by
  cases fs with
  | nil => exact ⟨evs_nil h, rfl⟩
  | cons f fs => simp [remE] at h
/-- the values vs hold the documents ds -/
def LA (H : Hp) (vs : List V) (ds : List Doc) : Prop := vs.length = ds.length ∧ ∀ (i : Nat) (v : V) (d : Doc), vs[i]? = some v → ds[i]? = some d → ∃ m, DocAt H m v d
theorem LA.keep {H H' : Hp} {vs : List V} {ds : List Doc} (s : KT H H') (h : LA H vs ds) : LA H' vs ds := ⟨h.1, fun i v d a b => by
  obtain ⟨m, hm⟩ := h.2 i v d a b
  exact ⟨m, hm.keep s⟩⟩
theorem LA.put {H : Hp} {vs : List V} {ds : List Doc} {v : V} {d : Doc} {m : Nat} (h : LA H vs ds) (hv : DocAt H m v d) : LA H (vs ++ [v]) (ds ++ [d]) := by
  refine ⟨by rw [List.length_append, List.length_append, h.1]; rfl, fun j u c hu hc => ?_⟩
  by_cases hj : j < vs.length
  · rw [List.getElem?_append_left hj] at hu
    rw [List.getElem?_append_left (by have := h.1; omega)] at hc
    exact h.2 j u c hu hc
  · rw [List.getElem?_append_right (by omega)] at hu
    rw [List.getElem?_append_right (by have := h.1; omega), ← h.1] at hc
    match j - vs.length, hu, hc with
    | 0, hu, hc =>
      cases hu
      cases hc
      exact ⟨m, hv⟩
inductive RowsAt (H : Hp) : List (List Doc) → List Addr → Prop
  | nil : RowsAt H [] []
  | cons {r : Addr} {vs : List V} {ds : List Doc} {dss : List (List Doc)} {rs : List Addr} (e : H r = some (.lst vs)) (l : LA H vs ds) (h : RowsAt H dss rs) : RowsAt H (ds :: dss) (r :: rs)
theorem RowsAt.keep {H H' : Hp} (s : KT H H') {dss : List (List Doc)} {rs : List Addr} (h : RowsAt H dss rs) : (∀ r ∈ rs, ∀ xs, H r = some (.lst xs) → H' r = some (.lst xs)) → RowsAt H' dss rs := by
  induction h with
  | nil => intro _; exact .nil
  | cons e l _ ih => intro k; exact .cons (k _ List.mem_cons_self _ e) (l.keep s) (ih fun r hr => k r (List.mem_cons_of_mem _ hr))
theorem RowsAt.is {H : Hp} {dss : List (List Doc)} {rs : List Addr} (h : RowsAt H dss rs) : ∀ r ∈ rs, ∃ xs, H r = some (.lst xs) := by
  induction h with
  | nil => intro r hr; cases hr
  | cons e l _ ih =>
    intro r hr
    rcases List.mem_cons.mp hr with rfl | hr
    · exact ⟨_, e⟩
    · exact ih r hr
def spDocOf (n : Nat) : Sp := fun vs H Q _ => ∃ (e : Addr) (doc : Doc), vs = [.ref e] ∧ H e = some (.lst ((ev doc).map tx)) ∧ GoodD n doc ∧ ∀ H' v, Same H H' → DocAt H' n v doc → Q v H'
theorem last_rev {α : Type} (v : α) (ws : List α) : (v :: ws).reverse[(v :: ws).reverse.length - 1]? = some v := by
  rw [List.reverse_cons, List.length_append]
  show (ws.reverse ++ [v])[ws.reverse.length]? = _
  simp
theorem drop_rev {α : Type} (v : α) (ws : List α) : (v :: ws).reverse.dropLast = ws.reverse := by simp
theorem atI_last {α : Type} (v : α) (ws : List α) : atI (v :: ws).reverse (-1) = some v := by
  have e : ixN (v :: ws).reverse.length (-1) = some ws.length := by
    unfold ixN
    rw [List.length_reverse, List.length_cons, if_neg (by decide), if_pos (by omega)]
    congr 1
    omega
  unfold atI
  rw [e]
  show (v :: ws).reverse[ws.length]? = _
  simp
section
variable {P : Program} {w : World} {K : PySem.W.Frag} {mg : Str → Option Value} {base : Heap}
theorem ok_document_of (T : Txt P K mg) (n : Nat) (hn : n ≤ 9) : FnOk P w K mg base CX0 1 T.a_document_of T.fd_document_of ["events"] (spDocOf n) := by
  refine T.F_document_of.ok sc_document_of (fun vs H Q E h => ?_) (fun cdv A outer s H vs Q E hr h => ?_)
  · obtain ⟨_, _, rfl, _⟩ := h
    rfl
  · obtain ⟨e, doc, rfl, ee, gd, q⟩ := h
    refine ⟨_, (pss_cons (ps_set (i := 1) sc_document_of.nd rfl (by first | exact Or.inl rfl | exact Or.inr rfl) (pe_lst pa_nil))
      (pss_cons (ps_set (i := 2) sc_document_of.nd rfl (by first | exact Or.inl rfl | exact Or.inr rfl) (pe_lst (pa_cons (pe_lst pa_nil) pa_nil)))
      (pss_cons (ps_for PassesOwn.never rfl (pi_list (pv 0)) (pg_name (i := 3) sc_document_of.nd rfl (by first | exact Or.inl rfl | exact Or.inr rfl)) (pss_one (ps_if (pt_cmpR op_eq (pv 3) pe_str (nomark _)) (pss_cons (ps_set (i := 4) sc_document_of.nd rfl (by first | exact Or.inl rfl | exact Or.inr rfl) (pe_bm0 PySem.F.plainAttrs_list PySem.F.slot_list_pop PySem.F.type_list_pop mt_pop (pv 2)))
      (pss_one (ps_expr (pe_bm PySem.F.plainAttrs_list PySem.F.slot_list_append PySem.F.type_list_append mt_append (pe_ix ix_list (pv 2) (pe_un un_neg pe_int) (fun _ _ => rfl)) (pa_cons (pe_tup (pa_cons (pe_bm0 PySem.F.plainAttrs_list PySem.F.slot_list_pop PySem.F.type_list_pop mt_pop (pv 1)) (pa_cons (pe_callTy call_tuple_of (by rfl) T.n_tuple (by decide +kernel) (pa_cons (pv 4) pa_nil)) pa_nil))) pa_nil))))) (pss_cons (ps_expr (pe_bm PySem.F.plainAttrs_list PySem.F.slot_list_append PySem.F.type_list_append mt_append (pv 1) (pa_cons (pv 3) pa_nil)))
      (pss_one (ps_expr (pe_bm PySem.F.plainAttrs_list PySem.F.slot_list_append PySem.F.type_list_append mt_append (pv 2) (pa_cons (pe_lst pa_nil) pa_nil))))))))
      (pss_one (ps_ret (pe_ix ix_list (pe_ix ix_list (pv 2) pe_int (fun _ _ => rfl)) pe_int (fun _ _ => rfl))))))), ?_⟩
    have e41 : tx [41] = V.str ")" := by rw [← tx_cd]; rfl
    refine ⟨Nat.zero_le _, fun pn npn => ⟨Nat.zero_le _, fun r0 nr0 => ⟨small (show 1 ≤ 1100000 by decide), fun pr npr => ?_⟩⟩⟩
    have s1 : Same H (upd H pn (.lst [])) := same_upd npn
    have n01 : pn ≠ r0 := ne_of_none upd_same nr0
    have s2 : Same H (upd (upd H pn (.lst [])) r0 (.lst [])) := s1.trans (same_upd nr0)
    have n02 : pn ≠ pr := ne_of_none ((upd_ne n01).trans upd_same) npr
    have n12 : r0 ≠ pr := ne_of_none upd_same npr
    have hr0 : H r0 = none := by rw [upd_ne n01.symm] at nr0; exact nr0
    have hpr : H pr = none := by rw [upd_ne n12.symm, upd_ne n02.symm] at npr; exact npr
    refine ⟨_, rfl, e, rfl, ⟨_, SqL.of ((s2.trans (same_upd npr)) _ _ ee)⟩, ?_⟩
    refine for_list (xs := (ev doc).map tx) (fun i σ H' => ∃ (k : Nat) (dn td : List Doc) (fs : List Fr) (rs : List Addr) (v3 v4 : Option V), σ = [some (.ref e), some (.ref pn), some (.ref pr), v3, v4] ∧ H' pn = some (.lst ((fs.map fun f => tx f.nm).reverse)) ∧ H' pr = some (.lst (rs.map V.ref).reverse) ∧
        RowsAt H' (dn :: fs.map Fr.dn) rs ∧ rs.Nodup ∧ (∀ r ∈ rs, H r = none ∧ r ≠ pn ∧ r ≠ pr) ∧ Same H H' ∧ ZOk n doc k (dn ++ td) fs ∧ (ev doc).drop i = remE td fs)
      ⟨n, [], [doc], [], [r0], none, none, rfl, (upd_ne n02).trans ((upd_ne n01).trans upd_same), upd_same, .cons ((upd_ne n12).trans upd_same) ⟨rfl, fun i v d h => (nomatch h)⟩ .nil, by simp, ?_, s2.trans (same_upd npr), .root gd, by simp [remE, evs]⟩ ?_ ?_ ?_
    · intro r hr
      rcases List.mem_cons.mp hr with rfl | hr
      · exact ⟨hr0, n01.symm, n12⟩
      · cases hr
    · rintro i σ H' _ ⟨k, dn, td, fs, rs, v3, v4, rfl, epn, epr, hrs, nd, fr, sm, z, hd⟩
      exact SqL.of (sm _ _ ee)
    · rintro i x σ H' hx ⟨k, dn, td, fs, rs, v3, v4, rfl, epn, epr, hrs, nd, fr, sm, z, hd⟩
      rw [List.getElem?_map] at hx
      have hi : i < (ev doc).length := by
        rcases Nat.lt_or_ge i (ev doc).length with h | h
        · exact h
        · rw [List.getElem?_eq_none h] at hx
          cases hx
      rw [List.getElem?_eq_getElem hi] at hx
      have hx : tx (ev doc)[i] = x := Option.some.inj hx
      subst hx
      rw [List.drop_eq_getElem_cons hi] at hd
      generalize (ev doc)[i] = x at hd
      have hz3 := z.row
      have hzd := z.deep
      -- what does not hold any row may be set
      have keep : ∀ (H1 : Hp) (p : Addr) (o : HO), KT H1 (upd H1 p o) → (∀ r ∈ rs, r ≠ p) → ∀ {dss}, RowsAt H1 dss rs → RowsAt (upd H1 p o) dss rs := fun H1 p o s hp dss h => h.keep s fun r hr xs e => by
        rw [upd_ne (hp r hr)]
        exact e
      have other : ∀ (H' : Hp) (p : Addr) (o : HO), H p = none → Same H H' → Same H (upd H' p o) := fun H' p o hp s b u h => by
        rw [upd_ne (ne_of_none h hp)]
        exact s b u h
      cases td with
      | cons d td =>
        obtain ⟨nm, cs⟩ := d
        rw [remE_node nm cs td dn fs] at hd
        obtain ⟨rfl, hd⟩ := List.cons.inj hd
        have g := z.good (.node x cs) (List.mem_append_right _ List.mem_cons_self)
        have hx41 : tx x ≠ V.str ")" := fun h => by
          have h1 : x ∈ nm3 := by cases g; assumption
          have : ∀ m ∈ nm3, m ≠ cd (")" : Str) := by decide +kernel
          exact this x h1 (tx_str.mp h)
        refine ⟨_, rfl, rfl, _, rfl, iF (decide_eq_false hx41) ?_⟩
        have hfs : (fs.map fun f => tx f.nm).reverse.length ≤ 9 := by
          rw [List.length_reverse, List.length_map]
          omega
        -- names.append(event)
        refine ⟨_, rfl, .inl ⟨rfl, _, SqL.of epn⟩, _, rfl, pn, _, _, rfl, rfl, epn, small (by omega), ?_⟩
        have hrs1 := keep H' pn (.lst ((fs.map fun f => tx f.nm).reverse ++ [tx x])) (KT.lst epn) (fun r hr => (fr r hr).2.1) hrs
        have sm1 := other H' pn (.lst ((fs.map fun f => tx f.nm).reverse ++ [tx x])) npn sm
        have epr1 : upd H' pn (.lst ((fs.map fun f => tx f.nm).reverse ++ [tx x])) pr = some (.lst (rs.map V.ref).reverse) := (upd_ne n02.symm).trans epr
        have epn1 : upd H' pn (.lst ((fs.map fun f => tx f.nm).reverse ++ [tx x])) pn = some (.lst ((fs.map fun f => tx f.nm).reverse ++ [tx x])) := upd_same
        generalize upd H' pn (.lst ((fs.map fun f => tx f.nm).reverse ++ [tx x])) = H1 at hrs1 sm1 epr1 epn1 ⊢
        -- rows.append([])
        refine ⟨_, rfl, .inl ⟨rfl, _, SqL.of epr1⟩, Nat.zero_le _, fun r nr => ?_⟩
        have npr' : pr ≠ r := ne_of_none epr1 nr
        have npn' : pn ≠ r := ne_of_none epn1 nr
        have hrn : H r = none := by
          cases h : H r with
          | none => rfl
          | some o =>
            rw [sm1 _ _ h] at nr
            cases nr
        have rnot : ∀ b ∈ rs, b ≠ r := fun b hb h => by
          obtain ⟨xs, e⟩ := hrs1.is b hb
          rw [h, nr] at e
          cases e
        have hrs2 := keep H1 r (.lst []) (KT.none nr) rnot hrs1
        have epr2 : upd H1 r (.lst []) pr = some (.lst (rs.map V.ref).reverse) := (upd_ne npr').trans epr1
        have epn2 : upd H1 r (.lst []) pn = some (.lst ((fs.map fun f => tx f.nm).reverse ++ [tx x])) := (upd_ne npn').trans epn1
        have er2 : upd H1 r (.lst []) r = some (.lst []) := upd_same
        have sm2 := other H1 r (.lst []) hrn sm1
        generalize upd H1 r (.lst []) = H2 at hrs2 epr2 epn2 er2 sm2 ⊢
        have hrl : rs.length ≤ 10 := by
          have : ∀ {H : Hp} {dss : List (List Doc)} {rs : List Addr}, RowsAt H dss rs → rs.length = dss.length := fun h => by
            induction h with
            | nil => rfl
            | cons _ _ _ ih => rw [List.length_cons, List.length_cons, ih]
          have := this hrs
          rw [List.length_cons, List.length_map] at this
          omega
        cases k with
        | zero => cases g
        | succ k =>
        refine ⟨pr, _, _, rfl, rfl, epr2, small (by rw [List.length_reverse, List.length_map]; omega), k, [], cs, ⟨x, dn, td⟩ :: fs, r :: rs, _, _, rfl, ?_, ?_, ?_, ?_, ?_, other H2 pr _ hpr sm2, .down g z, hd⟩
        · rw [upd_ne n02, epn2]
          simp
        · rw [upd_same]
          simp
        · have : RowsAt H2 ([] :: dn :: fs.map Fr.dn) (r :: rs) := .cons er2 ⟨rfl, fun i v d h => (nomatch h)⟩ hrs2
          refine this.keep (KT.lst epr2) fun b hb xs e => ?_
          rw [upd_ne ?_]
          · exact e
          · rcases List.mem_cons.mp hb with rfl | hb
            · exact npr'.symm
            · exact (fr b hb).2.2
        · exact List.nodup_cons.mpr ⟨fun hm => rnot r hm rfl, nd⟩
        · intro b hb
          rcases List.mem_cons.mp hb with rfl | hb
          · exact ⟨hrn, npn'.symm, npr'.symm⟩
          · exact fr b hb
      | nil =>
        cases fs with
        | nil => 
          rw [remE, evs] at hd
          cases hd
        | cons f fs =>
          rw [remE, evs, List.nil_append] at hd
          obtain ⟨rfl, hd'⟩ := List.cons.inj hd
          obtain ⟨nm, dn0, td0⟩ := f
          rw [List.append_nil] at z
          cases hrs with
          | cons e1 l1 hrs' =>
          cases hrs' with
          | cons e2 l2 hrs'' =>
          rename_i r vs r2 vs2 rs
          refine ⟨_, rfl, rfl, _, rfl, iT (decide_eq_true e41) ?_⟩
          -- children = rows.pop()
          refine ⟨_, rfl, .inl ⟨rfl, _, SqL.of epr⟩, pr, _, V.ref r, rfl, rfl, epr, last_rev _ _, ?_⟩
          have hdrop : (List.map V.ref (r :: r2 :: rs)).reverse.dropLast = (List.map V.ref (r2 :: rs)).reverse := by simp
          rw [hdrop]
          have kt1 : KT H' (upd H' pr (.lst (List.map V.ref (r2 :: rs)).reverse)) := KT.lst epr
          have f1 := fr r List.mem_cons_self
          have f2 := fr r2 (List.mem_cons_of_mem _ List.mem_cons_self)
          have n12' : r ≠ r2 := fun h => by
            rw [h] at nd
            exact (List.nodup_cons.mp nd).1 List.mem_cons_self
          have nd2 := (List.nodup_cons.mp nd).2
          have hrs1 : RowsAt (upd H' pr (.lst (List.map V.ref (r2 :: rs)).reverse)) (fs.map Fr.dn) rs := hrs''.keep kt1 fun b hb xs e => by
            rw [upd_ne (fr b (List.mem_cons_of_mem _ (List.mem_cons_of_mem _ hb))).2.2]
            exact e
          have e11 : upd H' pr (.lst (List.map V.ref (r2 :: rs)).reverse) r = some (.lst vs) := (upd_ne f1.2.2).trans e1
          have e21 : upd H' pr (.lst (List.map V.ref (r2 :: rs)).reverse) r2 = some (.lst vs2) := (upd_ne f2.2.2).trans e2
          have epn1 : upd H' pr (.lst (List.map V.ref (r2 :: rs)).reverse) pn = some (.lst ((List.map (fun f => tx f.nm) (⟨nm, dn0, td0⟩ :: fs)).reverse)) := (upd_ne n02).trans epn
          have epr1 : upd H' pr (.lst (List.map V.ref (r2 :: rs)).reverse) pr = some (.lst (List.map V.ref (r2 :: rs)).reverse) := upd_same
          have sm1 := other H' pr (.lst (List.map V.ref (r2 :: rs)).reverse) hpr sm
          have l11 := l1.keep kt1
          have l21 := l2.keep kt1
          generalize upd H' pr (.lst (List.map V.ref (r2 :: rs)).reverse) = H1 at hrs1 e11 e21 epn1 epr1 sm1 l11 l21 ⊢
          -- rows[-1].append((names.pop(), tuple(children)))
          refine ⟨_, rfl, _, rfl, pr, _, _, V.ref r2, rfl, rfl, SqL.of epr1, atI_last _ _, .inl ⟨rfl, _, SqL.of e21⟩, ?_⟩
          refine ⟨_, rfl, .inl ⟨rfl, _, SqL.of epn1⟩, pn, _, tx nm, rfl, rfl, epn1, last_rev _ _, ?_⟩
          have hdrop2 : (List.map (fun f => tx f.nm) ((⟨nm, dn0, td0⟩ : Fr) :: fs)).reverse.dropLast = (List.map (fun f => tx f.nm) fs).reverse := by simp
          rw [hdrop2]
          have kt2 : KT H1 (upd H1 pn (.lst (List.map (fun f => tx f.nm) fs).reverse)) := KT.lst epn1
          have hrs2 : RowsAt (upd H1 pn (.lst (List.map (fun f => tx f.nm) fs).reverse)) (fs.map Fr.dn) rs := hrs1.keep kt2 fun b hb xs e => by
            rw [upd_ne (fr b (List.mem_cons_of_mem _ (List.mem_cons_of_mem _ hb))).2.1]
            exact e
          have e12 : upd H1 pn (.lst (List.map (fun f => tx f.nm) fs).reverse) r = some (.lst vs) := (upd_ne f1.2.1).trans e11
          have e22 : upd H1 pn (.lst (List.map (fun f => tx f.nm) fs).reverse) r2 = some (.lst vs2) := (upd_ne f2.2.1).trans e21
          have epn2 : upd H1 pn (.lst (List.map (fun f => tx f.nm) fs).reverse) pn = some (.lst (List.map (fun f => tx f.nm) fs).reverse) := upd_same
          have epr2 : upd H1 pn (.lst (List.map (fun f => tx f.nm) fs).reverse) pr = some (.lst (List.map V.ref (r2 :: rs)).reverse) := (upd_ne n02.symm).trans epr1
          have sm2 := other H1 pn (.lst (List.map (fun f => tx f.nm) fs).reverse) npn sm1
          have l12 := l11.keep kt2
          have l22 := l21.keep kt2
          generalize upd H1 pn (.lst (List.map (fun f => tx f.nm) fs).reverse) = H2 at hrs2 e12 e22 epn2 epr2 sm2 l12 l22 ⊢
          refine ⟨_, rfl, r, vs, rfl, .inl ⟨SqL.of e12, fun c nc => ⟨small (show 2 ≤ 1100000 by decide), fun a na => ?_⟩⟩⟩
          have hca : c ≠ a := ne_of_none upd_same na
          have kt3 : KT H2 (upd (upd H2 c (.tup vs)) a (.tup [tx nm, .ref c])) := (KT.none nc).trans (KT.none na)
          have sm3 : Same H2 (upd (upd H2 c (.tup vs)) a (.tup [tx nm, .ref c])) := (same_upd nc).trans (same_upd na)
          have ea : upd (upd H2 c (.tup vs)) a (.tup [tx nm, .ref c]) a = some (.tup [tx nm, .ref c]) := upd_same
          have ec : upd (upd H2 c (.tup vs)) a (.tup [tx nm, .ref c]) c = some (.tup vs) := (upd_ne hca).trans upd_same
          generalize upd (upd H2 c (.tup vs)) a (.tup [tx nm, .ref c]) = H3 at kt3 sm3 ea ec ⊢
          have e23 := sm3 _ _ e22
          have l13 := l12.keep kt3
          have l23 := l22.keep kt3
          cases z with
          | down g z =>
          have gr : ∀ d ∈ dn, GoodD k d := by
            cases g
            assumption
          have hd3 : dn.length ≤ 3 := by
            cases g
            assumption
          have hnm : nm ∈ nm3 := by
            cases g
            assumption
          have hda : DocAt H3 (k + 1) (.ref a) (.node nm dn) := .mk ea ec l13.1 hnm hd3 fun i v d h1 h2 => by
            obtain ⟨m, hm⟩ := l13.2 i v d h1 h2
            exact hm.at (gr d (List.mem_of_getElem? h2))
          have hz2 := z.row
          rw [List.length_append, List.length_cons] at hz2
          have hl2 := l23.1
          have hl3 : dn0.length ≤ 3 := by omega
          have hl4 : vs2.length ≤ 3 := by
            have : vs2.length = dn0.length := hl2
            omega
          refine ⟨r2, _, _, rfl, rfl, e23, small (by omega), k + 1, dn0 ++ [.node nm dn], td0, fs, r2 :: rs, _, _, rfl, ?_, ?_, ?_, nd2, fun b hb => fr b (List.mem_cons_of_mem _ hb), other H3 r2 _ f2.1 (sm2.trans sm3), ?_, hd'⟩
          · rw [upd_ne f2.2.1.symm]
            exact sm3 _ _ epn2
          · rw [upd_ne f2.2.2.symm]
            exact sm3 _ _ epr2
          · have kt4 : KT H3 (upd H3 r2 (.lst (vs2 ++ [.ref a]))) := KT.lst e23
            refine .cons upd_same ((l23.put hda).keep kt4) ((hrs2.keep kt3 fun b hb xs e => sm3 _ _ e).keep kt4 fun b hb xs e => ?_)
            rw [upd_ne (show b ≠ r2 from fun h => (List.nodup_cons.mp nd2).1 (by rw [← h]; exact hb))]
            exact e
          · rw [List.append_assoc]
            exact z
    · rintro σ H' ⟨k, dn, td, fs, rs, v3, v4, rfl, epn, epr, hrs, nd, fr, sm, z, hd⟩
      rw [List.length_map, List.drop_length] at hd
      obtain ⟨rfl, rfl⟩ := remE_nil hd.symm
      rw [List.append_nil] at z
      cases z with
      | root _ =>
      cases hrs with
      | cons e1 l1 h1 =>
      cases h1
      rename_i r vs
      obtain ⟨hl, hm⟩ := l1
      match vs, hl with
      | [v], _ =>
        obtain ⟨m, hv⟩ := hm 0 v doc rfl rfl
        exact ⟨_, rfl, pr, _, _, _, rfl, rfl, SqL.of epr, rfl, r, _, _, _, rfl, rfl, SqL.of e1, rfl, q _ _ sm (hv.at gd)⟩
end
end K41
namespace K41
open PySem PySem.Spec PyProof.Rows L2 SX
/-! ### print_events, _law_print -/
def one (b : Bool) (x : List Nat) : List Nat := if x = [41] then [41] else (if b = true then [32] else []) ++ (x ++ [40])
def prE : Bool → List (List Nat) → List Nat
  | _, [] => []
  | b, x :: xs => one b x ++ prE (decide (x = [41])) xs
theorem one_len (b : Bool) (x : List Nat) : (one b x).length ≤ x.length + 2 := by
  unfold one
  split
  · rename_i h
    rw [h]
    decide
  · cases b <;> simp <;> omega
def spPrint : Sp := fun vs H Q _ => ∃ (e : Addr) (es : List (List Nat)), vs = [.ref e] ∧ H e = some (.lst (es.map tx)) ∧ es.length ≤ 20000 ∧ (∀ x ∈ es, x.length ≤ 8) ∧ ∀ H', Same H H' → Q (tx (prE false es)) H'
theorem cd_join0 : ∀ ts : List (List Nat), cd (Txt.join ("" : Str) (ts.map fun t => (⟨t.toArray⟩ : Str))) = ts.flatten := by
  intro ts
  have h : ∀ ys : List Str, cd (Str.join ("" : Str) ys) = (ys.map cd).flatten := by
    intro ys
    induction ys with
    | nil => rfl
    | cons y ys ih =>
      cases ys with
      | nil => 
        show cd y = _
        simp
      | cons z r =>
        show cd (y ++ ("" : Str) ++ Str.join ("" : Str) (z :: r)) = _
        rw [cd_append, cd_append, ih]
        have : cd ("" : Str) = [] := by decide +kernel
        rw [this]
        simp
  rw [TL.join_eq, h, List.map_map]
  congr 1
  have : (cd ∘ fun t : List Nat => (⟨t.toArray⟩ : Str)) = id := funext fun t => cd_mk t
  rw [this, List.map_id]
theorem get_map {ts : List (List Nat)} {i : Nat} {x : V} (h : (ts.map tx)[i]? = some x) : ∃ (hi : i < ts.length), x = tx ts[i] := by
  rw [List.getElem?_map] at h
  rcases Nat.lt_or_ge i ts.length with hi | hi
  · rw [List.getElem?_eq_getElem hi] at h
    exact ⟨hi, (Option.some.inj h).symm⟩
  · rw [List.getElem?_eq_none hi] at h
    cases h
theorem sum_le {ts : List (List Nat)} {k : Nat} (h : ∀ t ∈ ts, t.length ≤ k) : ts.flatten.length ≤ ts.length * k := by
  induction ts with
  | nil => simp
  | cons t ts ih =>
    have a := h t List.mem_cons_self
    have b := ih fun u hu => h u (List.mem_cons_of_mem _ hu)
    rw [List.flatten_cons, List.length_append, List.length_cons, Nat.add_mul, Nat.one_mul]
    omega
section
variable {P : Program} {w : World} {K : PySem.W.Frag} {mg : Str → Option Value} {base : Heap}
theorem ok_print_events (T : Txt P K mg) : FnOk P w K mg base CX0 1 T.a_print_events T.fd_print_events ["events"] spPrint := by
  refine T.F_print_events.ok sc_print_events (fun vs H Q E h => ?_) (fun cdv A outer s H vs Q E hr h => ?_)
  · obtain ⟨_, _, rfl, _⟩ := h
    rfl
  · obtain ⟨e, es, rfl, ee, hes, hel, q⟩ := h
    refine ⟨_, (pss_cons (ps_set (i := 1) sc_print_events.nd rfl (by first | exact Or.inl rfl | exact Or.inr rfl) (pe_lst pa_nil))
      (pss_cons (ps_set (i := 2) sc_print_events.nd rfl (by first | exact Or.inl rfl | exact Or.inr rfl) pe_str)
      (pss_cons (ps_for PassesOwn.never rfl (pi_list (pv 0)) (pg_name (i := 3) sc_print_events.nd rfl (by first | exact Or.inl rfl | exact Or.inr rfl)) (pss_cons (ps_if (pt_cmpR op_eq (pv 3) pe_str (nomark _)) (pss_one (ps_expr (pe_bm PySem.F.plainAttrs_list PySem.F.slot_list_append PySem.F.type_list_append mt_append (pv 1) (pa_cons pe_str pa_nil)))) (pss_one (ps_if (pt_cmpR op_eq (pv 2) pe_str (nomark _)) (pss_one (ps_expr (pe_bm PySem.F.plainAttrs_list PySem.F.slot_list_append PySem.F.type_list_append mt_append (pv 1) (pa_cons (pe_joined (.cons pe_str (.cons (pe_fmt (pv 3)) (.cons pe_str .nil)))) pa_nil)))) (pss_one (ps_expr (pe_bm PySem.F.plainAttrs_list PySem.F.slot_list_append PySem.F.type_list_append mt_append (pv 1) (pa_cons (pe_joined (.cons (pe_fmt (pv 3)) (.cons pe_str .nil))) pa_nil)))))))
      (pss_one (ps_set (i := 2) sc_print_events.nd rfl (by first | exact Or.inl rfl | exact Or.inr rfl) (pv 3)))))
      (pss_one (ps_ret (pe_join pe_str (pv 1))))))), ?_⟩
    have e41 : cd (")" : Str) = [41] := by decide +kernel
    have e40 : cd ("(" : Str) = [40] := by decide +kernel
    have e32 : cd (" " : Str) = [32] := by decide +kernel
    have eE : cd Str.empty = [] := by decide +kernel
    refine ⟨Nat.zero_le _, fun p np => ?_⟩
    have s1 : Same H (upd H p (.lst [])) := same_upd np
    refine ⟨_, rfl, e, rfl, ⟨_, SqL.of (s1 _ _ ee)⟩, ?_⟩
    refine for_list (xs := es.map tx) (fun i σ H' => ∃ (ps : List (List Nat)) (bf : List Nat) (v3 : Option V), σ = [some (.ref e), some (.ref p), some (tx bf), v3] ∧ H' p = some (.lst (ps.map tx)) ∧ Same H H' ∧ ps.flatten ++ prE (decide (bf = [41])) (es.drop i) = prE false es ∧ ps.length = i ∧ ∀ t ∈ ps, t.length ≤ 10)
      ⟨[], [], none, rfl, upd_same, s1, rfl, rfl, fun t h => (nomatch h)⟩ ?_ ?_ ?_
    · rintro i σ H' _ ⟨ps, bf, v3, rfl, ep, sm, hp, hl, hb⟩
      exact SqL.of (sm _ _ ee)
    · rintro i x σ H' hx ⟨ps, bf, v3, rfl, ep, sm, hp, hl, hb⟩
      obtain ⟨hi, rfl⟩ := get_map hx
      have hx8 := hel es[i] (List.getElem_mem hi)
      rw [List.drop_eq_getElem_cons hi, prE] at hp
      generalize es[i] = x at hp hx8 ⊢
      have room : (ps.map tx).length < sizeLine := by
        rw [List.length_map, sizeLine_eq]
        omega
      have ol := one_len (decide (bf = [41])) x
      -- what follows, the next part being g
      have next : ∀ g : Str, cd g = one (decide (bf = [41])) x → ∃ (ps' : List (List Nat)) (bf' : List Nat) (v3' : Option V), [some (V.ref e), some (.ref p), some (tx x), some (tx x)] = [some (.ref e), some (.ref p), some (tx bf'), v3'] ∧ upd H' p (.lst (ps.map tx ++ [V.str g])) p = some (.lst (ps'.map tx)) ∧ Same H (upd H' p (.lst (ps.map tx ++ [V.str g]))) ∧ ps'.flatten ++ prE (decide (bf' = [41])) (es.drop (i + 1)) = prE false es ∧ ps'.length = i + 1 ∧ ∀ t ∈ ps', t.length ≤ 10 := by
        intro g hg
        refine ⟨ps ++ [cd g], x, _, rfl, ?_, ?_, ?_, ?_, ?_⟩
        · rw [upd_same, List.map_append, List.map_singleton, tx_cd]
        · intro b u h
          rw [upd_ne (ne_of_none h np)]
          exact sm b u h
        · rw [← hp, hg]
          simp
        · rw [List.length_append, hl]
          rfl
        · intro t ht
          rcases List.mem_append.mp ht with h | h
          · exact hb t h
          · rcases List.mem_cons.mp h with rfl | h
            · rw [hg]
              omega
            · cases h
      refine ⟨_, rfl, rfl, _, rfl, ?_⟩
      by_cases hx41 : x = [41]
      · refine iT (decide_eq_true (tx_str.mpr (hx41.trans e41.symm))) ?_
        refine ⟨_, rfl, .inl ⟨rfl, _, SqL.of ep⟩, p, _, _, rfl, rfl, ep, room, _, rfl, ?_⟩
        exact next ")" (by rw [e41, one, if_pos hx41])
      · refine iF (decide_eq_false fun h => hx41 ((tx_str.mp h).trans e41)) ?_
        refine ⟨_, rfl, rfl, _, rfl, ?_⟩
        by_cases hb41 : bf = [41]
        · refine iT (decide_eq_true (tx_str.mpr (hb41.trans e41.symm))) ?_
          refine ⟨_, rfl, .inl ⟨rfl, _, SqL.of ep⟩, " ", rfl, ?_, _, rfl, .inl ⟨_, rfl, ?_, _, rfl, ?_, "(", rfl, ?_, p, _, _, rfl, rfl, ep, room, _, rfl, next _ ?_⟩⟩
          · exact small (by rw [len_cd, cd_append, eE, e32]; decide)
          · exact small (by rw [len_mk]; omega)
          · exact small (by rw [len_cd, cd_append, cd_append, eE, e32, cd_mk]; simp; omega)
          · exact small (by rw [len_cd, cd_append, cd_append, cd_append, eE, e32, e40, cd_mk]; simp; omega)
          · rw [cd_append, cd_append, cd_append, eE, e32, e40, cd_mk, one, if_neg hx41, if_pos (decide_eq_true hb41)]
            simp
        · refine iF (decide_eq_false fun h => hb41 ((tx_str.mp h).trans e41)) ?_
          refine ⟨_, rfl, .inl ⟨rfl, _, SqL.of ep⟩, _, rfl, .inl ⟨_, rfl, ?_, _, rfl, ?_, "(", rfl, ?_, p, _, _, rfl, rfl, ep, room, _, rfl, next _ ?_⟩⟩
          · exact small (by rw [len_mk]; omega)
          · exact small (by rw [len_cd, cd_append, eE, cd_mk]; simp; omega)
          · exact small (by rw [len_cd, cd_append, cd_append, eE, e40, cd_mk]; simp; omega)
          · rw [cd_append, cd_append, eE, e40, cd_mk, one, if_neg hx41, if_neg (by rw [decide_eq_false hb41]; decide)]
            simp
    · rintro σ H' ⟨ps, bf, v3, rfl, ep, sm, hp, hl, hb⟩
      rw [List.length_map] at hl hp
      rw [List.drop_length, prE, List.append_nil] at hp
      have hs := sum_le hb
      have eys : ps.map tx = (ps.map fun t => (⟨t.toArray⟩ : Str)).map V.str := by
        rw [List.map_map]
        rfl
      refine ⟨⟨_, rfl⟩, _, rfl, "", p, _, rfl, rfl, .inl (by rw [← eys]; exact SqL.of ep), ?_, ?_⟩
      · have e0 : ("" : Str).length = 0 := by decide +kernel
        have e1 : ((ps.map fun t => (⟨t.toArray⟩ : Str)).map (·.length)).sum = ps.flatten.length := by
          rw [List.map_map, List.length_flatten]
          exact congrArg List.sum (List.map_congr_left fun t _ => len_mk t)
        rw [e0, e1, Nat.mul_zero, Nat.add_zero]
        omega
      · have := q H' sm
        rw [← hp, ← cd_join0, tx_cd] at this
        exact this
def bPrev (es : List (List Nat)) : Nat → Bool
  | 0 => false
  | j + 1 => decide (es[j]? = some [41])
theorem ok_lprint (T : Txt P K mg) : FnOk P w K mg base CX0 1 T.a_law_print T.fd_law_print ["events"] spPrint := by
  refine T.F_law_print.ok sc_law_print (fun vs H Q E h => ?_) (fun cdv A outer s H vs Q E hr h => ?_)
  · obtain ⟨_, _, rfl, _⟩ := h
    rfl
  · obtain ⟨e, es, rfl, ee, hes, hel, q⟩ := h
    refine ⟨_, (pss_cons (ps_set (i := 1) sc_law_print.nd rfl (by first | exact Or.inl rfl | exact Or.inr rfl) pe_str)
      (pss_cons (ps_for PassesOwn.never rfl (pi_range1 (by rfl) T.n_range (pa_cons (pe_callB call_len_seq (by rfl) T.n_len boot_len (pa_cons (pv 0) pa_nil)) pa_nil)) (pg_name (i := 2) sc_law_print.nd rfl (by first | exact Or.inl rfl | exact Or.inr rfl)) (pss_one (ps_if (pt_cmpR op_eq (pe_ix ix_list (pv 0) (pv 2) (fun _ _ => rfl)) pe_str (nomark _)) (pss_one (ps_set (i := 1) sc_law_print.nd rfl (by first | exact Or.inl rfl | exact Or.inr rfl) (pe_op op_add_str (pv 1) pe_str))) (pss_one (ps_set (i := 1) sc_law_print.nd rfl (by first | exact Or.inl rfl | exact Or.inr rfl) (pe_op op_add_str (pe_op op_add_str (pe_op op_add_str (pv 1) (pe_ifExp (PW.pt (pw_and (pt_cmpR op_gt (pv 2) pe_int (nomark _)) (pw_and1 (pt_cmpR op_eq (pe_ix ix_list (pv 0) (pe_op op_sub (pv 2) pe_int) (fun _ _ => rfl)) pe_str (nomark _))))) pe_str pe_str)) (pe_ix ix_list (pv 0) (pv 2) (fun _ _ => rfl))) pe_str))))))
      (pss_one (ps_ret (pv 1))))), ?_⟩
    have e41 : cd (")" : Str) = [41] := by decide +kernel
    have e40 : cd ("(" : Str) = [40] := by decide +kernel
    have e32 : cd (" " : Str) = [32] := by decide +kernel
    have e00 : cd ("" : Str) = [] := by decide +kernel
    refine ⟨_, rfl, e, _, rfl, .inl (SqL.of ee), _, rfl, by rw [List.length_map]; omega, by rw [List.length_map]; omega, ?_⟩
    refine for_range (lo := 0) (n := (es.map tx).length) (fun i σ H' => ∃ (t : Str) (v2 : Option V), σ = [some (.ref e), some (.str t), v2] ∧ H' = H ∧ cd t ++ prE (bPrev es i) (es.drop i) = prE false es ∧ (cd t).length ≤ 10 * i)
      ⟨"", none, rfl, rfl, rfl, by rw [e00]; exact Nat.le_refl _⟩ ?_ ?_
    · rintro i σ H' hi ⟨t, v2, rfl, rfl, hp, hl⟩
      rw [List.length_map] at hi
      have hx8 := hel es[i] (List.getElem_mem hi)
      have ga : (es.map tx)[i]? = some (tx es[i]) := by
        rw [List.getElem?_map, List.getElem?_eq_getElem hi]
        rfl
      have hbp : bPrev es (i + 1) = decide (es[i] = [41]) := by
        rw [bPrev, List.getElem?_eq_getElem hi]
        simp
      rw [List.drop_eq_getElem_cons hi, prE, ← hbp] at hp
      generalize es[i] = x at hp hx8 ga hbp
      have ol := one_len (bPrev es i) x
      have next : ∀ g : Str, cd g = cd t ++ one (bPrev es i) x → ∃ (t' : Str) (v2' : Option V), [some (V.ref e), some (.str g), some (.int (0 + (i : Int)))] = [some (.ref e), some (.str t'), v2'] ∧ H' = H' ∧ cd t' ++ prE (bPrev es (i + 1)) (es.drop (i + 1)) = prE false es ∧ (cd t').length ≤ 10 * (i + 1) := fun g hg => by
        refine ⟨g, _, rfl, rfl, ?_, ?_⟩
        · rw [hg, List.append_assoc]
          exact hp
        · rw [hg, List.length_append]
          omega
      rw [Int.zero_add]
      rw [Int.zero_add] at next
      refine ⟨_, rfl, _, rfl, e, _, _, _, rfl, rfl, SqL.of ee, atI_nat ga, rfl, _, rfl, ?_⟩
      by_cases hx41 : x = [41]
      · refine iT (decide_eq_true (tx_str.mpr (hx41.trans e41.symm))) ?_
        refine ⟨_, rfl, _, _, rfl, rfl, ?_, next _ ?_⟩
        · exact small (by rw [len_cd, len_cd, e41]; show (cd t).length + 1 ≤ _; omega)
        · rw [cd_append, e41, one, if_pos hx41]
      · refine iF (decide_eq_false fun h => hx41 ((tx_str.mp h).trans e41)) ?_
        -- the blank in front
        have fin : ∀ g : Str, cd g = (if bPrev es i = true then [32] else []) → t.length + g.length ≤ sizeLine ∧ (t ++ g).length + (⟨x.toArray⟩ : Str).length ≤ sizeLine ∧ (t ++ g ++ (⟨x.toArray⟩ : Str)).length + ("(" : Str).length ≤ sizeLine ∧ cd (t ++ g ++ (⟨x.toArray⟩ : Str) ++ "(") = cd t ++ one (bPrev es i) x := fun g hg => by
          have hg1 : (cd g).length ≤ 1 := by
            rw [hg]
            split <;> decide
          refine ⟨small (by rw [len_cd, len_cd]; omega), small (by rw [len_cd, len_mk, cd_append, List.length_append]; omega), small (by rw [len_cd, len_cd, cd_append, cd_append, cd_mk, e40, List.length_append, List.length_append]; show (cd t).length + (cd g).length + x.length + 1 ≤ _; omega), ?_⟩
          rw [cd_append, cd_append, cd_append, cd_mk, e40, hg, one, if_neg hx41]
          simp
        refine ⟨_, rfl, _, rfl, _, _, rfl, rfl, _, rfl, ?_⟩
        cases i with
        | zero =>
          obtain ⟨f1, f2, f3, f4⟩ := fin "" e00
          refine iF rfl ?_
          exact ⟨_, _, rfl, rfl, f1, _, rfl, _, rfl, e, _, _, _, rfl, rfl, SqL.of ee, atI_nat ga, _, _, rfl, rfl, f2, _, _, rfl, rfl, f3, next _ f4⟩
        | succ j =>
          refine iT (decide_eq_true (by omega)) ?_
          have hj : j < es.length := by omega
          have gj : atI (es.map tx) (((j + 1 : Nat) : Int) - 1) = some (tx es[j]) := by
            rw [show ((j + 1 : Nat) : Int) - 1 = ((j : Nat) : Int) by omega]
            refine atI_nat ?_
            rw [List.getElem?_map, List.getElem?_eq_getElem hj]
            rfl
          have hbj : bPrev es (j + 1) = decide (es[j] = [41]) := by
            rw [bPrev, List.getElem?_eq_getElem hj]
            simp
          refine ⟨_, rfl, _, rfl, _, _, rfl, rfl, e, _, _, _, rfl, rfl, SqL.of ee, gj, rfl, _, rfl, ?_⟩
          by_cases h41 : es[j] = [41]
          · obtain ⟨f1, f2, f3, f4⟩ := fin " " (by rw [hbj, if_pos (decide_eq_true h41), e32])
            refine iT (decide_eq_true (tx_str.mpr (h41.trans e41.symm))) ?_
            exact ⟨_, _, rfl, rfl, f1, _, rfl, _, rfl, e, _, _, _, rfl, rfl, SqL.of ee, atI_nat ga, _, _, rfl, rfl, f2, _, _, rfl, rfl, f3, next _ f4⟩
          · obtain ⟨f1, f2, f3, f4⟩ := fin "" (by rw [hbj, if_neg (by rw [decide_eq_false h41]; decide), e00])
            refine iF (decide_eq_false fun h => h41 ((tx_str.mp h).trans e41)) ?_
            exact ⟨_, _, rfl, rfl, f1, _, rfl, _, rfl, e, _, _, _, rfl, rfl, SqL.of ee, atI_nat ga, _, _, rfl, rfl, f2, _, _, rfl, rfl, f3, next _ f4⟩
    · rintro σ H' ⟨t, v2, rfl, rfl, hp, hl⟩
      rw [List.length_map] at hp
      rw [List.drop_length, prE, List.append_nil] at hp
      have := q H' (fun _ _ h => h)
      rw [← hp, tx_cd] at this
      exact ⟨_, rfl, this⟩
end
end K41
namespace K41
open PySem PySem.Spec PyProof.Rows L2 SX
/-! ### texts of beginnings, with blanks anywhere -/
def EvOk (x : List Nat) : Prop := x = [41] ∨ x ∈ nm3
inductive Wr : List (List Nat) → List Nat → Prop
  | nil {s : List Nat} (h : SS.Blank s) : Wr [] s
  | close {b s : List Nat} {es : List (List Nat)} (h : SS.Blank b) (r : Wr es s) : Wr ([41] :: es) (b ++ 41 :: s)
  | name {x b c s : List Nat} {es : List (List Nat)} (hx : x ∈ nm3) (hb : SS.Blank b) (hc : SS.Blank c) (r : Wr es s) : Wr (x :: es) (b ++ (x ++ (c ++ 40 :: s)))
theorem blank_nil : SS.Blank [] := fun c h => (nomatch h)
theorem blank_app {a b : List Nat} (h1 : SS.Blank a) (h2 : SS.Blank b) : SS.Blank (a ++ b) := fun c h => (List.mem_append.mp h).elim (h1 c) (h2 c)
theorem Wr.trail {es : List (List Nat)} {s b : List Nat} (h : Wr es s) (hb : SS.Blank b) : Wr es (s ++ b) := by
  induction h with
  | nil h => exact .nil (blank_app h hb)
  | close h _ ih =>
    rw [List.append_assoc, List.cons_append]
    exact .close h ih
  | name hx h1 h2 _ ih =>
    simp only [List.append_assoc, List.cons_append]
    exact .name hx h1 h2 ih
theorem Wr.closed {es : List (List Nat)} {s : List Nat} (h : Wr es s) : Wr (es ++ [[41]]) (s ++ [41]) := by
  induction h with
  | nil h => exact .close h (.nil blank_nil)
  | close h _ ih =>
    rw [List.append_assoc, List.cons_append]
    exact .close h ih
  | name hx h1 h2 _ ih =>
    simp only [List.append_assoc, List.cons_append]
    exact .name hx h1 h2 ih
theorem Wr.named {es : List (List Nat)} {s x c : List Nat} (h : Wr es s) (hx : x ∈ nm3) (hc : SS.Blank c) : Wr (es ++ [x]) (s ++ (x ++ (c ++ [40]))) := by
  induction h with
  | nil h => exact .name hx h hc (.nil blank_nil)
  | close h _ ih =>
    rw [List.append_assoc, List.cons_append]
    exact .close h ih
  | name hx h1 h2 _ ih =>
    simp only [List.append_assoc, List.cons_append] at ih ⊢
    exact .name hx h1 h2 ih
theorem nm3_ne41 : ∀ x ∈ nm3, x ≠ [41] := by decide
theorem nm3_low : ∀ x ∈ nm3, x ≠ [] ∧ (∀ c ∈ x, SS.isLow c = true) ∧ x.length ≤ 8 ∧ SS.okName x = true := by decide
theorem wr_print : ∀ (es : List (List Nat)) (b : Bool), (∀ x ∈ es, EvOk x) → Wr es (prE b es)
  | [], _, _ => .nil blank_nil
  | x :: es, b, h => by
    have ih := wr_print es (decide (x = [41])) fun y hy => h y (List.mem_cons_of_mem _ hy)
    rw [prE, one]
    rcases h x List.mem_cons_self with rfl | hx
    · rw [if_pos rfl]
      exact .close (b := []) blank_nil ih
    · rw [if_neg (nm3_ne41 x hx)]
      have e : (if b = true then [32] else []) ++ (x ++ [40]) ++ prE (decide (x = [41])) es = (if b = true then [32] else []) ++ (x ++ ([] ++ 40 :: prE (decide (x = [41])) es)) := by simp
      rw [e]
      refine .name hx ?_ blank_nil ih
      split
      · intro c hc
        rcases List.mem_cons.mp hc with rfl | hc
        · exact .inl rfl
        · cases hc
      · exact blank_nil
inductive Tk : List (List Nat) → List (List Nat × Nat) → Prop
  | nil {n : Nat} : Tk [] [([], n)]
  | close {p : Nat} {es : List (List Nat)} {l : List (List Nat × Nat)} (r : Tk es l) : Tk ([41] :: es) (([41], p) :: l)
  | name {p q : Nat} {x : List Nat} {es : List (List Nat)} {l : List (List Nat × Nat)} (hx : x ∈ nm3) (r : Tk es l) : Tk (x :: es) ((x, p) :: ([40], q) :: l)
theorem wr_lex {es : List (List Nat)} {s : List Nat} (h : Wr es s) : ∀ i, ∃ l, SS.Lex [40, 41] s i l none ∧ Tk es l := by
  have hs : (32 : Nat) ∉ [40, 41] ∧ (10 : Nat) ∉ [40, 41] := by decide
  induction h with
  | nil h =>
    rename_i s
    intro i
    have := SS.lex_blank hs (x := []) (i := i) h (.done (sg := [40, 41]))
    rw [List.append_nil] at this
    exact ⟨_, this, .nil⟩
  | close h _ ih =>
    rename_i b s es _
    intro i
    obtain ⟨l, hl, ht⟩ := ih (i + b.length + 1)
    exact ⟨_, SS.lex_blank hs h (.sign (by decide) (by decide) hl), .close ht⟩
  | name hx h1 h2 _ ih =>
    rename_i x b c s es _
    intro i
    obtain ⟨l, hl, ht⟩ := ih (i + b.length + x.length + c.length + 1)
    obtain ⟨n1, n2, _⟩ := nm3_low x hx
    refine ⟨_, SS.lex_blank hs h1 (.word n1 n2 (fun k hk => ?_) (SS.lex_blank hs h2 (.sign (by decide) (by decide) hl))), .name hx ht⟩
    cases c with
    | nil =>
      cases hk
      decide
    | cons a c =>
      cases hk
      rcases h2 _ List.mem_cons_self with rfl | rfl <;> decide
def okE : List (List Nat) → Nat → Bool → Prop
  | [], _, _ => True
  | x :: es, d, b => if x = [41] then 0 < d ∧ okE es (d - 1) true else ¬ (b = true ∧ d = 0) ∧ okE es (d + 1) true
theorem rd_ok {es : List (List Nat)} {l : List (List Nat × Nat)} (h : Tk es l) : ∀ (d : Nat) (b : Bool), okE es d b → SS.rd l d b = (es, none) := by
  induction h with
  | nil =>
    intro d b _
    rw [SS.rd_eq, if_pos rfl]
  | close _ ih =>
    intro d b ho
    rw [okE, if_pos rfl] at ho
    rw [SS.rd_eq, if_neg (by decide), if_neg (by omega), if_pos ⟨rfl, ho.1⟩, ih _ _ ho.2]
  | name hx _ ih =>
    intro d b ho
    rename_i x _ _ _
    have n41 := nm3_ne41 x hx
    obtain ⟨n1, n2, n3, n4⟩ := nm3_low x hx
    rw [okE, if_neg n41] at ho
    rw [SS.rd_eq, if_neg n1, if_neg ho.1, if_neg (fun z => n41 z.1), if_pos n4]
    dsimp only
    rw [if_pos rfl, ih _ _ ho.2]
theorem okE_take : ∀ (es : List (List Nat)) (n d : Nat) (b : Bool), okE es d b → okE (es.take n) d b
  | [], n, d, b, _ => by simp [okE]
  | x :: es, 0, d, b, _ => trivial
  | x :: es, n + 1, d, b, h => by
    rw [List.take_succ_cons]
    rw [okE] at h ⊢
    split
    · rename_i hx
      rw [if_pos hx] at h
      exact ⟨h.1, okE_take es n _ _ h.2⟩
    · rename_i hx
      rw [if_neg hx] at h
      exact ⟨h.1, okE_take es n _ _ h.2⟩
theorem okE_ev : ∀ {n : Nat} {doc : Doc}, GoodD n doc → ∀ (rest : List (List Nat)) (d : Nat) (b : Bool), ¬ (b = true ∧ d = 0) → okE rest d true → okE (ev doc ++ rest) d b := by
  intro n
  induction n with
  | zero => intro doc h; cases h
  | succ n ih =>
    intro doc h
    cases h with
    | mk h1 h2 h3 =>
      rename_i nm cs
      intro rest d b hb hr
      have key : ∀ cs : List Doc, (∀ d ∈ cs, GoodD n d) → okE (evs cs ++ ([41] :: rest)) (d + 1) true := by
        intro cs
        induction cs with
        | nil =>
          intro _
          rw [evs, List.nil_append, okE, if_pos rfl]
          exact ⟨Nat.succ_pos _, hr⟩
        | cons c cs k =>
          intro hc
          rw [evs, List.append_assoc]
          exact ih (hc c List.mem_cons_self) _ _ _ (by omega) (k fun d hd => hc d (List.mem_cons_of_mem _ hd))
      rw [ev, List.cons_append, List.append_assoc, okE, if_neg (nm3_ne41 nm h1)]
      exact ⟨hb, key cs h3⟩
theorem evok_ev : ∀ {n : Nat} {doc : Doc}, GoodD n doc → ∀ x ∈ ev doc, EvOk x := by
  intro n
  induction n with
  | zero => intro doc h; cases h
  | succ n ih =>
    intro doc h
    cases h with
    | mk h1 h2 h3 =>
      rename_i nm cs
      have key : ∀ cs : List Doc, (∀ d ∈ cs, GoodD n d) → ∀ x ∈ evs cs, EvOk x := by
        intro cs
        induction cs with
        | nil => intro _ x hx; cases hx
        | cons c cs k =>
          intro hc x hx
          rw [evs] at hx
          rcases List.mem_append.mp hx with hx | hx
          · exact ih (hc c List.mem_cons_self) x hx
          · exact k (fun d hd => hc d (List.mem_cons_of_mem _ hd)) x hx
      intro x hx
      rw [ev] at hx
      rcases List.mem_cons.mp hx with rfl | hx
      · exact .inr h1
      · rcases List.mem_append.mp hx with hx | hx
        · exact key cs h3 x hx
        · exact .inl (List.mem_singleton.mp hx)
theorem EvOk.len {x : List Nat} (h : EvOk x) : x.length ≤ 8 := by
  rcases h with rfl | h
  · decide
  · exact (nm3_low x h).2.2.1
theorem read_back {n : Nat} {doc : Doc} (g : GoodD n doc) (k : Nat) {s : List Nat} (h : Wr ((ev doc).take k) s) : ∃ l, SS.Lex [40, 41] s 0 l none ∧ SS.rd l 0 false = ((ev doc).take k, none) := by
  obtain ⟨l, hl, ht⟩ := wr_lex h 0
  have o := okE_ev g [] 0 false (fun z => by cases z.1) trivial
  rw [List.append_nil] at o
  exact ⟨l, hl, rd_ok ht 0 false (okE_take _ k _ _ o)⟩
/-! ### _law_noise -/
def spNoise : Sp := fun vs H Q _ => ∃ (d sc e : Addr) (es : List (List Nat)), vs = [.ref d, .ref e] ∧ DrawAt H d sc ∧ H e = some (.lst (es.map tx)) ∧ e ≠ d ∧ es.length ≤ 20000 ∧ (∀ x ∈ es, EvOk x) ∧
  ∀ H' t, But d H H' → DrawAt H' d sc → Wr es (cd t) → (cd t).length ≤ 20 * es.length + 1 → Q (.str t) H'
def bl4 : List Str := [" ", "", "\n", "  "]
def bl3 : List Str := ["", " ", "\n"]
def bl2 : List Str := ["", " "]
theorem bl_ok : ∀ g ∈ bl4 ++ (bl3 ++ bl2), SS.Blank (cd g) ∧ (cd g).length ≤ 2 := by
  intro g h
  have : g ∈ ([" ", "", "\n", "  "] : List Str) := by
    simp only [bl4, bl3, bl2, List.cons_append, List.nil_append, List.mem_cons] at h ⊢
    rcases h with h | h | h | h | h | h | h | h | h | h
    all_goals first | (cases h; done) | simp [h]
  have all : ∀ g ∈ ([" ", "", "\n", "  "] : List Str), (∀ c ∈ cd g, c = 32 ∨ c = 10) ∧ (cd g).length ≤ 2 := by decide +kernel
  exact all g this
section
variable {P : Program} {w : World} {K : PySem.W.Frag} {mg : Str → Option Value} {base : Heap}
theorem ok_noise (T : Txt P K mg) : FnOk P w K mg base CX0 2 T.a_law_noise T.fd_law_noise ["draw", "events"] spNoise := by
  have G_law_next : FnOk P w K mg base CX0 1 T.a_law_next T.fd_law_next ["draw", "many"] spNext := ok_next T
  refine T.F_law_noise.ok sc_law_noise (fun vs H Q E h => ?_) (fun cdv A outer s H vs Q E hr h => ?_)
  · obtain ⟨_, _, _, _, rfl, _⟩ := h
    rfl
  · obtain ⟨d, sc, e, es, rfl, D0, ee, hne, hes, hok, q⟩ := h
    refine ⟨_, (pss_cons (ps_set (i := 2) sc_law_noise.nd rfl (by first | exact Or.inl rfl | exact Or.inr rfl) pe_str)
      (pss_cons (ps_for PassesOwn.never rfl (pi_list (pv 1)) (pg_name (i := 3) sc_law_noise.nd rfl (by first | exact Or.inl rfl | exact Or.inr rfl)) (pss_cons (ps_set (i := 2) sc_law_noise.nd rfl (by first | exact Or.inl rfl | exact Or.inr rfl) (pe_op op_add_str (pv 2) (pe_ix ix_list (pe_lst (pa_cons pe_str (pa_cons pe_str (pa_cons pe_str (pa_cons pe_str pa_nil))))) (pe_call G_law_next (hr.mono (by omega)) (by rfl) T.g_law_next T.F_law_next.kp T.b_law_next .nil pass0 (pa_cons (pv 0) (pa_cons pe_int pa_nil))) (fun _ _ => rfl))))
      (pss_one (ps_set (i := 2) sc_law_noise.nd rfl (by first | exact Or.inl rfl | exact Or.inr rfl) (pe_op op_add_str (pv 2) (pe_ifExp (pt_cmpR op_eq (pv 3) pe_str (nomark _)) pe_str (pe_op op_add_str (pe_op op_add_str (pv 3) (pe_ix ix_list (pe_lst (pa_cons pe_str (pa_cons pe_str (pa_cons pe_str pa_nil)))) (pe_call G_law_next (hr.mono (by omega)) (by rfl) T.g_law_next T.F_law_next.kp T.b_law_next .nil pass0 (pa_cons (pv 0) (pa_cons pe_int pa_nil))) (fun _ _ => rfl))) pe_str)))))))
      (pss_one (ps_ret (pe_op op_add_str (pv 2) (pe_ix ix_list (pe_lst (pa_cons pe_str (pa_cons pe_str pa_nil))) (pe_call G_law_next (hr.mono (by omega)) (by rfl) T.g_law_next T.F_law_next.kp T.b_law_next .nil pass0 (pa_cons (pv 0) (pa_cons pe_int pa_nil))) (fun _ _ => rfl))))))), ?_⟩
    have e41 : cd (")" : Str) = [41] := by decide +kernel
    have e40 : cd ("(" : Str) = [40] := by decide +kernel
    have e00 : cd ("" : Str) = [] := by decide +kernel
    refine ⟨_, rfl, e, rfl, ⟨_, SqL.of ee⟩, ?_⟩
    refine for_list (xs := es.map tx) (fun i σ H' => ∃ (t : Str) (v3 : Option V), σ = [some (.ref d), some (.ref e), some (.str t), v3] ∧ But d H H' ∧ DrawAt H' d sc ∧ Wr (es.take i) (cd t) ∧ (cd t).length ≤ 20 * i)
      ⟨"", none, rfl, But.refl, D0, by rw [e00]; exact .nil blank_nil, by rw [e00]; exact Nat.le_refl _⟩ ?_ ?_ ?_
    · rintro i σ H' _ ⟨t, v3, rfl, b, D, hw, hl⟩
      exact SqL.of (b _ _ hne ee)
    · rintro i x σ H' hx ⟨t, v3, rfl, b, D, hw, hl⟩
      obtain ⟨hi, rfl⟩ := get_map hx
      have hx := hok es[i] (List.getElem_mem hi)
      have htk : es.take (i + 1) = es.take i ++ [es[i]] := by
        rw [List.take_add_one, List.getElem?_eq_getElem hi]
        rfl
      generalize es[i] = x at hx htk ⊢
      have hx8 := hx.len
      -- text = text + [' ', '', '\n', '  '][_law_next(draw, 4)]
      refine ⟨_, rfl, small (show 4 ≤ 1100000 by decide), fun L nL => ⟨_, rfl, d, sc, 4, rfl, D.put nL, by decide, by decide, fun r H1 hr1 D1 b1 => ?_⟩⟩
      have ndL := D.ne nL
      have bb1 := (b.put (o := .lst (bl4.map V.str)) (b.none nL ndL)).trans b1
      refine ⟨L, bl4.map V.str, _, V.str (bl4[r]'hr1), rfl, rfl, SqL.of (b1 _ _ ndL upd_same), atI_nat (pick hr1), ?_⟩
      obtain ⟨g1, g2⟩ := bl_ok _ (List.mem_append_left _ (List.getElem_mem (show r < bl4.length from hr1)))
      generalize bl4[r]'hr1 = g at g1 g2
      refine ⟨_, _, rfl, rfl, small (by rw [len_cd, len_cd]; omega), ?_⟩
      have hw1 : Wr (es.take i) (cd (t ++ g)) := by
        rw [cd_append]
        exact hw.trail g1
      have hl1 : (cd (t ++ g)).length ≤ 20 * i + 2 := by
        rw [cd_append, List.length_append]
        omega
      generalize t ++ g = t1 at hw1 hl1
      -- text = text + ...
      refine ⟨_, rfl, _, rfl, rfl, _, rfl, ?_⟩
      rcases hx with rfl | hx
      · refine iT (decide_eq_true (tx_str.mpr e41.symm)) ?_
        refine ⟨_, _, rfl, rfl, small (by rw [len_cd, len_cd, e41]; show (cd t1).length + 1 ≤ _; omega), t1 ++ ")", _, rfl, bb1, D1, ?_, ?_⟩
        · rw [htk, cd_append, e41]
          exact hw1.closed
        · rw [cd_append, e41, List.length_append]
          show (cd t1).length + 1 ≤ _
          omega
      · refine iF (decide_eq_false fun h => nm3_ne41 x hx ((tx_str.mp h).trans e41)) ?_
        refine ⟨_, rfl, small (show 3 ≤ 1100000 by decide), fun L2 nL2 => ⟨_, rfl, d, sc, 3, rfl, D1.put nL2, by decide, by decide, fun r2 H2 hr2 D2 b2 => ?_⟩⟩
        have ndL2 := D1.ne nL2
        have bb2 := (bb1.put (o := .lst (bl3.map V.str)) (bb1.none nL2 ndL2)).trans b2
        refine ⟨L2, bl3.map V.str, _, V.str (bl3[r2]'hr2), rfl, rfl, SqL.of (b2 _ _ ndL2 upd_same), atI_nat (pick hr2), ?_⟩
        obtain ⟨k1, k2⟩ := bl_ok _ (List.mem_append_right _ (List.mem_append_left _ (List.getElem_mem (show r2 < bl3.length from hr2))))
        generalize bl3[r2]'hr2 = g3 at k1 k2
        refine ⟨_, _, rfl, rfl, small (by rw [len_mk, len_cd]; omega), _, _, rfl, rfl, small (by rw [len_cd, len_cd, cd_append, cd_mk, e40, List.length_append]; show x.length + (cd g3).length + 1 ≤ _; omega), _, _, rfl, rfl, small (by rw [len_cd, len_cd, cd_append, cd_append, cd_mk, e40, List.length_append, List.length_append]; show (cd t1).length + (x.length + (cd g3).length + 1) ≤ _; omega), _, _, rfl, bb2, D2, ?_, ?_⟩
        · rw [htk, cd_append, cd_append, cd_append, cd_mk, e40]
          have := hw1.named hx k1
          simpa using this
        · rw [cd_append, cd_append, cd_append, cd_mk, e40, List.length_append, List.length_append, List.length_append]
          show (cd t1).length + (x.length + (cd g3).length + 1) ≤ _
          omega
    · rintro σ H' ⟨t, v3, rfl, b, D, hw, hl⟩
      rw [List.length_map] at hw hl
      rw [List.take_length] at hw
      refine ⟨_, rfl, small (show 2 ≤ 1100000 by decide), fun L nL => ⟨_, rfl, d, sc, 2, rfl, D.put nL, by decide, by decide, fun r H1 hr1 D1 b1 => ?_⟩⟩
      have ndL := D.ne nL
      have bb1 := (b.put (o := .lst (bl2.map V.str)) (b.none nL ndL)).trans b1
      refine ⟨L, bl2.map V.str, _, V.str (bl2[r]'hr1), rfl, rfl, SqL.of (b1 _ _ ndL upd_same), atI_nat (pick hr1), ?_⟩
      obtain ⟨g1, g2⟩ := bl_ok _ (List.mem_append_right _ (List.mem_append_right _ (List.getElem_mem (show r < bl2.length from hr1))))
      have g3 : ∀ g ∈ bl2, (cd g).length ≤ 1 := by decide +kernel
      have g4 := g3 _ (List.getElem_mem (show r < bl2.length from hr1))
      generalize bl2[r]'hr1 = g at g1 g2 g4
      refine ⟨_, _, rfl, rfl, small (by rw [len_cd, len_cd]; omega), q H1 (t ++ g) bb1 D1 ?_ ?_⟩
      · rw [cd_append]
        exact hw.trail g1
      · rw [cd_append, List.length_append]
        omega
end
end K41
namespace K41
open PySem PySem.Spec PyProof.Rows L2 SX
/-! ### the law -/
def esD (es : List (List Nat)) : List PyData := es.map fun t => .str ⟨t.toArray⟩
theorem da_es {H : Hp} {p : Addr} {es : List (List Nat)} {n : Nat} (h : H p = some (.lst (es.map tx))) (hz : es.length ≤ 1000000) : Da H (n + 2) (.ref p) (.list (esD es)) := by
  refine .lst h (by rw [List.length_map, esD, List.length_map]) (by rw [List.length_map]; exact hz) fun i v d h1 h2 => ?_
  rw [List.getElem?_map] at h1
  rw [esD, List.getElem?_map] at h2
  cases e : es[i]? with
  | none =>
    rw [e] at h1
    cases h1
  | some t =>
    rw [e] at h1 h2
    cases h1
    cases h2
    exact .str _
theorem dp_es {K : PySem.W.Frag} {H : Hp} {p : Addr} {es : List (List Nat)} (h : H p = some (.lst (es.map tx))) : Dp K H (.ref p) (.list (esD es)) := by
  refine .lst (SqL.of h) (dpAll (by rw [List.length_map, esD, List.length_map]) fun i v d h1 h2 => ?_)
  rw [List.getElem?_map] at h1
  rw [esD, List.getElem?_map] at h2
  cases e : es[i]? with
  | none =>
    rw [e] at h1
    cases h1
  | some t =>
    rw [e] at h1 h2
    cases h1
    cases h2
    exact .str _
theorem evok_str {t : List Nat} (h : EvOk t) : PyData.canLay0 (.str ⟨t.toArray⟩) = true := by
  have all : ∀ m ∈ [41] :: nm3, PyData.canLay0 (.str ⟨m.toArray⟩) = true := by decide +kernel
  exact all t (List.mem_cons.mpr h)
theorem es_lay : ∀ {es : List (List Nat)}, (∀ x ∈ es, EvOk x) → PyData.canLayAll0 (esD es) = true ∧ PyData.depthAll (esD es) = 0
  | [], _ => ⟨rfl, rfl⟩
  | t :: es, h => by
    obtain ⟨a, b⟩ := es_lay (es := es) fun x hx => h x (List.mem_cons_of_mem _ hx)
    have c := evok_str (h t List.mem_cons_self)
    refine ⟨?_, ?_⟩
    · show PyData.canLayAll0 (_ :: esD es) = true
      rw [PyData.canLayAll0, c, a]
      rfl
    · show PyData.depthAll (_ :: esD es) = 0
      rw [PyData.depthAll, b]
      rfl
theorem es_shaped {es : List (List Nat)} (h : ∀ x ∈ es, EvOk x) : SeqAt.shaped (.list (esD es)) = true ∧ PyData.eqv (.list (esD es)) (.list (esD es)) = true := by
  obtain ⟨a, b⟩ := es_lay h
  have l : PyData.canLay0 (.list (esD es)) = true := by
    rw [PyData.canLay0]
    exact a
  refine ⟨?_, SeqAt.eqv_refl _ l⟩
  show (PyData.canLay0 (.list (esD es)) && decide (PyData.depth (.list (esD es)) ≤ 64)) = true
  rw [l, Bool.true_and, PyData.depth, b]
  rfl
theorem cut_take (xs : List V) (k : Nat) (h : k ≤ xs.length) : cutV xs none (some (k : Nat)) = xs.take k := by
  unfold cutV
  rw [HT.sIx_nat, Nat.min_eq_left h]
  show List.take (k - 0) (List.drop 0 xs) = _
  rw [Nat.sub_zero, List.drop_zero]
theorem prE_len : ∀ (es : List (List Nat)) (b : Bool), (∀ x ∈ es, EvOk x) → (prE b es).length ≤ 10 * es.length
  | [], _, _ => Nat.le_refl _
  | x :: es, b, h => by
    have ih := prE_len es (decide (x = [41])) fun y hy => h y (List.mem_cons_of_mem _ hy)
    have a := one_len b x
    have c := (h x List.mem_cons_self).len
    rw [prE, List.length_append, List.length_cons]
    omega
def spLaw (K : PySem.W.Frag) : Sp := fun vs H Q _ => ∃ (a : Addr) (ns : List Int), vs = [.ref a] ∧ SqL K H a (ns.map V.int) ∧ ns.length ≤ 63 ∧ ∀ H', Q (.bl true) H'
theorem law_in {K : PySem.W.Frag} {H : Hp} {a : Addr} {ns : List Int} (hS : SqL K H a (ns.map V.int)) (hl : ns.length ≤ 63) : spLaw K [.ref a] H (fun v _ => v = .bl true) fun _ _ _ => False := ⟨a, ns, rfl, hS, hl, fun _ => rfl⟩
theorem DrawAt.same {H H' : Hp} {d sc : Addr} (h : DrawAt H d sc) (s : Same H H') : DrawAt H' d sc := by
  obtain ⟨ns, i, b, sd, e1, e2, h3⟩ := h
  exact ⟨ns, i, b, sd, s _ _ e1, s _ _ e2, h3⟩
section
variable {P : Program} {w : World} {K : PySem.W.Frag} {mg : Str → Option Value} {base : Heap}
theorem ok_law (T : Txt P K mg) : FnOk P w K mg base CX0 10 T.a_law T.fd_law ["script"] (spLaw K) := by
  have G_law_draw : FnOk P w K mg base CX0 1 T.a_law_draw T.fd_law_draw ["script"] (spDraw K) := ok_draw T
  have G_law_next : FnOk P w K mg base CX0 1 T.a_law_next T.fd_law_next ["draw", "many"] spNext := ok_next T
  have G_law_element : FnOk P w K mg base CX0 6 T.a_law_element T.fd_law_element ["draw", "depth"] (spElement 4) := ok_element T 4
  have G_law_events : FnOk P w K mg base CX0 5 T.a_law_events T.fd_law_events ["element"] (spEvents 4) := ok_levents T 4 (by decide)
  have G_events_of : FnOk P w K mg base CX0 1 T.a_events_of T.fd_events_of ["document"] (spOf 4) := ok_events_of T 4 (by decide)
  have G_document_of : FnOk P w K mg base CX0 1 T.a_document_of T.fd_document_of ["events"] (spDocOf 4) := ok_document_of T 4 (by decide)
  have G_print_events : FnOk P w K mg base CX0 1 T.a_print_events T.fd_print_events ["events"] spPrint := ok_print_events T
  have G_law_print : FnOk P w K mg base CX0 1 T.a_law_print T.fd_law_print ["events"] spPrint := ok_lprint T
  have G_law_noise : FnOk P w K mg base CX0 2 T.a_law_noise T.fd_law_noise ["draw", "events"] spNoise := ok_noise T
  have G_read_events : FnOk P w K mg base (TE.CX P w) 6 T.a_read_events T.fd_read_events ["text"] (spReadEvents T.C_te) := ok_read_events T
  have G_law_same : FnOk P w K mg base CX0 9 T.a_law_same T.fd_law_same ["actual", "due"] (spSame 8) := ok_same T 8
  refine T.F_law.ok sc_law (fun vs H Q E h => ?_) (fun cdv A outer s H vs Q E hr h => ?_)
  · obtain ⟨_, _, rfl, _⟩ := h
    rfl
  · obtain ⟨a, ns, rfl, hS, hn, q⟩ := h
    refine ⟨_, (pss_cons (ps_set (i := 1) sc_law.nd rfl (by first | exact Or.inl rfl | exact Or.inr rfl) (pe_call G_law_draw (hr.mono (by omega)) (by rfl) T.g_law_draw T.F_law_draw.kp T.b_law_draw .nil pass0 (pa_cons (pv 0) pa_nil)))
      (pss_cons (ps_for PassesOwn.never rfl (pi_range1 (by rfl) T.n_range (pa_cons pe_int pa_nil)) (pg_name (i := 2) sc_law.nd rfl (by first | exact Or.inl rfl | exact Or.inr rfl)) (pss_cons (ps_set (i := 3) sc_law.nd rfl (by first | exact Or.inl rfl | exact Or.inr rfl) (pe_call G_law_element (hr.mono (by omega)) (by rfl) T.g_law_element T.F_law_element.kp T.b_law_element .nil pass0 (pa_cons (pv 1) (pa_cons (pe_op op_add pe_int (pe_call G_law_next (hr.mono (by omega)) (by rfl) T.g_law_next T.F_law_next.kp T.b_law_next .nil pass0 (pa_cons (pv 1) (pa_cons pe_int pa_nil)))) pa_nil))))
      (pss_cons (ps_set (i := 4) sc_law.nd rfl (by first | exact Or.inl rfl | exact Or.inr rfl) (pe_call G_law_events (hr.mono (by omega)) (by rfl) T.g_law_events T.F_law_events.kp T.b_law_events .nil pass0 (pa_cons (pv 3) pa_nil)))
      (pss_cons (ps_if (PW.pt (pw_or (pt_not (pt_val (pe_call G_law_same (hr.mono (by omega)) (by rfl) T.g_law_same T.F_law_same.kp T.b_law_same .nil pass0 (pa_cons (pe_call G_events_of (hr.mono (by omega)) (by rfl) T.g_events_of T.F_events_of.kp T.b_events_of .nil pass0 (pa_cons (pv 3) pa_nil)) (pa_cons (pv 4) pa_nil))))) (pw_or1 (pt_not (pt_val (pe_call G_law_same (hr.mono (by omega)) (by rfl) T.g_law_same T.F_law_same.kp T.b_law_same .nil pass0 (pa_cons (pe_call G_document_of (hr.mono (by omega)) (by rfl) T.g_document_of T.F_document_of.kp T.b_document_of .nil pass0 (pa_cons (pe_callTy call_list_of (by rfl) T.n_list (by decide +kernel) (pa_cons (pv 4) pa_nil)) pa_nil)) (pa_cons (pv 3) pa_nil)))))))) (pss_one (ps_ret pe_bl)) pss_nil)
      (pss_cons (ps_set (i := 5) sc_law.nd rfl (by first | exact Or.inl rfl | exact Or.inr rfl) (pe_slice sl_list (pv 4) po_none (po_some (pe_call G_law_next (hr.mono (by omega)) (by rfl) T.g_law_next T.F_law_next.kp T.b_law_next .nil pass0 (pa_cons (pv 1) (pa_cons (pe_op op_add (pe_callB call_len_seq (by rfl) T.n_len boot_len (pa_cons (pv 4) pa_nil)) pe_int) pa_nil))))))
      (pss_cons (ps_set (i := 6) sc_law.nd rfl (by first | exact Or.inl rfl | exact Or.inr rfl) (pe_call G_law_print (hr.mono (by omega)) (by rfl) T.g_law_print T.F_law_print.kp T.b_law_print .nil pass0 (pa_cons (pv 5) pa_nil)))
      (pss_cons (ps_set (i := 7) sc_law.nd rfl (by first | exact Or.inl rfl | exact Or.inr rfl) (pe_callTy call_list_of (by rfl) T.n_list (by decide +kernel) (pa_cons (pv 5) pa_nil)))
      (pss_cons (ps_if (PW.pt (pw_or (pt_not (pt_val (pe_call G_law_same (hr.mono (by omega)) (by rfl) T.g_law_same T.F_law_same.kp T.b_law_same .nil pass0 (pa_cons (pe_call G_print_events (hr.mono (by omega)) (by rfl) T.g_print_events T.F_print_events.kp T.b_print_events .nil pass0 (pa_cons (pv 7) pa_nil)) (pa_cons (pv 6) pa_nil))))) (pw_or1 (pt_cmpR (op_neD hr.units) (pv 7) (pv 5) (nomark _))))) (pss_one (ps_ret pe_bl)) pss_nil)
      (pss_one (ps_if (PW.pt (pw_or (pt_not (pt_val (pe_call G_law_same (hr.mono (by omega)) (by rfl) T.g_law_same T.F_law_same.kp T.b_law_same .nil pass0 (pa_cons (pe_call G_read_events (hr.mono (by omega)) (by rfl) T.g_read_events T.F_read_events.kp T.b_read_events .nil SX.passN (pa_cons (pv 6) pa_nil)) (pa_cons (pv 5) pa_nil))))) (pw_or1 (pt_not (pt_val (pe_call G_law_same (hr.mono (by omega)) (by rfl) T.g_law_same T.F_law_same.kp T.b_law_same .nil pass0 (pa_cons (pe_call G_read_events (hr.mono (by omega)) (by rfl) T.g_read_events T.F_read_events.kp T.b_read_events .nil SX.passN (pa_cons (pe_call G_law_noise (hr.mono (by omega)) (by rfl) T.g_law_noise T.F_law_noise.kp T.b_law_noise .nil pass0 (pa_cons (pv 1) (pa_cons (pv 5) pa_nil))) pa_nil)) (pa_cons (pv 5) pa_nil)))))))) (pss_one (ps_ret pe_bl)) pss_nil))))))))))
      (pss_one (ps_ret pe_bl)))), ?_⟩
    refine ⟨_, rfl, a, ns, rfl, hS, hn, fun H0 d sc s0 nd nsc D0 => ?_⟩
    refine ⟨_, rfl, by decide, by decide, ?_⟩
    refine for_range (lo := 0) (n := 3) (fun i σ H' => ∃ v2 v3 v4 v5 v6 v7 : Option V, σ = [some (.ref a), some (.ref d), v2, v3, v4, v5, v6, v7] ∧ DrawAt H' d sc) ⟨none, none, none, none, none, none, rfl, D0⟩ ?_ ?_
    · rintro i σ H1 hi ⟨v2, v3, v4, v5, v6, v7, rfl, D1⟩
      -- element = _law_element(draw, 1 + _law_next(draw, 3))
      refine ⟨_, rfl, _, rfl, d, sc, 3, rfl, D1, by decide, by decide, fun r H2 hr3 D2 b2 => ⟨_, _, rfl, rfl, d, sc, r + 1, (show [V.ref d, V.int (1 + (r : Int))] = [V.ref d, V.int ((r + 1 : Nat) : Int)] by rw [Int.add_comm]; rfl), by omega, D2, fun H3 v doc b3 D3 hv => ?_⟩⟩
      have gd := hv.good
      have hlen : (ev doc).length ≤ 80 := by
        have := ev_len gd
        have e : 3 ^ 4 = 81 := by decide
        omega
      have hevok := evok_ev gd
      -- events = _law_events(element)
      refine ⟨_, rfl, v, doc, rfl, hv, fun H4 pe s4 n4 e4 => ?_⟩
      have D4 := D3.same s4
      have hv4 := hv.keep (KT.same s4)
      have npd := D3.ne n4
      -- events_of(element), document_of(list(events))
      refine ⟨_, rfl, v, doc, rfl, hv4, fun H5 p5 s5 n5 e5 => ⟨_, rfl, _, _, _, rfl, da_es (n := 6) e5 (by omega), da_es (s5 _ _ e4) (by omega), fun H6 s6 => ⟨true, rfl, iF rfl ?_⟩⟩⟩
      have s46 := s5.trans s6
      have e6 := s46 _ _ e4
      refine ⟨_, rfl, pe, _, rfl, .inl (SqL.of e6), fun l nl => ⟨l, doc, rfl, upd_same, gd, fun H7 v' s7 hv' => ?_⟩⟩
      have s67 : Same H6 H7 := (same_upd nl).trans s7
      have s47 := s46.trans s67
      refine ⟨_, rfl, _, _, _, rfl, hv'.da, (hv4.keep (KT.same s47)).da, fun H8 s8 => ⟨true, rfl, iF rfl ?_⟩⟩
      have s48 := s47.trans s8
      have D8 := D4.same s48
      have e8 := s48 _ _ e4
      -- part = events[:_law_next(draw, len(events) + 1)]
      have e8l : ((ev doc).map tx).length = (ev doc).length := List.length_map _
      refine ⟨_, rfl, _, rfl, _, rfl, pe, _, rfl, .inl (SqL.of e8), _, _, rfl, rfl, d, sc, ((ev doc).map tx).length + 1, rfl, D8, Nat.succ_pos _, by omega, fun k H9 hk D9 b9 => ⟨_, rfl, pe, _, rfl, SqL.of (b9 _ _ npd e8), fun pp npp => ?_⟩⟩
      rw [cut_take _ k (by omega), ← List.map_take]
      have hpok : ∀ x ∈ (ev doc).take k, EvOk x := fun x hx => hevok x (List.mem_of_mem_take hx)
      have hpl : ((ev doc).take k).length ≤ 80 := by
        rw [List.length_take]
        omega
      have back := fun s => read_back gd k (s := s)
      generalize (ev doc).take k = part at hpok hpl back
      have nppd := D9.ne npp
      have D10 := D9.put (o := .lst (part.map tx)) npp
      have e10 : upd H9 pp (.lst (part.map tx)) pp = some (.lst (part.map tx)) := upd_same
      generalize upd H9 pp (.lst (part.map tx)) = H10 at D10 e10
      -- text = _law_print(part)
      refine ⟨_, rfl, pp, part, rfl, e10, by omega, fun x hx => (hpok x hx).len, fun H11 s11 => ?_⟩
      have D11 := D10.same s11
      have e11 := s11 _ _ e10
      -- handed = list(part)
      refine ⟨_, rfl, pp, _, rfl, .inl (SqL.of e11), fun ph nph => ?_⟩
      have s12 : Same H11 (upd H11 ph (.lst (part.map tx))) := same_upd nph
      have eh : upd H11 ph (.lst (part.map tx)) ph = some (.lst (part.map tx)) := upd_same
      generalize upd H11 ph (.lst (part.map tx)) = H12 at s12 eh
      have e12 := s12 _ _ e11
      -- print_events(handed), text; handed != part
      refine ⟨_, rfl, ph, part, rfl, eh, by omega, fun x hx => (hpok x hx).len, fun H13 s13 => ⟨_, rfl, _, _, _, rfl, .str _, .str _, fun H14 s14 => ⟨true, rfl, iF rfl ?_⟩⟩⟩
      have s24 := s13.trans s14
      obtain ⟨sh1, sh2⟩ := es_shaped hpok
      refine ⟨_, rfl, _, rfl, _, _, dp_es (s24 _ _ eh), dp_es (s24 _ _ e12), sh1, sh1, ?_⟩
      rw [sh2]
      refine ⟨_, rfl, iF rfl ?_⟩
      have D14 := D11.same (s12.trans s24)
      have e14 := s24 _ _ e12
      have nppd' : pp ≠ d := nppd
      -- read_events(text), part
      have cp : cd (⟨(prE false part).toArray⟩ : Str) = prE false part := cd_mk _
      obtain ⟨l1, x1, x2⟩ := back _ (wr_print part false hpok)
      have eg : cd ("()" : Str) = [40, 41] := by decide +kernel
      have pl := prE_len part false hpok
      have hpl2 : part.length ≤ 1000000 := by omega
      refine ⟨_, rfl, _, l1, none, rfl, by rw [cp]; omega, by rw [cp]; exact x1, ?_⟩
      rw [x2]
      intro H15 p15 s15 n15 e15
      refine ⟨_, rfl, _, _, _, rfl, da_es (es := part) (n := 6) e15 hpl2, da_es (es := part) (s15 _ _ e14) hpl2, fun H16 s16 => ⟨true, rfl, iF rfl ?_⟩⟩
      have s46' := s15.trans s16
      have D16 := D14.same s46'
      -- read_events(_law_noise(draw, part)), part
      refine ⟨_, rfl, _, rfl, d, sc, pp, part, rfl, D16, s46' _ _ e14, nppd', by omega, hpok, fun H17 t b17 D17 hw hl17 => ?_⟩
      have e17 := b17 _ _ nppd' (s46' _ _ e14)
      obtain ⟨l2, y1, y2⟩ := back _ hw
      refine ⟨t, l2, none, rfl, by omega, y1, ?_⟩
      rw [y2]
      intro H18 p18 s18 n18 e18
      refine ⟨_, rfl, _, _, _, rfl, da_es (es := part) (n := 6) e18 hpl2, da_es (es := part) (s18 _ _ e17) hpl2, fun H19 s19 => ⟨true, rfl, iF rfl ?_⟩⟩
      exact ⟨_, _, _, _, _, _, rfl, D17.same (s18.trans s19)⟩
    · rintro σ H1 ⟨v2, v3, v4, v5, v6, v7, rfl, D1⟩
      exact q _
end
end K41
namespace K41
open PySem PySem.Spec PyProof.Rows L2 SX
theorem all_mk {l : PySem.W.OpenLaw} {w : World} {K : PySem.W.Frag} {h : Heap} {mg : Str → Option Value} {fa : Addr} (X : K.In h) (G : h.Ns mainGlobals mg) (hfa : mg "law" = some (.ref fa))
    {prog : Program} (hprog : prog = l.prog)
    {C_Reader : Addr}
    {f_word_end : Addr} {od_word_end an_word_end : Option Addr} {sl_word_end : Array (Option Value)} {oc_word_end kV_word_end dc_word_end pm_word_end cd_word_end ct_word_end : Value}
    {f_tokens_of : Addr} {od_tokens_of an_tokens_of : Option Addr} {sl_tokens_of : Array (Option Value)} {oc_tokens_of kV_tokens_of dc_tokens_of pm_tokens_of cd_tokens_of ct_tokens_of : Value}
    {f_Reader___init__ : Addr} {od_Reader___init__ an_Reader___init__ : Option Addr} {sl_Reader___init__ : Array (Option Value)} {oc_Reader___init__ kV_Reader___init__ dc_Reader___init__ pm_Reader___init__ cd_Reader___init__ ct_Reader___init__ : Value}
    {f_Reader_step : Addr} {od_Reader_step an_Reader_step : Option Addr} {sl_Reader_step : Array (Option Value)} {oc_Reader_step kV_Reader_step dc_Reader_step pm_Reader_step cd_Reader_step ct_Reader_step : Value}
    {f_Reader_refuse : Addr} {od_Reader_refuse an_Reader_refuse : Option Addr} {sl_Reader_refuse : Array (Option Value)} {oc_Reader_refuse kV_Reader_refuse dc_Reader_refuse pm_Reader_refuse cd_Reader_refuse ct_Reader_refuse : Value}
    {f_Reader_read_name : Addr} {od_Reader_read_name an_Reader_read_name : Option Addr} {sl_Reader_read_name : Array (Option Value)} {oc_Reader_read_name kV_Reader_read_name dc_Reader_read_name pm_Reader_read_name cd_Reader_read_name ct_Reader_read_name : Value}
    {f_Reader_read_sign : Addr} {od_Reader_read_sign an_Reader_read_sign : Option Addr} {sl_Reader_read_sign : Array (Option Value)} {oc_Reader_read_sign kV_Reader_read_sign dc_Reader_read_sign pm_Reader_read_sign cd_Reader_read_sign ct_Reader_read_sign : Value}
    {f_events_of : Addr} {od_events_of an_events_of : Option Addr} {sl_events_of : Array (Option Value)} {oc_events_of kV_events_of dc_events_of pm_events_of cd_events_of ct_events_of : Value}
    {f_document_of : Addr} {od_document_of an_document_of : Option Addr} {sl_document_of : Array (Option Value)} {oc_document_of kV_document_of dc_document_of pm_document_of cd_document_of ct_document_of : Value}
    {f_read_events : Addr} {od_read_events an_read_events : Option Addr} {sl_read_events : Array (Option Value)} {oc_read_events kV_read_events dc_read_events pm_read_events cd_read_events ct_read_events : Value}
    {f_print_events : Addr} {od_print_events an_print_events : Option Addr} {sl_print_events : Array (Option Value)} {oc_print_events kV_print_events dc_print_events pm_print_events cd_print_events ct_print_events : Value}
    {f_law_draw : Addr} {od_law_draw an_law_draw : Option Addr} {sl_law_draw : Array (Option Value)} {oc_law_draw kV_law_draw dc_law_draw pm_law_draw cd_law_draw ct_law_draw : Value}
    {f_law_next : Addr} {od_law_next an_law_next : Option Addr} {sl_law_next : Array (Option Value)} {oc_law_next kV_law_next dc_law_next pm_law_next cd_law_next ct_law_next : Value}
    {f_law_same : Addr} {od_law_same an_law_same : Option Addr} {sl_law_same : Array (Option Value)} {oc_law_same kV_law_same dc_law_same pm_law_same cd_law_same ct_law_same : Value}
    {f_law_element : Addr} {od_law_element an_law_element : Option Addr} {sl_law_element : Array (Option Value)} {oc_law_element kV_law_element dc_law_element pm_law_element cd_law_element ct_law_element : Value}
    {f_law_events : Addr} {od_law_events an_law_events : Option Addr} {sl_law_events : Array (Option Value)} {oc_law_events kV_law_events dc_law_events pm_law_events cd_law_events ct_law_events : Value}
    {f_law_print : Addr} {od_law_print an_law_print : Option Addr} {sl_law_print : Array (Option Value)} {oc_law_print kV_law_print dc_law_print pm_law_print cd_law_print ct_law_print : Value}
    {f_law_noise : Addr} {od_law_noise an_law_noise : Option Addr} {sl_law_noise : Array (Option Value)} {oc_law_noise kV_law_noise dc_law_noise pm_law_noise cd_law_noise ct_law_noise : Value}
    {f_law : Addr} {od_law an_law : Option Addr} {sl_law : Array (Option Value)} {oc_law kV_law dc_law pm_law cd_law ct_law : Value}
    {t_LETTERS : Tok}
    {t_LONGEST_NAME : Tok}
    {C_te f_te : Addr} {nm_te q_te : Str} {N_te : Addr} {bs_te bm_te : List Value} {sn_te : List Str} {sub_te : List Value} {ab_te : Bool} {col_te : Option Bool} {dd_te : Option Addr} {k0_te k1_te k2_te k3_te k5_te : Option Value}
    {oc_te : Value} {od_te : Option Addr} {kV_te doc_te pm_te : Value} {an_te : Option Addr} {cda_te : Addr} {ct_te : Value} {cc_te : Addr} {osl_te : Array (Option Value)} {ccl_te : Value} {cdd_te : Option Addr} {vs_te : Array Value} {ccs_te : Array (Option Value)} {file_te : Str} {tf_te : Tok} {cl_te : Value} {cld_te : Option Addr} {csl_te : Array (Option Value)}
    (g_Reader : PySem.W.nsIn K mainGlobals "Reader" = some (some (.ref C_Reader)))
    (p1_Reader : PySem.W.plainGet K C_Reader Str.empty = true)
    (p2_Reader : PySem.W.hasDictIn K C_Reader = true)
    (p3_Reader : PySem.W.plainOver K C_Reader = true)
    (p4_Reader : PySem.W.findIn K (.ref C_Reader) "__setattr__" = some (some (.builtin "object.__setattr__")))
    (p5_Reader : PySem.W.makesIn K C_Reader = true)
    (p6_Reader : PySem.W.keepIn K (.ref C_Reader) = true)
    (n_Reader_tokens : PySem.W.findIn K (.ref C_Reader) "tokens" = some none)
    (n_Reader_at : PySem.W.findIn K (.ref C_Reader) "at" = some none)
    (n_Reader_token : PySem.W.findIn K (.ref C_Reader) "token" = some none)
    (n_Reader_place : PySem.W.findIn K (.ref C_Reader) "place" = some none)
    (a_word_end : PySem.W.nsIn K mainGlobals "word_end" = some (some (.ref f_word_end)))
    (l_word_end : K.lookup f_word_end = some ⟨oc_word_end, od_word_end, .func (PySem.W.fnOf "word_end" "word_end" (defArgs s_word_end) (defBody s_word_end) (defScope s_word_end) .none kV_word_end dc_word_end pm_word_end an_word_end cd_word_end ct_word_end), sl_word_end⟩)
    (c_word_end : PySem.W.codeIn K cd_word_end "word_end" = true)
    (k_word_end : PySem.W.keepIn K (.ref f_word_end) = true)
    (a_tokens_of : PySem.W.nsIn K mainGlobals "tokens_of" = some (some (.ref f_tokens_of)))
    (l_tokens_of : K.lookup f_tokens_of = some ⟨oc_tokens_of, od_tokens_of, .func (PySem.W.fnOf "tokens_of" "tokens_of" (defArgs s_tokens_of) (defBody s_tokens_of) (defScope s_tokens_of) .none kV_tokens_of dc_tokens_of pm_tokens_of an_tokens_of cd_tokens_of ct_tokens_of), sl_tokens_of⟩)
    (c_tokens_of : PySem.W.codeIn K cd_tokens_of "tokens_of" = true)
    (k_tokens_of : PySem.W.keepIn K (.ref f_tokens_of) = true)
    (a_Reader___init__ : PySem.W.findIn K (.ref C_Reader) "__init__" = some (some (.ref f_Reader___init__)))
    (fn_Reader___init__ : PySem.W.isFn K (.ref f_Reader___init__) = true)
    (l_Reader___init__ : K.lookup f_Reader___init__ = some ⟨oc_Reader___init__, od_Reader___init__, .func (PySem.W.fnOf "__init__" "Reader.__init__" (defArgs s_Reader___init__) (defBody s_Reader___init__) (defScope s_Reader___init__) .none kV_Reader___init__ dc_Reader___init__ pm_Reader___init__ an_Reader___init__ cd_Reader___init__ ct_Reader___init__), sl_Reader___init__⟩)
    (c_Reader___init__ : PySem.W.codeIn K cd_Reader___init__ "Reader.__init__" = true)
    (k_Reader___init__ : PySem.W.keepIn K (.ref f_Reader___init__) = true)
    (a_Reader_step : PySem.W.findIn K (.ref C_Reader) "step" = some (some (.ref f_Reader_step)))
    (fn_Reader_step : PySem.W.isFn K (.ref f_Reader_step) = true)
    (l_Reader_step : K.lookup f_Reader_step = some ⟨oc_Reader_step, od_Reader_step, .func (PySem.W.fnOf "step" "Reader.step" (defArgs s_Reader_step) (defBody s_Reader_step) (defScope s_Reader_step) .none kV_Reader_step dc_Reader_step pm_Reader_step an_Reader_step cd_Reader_step ct_Reader_step), sl_Reader_step⟩)
    (c_Reader_step : PySem.W.codeIn K cd_Reader_step "Reader.step" = true)
    (k_Reader_step : PySem.W.keepIn K (.ref f_Reader_step) = true)
    (a_Reader_refuse : PySem.W.findIn K (.ref C_Reader) "refuse" = some (some (.ref f_Reader_refuse)))
    (fn_Reader_refuse : PySem.W.isFn K (.ref f_Reader_refuse) = true)
    (l_Reader_refuse : K.lookup f_Reader_refuse = some ⟨oc_Reader_refuse, od_Reader_refuse, .func (PySem.W.fnOf "refuse" "Reader.refuse" (defArgs s_Reader_refuse) (defBody s_Reader_refuse) (defScope s_Reader_refuse) .none kV_Reader_refuse dc_Reader_refuse pm_Reader_refuse an_Reader_refuse cd_Reader_refuse ct_Reader_refuse), sl_Reader_refuse⟩)
    (c_Reader_refuse : PySem.W.codeIn K cd_Reader_refuse "Reader.refuse" = true)
    (k_Reader_refuse : PySem.W.keepIn K (.ref f_Reader_refuse) = true)
    (a_Reader_read_name : PySem.W.findIn K (.ref C_Reader) "read_name" = some (some (.ref f_Reader_read_name)))
    (fn_Reader_read_name : PySem.W.isFn K (.ref f_Reader_read_name) = true)
    (l_Reader_read_name : K.lookup f_Reader_read_name = some ⟨oc_Reader_read_name, od_Reader_read_name, .func (PySem.W.fnOf "read_name" "Reader.read_name" (defArgs s_Reader_read_name) (defBody s_Reader_read_name) (defScope s_Reader_read_name) .none kV_Reader_read_name dc_Reader_read_name pm_Reader_read_name an_Reader_read_name cd_Reader_read_name ct_Reader_read_name), sl_Reader_read_name⟩)
    (c_Reader_read_name : PySem.W.codeIn K cd_Reader_read_name "Reader.read_name" = true)
    (k_Reader_read_name : PySem.W.keepIn K (.ref f_Reader_read_name) = true)
    (a_Reader_read_sign : PySem.W.findIn K (.ref C_Reader) "read_sign" = some (some (.ref f_Reader_read_sign)))
    (fn_Reader_read_sign : PySem.W.isFn K (.ref f_Reader_read_sign) = true)
    (l_Reader_read_sign : K.lookup f_Reader_read_sign = some ⟨oc_Reader_read_sign, od_Reader_read_sign, .func (PySem.W.fnOf "read_sign" "Reader.read_sign" (defArgs s_Reader_read_sign) (defBody s_Reader_read_sign) (defScope s_Reader_read_sign) .none kV_Reader_read_sign dc_Reader_read_sign pm_Reader_read_sign an_Reader_read_sign cd_Reader_read_sign ct_Reader_read_sign), sl_Reader_read_sign⟩)
    (c_Reader_read_sign : PySem.W.codeIn K cd_Reader_read_sign "Reader.read_sign" = true)
    (k_Reader_read_sign : PySem.W.keepIn K (.ref f_Reader_read_sign) = true)
    (a_events_of : PySem.W.nsIn K mainGlobals "events_of" = some (some (.ref f_events_of)))
    (l_events_of : K.lookup f_events_of = some ⟨oc_events_of, od_events_of, .func (PySem.W.fnOf "events_of" "events_of" (defArgs s_events_of) (defBody s_events_of) (defScope s_events_of) .none kV_events_of dc_events_of pm_events_of an_events_of cd_events_of ct_events_of), sl_events_of⟩)
    (c_events_of : PySem.W.codeIn K cd_events_of "events_of" = true)
    (k_events_of : PySem.W.keepIn K (.ref f_events_of) = true)
    (a_document_of : PySem.W.nsIn K mainGlobals "document_of" = some (some (.ref f_document_of)))
    (l_document_of : K.lookup f_document_of = some ⟨oc_document_of, od_document_of, .func (PySem.W.fnOf "document_of" "document_of" (defArgs s_document_of) (defBody s_document_of) (defScope s_document_of) .none kV_document_of dc_document_of pm_document_of an_document_of cd_document_of ct_document_of), sl_document_of⟩)
    (c_document_of : PySem.W.codeIn K cd_document_of "document_of" = true)
    (k_document_of : PySem.W.keepIn K (.ref f_document_of) = true)
    (a_read_events : PySem.W.nsIn K mainGlobals "read_events" = some (some (.ref f_read_events)))
    (l_read_events : K.lookup f_read_events = some ⟨oc_read_events, od_read_events, .func (PySem.W.fnOf "read_events" "read_events" (defArgs s_read_events) (defBody s_read_events) (defScope s_read_events) .none kV_read_events dc_read_events pm_read_events an_read_events cd_read_events ct_read_events), sl_read_events⟩)
    (c_read_events : PySem.W.codeIn K cd_read_events "read_events" = true)
    (k_read_events : PySem.W.keepIn K (.ref f_read_events) = true)
    (a_print_events : PySem.W.nsIn K mainGlobals "print_events" = some (some (.ref f_print_events)))
    (l_print_events : K.lookup f_print_events = some ⟨oc_print_events, od_print_events, .func (PySem.W.fnOf "print_events" "print_events" (defArgs s_print_events) (defBody s_print_events) (defScope s_print_events) .none kV_print_events dc_print_events pm_print_events an_print_events cd_print_events ct_print_events), sl_print_events⟩)
    (c_print_events : PySem.W.codeIn K cd_print_events "print_events" = true)
    (k_print_events : PySem.W.keepIn K (.ref f_print_events) = true)
    (a_law_draw : PySem.W.nsIn K mainGlobals "_law_draw" = some (some (.ref f_law_draw)))
    (l_law_draw : K.lookup f_law_draw = some ⟨oc_law_draw, od_law_draw, .func (PySem.W.fnOf "_law_draw" "_law_draw" (defArgs s_law_draw) (defBody s_law_draw) (defScope s_law_draw) .none kV_law_draw dc_law_draw pm_law_draw an_law_draw cd_law_draw ct_law_draw), sl_law_draw⟩)
    (c_law_draw : PySem.W.codeIn K cd_law_draw "_law_draw" = true)
    (k_law_draw : PySem.W.keepIn K (.ref f_law_draw) = true)
    (a_law_next : PySem.W.nsIn K mainGlobals "_law_next" = some (some (.ref f_law_next)))
    (l_law_next : K.lookup f_law_next = some ⟨oc_law_next, od_law_next, .func (PySem.W.fnOf "_law_next" "_law_next" (defArgs s_law_next) (defBody s_law_next) (defScope s_law_next) .none kV_law_next dc_law_next pm_law_next an_law_next cd_law_next ct_law_next), sl_law_next⟩)
    (c_law_next : PySem.W.codeIn K cd_law_next "_law_next" = true)
    (k_law_next : PySem.W.keepIn K (.ref f_law_next) = true)
    (a_law_same : PySem.W.nsIn K mainGlobals "_law_same" = some (some (.ref f_law_same)))
    (l_law_same : K.lookup f_law_same = some ⟨oc_law_same, od_law_same, .func (PySem.W.fnOf "_law_same" "_law_same" (defArgs s_law_same) (defBody s_law_same) (defScope s_law_same) .none kV_law_same dc_law_same pm_law_same an_law_same cd_law_same ct_law_same), sl_law_same⟩)
    (c_law_same : PySem.W.codeIn K cd_law_same "_law_same" = true)
    (k_law_same : PySem.W.keepIn K (.ref f_law_same) = true)
    (a_law_element : PySem.W.nsIn K mainGlobals "_law_element" = some (some (.ref f_law_element)))
    (l_law_element : K.lookup f_law_element = some ⟨oc_law_element, od_law_element, .func (PySem.W.fnOf "_law_element" "_law_element" (defArgs s_law_element) (defBody s_law_element) (defScope s_law_element) .none kV_law_element dc_law_element pm_law_element an_law_element cd_law_element ct_law_element), sl_law_element⟩)
    (c_law_element : PySem.W.codeIn K cd_law_element "_law_element" = true)
    (k_law_element : PySem.W.keepIn K (.ref f_law_element) = true)
    (a_law_events : PySem.W.nsIn K mainGlobals "_law_events" = some (some (.ref f_law_events)))
    (l_law_events : K.lookup f_law_events = some ⟨oc_law_events, od_law_events, .func (PySem.W.fnOf "_law_events" "_law_events" (defArgs s_law_events) (defBody s_law_events) (defScope s_law_events) .none kV_law_events dc_law_events pm_law_events an_law_events cd_law_events ct_law_events), sl_law_events⟩)
    (c_law_events : PySem.W.codeIn K cd_law_events "_law_events" = true)
    (k_law_events : PySem.W.keepIn K (.ref f_law_events) = true)
    (a_law_print : PySem.W.nsIn K mainGlobals "_law_print" = some (some (.ref f_law_print)))
    (l_law_print : K.lookup f_law_print = some ⟨oc_law_print, od_law_print, .func (PySem.W.fnOf "_law_print" "_law_print" (defArgs s_law_print) (defBody s_law_print) (defScope s_law_print) .none kV_law_print dc_law_print pm_law_print an_law_print cd_law_print ct_law_print), sl_law_print⟩)
    (c_law_print : PySem.W.codeIn K cd_law_print "_law_print" = true)
    (k_law_print : PySem.W.keepIn K (.ref f_law_print) = true)
    (a_law_noise : PySem.W.nsIn K mainGlobals "_law_noise" = some (some (.ref f_law_noise)))
    (l_law_noise : K.lookup f_law_noise = some ⟨oc_law_noise, od_law_noise, .func (PySem.W.fnOf "_law_noise" "_law_noise" (defArgs s_law_noise) (defBody s_law_noise) (defScope s_law_noise) .none kV_law_noise dc_law_noise pm_law_noise an_law_noise cd_law_noise ct_law_noise), sl_law_noise⟩)
    (c_law_noise : PySem.W.codeIn K cd_law_noise "_law_noise" = true)
    (k_law_noise : PySem.W.keepIn K (.ref f_law_noise) = true)
    (a_law : PySem.W.nsIn K mainGlobals "law" = some (some (.ref f_law)))
    (l_law : K.lookup f_law = some ⟨oc_law, od_law, .func (PySem.W.fnOf "law" "law" (defArgs s_law) (defBody s_law) (defScope s_law) .none kV_law dc_law pm_law an_law cd_law ct_law), sl_law⟩)
    (c_law : PySem.W.codeIn K cd_law "law" = true)
    (k_law : PySem.W.keepIn K (.ref f_law) = true)
    (g_LETTERS : PySem.W.nsIn K mainGlobals "LETTERS" = some (some (.str "abcdefghijklmnopqrstuvwxyz" t_LETTERS)))
    (g_LONGEST_NAME : PySem.W.nsIn K mainGlobals "LONGEST_NAME" = some (some (.int 8 t_LONGEST_NAME)))
    (n_len : PySem.W.nsIn K mainGlobals "len" = some none)
    (n_tuple : PySem.W.nsIn K mainGlobals "tuple" = some none)
    (n_list : PySem.W.nsIn K mainGlobals "list" = some none)
    (n_abs : PySem.W.nsIn K mainGlobals "abs" = some none)
    (n_int : PySem.W.nsIn K mainGlobals "int" = some none)
    (n_isinstance : PySem.W.nsIn K mainGlobals "isinstance" = some none)
    (n_str : PySem.W.nsIn K mainGlobals "str" = some none)
    (n_all : PySem.W.nsIn K mainGlobals "all" = some none)
    (n_bool : PySem.W.nsIn K mainGlobals "bool" = some none)
    (n_range : PySem.W.nsIn K mainGlobals "range" = some none)
    (te_g : PySem.W.nsIn K mainGlobals "TextError" = some (some (.ref C_te)))
    (te_cls : K.lookup C_te = some (excClassObj nm_te q_te C_te N_te bs_te bm_te true sn_te sub_te ab_te col_te dd_te k0_te k1_te k2_te k3_te k5_te "ValueError.__new__"))
    (te_bm : PySem.HandSPX.refsVE bm_te = true)
    (te_sup : PySem.W.ks_superIn K C_te C_te "__init__" = some (some (.builtin "ValueError.__init__")))
    (te_ini : PySem.W.excInitIn K C_te [.type "ValueError", .type "Exception", .type "BaseException", .type "object"] "ValueError.__new__" = true)
    (te_subV : PySem.W.subIn K (.ref C_te) (.type "ValueError") = some true)
    (te_opq : PySem.W.nsIn K cStatics "thirdparty.any" = some none)
    (te_noS : PySem.W.nsIn K mainGlobals "super" = some none)
    (te_top : (prog.main.scope.names.lookup ("super" : Str)).isSome = false)
    (te_sa : PySem.W.findIn K (.ref C_te) "__setattr__" = some (some (.builtin "object.__setattr__")))
    (te_noP : PySem.W.findIn K (.ref C_te) "place" = some none)
    (te_noM : PySem.W.findIn K (.ref C_te) "message" = some none)
    (te_iC : PySem.W.findIn K (.ref C_te) "__init__" = some (some (.ref f_te)))
    (te_tI : PySem.W.typeIn K (.ref f_te) = some (.type "function"))
    (te_kC : PySem.W.keepIn K (.ref C_te) = true)
    (te_exC : PySem.W.subIn K (.ref C_te) (.type "BaseException") = some true)
    (te_tyC : PySem.W.typeIn K (.ref C_te) = some (.type "type"))
    (te_l : K.lookup f_te = some ⟨oc_te, od_te, .func (PySem.W.ksFn "__init__" "TextError.__init__" TE.iArgs TE.iBody TE.iScope .none kV_te doc_te pm_te an_te (.ref cda_te) ct_te cc_te), osl_te⟩)
    (te_c : PySem.W.codeIn K (.ref cda_te) "TextError.__init__" = true)
    (te_cd : K.lookup cda_te = some ⟨ccl_te, cdd_te, .fields vs_te, ccs_te⟩)
    (te_vs : vs_te[2]? = some (.str file_te tf_te))
    (te_file : ((prog.main.file : Str) == file_te) = true)
    (te_cell : K.lookup cc_te = some ⟨cl_te, cld_te, .cell (some (.ref C_te)), csl_te⟩) :
    ∃ fd : FuncData, (∀ (s : Shared) (v : Value), BindsTo s fd ⟨[v], []⟩ [("script", v)]) ∧ ∀ base : Heap, K.In base → base.Ns mainGlobals mg → FnOk l.prog w K mg base CX0 10 fa fd ["script"] (spLaw K) := by
  have e := hfa.symm.trans (PySem.W.mg_of X G a_law)
  cases e
  subst hprog
  let T : Txt l.prog K mg := {
    a_word_end := f_word_end, fd_word_end := _, F_word_end := fun_mk (st := s_word_end) l_word_end c_word_end k_word_end, g_word_end := PySem.W.mg_of X G a_word_end,
    a_tokens_of := f_tokens_of, fd_tokens_of := _, F_tokens_of := fun_mk (st := s_tokens_of) l_tokens_of c_tokens_of k_tokens_of, g_tokens_of := PySem.W.mg_of X G a_tokens_of,
    a_Reader___init__ := f_Reader___init__, fd_Reader___init__ := _, F_Reader___init__ := fun_mk (st := s_Reader___init__) l_Reader___init__ c_Reader___init__ k_Reader___init__,
    a_Reader_step := f_Reader_step, fd_Reader_step := _, F_Reader_step := fun_mk (st := s_Reader_step) l_Reader_step c_Reader_step k_Reader_step,
    a_Reader_refuse := f_Reader_refuse, fd_Reader_refuse := _, F_Reader_refuse := fun_mk (st := s_Reader_refuse) l_Reader_refuse c_Reader_refuse k_Reader_refuse,
    a_Reader_read_name := f_Reader_read_name, fd_Reader_read_name := _, F_Reader_read_name := fun_mk (st := s_Reader_read_name) l_Reader_read_name c_Reader_read_name k_Reader_read_name,
    a_Reader_read_sign := f_Reader_read_sign, fd_Reader_read_sign := _, F_Reader_read_sign := fun_mk (st := s_Reader_read_sign) l_Reader_read_sign c_Reader_read_sign k_Reader_read_sign,
    a_events_of := f_events_of, fd_events_of := _, F_events_of := fun_mk (st := s_events_of) l_events_of c_events_of k_events_of, g_events_of := PySem.W.mg_of X G a_events_of,
    a_document_of := f_document_of, fd_document_of := _, F_document_of := fun_mk (st := s_document_of) l_document_of c_document_of k_document_of, g_document_of := PySem.W.mg_of X G a_document_of,
    a_read_events := f_read_events, fd_read_events := _, F_read_events := fun_mk (st := s_read_events) l_read_events c_read_events k_read_events, g_read_events := PySem.W.mg_of X G a_read_events,
    a_print_events := f_print_events, fd_print_events := _, F_print_events := fun_mk (st := s_print_events) l_print_events c_print_events k_print_events, g_print_events := PySem.W.mg_of X G a_print_events,
    a_law_draw := f_law_draw, fd_law_draw := _, F_law_draw := fun_mk (st := s_law_draw) l_law_draw c_law_draw k_law_draw, g_law_draw := PySem.W.mg_of X G a_law_draw,
    a_law_next := f_law_next, fd_law_next := _, F_law_next := fun_mk (st := s_law_next) l_law_next c_law_next k_law_next, g_law_next := PySem.W.mg_of X G a_law_next,
    a_law_same := f_law_same, fd_law_same := _, F_law_same := fun_mk (st := s_law_same) l_law_same c_law_same k_law_same, g_law_same := PySem.W.mg_of X G a_law_same,
    a_law_element := f_law_element, fd_law_element := _, F_law_element := fun_mk (st := s_law_element) l_law_element c_law_element k_law_element, g_law_element := PySem.W.mg_of X G a_law_element,
    a_law_events := f_law_events, fd_law_events := _, F_law_events := fun_mk (st := s_law_events) l_law_events c_law_events k_law_events, g_law_events := PySem.W.mg_of X G a_law_events,
    a_law_print := f_law_print, fd_law_print := _, F_law_print := fun_mk (st := s_law_print) l_law_print c_law_print k_law_print, g_law_print := PySem.W.mg_of X G a_law_print,
    a_law_noise := f_law_noise, fd_law_noise := _, F_law_noise := fun_mk (st := s_law_noise) l_law_noise c_law_noise k_law_noise, g_law_noise := PySem.W.mg_of X G a_law_noise,
    a_law := fa, fd_law := _, F_law := fun_mk (st := s_law) l_law c_law k_law, g_law := PySem.W.mg_of X G a_law,
    C_Reader := C_Reader, cl_Reader := ⟨p1_Reader, p2_Reader, p3_Reader, p4_Reader⟩, g_Reader := PySem.W.mg_of X G g_Reader, M_Reader := ⟨p5_Reader, a_Reader___init__, fn_Reader___init__, p6_Reader⟩,
    m_Reader_step := ⟨a_Reader_step, fn_Reader_step, k_Reader_step⟩,
    m_Reader_refuse := ⟨a_Reader_refuse, fn_Reader_refuse, k_Reader_refuse⟩,
    m_Reader_read_name := ⟨a_Reader_read_name, fn_Reader_read_name, k_Reader_read_name⟩,
    m_Reader_read_sign := ⟨a_Reader_read_sign, fn_Reader_read_sign, k_Reader_read_sign⟩,
    n_Reader_tokens := n_Reader_tokens, n_Reader_at := n_Reader_at, n_Reader_token := n_Reader_token, n_Reader_place := n_Reader_place,
    t_LETTERS := t_LETTERS, g_LETTERS := PySem.W.mg_of X G g_LETTERS,
    t_LONGEST_NAME := t_LONGEST_NAME, g_LONGEST_NAME := PySem.W.mg_of X G g_LONGEST_NAME,
    n_len := PySem.W.mg_none_of X G n_len, n_tuple := PySem.W.mg_none_of X G n_tuple, n_list := PySem.W.mg_none_of X G n_list, n_abs := PySem.W.mg_none_of X G n_abs, n_int := PySem.W.mg_none_of X G n_int, n_isinstance := PySem.W.mg_none_of X G n_isinstance, n_str := PySem.W.mg_none_of X G n_str, n_all := PySem.W.mg_none_of X G n_all, n_bool := PySem.W.mg_none_of X G n_bool, n_range := PySem.W.mg_none_of X G n_range,
    C_te := C_te, f_te := f_te,
    te := { gC := PySem.W.mg_of X G te_g, cls := ⟨_, _, _, _, _, _, _, _, _, _, _, _, _, _, _, te_cls, te_bm⟩, sup := te_sup, ini := te_ini, subV := te_subV, opq := te_opq, noS := te_noS, topS := te_top, sa := te_sa, noP := te_noP, noM := te_noM, iC := te_iC, tI := te_tI, kC := te_kC, exC := te_exC, tyC := te_tyC, fn := ⟨_, _, _, _, _, _, _, _, _, _, _, _, _, _, _, _, _, _, _, te_l, te_c, te_cd, te_vs, te_file, te_cell⟩ } }
  exact ⟨_, fun s v => .of_eq rfl, fun base _ _ => ok_law T⟩
end K41
open PySem PySem.W PyProof.Rows
set_option maxHeartbeats 0 in
theorem PySem.Challenge.cw_soonsettled_k41_documents_and_events_holds : PySem.Challenge.rw_soonsettled_k41_documents_and_events.Holds := by
  w_on; o_law; k_head; (case hw => w_witness2)
  k_fill
  refine L2.walk_of (l := PySem.Challenge.rw_soonsettled_k41_documents_and_events) (n := 63) (k := 10) (x := "script") (CX := fun _ => L2.CX0) (sp := fun w => K41.spLaw _) rfl (by decide) rfl ⟨rfl, by decide, by decide⟩ (fun w h Y => PySem.W.kIn_of Y) ?F (fun _ _ a ns hl _ hS => K41.law_in hS hl) (fun _ _ _ _ _ z => z)
  case F =>
    intro w mg fa h KX G hmg
    refine' K41.all_mk (prog := PySem.Challenge.rw_soonsettled_k41_documents_and_events.prog) KX G hmg rfl ?g_Reader ?p1_Reader ?p2_Reader ?p3_Reader ?p4_Reader ?p5_Reader ?p6_Reader ?n_Reader_tokens ?n_Reader_at ?n_Reader_token ?n_Reader_place ?a_word_end ?l_word_end ?c_word_end ?k_word_end ?a_tokens_of ?l_tokens_of ?c_tokens_of ?k_tokens_of ?a_Reader___init__ ?fn_Reader___init__ ?l_Reader___init__ ?c_Reader___init__ ?k_Reader___init__ ?a_Reader_step ?fn_Reader_step ?l_Reader_step ?c_Reader_step ?k_Reader_step ?a_Reader_refuse ?fn_Reader_refuse ?l_Reader_refuse ?c_Reader_refuse ?k_Reader_refuse ?a_Reader_read_name ?fn_Reader_read_name ?l_Reader_read_name ?c_Reader_read_name ?k_Reader_read_name ?a_Reader_read_sign ?fn_Reader_read_sign ?l_Reader_read_sign ?c_Reader_read_sign ?k_Reader_read_sign ?a_events_of ?l_events_of ?c_events_of ?k_events_of ?a_document_of ?l_document_of ?c_document_of ?k_document_of ?a_read_events ?l_read_events ?c_read_events ?k_read_events ?a_print_events ?l_print_events ?c_print_events ?k_print_events ?a_law_draw ?l_law_draw ?c_law_draw ?k_law_draw ?a_law_next ?l_law_next ?c_law_next ?k_law_next ?a_law_same ?l_law_same ?c_law_same ?k_law_same ?a_law_element ?l_law_element ?c_law_element ?k_law_element ?a_law_events ?l_law_events ?c_law_events ?k_law_events ?a_law_print ?l_law_print ?c_law_print ?k_law_print ?a_law_noise ?l_law_noise ?c_law_noise ?k_law_noise ?a_law ?l_law ?c_law ?k_law ?g_LETTERS ?g_LONGEST_NAME ?n_len ?n_tuple ?n_list ?n_abs ?n_int ?n_isinstance ?n_str ?n_all ?n_bool ?n_range ?te_g ?te_cls ?te_bm ?te_sup ?te_ini ?te_subV ?te_opq ?te_noS ?te_top ?te_sa ?te_noP ?te_noM ?te_iC ?te_tI ?te_kC ?te_exC ?te_tyC ?te_l ?te_c ?te_cd ?te_vs ?te_file ?te_cell
    (case g_Reader => k_is); (case p1_Reader => k_is); (case p2_Reader => k_is); (case p3_Reader => k_is); (case p4_Reader => k_is); (case p5_Reader => k_is); (case p6_Reader => k_is); (case n_Reader_tokens => k_is); (case n_Reader_at => k_is); (case n_Reader_token => k_is); (case n_Reader_place => k_is); (case a_word_end => k_is); (case l_word_end => k_is); (case c_word_end => k_is); (case k_word_end => k_is); (case a_tokens_of => k_is); (case l_tokens_of => k_is); (case c_tokens_of => k_is); (case k_tokens_of => k_is); (case a_Reader___init__ => k_is); (case fn_Reader___init__ => k_is); (case l_Reader___init__ => k_is); (case c_Reader___init__ => k_is); (case k_Reader___init__ => k_is); (case a_Reader_step => k_is); (case fn_Reader_step => k_is); (case l_Reader_step => k_is); (case c_Reader_step => k_is); (case k_Reader_step => k_is); (case a_Reader_refuse => k_is); (case fn_Reader_refuse => k_is); (case l_Reader_refuse => k_is); (case c_Reader_refuse => k_is); (case k_Reader_refuse => k_is); (case a_Reader_read_name => k_is); (case fn_Reader_read_name => k_is); (case l_Reader_read_name => k_is); (case c_Reader_read_name => k_is); (case k_Reader_read_name => k_is); (case a_Reader_read_sign => k_is); (case fn_Reader_read_sign => k_is); (case l_Reader_read_sign => k_is); (case c_Reader_read_sign => k_is); (case k_Reader_read_sign => k_is); (case a_events_of => k_is); (case l_events_of => k_is); (case c_events_of => k_is); (case k_events_of => k_is); (case a_document_of => k_is); (case l_document_of => k_is); (case c_document_of => k_is); (case k_document_of => k_is); (case a_read_events => k_is); (case l_read_events => k_is); (case c_read_events => k_is); (case k_read_events => k_is); (case a_print_events => k_is); (case l_print_events => k_is); (case c_print_events => k_is); (case k_print_events => k_is); (case a_law_draw => k_is); (case l_law_draw => k_is); (case c_law_draw => k_is); (case k_law_draw => k_is); (case a_law_next => k_is); (case l_law_next => k_is); (case c_law_next => k_is); (case k_law_next => k_is); (case a_law_same => k_is); (case l_law_same => k_is); (case c_law_same => k_is); (case k_law_same => k_is); (case a_law_element => k_is); (case l_law_element => k_is); (case c_law_element => k_is); (case k_law_element => k_is); (case a_law_events => k_is); (case l_law_events => k_is); (case c_law_events => k_is); (case k_law_events => k_is); (case a_law_print => k_is); (case l_law_print => k_is); (case c_law_print => k_is); (case k_law_print => k_is); (case a_law_noise => k_is); (case l_law_noise => k_is); (case c_law_noise => k_is); (case k_law_noise => k_is); (case a_law => k_is); (case l_law => k_is); (case c_law => k_is); (case k_law => k_is); (case g_LETTERS => k_is); (case g_LONGEST_NAME => k_is); (case n_len => k_is); (case n_tuple => k_is); (case n_list => k_is); (case n_abs => k_is); (case n_int => k_is); (case n_isinstance => k_is); (case n_str => k_is); (case n_all => k_is); (case n_bool => k_is); (case n_range => k_is); (case te_g => k_is); (case te_cls => k_is); (case te_bm => decide +kernel); (case te_sup => kernel_rfl); (case te_ini => kernel_rfl); (case te_subV => k_is); (case te_opq => k_is); (case te_noS => k_is); (case te_top => kernel_rfl); (case te_sa => k_is); (case te_noP => k_is); (case te_noM => k_is); (case te_iC => k_is); (case te_tI => k_is); (case te_kC => k_is); (case te_exC => k_is); (case te_tyC => k_is); (case te_l => k_is); (case te_c => k_is); (case te_cd => k_is); (case te_vs => first | rfl | kernel_rfl); (case te_file => first | rfl | decide +kernel); (case te_cell => k_is)
